import PyProof.Rows.All
import Wide.All
import OpenK.AllK
import Wide.FinOn
import HandS.ForMost
import HandS.Flow
import HandS.IsInst
import HandS.Deep
import HandS.TupAny
import HandS.TupMul
import HandS.Zip
import HandS.Wide
import HandS.ForExc
import HandS.ExcInit
import HandS.ExcIs
import HandS.ExcField
import KE.KExcInit
import HandS.Dict
import KE.KeyNested
import HandS.Defaults
import HandS.Property
import OpenK.KMeth
import OpenK.KOps
import PyProof.InstNe
import HandS.OwnEq
import HandS.Iter
import KE.SortData
import HandS.SetFor
import HandS.Strs
import HandS.SortInts
import HandS.Sort
import KE.GoesMore
import HandS.Words
import HandS.WordsExc
import HandS.Style
import HandS.MakeKwOnly
import HandS.StrMore
import PyProof.StrOps2
import HandS.TryOnly
import HandS.DictComp
import HandS.Text
import HandS.DictTup
import HandS.WordsDict
import HandS.Conv
import HandS.More
import KE.KDictPairs
import HandS.TupSets
import HandS.SetBool
import HandS.SortKw
import KE.DataMinMax
import HandS.ExcOwn
import KE.KDictZip
import KE.KItemsList
import KE.KDictCopyH
import PyProof.SumAny
import HandS.MapSum
import HandS.Star
import HandS.Call
import PySem.Challenge.RW_lateshown_k65_wishes_or_none_kept_or_not
set_option Elab.async false
set_option linter.all false
set_option maxRecDepth 100000
set_option maxHeartbeats 8000000
namespace Dv
open PySem PySem.Spec PyProof.Rows L2
section
variable {X : Cx} {pins : List (Addr × Obj)} {σ : L2.St} {H : Hp} {s : Shared} {Q : VK}
/-- what a new tuple is asked for -/
def Tp (H : Hp) (xs : List V) (Q : VK) : Prop := ∀ (p : Addr) (o : Obj), H p = none → o.dict = none → Q (.ref p) (upd H p (.frz o (.tup xs)))
theorem tup_laid {its : List Value} {xs : List V} (I : Inv X pins σ H s) (r : Vals xs its) (z : xs.length ≤ sizeLine) (q : Tp H xs Q) : EP X pins σ Q (.ref s.heap.objs.size) { s with heap := s.heap.push { cls := .type "tuple", data := .seq its.toArray } } := by
  have hf : H s.heap.objs.size = none := I.hok.fresh (Nat.le_refl _)
  have new : ObjOk X.prog X.w (upd H s.heap.objs.size (.frz { cls := .type "tuple", data := .seq its.toArray } (.tup xs))) (s.heap.push { cls := .type "tuple", data := .seq its.toArray }) s.heap.objs.size (.frz { cls := .type "tuple", data := .seq its.toArray } (.tup xs)) :=
    ⟨Heap.get?_push_size _ rfl, z, its, r, IsTup.new _ _⟩
  exact ⟨.ref s.heap.objs.size, _, I.laid (t' := s.toks) (fun b u e => Heap.get?_push_of_some _ e) (Nat.le_refl _) new, rfl, q _ _ hf rfl⟩
end
section
variable {X : Cx} {es : List Expr} {t : TA} {pos : Pos}
def tTupF (t : TA) : TE := fun σ H Q => t σ H fun xs H1 => xs.length ≤ sizeLine ∧ Tp H1 xs Q
theorem pe_tupF {x1} (h : PA X es t) : PE X (.Tuple es x1 pos) (tTupF t) :=
  ⟨fun pins s σ H Q I hq => wpAny_Tuple_spliced (thn (h.run pos pins s σ H _ I hq) fun us s1 ⟨xs, H1, I1, r, z, q⟩ => ⟨by rw [← r.length]; exact z, tup_laid I1 r z q⟩)⟩
theorem call_tupF : CallR X (.type "tuple") (fun xs H Q => ∃ p ys, xs = [.ref p] ∧ ((SqL X.K H p ys ∧ Tp H ys Q) ∨ (SqT X.K H p ys ∧ Q (.ref p) H))) := by
  intro pins s σ H xs us Q I r h
  obtain ⟨p, ys, rfl, h⟩ := h
  obtain ⟨u, rfl, rx⟩ := vals1 r
  cases rx
  rcases h with ⟨hq, q⟩ | ⟨hq, q⟩
  · obtain ⟨its, rv, pl, hz⟩ := I.list hq
    have e := rv.length
    refine call_tuple_list pl.isList (fun h' kp => ?_) (by rw [List.size_toArray]; omega)
    have I1 : Inv X pins σ H { s with heap := h' } := I.kept (t' := s.toks) kp
    exact tup_laid I1 rv hz q
  · obtain ⟨its, _, pl, _⟩ := I.tuple hq
    exact call_tuple_same pl ⟨.ref p, H, I, rfl, q⟩
/-- t + u -/
def rCatF (K : PySem.W.Frag) : R2 := fun x y H Q => ∃ a b xs ys, x = .ref a ∧ y = .ref b ∧ SqT K H a xs ∧ SqT K H b ys ∧ xs.length + ys.length ≤ sizeLine ∧
  (xs = [] → Q (.ref b) H) ∧ (xs ≠ [] → ys = [] → Q (.ref a) H) ∧ (xs ≠ [] → ys ≠ [] → Tp H (xs ++ ys) Q)
theorem op_catF : OpR X (binaryOp .Add) (rCatF X.K) := by
  intro pins s σ H x y v u Q I rx ry h
  obtain ⟨a, b, xs, ys, rfl, rfl, ha, hb, hz, q0, q1, q2⟩ := h
  by_cases hx : xs = []
  · exact op_catA pins s σ H _ _ v u Q I rx ry ⟨a, b, xs, ys, rfl, rfl, ha, hb, hz, q0, q1, fun z => (z hx).elim⟩
  · cases rx
    cases ry
    obtain ⟨its, r1, p1, _⟩ := I.tuple ha
    obtain ⟨its2, r2, p2, _⟩ := I.tuple hb
    exact HT.cat_tup p1 p2 (fun z => hx (r1.nil_iff.mp z)) (fun z => ⟨.ref a, H, I, rfl, q1 hx (r2.nil_iff.mp z)⟩)
      (fun z => tup_laid I (r1.append r2) (by rw [List.length_append]; exact hz) (q2 hx fun w => z (r2.nil_iff.mpr w))) (by rw [← r1.length, ← r2.length]; exact hz)
/-- t[lo:hi] -/
def rSlF (K : PySem.W.Frag) : V → Option Int → Option Int → Hp → VK → Prop := fun x lo hi H Q => ∃ a xs, x = .ref a ∧ SqT K H a xs ∧
  (HT.sIx xs.length 0 lo = 0 ∧ HT.sIx xs.length xs.length hi = xs.length → Q (.ref a) H) ∧ (¬ (HT.sIx xs.length 0 lo = 0 ∧ HT.sIx xs.length xs.length hi = xs.length) → Tp H (cutV xs lo hi) Q)
theorem sl_tupF : SlR X (rSlF X.K) := by
  intro pins s σ H x v vl vu lo hi sl Q I rx hs pl pu h
  obtain ⟨a, xs, rfl, hx, q1, q2⟩ := h
  by_cases hw : HT.sIx xs.length 0 lo = 0 ∧ HT.sIx xs.length xs.length hi = xs.length
  · exact sl_tupA pins s σ H _ v vl vu lo hi sl Q I rx hs pl pu ⟨a, xs, rfl, hx, q1, fun z => (z hw).elim⟩
  · cases rx
    obtain ⟨its, r, ht, hz⟩ := I.tuple hx
    have e : its.toArray.size = xs.length := by rw [List.size_toArray]; exact r.length.symm
    refine ⟨"tuple", _, PyProof.Rows.slot_tuple_getitem.lookup, ht.typeIs, HT.getItem_tuple_cut ht hs pl pu (by rw [e]; exact hw) ?_ (by rw [e]; exact hz)⟩
    rw [e]
    exact tup_laid I ((r.drop (HT.sIx xs.length 0 lo)).take (HT.sIx xs.length xs.length hi - HT.sIx xs.length 0 lo)) (Nat.le_trans (cutV_length xs lo hi) hz) (q2 hw)
end
end Dv
namespace Dv
open PySem PySem.Spec PyProof.Rows L2
structure OxC (K : PySem.W.Frag) (C : Addr) (B newId initId : String) (bmB : List Value) : Prop where
  fb : ExcBaseFacts B newId initId bmB
  sf : StoreFacts B bmB "object.__setattr__" "object"
  row : ∃ nm q N bs sn sub ab col dd k0 k1 k2 k3 k5, K.lookup C = some (excClassObj nm q C N bs bmB true sn sub ab col dd k0 k1 k2 k3 k5 newId)
  put : PySem.W.findIn K (.ref C) "__setattr__" = some (some (.builtin "object.__setattr__"))
  isE : PySem.W.subIn K (.ref C) (.type "BaseException") = some true
  isT : PySem.W.typeIn K (.ref C) = some (.type "type")
  kp : PySem.W.keepIn K (.ref C) = true
section
open Builtin Builtin.ObjectAttr
variable {prog : Program} {w : World} {A : Around} {R : Result → Shared → Prop} {hp : Heap} {g : Array GenState} {d : Drawn} {t : Nat} {os : OsState}
variable {K : PySem.W.Frag} {B newId initId : String} {bmB : List Value} {C x : Addr} {f : Str} {tk : Tok} {v : Value} {fv : Array Value}
theorem first_store (T : OxC K C B newId initId bmB) (kin : K.In hp) (at_x : hp.get? x = some { cls := .ref C, data := .fields fv }) (hno : PySem.W.findIn K (.ref C) f = some none)
    (fin : ∀ (h2 : Heap) (tk2 : Nat) (dx : Addr), (∀ b o, b ≠ x → hp.get? b = some o → h2.get? b = some o) ∧ hp.objs.size ≤ dx ∧ dx ≠ x ∧ h2.get? x = some { cls := .ref C, dict := some dx, data := .fields fv } ∧ h2.Ns1 dx (fun y => if y = f then some v else none) →
      R (.ok (.ret .none)) ⟨h2, g, d, tk2, os⟩) :
    codeAny (model prog w) A (.call (.builtin "object.__setattr__") ⟨[.ref x, .str f tk, v], []⟩) R ⟨hp, g, d, t, os⟩ := by
  obtain ⟨nm, q, N, bs, sn, sub, ab, col, dd, k0, k1, k2, k3, k5, hC⟩ := T.row
  have cd : PySem.W.clsIn K C = some { name := nm, bases := bs, mro := .ref C :: bmB, ns := N, qualname := q, hasDict := true, slotNames := sn, subclasses := sub, abstract := ab, collection := col, hasDel := false } := by
    unfold PySem.W.clsIn; rw [hC] <;> rfl
  have J : PySem.W.InstAt hp x { cls := .ref C, data := .fields fv } C none := ⟨at_x, rfl, rfl, trivial⟩
  have far : x ≠ hp.objs.size := Nat.ne_of_lt (Heap.lt_size at_x)
  have S0 := F.store_object
  have obj : (Value.ref C :: bmB).contains (.type "object") = true := by rw [List.contains_cons, T.sf.hasOwner, Bool.or_true]
  have ty : PySem.W.Looks (model prog w) hp (isInstance (.ref x) (.type "object")) true := by
    refine J.type.andThen (PySem.W.looks_mroIn kin ?_)
    unfold PySem.W.mroIn
    rw [cd, Option.bind_some, if_neg (by simp)]
    exact congrArg some obj
  have L1 : PySem.W.Looks (model prog w) hp (mroOf (.ref C)) (.ref C :: bmB) := (PySem.W.looks_clsIn kin cd).andThen .now
  have L2' : PySem.W.Looks (model prog w) hp (storeTaker? none) none := .now
  have L3 := PySem.W.looks_clsIn (M := model prog w) kin cd
  refine codeAny_call_builtin S0.slot.plain S0.entry ?_
  refine @PySem.W.check_slot (model prog w) _ _ ⟨hp, g, d, t, os⟩ "object.__setattr__" "object" "__setattr__" (.ref x) [.str f tk, v] [] _ S0.kind S0.split ty (S0.args _ _ _) ?_
  rw [PySem.W.osa_eq, refuse_eq]
  refine wpAny_bind (wpAny_bind (J.type.at (wpAny_bind (L1.at ?_))))
  rw [refuseLoop_ref, T.sf.passes]
  refine wpAny_pure (wpAny_bind (J.type.at (wpAny_bind ?_)))
  refine (PySem.W.looks_findIn kin hno).at (wpAny_bind (L2'.at ?_))
  show wpAny _ _ (storeInOwnDict (.ref x) (.ref C) (.str f tk) f v false) _ _ _
  unfold storeInOwnDict ownDictForStores
  repeat (first | with_reducible refine PySem.HandSPX.store_in_new ?_ ?_ | with_reducible refine wpAny_loadPart_at at_x ?_ | with_reducible refine L3.at ?_ | wp_step)
  · exact ⟨_, #[], _, (Heap.get?_update_ne _ _ _ _ far.symm).trans (Heap.get?_push_at rfl rfl), rfl, fun e he => absurd he (by simp), fun _ => rfl⟩
  · intro h2 tk2 ns sb
    have x1 := Heap.get?_push_of_some (h := hp) { cls := .type "dict", data := .dict #[] } at_x
    refine fin h2 tk2 hp.objs.size ⟨fun b o nb hb => ?_, Nat.le_refl _, far.symm, (sb.2 x far).trans (Heap.get?_update_self _ x1 rfl), ns⟩
    have := sb.2 b (Nat.ne_of_lt (Heap.lt_size hb))
    rw [this, Heap.get?_update_ne _ _ _ _ nb]
    exact Heap.get?_push_of_some _ hb
end
section
variable {X : Cx} {pins : List (Addr × Obj)} {σ : L2.St} {H : Hp} {s : Shared} {a C : Addr} {f : Str} {y : V} {u : Value} {B newId initId : String} {bmB : List Value}
/-- self.f = y, on an error that has no dict yet -/
theorem store_first {Q : Unit → Shared → Prop} {E : Value → Shared → Prop} {A : Around} (T : OxC X.K C B newId initId bmB) (I : Inv X pins σ H s) (ha : H a = some (exo a C none)) (hno : PySem.W.findIn X.K (.ref C) f = some none) (ry : RelV y u)
    (fin : ∀ dx s', H dx = none → dx ≠ a → Inv X pins σ (upd (upd H dx (exd dx [(f, y)])) a (exo a C (some dx))) s' → Q () s') : wpAny (model X.prog X.w) A (setAttr (.ref a) f u) Q E s := by
  obtain ⟨t1, ho⟩ := exo_at I.hok ha
  obtain ⟨hp, g, d, t, os⟩ := s
  refine PySem.W.set_plain I.kIn (od := none) ⟨ho, rfl, rfl, trivial⟩ T.put (first_store T I.kIn ho hno fun h2 tk2 dx ⟨k, dn, da, hx, hn⟩ => ?_)
  have fresh : H dx = none := I.hok.fresh dn
  have old : ∀ {b : Addr} {o : Obj}, hp.get? b = some o → b ≠ dx := fun z => Nat.ne_of_lt (Nat.lt_of_lt_of_le (Heap.lt_size z) dn)
  have un_a : ∀ {b : Addr}, H b = none → b ≠ a := fun n z => by rw [z, ha] at n; cases n
  refine fin dx _ fresh da (I.un (t' := tk2) ⟨fun b o z n _ _ => k b o (un_a n) z, fun b o z n _ _ => ⟨o.slots, k b o (un_a n) z⟩, fun b o z n _ => ?_, fun b o z _ => ?_, fun b xs z => ?_, fun b o v z => ?_, fun b ps z => ⟨#[], ?_⟩⟩ fun b o z => ?_)
  · rw [upd_ne (un_a n), upd_ne (old z)]; exact n
  · by_cases hb : b = a
    · exact ⟨_, by rw [hb]; exact hx⟩
    · exact ⟨o, k b o hb z⟩
  · rw [upd_ne (at_ne ha z exo_tup), upd_ne (ne_of_none z fresh)]; exact z
  · rw [upd_ne (at_ne ha z exo_frz), upd_ne (ne_of_none z fresh)]; exact z
  · rw [upd_ne (at_ne ha z exo_tbl), upd_ne (ne_of_none z fresh), z]; simp
  · by_cases hb : b = a
    · subst hb
      rw [upd_same] at z; cases z
      exact exo_ok hx
    rw [upd_ne hb] at z
    by_cases hd : b = dx
    · subst hd
      rw [upd_same] at z; cases z
      exact exd_ok hn (relO_put (fs := []) ry fun _ => trivial)
    rw [upd_ne hd] at z
    refine (I.hok b o z).stay (fun c v hc z2 => k c v ?_ z2) (fun c hc => ?_) (fun c xs hc => ?_)
    · rcases hc with rfl | hc
      · exact hb
      · exact at_ne ha hc exo_own
    · rw [upd_ne (at_ne ha hc exo_own), upd_ne (ne_of_none hc fresh)]; exact hc
    · rw [upd_ne (at_ne ha hc exo_tup), upd_ne (ne_of_none hc fresh)]; exact hc
/-- the statement self.f = e in an error's __init__ -/
def tOx (a C : Addr) (f : Str) (te : TE) : TS := fun D σ H => te σ H fun y H1 => σ[0]? = some (some (.ref a)) ∧ H1 a = some (exo a C none) ∧ ∀ dx, H1 dx = none → dx ≠ a → D.nx σ (upd (upd H1 dx (exd dx [(f, y)])) a (exo a C (some dx)))
theorem ps_ox {e : Expr} {te : TE} {n : Str} {p' p1 pos : Pos} (T : OxC X.K C B newId initId bmB) (hno : PySem.W.findIn X.K (.ref C) f = some none) (hN : X.N[0]? = some n) (hv : Vis X.env.scope n) (hd : (n == ("__debug__" : Str)) = false) (hcd : (n == ("__classdict__" : Str)) = false) (he : PE X e te)
    (hs : swapsWith e (some (.Attribute (.Name n p1) f p')) pos.line X.env = pure false := by rfl) : PS X (.Assign [.Attribute (.Name n p1) f p'] e pos) (tOx a C f te) := by
  refine ⟨fun pins s σ H D I h => plainObj_wpAny_Assign_Attribute (thn (he.run pins s σ H _ I h) fun v s1 ⟨y, H1, I1, r1, hσ, ha, q⟩ => ?_) hs⟩
  refine thn ((pe_var (i := 0) hN hv hd hcd).run pins s1 σ H1 (fun x H2 => x = .ref a ∧ H2 = H1) I1 ⟨_, hσ, rfl, rfl⟩) fun u s2 ⟨x, H2, I2, r2, ex, eh⟩ => ?_
  subst ex eh
  cases r2
  exact store_first T I2 ha hno r1 fun dx s' n0 ne J => ⟨σ, _, J, q dx n0 ne⟩
/-- C(e), C an error class with an own __init__ -/
theorem pmk_ox {CX : CXT} {x : Str} {fI : Addr} {k : Nat} {fd : FuncData} {ps : List Str} {sp : Sp} {ta : TA} {e : Expr} {es : List Expr} {p pos : Pos} (T : OxC X.K C B newId initId bmB) (iC : PySem.W.findIn X.K (.ref C) "__init__" = some (some (.ref fI))) (tI : PySem.W.typeIn X.K (.ref fI) = some (.type "function"))
    (Fn : FnOk X.prog X.w X.K X.mg X.base CX k fI fd ps sp) (hr : Room (k + 1) X.A) (hb : Binds X.K fd ps []) (hx : Passes CX X (fun _ _ _ => False)) (hg : Gl X x) (hm : X.mg x = some (.ref C)) (ha : PA X (e :: es) ta)
    (hdb : (x == ("__debug__" : Str)) = false := by decide) (he : starEach (e :: es) X.env = (false, eval e X.env) :: starEach es X.env := by rfl) (hpl : (backTo pos (starEach es X.env)).any (·.1) = false := by rfl) :
    PMk X (.Call (.Name x p) (e :: es) [] pos) (tMkO C sp [] ta) := by
  intro pins s σ H Q I h
  obtain ⟨nm, q, N, bs, sn, sub, ab, col, dd, k0, k1, k2, k3, k5, hC⟩ := T.row
  refine wpAny_Call_Name_kw (ld_glob I hg hm (PySem.W.callWith_K (h₀ := X.base) I.ok.mod.kin T.kp (thn (ha.run pos pins s σ H _ I h) fun us s1 ⟨vs, H1, I1, r1, few, q1⟩ => ⟨I1.kIn, ?_⟩) he hpl) hdb)
  show wpAny _ _ (call (.ref C) us) _ _ _
  obtain ⟨hp, g, dr, tk, os⟩ := s1
  have fresh : H1 (hp.objs.size + 1) = none := I1.hok.fresh (Nat.le_succ _)
  have hq := q1 _ fresh
  let h2 := (hp.push (PySem.W.kdv_tup us)).push (PySem.HandSPX.excO C hp.objs.size)
  have kk : ∀ b o, hp.get? b = some o → h2.get? b = some o := fun b o z => Heap.get?_push_of_some _ (Heap.get?_push_of_some _ z)
  have there : h2.get? (hp.objs.size + 1) = some (PySem.HandSPX.excO C hp.objs.size) := by
    show ((hp.push (PySem.W.kdv_tup us)).push (PySem.HandSPX.excO C hp.objs.size)).get? (hp.objs.size + 1) = _
    heap_get
  have I2 : Inv X pins σ (upd H1 (hp.objs.size + 1) (exo (hp.objs.size + 1) C none)) ⟨h2, g, dr, tk, os⟩ := I1.laid (t' := tk) kk (Nat.le_succ _) (exo_ok there)
  rw [List.append_nil] at hq
  have r2 : Vals (V.ref (hp.objs.size + 1) :: vs) (Value.ref (hp.objs.size + 1) :: us) := .cons rfl r1
  have hl : (Value.ref (hp.objs.size + 1) :: us).length = ps.length := by rw [← r2.length]; exact Fn.len _ _ _ _ hq
  have room : us.length ≤ sizeLine := by
    have := Paired.length r1
    rw [sizeLine_eq]
    omega
  have bnd := hb ⟨h2, g, dr, tk, os⟩ (Value.ref (hp.objs.size + 1) :: us) I2.kIn (by rw [List.append_nil]; exact hl)
  rw [List.append_nil] at bnd
  have run := Fn.run _ X.stack _ _ ⟨Value.ref (hp.objs.size + 1) :: us, []⟩ _ _ _ (fun _ _ _ => False) (hr.make C us []) (I2.env0.make C us []) bnd r2 hq
  refine wpAny_call (PySem.HandSPX.call_own T.fb (fun _ => rfl) (I1.kIn _ _ hC) (PySem.W.looks_findIn I1.kIn iC) (fun self => PySem.W.bind_fn I1.kIn self tI) room (codeAny_mono run fun r s' hq' => ?_))
  cases r with
  | error er => exact hx pins σ _ _ er s' I2 hq'
  | ok fl =>
    cases fl with
    | ret z =>
      obtain ⟨v, H2, os2, bare2, un2, hok2, rv, rfl, d, fs, ea, ed, hd1, q2⟩ := hq'
      obtain ⟨h3, g3, d3, t3, os3⟩ := s'
      exact ⟨rv, mk_end (raises_own T.isE T.isT) I1 (Nat.le_succ _) kk un2 hok2 os2 bare2 ea ed hd1 q2⟩
    | next => exact False.elim hq'
    | brk => exact False.elim hq'
    | cont => exact False.elim hq'
end
end Dv
namespace Dv
open PySem PySem.Spec PyProof.Rows L2
/-- a caught error at a, its class, its dict -/
def Hx (a C : Addr) (d : Option Addr) : HO := .ext fun h => ∃ (oe : Obj) (vs : Array Value), h.get? a = some oe ∧ Zc (.ref C) d oe ∧ oe.data = .fields vs
end Dv
namespace Dv
open PySem PySem.Spec PyProof.Rows L2
/-- plain data; urn is the one mutable thing (three numbers), known by its place -/
inductive D where
  | non | bl (b : Bool) | int (i : Int) | str (x : Str) | lst (xs : List D) | tup (xs : List D) | pr (xs : List D) | ins (c : Str) (ns : List Str) (xs : List D) | exc (c : Str) (ns : List Str) (xs : List D) | fn (x : Str) | dct (ks : List Key) (xs : List D) | dtt (ks : List (List Key)) (xs : List D) | dtn (ks : List NestedKey) (xs : List D) | urn
structure U where
  a : Int
  b : Int
  c : Int
/-- what is fixed through a law -/
structure InsOk (K : PySem.W.Frag) (C : Addr) : Prop where
  cl : Cls K C
  ha : PySem.W.findIn K (.ref C) "__class__" = some (some (.builtin "object.__class__"))
  hn : PySem.W.specialIn K (.builtin "object.__class__") "__get__" = some (some (.builtin "getset_descriptor.__get__"))
  htk : PySem.W.takesIn K (.builtin "object.__class__") = some true
  hm : PySem.W.mroIn K C (.type "object") = some true
  kStr : PySem.W.kitOne K (.ref C) (.type "str") = some false
  kInt : PySem.W.kitOne K (.ref C) (.type "int") = some false
  kBool : PySem.W.kitOne K (.ref C) (.type "bool") = some false
  kList : PySem.W.kitOne K (.ref C) (.type "list") = some false
  kTup : PySem.W.kitOne K (.ref C) (.type "tuple") = some false
/-- an own error class that is caught and held -/
structure ErOk (K : PySem.W.Frag) (C : Addr) : Prop where
  isi : ExcC K C
  fld : XfC K C
  hit : PySem.W.exmOne K (.ref C) (.ref C) = some true
structure Gx (K : PySem.W.Frag) where
  cls : Str → Option Addr
  ok : ∀ c C, cls c = some C → InsOk K C
  exc : Str → Option Addr := fun _ => none
  eok : ∀ c C, exc c = some C → ErOk K C := by intro _ _ h; cases h
  fns : Str → Option Addr := fun _ => none
  pw : Option (Program × World) := none
/-- an error's dict: none without fields -/
def ErD (H : Hp) (ns : List Str) (vs : List V) (d : Option Addr) : Prop := ns.length = vs.length ∧ ((ns = [] ∧ d = none) ∨ ∃ dd, d = some dd ∧ H dd = some (.xd (ns.zip vs)))
theorem ErD.mono {H H' : Hp} {ns : List Str} {vs : List V} {d : Option Addr} (h : ErD H ns vs d) (s : Same H H') : ErD H' ns vs d := by
  obtain ⟨h1, h2 | ⟨dd, h2, h3⟩⟩ := h
  · exact ⟨h1, .inl h2⟩
  · exact ⟨h1, .inr ⟨dd, h2, s _ _ h3⟩⟩
/-- a tuple whose object is told: it has no dict -/
def TupB (H : Hp) (a : Addr) (vs : List V) : Prop := ∃ o : Obj, o.dict = none ∧ H a = some (.frz o (.tup vs))
theorem TupB.mono {H H' : Hp} {a : Addr} {vs : List V} (h : TupB H a vs) (s : Same H H') : TupB H' a vs := ⟨h.choose, h.choose_spec.1, s _ _ h.choose_spec.2⟩
theorem TupB.sq {K : PySem.W.Frag} {H : Hp} {a : Addr} {vs : List V} (h : TupB H a vs) : SqT K H a vs := .inl (.inr ⟨h.choose, h.choose_spec.2⟩)
/-- a dict that is shown to all: it stands still from then on -/
def DctB (H : Hp) (a : Addr) (kvs : List (Key × V)) : Prop := ∃ o, H a = some (.frz o (.dK kvs))
theorem DctB.mono {H H' : Hp} {a : Addr} {kvs : List (Key × V)} (h : DctB H a kvs) (s : Same H H') : DctB H' a kvs := by
  obtain ⟨o, h⟩ := h
  exact ⟨o, s _ _ h⟩
/-- the tuples that are told, as tuples -/
def tupH (B : Hp) : Hp := fun b => match B b with
  | some (.frz o (.tup vs)) => if o.dict.isNone = true then some (.tup vs) else none
  | _ => none
theorem tupH_of {B : Hp} {b : Addr} {vs : List V} (h : TupB B b vs) : tupH B b = some (.tup vs) := by
  obtain ⟨o, ho, h⟩ := h
  unfold tupH
  rw [h]
  show (if o.dict.isNone = true then some (HO.tup vs) else none) = _
  rw [ho]; rfl
theorem tupH_to {B : Hp} {b : Addr} {vs : List V} (h : tupH B b = some (.tup vs)) : TupB B b vs := by
  unfold tupH at h
  split at h
  · rename_i o ws hb
    split at h
    · rename_i hd
      cases h
      exact ⟨o, Option.isNone_iff_eq_none.mp hd, hb⟩
    · cases h
  · cases h
theorem tupH_mono {H H' : Hp} (s : Same H H') : ∀ b ys, tupH H b = some (.tup ys) → tupH H' b = some (.tup ys) := fun b ys h => tupH_of ((tupH_to h).mono s)
/-- a dict whose keys are tuples of ints and texts, by its object -/
def DTo (P : Program) (w : World) (a : Addr × Obj) (xs : List (List Key × Addr × Value)) : HO := .ext fun h => xs.length ≤ sizeLine ∧ (a.1 == sysModules) = false ∧ ∃ es ep, h.get? a.1 = some a.2 ∧ a.2.ExactDict ∧ a.2.data = .dict es ep ∧ es.toList = xs.map (entryOfKey (tupleKind (mixKind P w))) ∧ (xs.map (·.1)).Nodup
def DtB {K : PySem.W.Frag} (G : Gx K) (ks : List (List Key)) (vs : List V) (o : HO) (B : Hp) : Prop := ∃ P w a xs, G.pw = some (P, w) ∧ o = DTo P w a xs ∧ KT (tupH B) (ks.zip vs) xs ∧ ks.length = vs.length
theorem DtB.mono {K : PySem.W.Frag} {G : Gx K} {ks : List (List Key)} {vs : List V} {o : HO} {H H' : Hp} (h : DtB G ks vs o H) (s : Same H H') : DtB G ks vs o H' := by
  obtain ⟨P, w, a, xs, h1, h2, h3, h4⟩ := h
  exact ⟨P, w, a, xs, h1, h2, h3.keeps (tupH_mono s), h4⟩
mutual
/-- v is the key k, in the shown heap -/
def NKey (B : Hp) : NestedKey → V → Prop
  | .none, v => v = .non
  | .num i, v => v = .int i
  | .text x, v => v = .str x
  | .tup ks, v => ∃ a vs, v = .ref a ∧ TupB B a vs ∧ NKeys B ks vs
def NKeys (B : Hp) : List NestedKey → List V → Prop
  | [], vs => vs = []
  | k :: ks, vs => ∃ v r, vs = v :: r ∧ NKey B k v ∧ NKeys B ks r
end
mutual
theorem NKey.mono {B B' : Hp} (s : Same B B') : ∀ (k : NestedKey) (v : V), NKey B k v → NKey B' k v
  | .none, v, h => by unfold NKey at h ⊢; exact h
  | .num _, v, h => by unfold NKey at h ⊢; exact h
  | .text _, v, h => by unfold NKey at h ⊢; exact h
  | .tup ks, v, h => by
    unfold NKey at h ⊢
    obtain ⟨a, vs, e, q, r⟩ := h
    exact ⟨a, vs, e, q.mono s, NKeys.mono s ks vs r⟩
theorem NKeys.mono {B B' : Hp} (s : Same B B') : ∀ (ks : List NestedKey) (vs : List V), NKeys B ks vs → NKeys B' ks vs
  | [], vs, h => by unfold NKeys at h ⊢; exact h
  | k :: ks, vs, h => by
    unfold NKeys at h ⊢
    obtain ⟨v, r, e, q, t⟩ := h
    exact ⟨v, r, e, NKey.mono s k v q, NKeys.mono s ks r t⟩
end
/-- a dict whose keys are tuples, nested, by its object -/
def DNo (P : Program) (w : World) (a : Addr × Obj) (xs : List (NestedKey × Addr × Value)) : HO := .ext fun h => xs.length ≤ sizeLine ∧ (a.1 == sysModules) = false ∧ ∃ es ep, h.get? a.1 = some a.2 ∧ a.2.ExactDict ∧ a.2.data = .dict es ep ∧ es.toList = xs.map (entryOfKey (nestedKind P w)) ∧ (xs.map (·.1)).Nodup
/-- keys and values, by the shown heap -/
abbrev KN (B : Hp) : List (NestedKey × V) → List (NestedKey × Addr × Value) → Prop := Paired fun p q => p.1 = q.1 ∧ (NKey B p.1 (.ref q.2.1) ∧ p.1.depth ≤ 8) ∧ RelV p.2 q.2.2
theorem KN.mono {B B' : Hp} (s : Same B B') {ps : List (NestedKey × V)} {xs : List (NestedKey × Addr × Value)} (h : KN B ps xs) : KN B' ps xs := by
  induction h with
  | nil => exact .nil
  | cons h t ih => exact .cons ⟨h.1, ⟨NKey.mono s _ _ h.2.1.1, h.2.1.2⟩, h.2.2⟩ ih
def DnB {K : PySem.W.Frag} (G : Gx K) (ks : List NestedKey) (vs : List V) (o : HO) (B : Hp) : Prop := ∃ P w a xs, G.pw = some (P, w) ∧ o = DNo P w a xs ∧ KN B (ks.zip vs) xs ∧ ks.length = vs.length
theorem DnB.mono {K : PySem.W.Frag} {G : Gx K} {ks : List NestedKey} {vs : List V} {o : HO} {H H' : Hp} (h : DnB G ks vs o H) (s : Same H H') : DnB G ks vs o H' := by
  obtain ⟨P, w, a, xs, h1, h2, h3, h4⟩ := h
  exact ⟨P, w, a, xs, h1, h2, h3.mono s, h4⟩
mutual
def Rep {K : PySem.W.Frag} (G : Gx K) (ua : Option Addr) : D → V → Hp → Prop
  | .non, v, _ => v = .non
  | .bl b, v, _ => v = .bl b
  | .int i, v, _ => v = .int i
  | .str x, v, _ => v = .str x
  | .lst ds, v, H => ∃ a vs, v = .ref a ∧ H a = some (HO.lst vs) ∧ Reps G ua ds vs H
  | .tup ds, v, H => ∃ a vs, v = .ref a ∧ TupB H a vs ∧ Reps G ua ds vs H
  | .pr ds, v, H => ∃ a vs, v = .ref a ∧ H a = some (HO.tup vs) ∧ Reps G ua ds vs H
  | .ins c ns ds, v, H => ∃ a C dx vs, v = .ref a ∧ G.cls c = some C ∧ H a = some (HO.ins C dx (ns.zip vs)) ∧ ns.length = vs.length ∧ Reps G ua ds vs H
  | .exc c ns ds, v, H => ∃ a C d vs, v = .ref a ∧ G.exc c = some C ∧ H a = some (Hx a C d) ∧ ErD H ns vs d ∧ Reps G ua ds vs H
  | .fn x, v, _ => ∃ f, G.fns x = some f ∧ v = .ref f
  | .dct ks ds, v, H => ∃ a vs, v = .ref a ∧ DctB H a (ks.zip vs) ∧ ks.length = vs.length ∧ Reps G ua ds vs H
  | .dtt ks ds, v, H => ∃ a vs o, v = .ref a ∧ H a = some o ∧ DtB G ks vs o H ∧ Reps G ua ds vs H
  | .dtn ks ds, v, H => ∃ a vs o, v = .ref a ∧ H a = some o ∧ DnB G ks vs o H ∧ Reps G ua ds vs H
  | .urn, v, _ => ∃ a, ua = some a ∧ v = .ref a
def Reps {K : PySem.W.Frag} (G : Gx K) (ua : Option Addr) : List D → List V → Hp → Prop
  | [], vs, _ => vs = []
  | d :: ds, vs, H => ∃ v r, vs = v :: r ∧ Rep G ua d v H ∧ Reps G ua ds r H
end
theorem Same.seqT {K : PySem.W.Frag} {H H' : Hp} {a : Addr} {xs : List V} (e : Same H H') (h : SqT K H a xs) : SqT K H' a xs := by
  rcases h with (h | ⟨o, h⟩) | h
  · exact .inl (.inl (e _ _ h))
  · exact .inl (.inr ⟨o, e _ _ h⟩)
  · exact .inr h
section
variable {K : PySem.W.Frag} {G : Gx K} {ua : Option Addr}
mutual
theorem Rep.mono : ∀ (d : D) (v : V) {H H' : Hp}, Same H H' → Rep G ua d v H → Rep G ua d v H'
  | .non, v, H, H', s, h => by unfold Rep at h ⊢; exact h
  | .bl _, v, H, H', s, h => by unfold Rep at h ⊢; exact h
  | .int _, v, H, H', s, h => by unfold Rep at h ⊢; exact h
  | .str _, v, H, H', s, h => by unfold Rep at h ⊢; exact h
  | .lst ds, v, H, H', s, h => by
    unfold Rep at h ⊢
    obtain ⟨a, vs, e, q, r⟩ := h
    exact ⟨a, vs, e, s _ _ q, Reps.mono ds vs s r⟩
  | .tup ds, v, H, H', s, h => by
    unfold Rep at h ⊢
    obtain ⟨a, vs, e, q, r⟩ := h
    exact ⟨a, vs, e, q.mono s, Reps.mono ds vs s r⟩
  | .pr ds, v, H, H', s, h => by
    unfold Rep at h ⊢
    obtain ⟨a, vs, e, q, r⟩ := h
    exact ⟨a, vs, e, s _ _ q, Reps.mono ds vs s r⟩
  | .ins c ns ds, v, H, H', s, h => by
    unfold Rep at h ⊢
    obtain ⟨a, C, dx, vs, e, c1, q, l, r⟩ := h
    exact ⟨a, C, dx, vs, e, c1, s _ _ q, l, Reps.mono ds vs s r⟩
  | .exc c ns ds, v, H, H', s, h => by
    unfold Rep at h ⊢
    obtain ⟨a, C, d, vs, e, c1, q, l, r⟩ := h
    exact ⟨a, C, d, vs, e, c1, s _ _ q, l.mono s, Reps.mono ds vs s r⟩
  | .fn _, v, H, H', s, h => by unfold Rep at h ⊢; exact h
  | .dct ks ds, v, H, H', s, h => by
    unfold Rep at h ⊢
    obtain ⟨a, vs, e, q, l, r⟩ := h
    exact ⟨a, vs, e, q.mono s, l, Reps.mono ds vs s r⟩
  | .dtt ks ds, v, H, H', s, h => by
    unfold Rep at h ⊢
    obtain ⟨a, vs, o, e, q, l, r⟩ := h
    exact ⟨a, vs, o, e, s _ _ q, l.mono s, Reps.mono ds vs s r⟩
  | .dtn ks ds, v, H, H', s, h => by
    unfold Rep at h ⊢
    obtain ⟨a, vs, o, e, q, l, r⟩ := h
    exact ⟨a, vs, o, e, s _ _ q, l.mono s, Reps.mono ds vs s r⟩
  | .urn, v, H, H', s, h => by unfold Rep at h ⊢; exact h
theorem Reps.mono : ∀ (ds : List D) (vs : List V) {H H' : Hp}, Same H H' → Reps G ua ds vs H → Reps G ua ds vs H'
  | [], vs, H, H', s, h => by unfold Reps at h ⊢; exact h
  | d :: ds, vs, H, H', s, h => by
    unfold Reps at h ⊢
    obtain ⟨v, r, e, q, t⟩ := h
    exact ⟨v, r, e, Rep.mono d v s q, Reps.mono ds r s t⟩
end
variable {H H' : Hp} {ds es : List D} {vs ws : List V} {d : D} {v : V}
theorem Reps.nil : Reps G ua [] [] H := by unfold Reps; rfl
theorem Reps.cons (h : Rep G ua d v H) (t : Reps G ua ds vs H) : Reps G ua (d :: ds) (v :: vs) H := by unfold Reps; exact ⟨v, vs, rfl, h, t⟩
theorem Reps.of_nil (h : Reps G ua [] vs H) : vs = [] := by unfold Reps at h; exact h
theorem Reps.of_cons (h : Reps G ua (d :: ds) vs H) : ∃ v r, vs = v :: r ∧ Rep G ua d v H ∧ Reps G ua ds r H := by unfold Reps at h; exact h
theorem Reps.len : ∀ {ds : List D} {vs : List V}, Reps G ua ds vs H → ds.length = vs.length
  | [], vs, h => by rw [h.of_nil]; rfl
  | d :: ds, vs, h => by
    obtain ⟨v, r, rfl, _, t⟩ := h.of_cons
    rw [List.length_cons, List.length_cons, Reps.len t]
theorem Reps.append : ∀ {ds : List D} {vs : List V}, Reps G ua ds vs H → Reps G ua es ws H → Reps G ua (ds ++ es) (vs ++ ws) H
  | [], vs, h, g => by rw [h.of_nil]; exact g
  | d :: ds, vs, h, g => by
    obtain ⟨v, r, rfl, q, t⟩ := h.of_cons
    exact .cons q (Reps.append t g)
theorem Reps.get : ∀ {ds : List D} {vs : List V} {i : Nat} {d : D}, Reps G ua ds vs H → ds[i]? = some d → ∃ v, vs[i]? = some v ∧ Rep G ua d v H
  | [], vs, i, d, h, e => by simp at e
  | d :: ds, vs, 0, d', h, e => by
    obtain ⟨v, r, rfl, q, t⟩ := h.of_cons
    simp at e; subst e
    exact ⟨v, rfl, q⟩
  | d :: ds, vs, i + 1, d', h, e => by
    obtain ⟨v, r, rfl, q, t⟩ := h.of_cons
    exact Reps.get (i := i) t (by simpa using e)
theorem Reps.take : ∀ {ds : List D} {vs : List V} (n : Nat), Reps G ua ds vs H → Reps G ua (ds.take n) (vs.take n) H
  | _, _, 0, h => .nil
  | [], vs, n + 1, h => by rw [h.of_nil]; exact .nil
  | d :: ds, vs, n + 1, h => by
    obtain ⟨v, r, rfl, q, t⟩ := h.of_cons
    exact .cons q (Reps.take n t)
theorem Reps.drop : ∀ {ds : List D} {vs : List V} (n : Nat), Reps G ua ds vs H → Reps G ua (ds.drop n) (vs.drop n) H
  | _, _, 0, h => h
  | [], vs, n + 1, h => by rw [h.of_nil]; exact .nil
  | d :: ds, vs, n + 1, h => by
    obtain ⟨v, r, rfl, q, t⟩ := h.of_cons
    exact Reps.drop n t
theorem Reps.set : ∀ {ds : List D} {vs : List V} (n : Nat), Reps G ua ds vs H → Rep G ua d v H → Reps G ua (ds.set n d) (vs.set n v) H
  | [], vs, n, h, q => by rw [h.of_nil]; exact .nil
  | _ :: ds, vs, 0, h, q => by
    obtain ⟨_, r, rfl, _, t⟩ := h.of_cons
    exact .cons q t
  | _ :: ds, vs, n + 1, h, q => by
    obtain ⟨_, r, rfl, q', t⟩ := h.of_cons
    exact .cons q' (Reps.set n t q)
theorem Reps.replicate (n : Nat) (h : Reps G ua ds vs H) : Reps G ua (List.replicate n ds).flatten (List.replicate n vs).flatten H := by
  induction n with
  | zero => exact .nil
  | succ n ih => rw [List.replicate_succ, List.replicate_succ, List.flatten_cons, List.flatten_cons]; exact h.append ih
theorem Reps.ints : ∀ {ns : List Int}, Reps G ua (ns.map .int) (ns.map .int) H
  | [] => .nil
  | n :: ns => .cons (by unfold Rep; rfl) Reps.ints
theorem Reps.strs_of : ∀ {xs : List Str} {vs : List V}, Reps G ua (xs.map .str) vs H → vs = xs.map .str
  | [], vs, h => h.of_nil
  | x :: xs, vs, h => by
    obtain ⟨v, r, rfl, q, t⟩ := h.of_cons
    unfold Rep at q
    rw [q, Reps.strs_of t]; rfl
theorem Reps.strs : ∀ {xs : List Str}, Reps G ua (xs.map .str) (xs.map .str) H
  | [] => .nil
  | n :: ns => .cons (by unfold Rep; rfl) Reps.strs
theorem Reps.ints_of : ∀ {xs : List Int} {vs : List V}, Reps G ua (xs.map .int) vs H → vs = xs.map .int
  | [], vs, h => h.of_nil
  | x :: xs, vs, h => by
    obtain ⟨v, r, rfl, q, t⟩ := h.of_cons
    unfold Rep at q
    rw [q, Reps.ints_of t]; rfl
theorem Reps.bls_of : ∀ {xs : List Bool} {vs : List V}, Reps G ua (xs.map .bl) vs H → vs = xs.map .bl
  | [], vs, h => h.of_nil
  | x :: xs, vs, h => by
    obtain ⟨v, r, rfl, q, t⟩ := h.of_cons
    unfold Rep at q
    rw [q, Reps.bls_of t]; rfl
end
/-- B: the part of the heap that plain data may name; the urn stands beside it -/
structure Wd (ua : Option Addr) (u : U) (B H : Hp) : Prop where
  sub : Same B H
  urn : ∀ a, ua = some a → B a = none ∧ H a = some (.lst [.int u.a, .int u.b, .int u.c])
structure Grow (ua : Option Addr) (B H B' H' : Hp) : Prop where
  keep : ∀ a o, H a = some o → ua ≠ some a → H' a = some o
  live : ∀ a, H' a = none → H a = none
  pub : Same B B'
  new : ∀ a o, B' a = some o → B a = some o ∨ H a = none
theorem Grow.refl {ua : Option Addr} {B H : Hp} : Grow ua B H B H := ⟨fun _ _ h _ => h, fun _ h => h, fun _ _ h => h, fun _ _ h => .inl h⟩
theorem Grow.trans {ua : Option Addr} {B H B1 H1 B2 H2 : Hp} (x : Grow ua B H B1 H1) (y : Grow ua B1 H1 B2 H2) : Grow ua B H B2 H2 :=
  ⟨fun a o h n => y.keep a o (x.keep a o h n) n, fun a h => x.live a (y.live a h), fun a o h => y.pub a o (x.pub a o h), fun a o h => by
    rcases y.new a o h with h | h
    · exact x.new a o h
    · exact .inr (x.live a h)⟩
theorem same_new {H : Hp} {p : Addr} {o : HO} (h : H p = none) : Same H (upd H p o) := fun b x e => by
  rw [upd_ne (ne_of_none e h)]
  exact e
section
variable {ua : Option Addr} {u : U} {B H : Hp} {p : Addr} {o : HO}
theorem Wd.none_of (w : Wd ua u B H) (h : H p = none) : B p = none := by
  cases e : B p with
  | none => rfl
  | some o => rw [w.sub p o e] at h; cases h
theorem Wd.ne_urn (w : Wd ua u B H) (h : H p = none) : ua ≠ some p := fun e => by
  rw [(w.urn p e).2] at h; cases h
/-- a new object that anyone may see -/
theorem Grow.new1 (w : Wd ua u B H) (h : H p = none) : Grow ua B H (upd B p o) (upd H p o) := by
  have hp := w.none_of h
  refine ⟨fun a x e _ => same_new h a x e, fun a e => ?_, same_new hp, fun a x e => ?_⟩
  · by_cases q : a = p
    · subst q; exact h
    · rw [upd_ne q] at e; exact e
  · by_cases q : a = p
    · subst q; exact .inr h
    · rw [upd_ne q] at e; exact .inl e
theorem Wd.new1 (w : Wd ua u B H) (h : H p = none) : Wd ua u (upd B p o) (upd H p o) := by
  refine ⟨fun a x e => ?_, fun a e => ?_⟩
  · by_cases q : a = p
    · subst q; rw [upd_same] at e ⊢; exact e
    · rw [upd_ne q] at e ⊢; exact w.sub a x e
  · have := w.urn a e
    have q : a ≠ p := fun z => by subst z; rw [this.2] at h; cases h
    rw [upd_ne q, upd_ne q]; exact this
/-- a new object of one's own -/
theorem Grow.own1 (w : Wd ua u B H) (h : H p = none) : Grow ua B H B (upd H p o) := by
  refine ⟨fun a x e _ => same_new h a x e, fun a e => ?_, fun _ _ e => e, fun a x e => .inl e⟩
  by_cases q : a = p
  · subst q; exact h
  · rw [upd_ne q] at e; exact e
theorem Wd.own1 (w : Wd ua u B H) (h : H p = none) : Wd ua u B (upd H p o) := by
  refine ⟨fun a x e => same_new h a x (w.sub a x e), fun a e => ?_⟩
  have := w.urn a e
  have q : a ≠ p := fun z => by subst z; rw [this.2] at h; cases h
  rw [upd_ne q]; exact this
/-- one's own object is changed -/
theorem Wd.put (w : Wd ua u B H) (h : B p = none) (n : ua ≠ some p) : Wd ua u B (upd H p o) := by
  refine ⟨fun a x e => ?_, fun a e => ?_⟩
  · rw [upd_ne (ne_of_none e h)]; exact w.sub a x e
  · have := w.urn a e
    rw [upd_ne (fun z => n (by rw [← z]; exact e))]; exact this
end
/-- one's own things, that still change -/
inductive Oo where
  | lst (ds : List D) | dct (ks : List Key) (ds : List D) | dtt (ks : List (List Key)) (ds : List D) | dtn (ks : List NestedKey) (ds : List D)
def RepO {K : PySem.W.Frag} (G : Gx K) (ua : Option Addr) : Oo → HO → Hp → Prop
  | .lst ds, o, B => ∃ vs, o = .lst vs ∧ Reps G ua ds vs B
  | .dct ks ds, o, B => ∃ vs, o = .dK (ks.zip vs) ∧ ks.length = vs.length ∧ Reps G ua ds vs B ∧ ks.Nodup
  | .dtt ks ds, o, B => ∃ vs, DtB G ks vs o B ∧ Reps G ua ds vs B
  | .dtn ks ds, o, B => ∃ vs, DnB G ks vs o B ∧ Reps G ua ds vs B
theorem RepO.mono {K : PySem.W.Frag} {G : Gx K} {ua : Option Addr} {x : Oo} {o : HO} {B B' : Hp} (h : RepO G ua x o B) (s : Same B B') : RepO G ua x o B' := by
  cases x with
  | lst ds => obtain ⟨vs, e, r⟩ := h; exact ⟨vs, e, r.mono _ _ s⟩
  | dct ks ds => obtain ⟨vs, e, l, r, n⟩ := h; exact ⟨vs, e, l, r.mono _ _ s, n⟩
  | dtt ks ds => obtain ⟨vs, e, r⟩ := h; exact ⟨vs, e.mono s, r.mono _ _ s⟩
  | dtn ks ds => obtain ⟨vs, e, r⟩ := h; exact ⟨vs, e.mono s, r.mono _ _ s⟩
inductive Sl where
  | no | pub (d : D) | own (o : Oo)
structure EnvOk {K : PySem.W.Frag} (G : Gx K) (ua : Option Addr) (env : List Sl) (σ : List (Option V)) (B H : Hp) : Prop where
  len : env.length = σ.length
  pub : ∀ (i : Nat) d, env[i]? = some (Sl.pub d) → ∃ v, σ[i]? = some (some v) ∧ Rep G ua d v B
  own : ∀ (i : Nat) ds, env[i]? = some (Sl.own ds) → ∃ p ho, σ[i]? = some (some (V.ref p)) ∧ H p = some ho ∧ B p = none ∧ RepO G ua ds ho B ∧ ua ≠ some p
  inj : ∀ (i j : Nat) ds es p, env[i]? = some (Sl.own ds) → env[j]? = some (Sl.own es) → σ[i]? = some (some (V.ref p)) → σ[j]? = some (some (V.ref p)) → i = j
section
variable {K : PySem.W.Frag} {G : Gx K} {ua : Option Addr} {u : U} {env : List Sl} {σ : List (Option V)} {B H B' H' : Hp} {d : D} {v : V} {i : Nat}
theorem EnvOk.grow (e : EnvOk G ua env σ B H) (g : Grow ua B H B' H') : EnvOk G ua env σ B' H' := by
  refine ⟨e.len, fun i d h => ?_, fun i ds h => ?_, e.inj⟩
  · obtain ⟨v, h1, h2⟩ := e.pub i d h
    exact ⟨v, h1, h2.mono _ _ g.pub⟩
  · obtain ⟨p, vs, h1, h2, h3, h4, h5⟩ := e.own i ds h
    refine ⟨p, vs, h1, g.keep _ _ h2 h5, ?_, h4.mono g.pub, h5⟩
    cases q : B' p with
    | none => rfl
    | some o =>
      rcases g.new p o q with z | z
      · rw [z] at h3; cases h3
      · rw [z] at h2; cases h2
theorem get_set {α : Type} {l : List α} {i j : Nat} {a x : α} (h : (l.set i a)[j]? = some x) : (j = i ∧ x = a) ∨ (j ≠ i ∧ l[j]? = some x) := by
  by_cases q : i = j
  · subst q
    left
    by_cases hl : i < l.length
    · rw [List.getElem?_set_self hl] at h
      exact ⟨rfl, (Option.some.inj h).symm⟩
    · rw [List.getElem?_eq_none (by rw [List.length_set]; omega)] at h; cases h
  · rw [List.getElem?_set_ne q] at h
    exact .inr ⟨fun z => q z.symm, h⟩
theorem set_get {α : Type} {l : List α} {i : Nat} {a : α} (hl : i < l.length) : (l.set i a)[i]? = some a := by rw [List.getElem?_set_self hl]
theorem lt_of_get {α : Type} {l : List α} {i : Nat} {x : α} (h : l[i]? = some x) : i < l.length := (List.getElem?_eq_some_iff.mp h).1
theorem EnvOk.set (e : EnvOk G ua env σ B H) (r : Rep G ua d v B) (i : Nat) : EnvOk G ua (env.set i (Sl.pub d)) (σ.set i (some v)) B H := by
  refine ⟨by rw [List.length_set, List.length_set]; exact e.len, fun j d' h => ?_, fun j ds h => ?_, fun j k ds es p h1 h2 h3 h4 => ?_⟩
  · have hl := lt_of_get h
    rw [List.length_set, e.len] at hl
    rcases get_set h with ⟨rfl, q⟩ | ⟨q, h⟩
    · cases q; exact ⟨v, set_get hl, r⟩
    · rw [List.getElem?_set_ne (fun z => q z.symm)]; exact e.pub j d' h
  · rcases get_set h with ⟨rfl, q⟩ | ⟨q, h⟩
    · cases q
    · rw [List.getElem?_set_ne (fun z => q z.symm)]; exact e.own j ds h
  · rcases get_set h1 with ⟨rfl, q⟩ | ⟨q1, h1⟩
    · cases q
    · rcases get_set h2 with ⟨rfl, q⟩ | ⟨q2, h2⟩
      · cases q
      · rw [List.getElem?_set_ne (fun z => q1 z.symm)] at h3
        rw [List.getElem?_set_ne (fun z => q2 z.symm)] at h4
        exact e.inj j k ds es p h1 h2 h3 h4
theorem EnvOk.setOwn {p : Addr} {ds : Oo} {vs : HO} (e : EnvOk G ua env σ B H) (hp : H p = some vs) (np : B p = none) (r : RepO G ua ds vs B) (nu : ua ≠ some p)
    (far : ∀ (j : Nat) es q, env[j]? = some (Sl.own es) → σ[j]? = some (some (V.ref q)) → j ≠ i → q ≠ p) : EnvOk G ua (env.set i (Sl.own ds)) (σ.set i (some (V.ref p))) B H := by
  refine ⟨by rw [List.length_set, List.length_set]; exact e.len, fun j d' h => ?_, fun j ds' h => ?_, fun j k ds' es q h1 h2 h3 h4 => ?_⟩
  · rcases get_set h with ⟨rfl, q⟩ | ⟨q, h⟩
    · cases q
    · rw [List.getElem?_set_ne (fun z => q z.symm)]; exact e.pub j d' h
  · have hl := lt_of_get h
    rw [List.length_set, e.len] at hl
    rcases get_set h with ⟨rfl, q⟩ | ⟨q, h⟩
    · cases q; exact ⟨p, vs, set_get hl, hp, np, r, nu⟩
    · rw [List.getElem?_set_ne (fun z => q z.symm)]; exact e.own j ds' h
  · rcases get_set h1 with ⟨rfl, q1⟩ | ⟨q1, g1⟩
    · rcases get_set h2 with ⟨rfl, q2⟩ | ⟨q2, g2⟩
      · rfl
      · rw [List.getElem?_set_ne (fun z => q2 z.symm)] at h4
        have hl := lt_of_get h3
        rw [List.length_set] at hl
        rw [set_get hl] at h3
        cases h3
        exact absurd rfl (far k es p g2 h4 q2)
    · rcases get_set h2 with ⟨rfl, q2⟩ | ⟨q2, g2⟩
      · rw [List.getElem?_set_ne (fun z => q1 z.symm)] at h3
        have hl := lt_of_get h4
        rw [List.length_set] at hl
        rw [set_get hl] at h4
        cases h4
        exact absurd rfl (far j ds' p g1 h3 q1)
      · rw [List.getElem?_set_ne (fun z => q1 z.symm)] at h3
        rw [List.getElem?_set_ne (fun z => q2 z.symm)] at h4
        exact e.inj j k ds' es q g1 g2 h3 h4
/-- forgotten slots -/
def wipeE (env : List Sl) : List Nat → List Sl
  | [] => env
  | v :: vs => (wipeE env vs).set v Sl.no
theorem EnvOk.wipe1 (e : EnvOk G ua env σ B H) (i : Nat) (o : Option V) : EnvOk G ua (env.set i Sl.no) (σ.set i o) B H := by
  refine ⟨by rw [List.length_set, List.length_set]; exact e.len, fun j d' h => ?_, fun j ds h => ?_, fun j k ds es p h1 h2 h3 h4 => ?_⟩
  · rcases get_set h with ⟨rfl, q⟩ | ⟨q, h⟩
    · cases q
    · rw [List.getElem?_set_ne (fun z => q z.symm)]; exact e.pub j d' h
  · rcases get_set h with ⟨rfl, q⟩ | ⟨q, h⟩
    · cases q
    · rw [List.getElem?_set_ne (fun z => q z.symm)]; exact e.own j ds h
  · rcases get_set h1 with ⟨rfl, q⟩ | ⟨q1, h1⟩
    · cases q
    · rcases get_set h2 with ⟨rfl, q⟩ | ⟨q2, h2⟩
      · cases q
      · rw [List.getElem?_set_ne (fun z => q1 z.symm)] at h3
        rw [List.getElem?_set_ne (fun z => q2 z.symm)] at h4
        exact e.inj j k ds es p h1 h2 h3 h4
theorem EnvOk.wipe (e : EnvOk G ua env σ B H) : ∀ vs : List Nat, EnvOk G ua (wipeE env vs) (wipe σ vs) B H
  | [] => e
  | v :: vs => by unfold wipeE L2.wipe; exact (e.wipe vs).wipe1 v none
end
end Dv
namespace Dv
open PySem PySem.Spec PyProof.Rows L2
def Aft {K : PySem.W.Frag} (G : Gx K) (ua : Option Addr) (B H : Hp) (u' : U) (d : D) : V → Hp → Prop := fun v H' => ∃ B', Grow ua B H B' H' ∧ Wd ua u' B' H' ∧ Rep G ua d v B'
theorem Aft.up {K : PySem.W.Frag} {G : Gx K} {ua : Option Addr} {B H B1 H1 H' : Hp} {u' : U} {d : D} {v : V} (g : Grow ua B H B1 H1) (a : Aft G ua B1 H1 u' d v H') : Aft G ua B H u' d v H' := by
  obtain ⟨B', g', w, r⟩ := a
  exact ⟨B', g.trans g', w, r⟩
theorem Aft.here {K : PySem.W.Frag} {G : Gx K} {ua : Option Addr} {B H : Hp} {u : U} {d : D} {v : V} (w : Wd ua u B H) (r : Rep G ua d v B) : Aft G ua B H u d v H := ⟨B, .refl, w, r⟩
theorem Aft.lst {K : PySem.W.Frag} {G : Gx K} {ua : Option Addr} {B H : Hp} {u : U} {ds : List D} {vs : List V} {p : Addr} (w : Wd ua u B H) (h : H p = none) (r : Reps G ua ds vs B) : Aft G ua B H u (.lst ds) (.ref p) (upd H p (.lst vs)) :=
  ⟨upd B p (.lst vs), .new1 w h, w.new1 h, by unfold Rep; exact ⟨p, vs, rfl, upd_same, r.mono _ _ (same_new (w.none_of h))⟩⟩
theorem Aft.tup {K : PySem.W.Frag} {G : Gx K} {ua : Option Addr} {B H : Hp} {u : U} {ds : List D} {vs : List V} {p : Addr} {o : Obj} (w : Wd ua u B H) (h : H p = none) (ho : o.dict = none) (r : Reps G ua ds vs B) : Aft G ua B H u (.tup ds) (.ref p) (upd H p (.frz o (.tup vs))) :=
  ⟨upd B p (.frz o (.tup vs)), .new1 w h, w.new1 h, by unfold Rep; exact ⟨p, vs, rfl, ⟨o, ho, upd_same⟩, r.mono _ _ (same_new (w.none_of h))⟩⟩
theorem Aft.pr {K : PySem.W.Frag} {G : Gx K} {ua : Option Addr} {B H : Hp} {u : U} {ds : List D} {vs : List V} {p : Addr} (w : Wd ua u B H) (h : H p = none) (r : Reps G ua ds vs B) : Aft G ua B H u (.pr ds) (.ref p) (upd H p (.tup vs)) :=
  ⟨upd B p (.tup vs), .new1 w h, w.new1 h, by unfold Rep; exact ⟨p, vs, rfl, upd_same, r.mono _ _ (same_new (w.none_of h))⟩⟩
section
variable {K : PySem.W.Frag} {G : Gx K} {ua : Option Addr} {B H : Hp} {v : V}
theorem Rep.int {i : Int} (r : Rep G ua (.int i) v B) : v = .int i := by unfold Rep at r; exact r
theorem Rep.bl {i : Bool} (r : Rep G ua (.bl i) v B) : v = .bl i := by unfold Rep at r; exact r
theorem Rep.str {i : Str} (r : Rep G ua (.str i) v B) : v = .str i := by unfold Rep at r; exact r
theorem Rep.non (r : Rep G ua .non v B) : v = .non := by unfold Rep at r; exact r
theorem Rep.lst {ds : List D} (r : Rep G ua (.lst ds) v B) : ∃ a vs, v = .ref a ∧ B a = some (.lst vs) ∧ Reps G ua ds vs B := by unfold Rep at r; exact r
theorem Rep.tup {ds : List D} (r : Rep G ua (.tup ds) v B) : ∃ a vs, v = .ref a ∧ TupB B a vs ∧ Reps G ua ds vs B := by unfold Rep at r; exact r
theorem Rep.pr {ds : List D} (r : Rep G ua (.pr ds) v B) : ∃ a vs, v = .ref a ∧ B a = some (.tup vs) ∧ Reps G ua ds vs B := by unfold Rep at r; exact r
theorem rep_int {i : Int} : Rep G ua (.int i) (.int i) B := by unfold Rep; rfl
theorem rep_bl {i : Bool} : Rep G ua (.bl i) (.bl i) B := by unfold Rep; rfl
theorem rep_str {i : Str} : Rep G ua (.str i) (.str i) B := by unfold Rep; rfl
theorem rep_non : Rep G ua .non .non B := by unfold Rep; rfl
end
mutual
def toPy : D → Option PyData
  | .non => some .none
  | .bl b => some (.bool b)
  | .int i => some (.int i)
  | .str x => some (.str x)
  | .lst ds => (toPys ds).map .list
  | .tup ds => (toPys ds).map .tuple
  | .ins _ _ _ => none
  | .exc _ _ _ => none
  | .fn _ => none
  | .dct _ _ => none
  | .dtt _ _ => none
  | .dtn _ _ => none
  | .pr ds => (toPys ds).map .tuple
  | .urn => none
def toPys : List D → Option (List PyData)
  | [] => some []
  | d :: ds => (toPy d).bind fun p => (toPys ds).map fun ps => p :: ps
end
section
variable {K : PySem.W.Frag} {G : Gx K} {ua : Option Addr} {B H : Hp}
mutual
theorem rep_dp (s : Same B H) : ∀ (d : D) (v : V) (p : PyData), toPy d = some p → Rep G ua d v B → Dp K H v p
  | .non, v, p, e, r => by
    unfold toPy at e; cases e; cases r.non; exact .non
  | .bl b, v, p, e, r => by
    unfold toPy at e; cases e; cases r.bl; exact .bl b
  | .int i, v, p, e, r => by
    unfold toPy at e; cases e; cases r.int; exact .int i
  | .str x, v, p, e, r => by
    unfold toPy at e; cases e; cases r.str; exact .str x
  | .lst ds, v, p, e, r => by
    unfold toPy at e
    obtain ⟨a, vs, rfl, h, rs⟩ := r.lst
    cases q : toPys ds with
    | none => rw [q] at e; cases e
    | some ps => rw [q] at e; cases e; exact .lst (.of (s _ _ h)) (reps_dp s ds vs ps q rs)
  | .tup ds, v, p, e, r => by
    unfold toPy at e
    obtain ⟨a, vs, rfl, h, rs⟩ := r.tup
    cases q : toPys ds with
    | none => rw [q] at e; cases e
    | some ps => rw [q] at e; cases e; exact .tup (h.mono s).sq (reps_dp s ds vs ps q rs)
  | .pr ds, v, p, e, r => by
    unfold toPy at e
    obtain ⟨a, vs, rfl, h, rs⟩ := r.pr
    cases q : toPys ds with
    | none => rw [q] at e; cases e
    | some ps => rw [q] at e; cases e; exact .tup (.of (s _ _ h)) (reps_dp s ds vs ps q rs)
  | .ins _ _ _, v, p, e, r => by unfold toPy at e; cases e
  | .exc _ _ _, v, p, e, r => by unfold toPy at e; cases e
  | .fn _, v, p, e, r => by unfold toPy at e; cases e
  | .dct _ _, v, p, e, r => by unfold toPy at e; cases e
  | .dtt _ _, v, p, e, r => by unfold toPy at e; cases e
  | .dtn _ _, v, p, e, r => by unfold toPy at e; cases e
  | .urn, v, p, e, r => by unfold toPy at e; cases e
theorem reps_dp (s : Same B H) : ∀ (ds : List D) (vs : List V) (ps : List PyData), toPys ds = some ps → Reps G ua ds vs B → DpAll K H vs ps
  | [], vs, ps, e, r => by
    unfold toPys at e; cases e; rw [r.of_nil]; exact .nil
  | d :: ds, vs, ps, e, r => by
    unfold toPys at e
    obtain ⟨v, t, rfl, r1, r2⟩ := r.of_cons
    cases q : toPy d with
    | none => rw [q] at e; cases e
    | some p =>
      cases q2 : toPys ds with
      | none => rw [q, q2] at e; cases e
      | some ps' => rw [q, q2] at e; cases e; exact .cons (rep_dp s d v p q r1) (reps_dp s ds t ps' q2 r2)
end
end
def fAdd : D → D → Option D
  | .int i, .int j => some (.int (i + j))
  | .str a, .str b => if a.length + b.length ≤ sizeLine then some (.str (a ++ b)) else none
  | .lst a, .lst b => if a.length + b.length ≤ sizeLine then some (.lst (a ++ b)) else none
  | .tup a, .tup b => if a.length + b.length ≤ sizeLine then some (.tup (a ++ b)) else none
  | _, _ => none
def fSub : D → D → Option D
  | .int i, .int j => some (.int (i - j))
  | _, _ => none
def fMul : D → D → Option D
  | .int i, .int j => if (-(2 ^ 64) < i ∧ i < 2 ^ 64) ∨ (-(2 ^ 64) < j ∧ j < 2 ^ 64) then some (.int (i * j)) else none
  | .lst a, .int k => if -(2 ^ 63) ≤ k ∧ k < 2 ^ 63 ∧ a.length * k.toNat ≤ sizeLine then some (.lst (List.replicate k.toNat a).flatten) else none
  | _, _ => none
def fMod : D → D → Option D
  | .int i, .int j => if 0 < j then some (.int (i % j)) else none
  | _, _ => none
def fDiv : D → D → Option D
  | .int i, .int j => if 0 < j ∧ j < 1073741824 then some (.int (i / j)) else none
  | _, _ => none
def fPow : D → D → Option D
  | .int i, .int j => if 0 ≤ j ∧ j ≤ 1000000 ∧ i.natAbs < 2 ^ 64 then some (.int (i ^ j.toNat)) else none
  | _, _ => none
def BinOk {X : Cx} (G : Gx X.K) (F : Value → Value → Sem Value) (f : D → D → Option D) : Prop :=
  ∀ (ua : Option Addr) (u : U) (B H : Hp) (da db d : D) (va vb : V), f da db = some d → Rep G ua da va B → Rep G ua db vb B → Wd ua u B H → ∃ r : R2, OpR X F r ∧ r va vb H (Aft G ua B H u d)
section
variable {X : Cx} {G : Gx X.K}
theorem ok_add : BinOk G (binaryOp .Add) fAdd := by
  intro ua u B H da db d va vb e ra rb w
  unfold fAdd at e
  split at e
  · cases e; cases ra.int; cases rb.int
    exact ⟨_, op_add, _, _, rfl, rfl, .here w rep_int⟩
  · split at e
    · cases e; cases ra.str; cases rb.str
      exact ⟨_, op_add_str, _, _, rfl, rfl, ‹_›, .here w rep_str⟩
    · cases e
  · split at e
    · cases e
      obtain ⟨a, xs, rfl, h1, r1⟩ := ra.lst
      obtain ⟨b, ys, rfl, h2, r2⟩ := rb.lst
      refine ⟨_, op_cat, a, b, xs, ys, rfl, rfl, w.sub _ _ h1, w.sub _ _ h2, by rw [← r1.len, ← r2.len]; assumption, fun p hp => .lst w hp (r1.append r2)⟩
    · cases e
  · split at e
    · cases e
      have ra' := ra
      have rb' := rb
      obtain ⟨a, xs, rfl, h1, r1⟩ := ra.tup
      obtain ⟨b, ys, rfl, h2, r2⟩ := rb.tup
      refine ⟨_, op_catF, a, b, xs, ys, rfl, rfl, (h1.mono w.sub).sq, (h2.mono w.sub).sq, by rw [← r1.len, ← r2.len]; assumption, fun hx => ?_, fun _ hy => ?_, fun _ _ p o hp ho => .tup w hp ho (r1.append r2)⟩
      · subst hx
        have e1 := r1.len
        rw [List.length_nil] at e1
        rw [List.eq_nil_of_length_eq_zero e1]
        exact .here w rb'
      · subst hy
        have e1 := r2.len
        rw [List.length_nil] at e1
        rw [List.eq_nil_of_length_eq_zero e1, List.append_nil]
        exact .here w ra'
    · cases e
  · cases e
theorem ok_sub : BinOk G (binaryOp .Sub) fSub := by
  intro ua u B H da db d va vb e ra rb w
  unfold fSub at e
  split at e
  · cases e; cases ra.int; cases rb.int
    exact ⟨_, op_sub, _, _, rfl, rfl, .here w rep_int⟩
  · cases e
theorem ok_mul : BinOk G (binaryOp .Mult) fMul := by
  intro ua u B H da db d va vb e ra rb w
  unfold fMul at e
  split at e
  · split at e
    · cases e; cases ra.int; cases rb.int
      exact ⟨_, op_mul, _, _, rfl, rfl, ‹_›, .here w rep_int⟩
    · cases e
  · split at e
    · rename_i k hk
      cases e
      cases rb.int
      obtain ⟨a, xs, rfl, h1, r1⟩ := ra.lst
      exact ⟨_, op_rep, a, _, xs, rfl, rfl, w.sub _ _ h1, hk.1, hk.2.1, by rw [← r1.len]; exact hk.2.2, fun p hp => .lst w hp (r1.replicate _)⟩
    · cases e
  · cases e
theorem ok_mod : BinOk G (binaryOp .Mod) fMod := by
  intro ua u B H da db d va vb e ra rb w
  unfold fMod at e
  split at e
  · split at e
    · cases e; cases ra.int; cases rb.int
      exact ⟨_, op_mod, _, _, rfl, rfl, ‹_›, .here w rep_int⟩
    · cases e
  · cases e
theorem ok_div : BinOk G (binaryOp .FloorDiv) fDiv := by
  intro ua u B H da db d va vb e ra rb w
  unfold fDiv at e
  split at e
  · split at e
    · cases e; cases ra.int; cases rb.int
      exact ⟨_, op_fdiv, _, _, rfl, rfl, ‹_›, .here w rep_int⟩
    · cases e
  · cases e
theorem ok_pow : BinOk G (binaryOp .Pow) fPow := by
  intro ua u B H da db d va vb e ra rb w
  unfold fPow at e
  split at e
  · split at e
    · cases e; cases ra.int; cases rb.int
      exact ⟨_, op_pow, _, _, rfl, rfl, ‹_›, .here w rep_int⟩
    · cases e
  · cases e
end
def eqD (a b : D) : Option Bool :=
  match a, b with
  | .int i, .int j => some (decide (i = j))
  | .str i, .str j => some (decide (i = j))
  | .bl i, .bl j => some (decide (i = j))
  | .non, .non => some true
  | a, b => match toPy a, toPy b with
    | some x, some y => if SeqAt.shaped x = true ∧ SeqAt.shaped y = true then some (PyData.eqv x y) else none
    | _, _ => none
def cEq (a b : D) : Option D := (eqD a b).map .bl
def cNe (a b : D) : Option D := (eqD a b).map fun k => .bl (!k)
def cLt : D → D → Option D
  | .int i, .int j => some (.bl (decide (i < j)))
  | .str i, .str j => some (.bl (decide (i.cps.toList < j.cps.toList)))
  | _, _ => none
def cLe : D → D → Option D
  | .int i, .int j => some (.bl (decide (i ≤ j)))
  | _, _ => none
def cGt : D → D → Option D
  | .int i, .int j => some (.bl (decide (j < i)))
  | _, _ => none
def cGe : D → D → Option D
  | .int i, .int j => some (.bl (decide (j ≤ i)))
  | _, _ => none
def cIs : D → D → Option D
  | .non, .non => some (.bl true)
  | _, .non => some (.bl false)
  | _, _ => none
def inD (a : D) : D → Option Bool
  | .str z => match a with
    | .str c => match c.cps.toList with
      | [k] => some (decide (k ∈ z.cps.toList))
      | _ => none
    | _ => none
  | .lst ds => match toPy a, toPys ds with
    | some x, some ys => if SeqAt.shaped x = true ∧ SeqAt.shaped (.list ys) = true then some (ys.any fun z => PyData.eqv z x) else none
    | _, _ => none
  | .tup ds => match toPy a, toPys ds with
    | some x, some ys => if SeqAt.shaped x = true ∧ SeqAt.shaped (.tuple ys) = true then some (ys.any fun z => PyData.eqv z x) else none
    | _, _ => none
  | _ => none
def cIn (a b : D) : Option D := (inD a b).map .bl
def cNotIn (a b : D) : Option D := (inD a b).map fun k => .bl (!k)
section
variable {X : Cx} {G : Gx X.K}
theorem rep_eqD {ua : Option Addr} {u : U} {B H : Hp} {a b : D} {k : Bool} {va vb : V} (e : eqD a b = some k) (ra : Rep G ua a va B) (rb : Rep G ua b vb B) (w : Wd ua u B H) :
    (scal va vb = true ∧ k = decide (va = vb)) ∨ ∃ d e, Dp X.K H va d ∧ Dp X.K H vb e ∧ SeqAt.shaped d = true ∧ SeqAt.shaped e = true ∧ k = PyData.eqv d e := by
  unfold eqD at e
  split at e
  · cases e; cases ra.int; cases rb.int; exact .inl ⟨rfl, by simp⟩
  · cases e; cases ra.str; cases rb.str; exact .inl ⟨rfl, by simp⟩
  · cases e; cases ra.bl; cases rb.bl; exact .inl ⟨rfl, by simp⟩
  · cases e; cases ra.non; cases rb.non; exact .inl ⟨rfl, by simp⟩
  · split at e
    · rename_i x y h1 h2
      split at e
      · rename_i h
        cases e
        exact .inr ⟨x, y, rep_dp w.sub _ _ _ h1 ra, rep_dp w.sub _ _ _ h2 rb, h.1, h.2, rfl⟩
      · cases e
    · cases e
theorem ok_eq (hu : X.A.units + 64 < cLine) : BinOk G (compareOp .Eq) cEq := by
  intro ua u B H da db d va vb e ra rb w
  unfold cEq at e
  cases q : eqD da db with
  | none => rw [q] at e; cases e
  | some k =>
    rw [q] at e; cases e
    rcases rep_eqD q ra rb w with ⟨h1, rfl⟩ | ⟨x, y, h1, h2, h3, h4, rfl⟩
    · exact ⟨_, op_eq, h1, .here w rep_bl⟩
    · exact ⟨_, op_eqD hu, x, y, h1, h2, h3, h4, .here w rep_bl⟩
theorem ok_ne (hu : X.A.units + 64 < cLine) : BinOk G (compareOp .NotEq) cNe := by
  intro ua u B H da db d va vb e ra rb w
  unfold cNe at e
  cases q : eqD da db with
  | none => rw [q] at e; cases e
  | some k =>
    rw [q] at e; cases e
    rcases rep_eqD q ra rb w with ⟨h1, rfl⟩ | ⟨x, y, h1, h2, h3, h4, rfl⟩
    · exact ⟨_, op_ne, h1, .here w rep_bl⟩
    · exact ⟨_, op_neD hu, x, y, h1, h2, h3, h4, .here w rep_bl⟩
theorem ok_lt : BinOk G (compareOp .Lt) cLt := by
  intro ua u B H da db d va vb e ra rb w
  unfold cLt at e
  split at e
  · cases e; cases ra.int; cases rb.int
    exact ⟨_, op_lt, _, _, rfl, rfl, .here w rep_bl⟩
  · cases e; cases ra.str; cases rb.str
    exact ⟨_, op_lt_str, _, _, rfl, rfl, .here w rep_bl⟩
  · cases e
theorem ok_le : BinOk G (compareOp .LtE) cLe := by
  intro ua u B H da db d va vb e ra rb w
  unfold cLe at e
  split at e
  · cases e; cases ra.int; cases rb.int
    exact ⟨_, op_le, _, _, rfl, rfl, .here w rep_bl⟩
  · cases e
theorem ok_gt : BinOk G (compareOp .Gt) cGt := by
  intro ua u B H da db d va vb e ra rb w
  unfold cGt at e
  split at e
  · cases e; cases ra.int; cases rb.int
    exact ⟨_, op_gt, _, _, rfl, rfl, .here w rep_bl⟩
  · cases e
theorem ok_ge : BinOk G (compareOp .GtE) cGe := by
  intro ua u B H da db d va vb e ra rb w
  unfold cGe at e
  split at e
  · cases e; cases ra.int; cases rb.int
    exact ⟨_, op_ge, _, _, rfl, rfl, .here w rep_bl⟩
  · cases e
theorem rep_nn {ua : Option Addr} {B : Hp} {d : D} {v : V} (r : Rep G ua d v B) : v = .non ↔ d = .non := by
  cases d with
  | non => cases r.non; simp
  | bl b => cases r.bl; simp
  | int b => cases r.int; simp
  | str b => cases r.str; simp
  | lst b => obtain ⟨a, vs, rfl, _⟩ := r.lst; simp
  | tup b => obtain ⟨a, vs, rfl, _⟩ := r.tup; simp
  | pr b => obtain ⟨a, vs, rfl, _⟩ := r.pr; simp
  | ins c n x => unfold Rep at r; obtain ⟨a, C, dx, vs, rfl, _⟩ := r; simp
  | exc c n x => unfold Rep at r; obtain ⟨a, C, dx, vs, rfl, _⟩ := r; simp
  | fn x => unfold Rep at r; obtain ⟨a, _, rfl⟩ := r; simp
  | dct k x => unfold Rep at r; obtain ⟨a, vs, rfl, _⟩ := r; simp
  | dtt k x => unfold Rep at r; obtain ⟨a, vs, o, rfl, _⟩ := r; simp
  | dtn k x => unfold Rep at r; obtain ⟨a, vs, o, rfl, _⟩ := r; simp
  | urn => unfold Rep at r; obtain ⟨a, _, rfl⟩ := r; simp
theorem ok_is : BinOk G (compareOp .Is) cIs := by
  intro ua u B H da db d va vb e ra rb w
  unfold cIs at e
  split at e
  · cases e; cases ra.non; cases rb.non
    exact ⟨_, op_isN, rfl, .here w rep_bl⟩
  · rename_i hn
    cases e; cases rb.non
    refine ⟨_, op_isN, rfl, .here w ?_⟩
    rw [decide_eq_false (fun z => hn ((rep_nn ra).mp z))]
    exact rep_bl
  · cases e
def rInT (K : PySem.W.Frag) : R2 := fun x y H Q => ∃ d ds, Dp K H x d ∧ Dp K H y (.tuple ds) ∧ SeqAt.shaped d = true ∧ SeqAt.shaped (.tuple ds) = true ∧ Q (.bl (ds.any fun z => PyData.eqv z d)) H
def rNotInT (K : PySem.W.Frag) : R2 := fun x y H Q => ∃ d ds, Dp K H x d ∧ Dp K H y (.tuple ds) ∧ SeqAt.shaped d = true ∧ SeqAt.shaped (.tuple ds) = true ∧ Q (.bl (!ds.any fun z => PyData.eqv z d)) H
theorem op_inT (hu : X.A.units + 65 < cLine) : OpR X (compareOp .In) (rInT X.K) := by
  intro pins s σ H x y v u Q I rx ry h
  obtain ⟨d, ds, hd, he, sd, se, q⟩ := h
  obtain ⟨as, r1⟩ := Dp.reads I d x v hd rx
  obtain ⟨bs, r2⟩ := Dp.reads I (.tuple ds) y u he ry
  exact SeqAt.in_tuple_reads r2 r1 (SeqAt.canLay_of_shaped se) (SeqAt.canLay_of_shaped sd) (room_in_shaped sd hu) ⟨.bl _, H, I, rfl, q⟩
theorem op_notInT (hu : X.A.units + 65 < cLine) : OpR X (compareOp .NotIn) (rNotInT X.K) := by
  intro pins s σ H x y v u Q I rx ry h
  obtain ⟨d, ds, hd, he, sd, se, q⟩ := h
  obtain ⟨as, r1⟩ := Dp.reads I d x v hd rx
  obtain ⟨bs, r2⟩ := Dp.reads I (.tuple ds) y u he ry
  exact SeqAt.notIn_tuple_reads r2 r1 (SeqAt.canLay_of_shaped se) (SeqAt.canLay_of_shaped sd) (room_in_shaped sd hu) ⟨.bl _, H, I, rfl, q⟩
theorem rep_inD {ua : Option Addr} {u : U} {B H : Hp} {a b : D} {k : Bool} {va vb : V} (e : inD a b = some k) (ra : Rep G ua a va B) (rb : Rep G ua b vb B) (w : Wd ua u B H) :
    (∃ (c : Nat) (z : Str), va = .str ⟨#[c]⟩ ∧ vb = .str z ∧ k = decide (c ∈ z.cps.toList)) ∨
    (∃ d ds, Dp X.K H va d ∧ Dp X.K H vb (.list ds) ∧ SeqAt.shaped d = true ∧ SeqAt.shaped (.list ds) = true ∧ k = ds.any fun z => PyData.eqv z d) ∨
    (∃ d ds, Dp X.K H va d ∧ Dp X.K H vb (.tuple ds) ∧ SeqAt.shaped d = true ∧ SeqAt.shaped (.tuple ds) = true ∧ k = ds.any fun z => PyData.eqv z d) := by
  unfold inD at e
  split at e
  · split at e
    · split at e
      · rename_i c _ x hc
        cases e; cases ra.str; cases rb.str
        refine .inl ⟨x, _, ?_, rfl, rfl⟩
        obtain ⟨cp⟩ := c
        have : cp = #[x] := by
          have := congrArg List.toArray hc
          simpa using this
        rw [this]
      · cases e
    · cases e
  · split at e
    · rename_i ds _ _ x ys h1 h2
      split at e
      · rename_i h
        cases e
        refine .inr (.inl ⟨x, ys, rep_dp w.sub _ _ _ h1 ra, rep_dp w.sub (.lst ds) _ _ ?_ rb, h.1, h.2, rfl⟩)
        unfold toPy; rw [h2]; rfl
      · cases e
    · cases e
  · split at e
    · rename_i ds _ _ x ys h1 h2
      split at e
      · rename_i h
        cases e
        refine .inr (.inr ⟨x, ys, rep_dp w.sub _ _ _ h1 ra, rep_dp w.sub (.tup ds) _ _ ?_ rb, h.1, h.2, rfl⟩)
        unfold toPy; rw [h2]; rfl
      · cases e
    · cases e
  · cases e
theorem ok_in (hu : X.A.units + 65 < cLine) : BinOk G (compareOp .In) cIn := by
  intro ua u B H da db d va vb e ra rb w
  unfold cIn at e
  cases q : inD da db with
  | none => rw [q] at e; cases e
  | some k =>
    rw [q] at e; cases e
    rcases rep_inD q ra rb w with ⟨c, z, rfl, rfl, rfl⟩ | ⟨x, ys, h1, h2, h3, h4, rfl⟩ | ⟨x, ys, h1, h2, h3, h4, rfl⟩
    · exact ⟨_, op_in_sign, c, z, rfl, rfl, .here w rep_bl⟩
    · exact ⟨_, op_inD hu, x, ys, h1, h2, h3, h4, .here w rep_bl⟩
    · exact ⟨_, op_inT hu, x, ys, h1, h2, h3, h4, .here w rep_bl⟩
theorem ok_notin (hu : X.A.units + 65 < cLine) : BinOk G (compareOp .NotIn) cNotIn := by
  intro ua u B H da db d va vb e ra rb w
  unfold cNotIn at e
  cases q : inD da db with
  | none => rw [q] at e; cases e
  | some k =>
    rw [q] at e; cases e
    rcases rep_inD q ra rb w with ⟨c, z, rfl, rfl, rfl⟩ | ⟨x, ys, h1, h2, h3, h4, rfl⟩ | ⟨x, ys, h1, h2, h3, h4, rfl⟩
    · exact ⟨_, op_notIn_sign, c, z, rfl, rfl, .here w rep_bl⟩
    · exact ⟨_, op_notInD hu, x, ys, h1, h2, h3, h4, .here w rep_bl⟩
    · exact ⟨_, op_notInT hu, x, ys, h1, h2, h3, h4, .here w rep_bl⟩
end
def truD : D → Option Bool
  | .non => some false
  | .bl b => some b
  | .int i => some (i != 0)
  | .str x => if x.length ≤ sizeLine then some ((x.length : Int) != 0) else none
  | .lst ds => some (!ds.isEmpty)
  | .tup ds => some (!ds.isEmpty)
  | _ => none
theorem rep_tru {X : Cx} {G : Gx X.K} {ua : Option Addr} {u : U} {B H : Hp} {d : D} {k : Bool} {v : V} (e : truD d = some k) (r : Rep G ua d v B) (w : Wd ua u B H) : TruV X.K v H k := by
  cases d with
  | non => cases r.non; unfold truD at e; cases e; rfl
  | bl b => cases r.bl; unfold truD at e; cases e; rfl
  | int i => cases r.int; unfold truD at e; cases e; rfl
  | str x =>
    cases r.str
    simp only [truD] at e
    split at e
    · cases e; exact ⟨‹_›, rfl⟩
    · cases e
  | lst ds =>
    obtain ⟨a, vs, rfl, h, rs⟩ := r.lst
    unfold truD at e; cases e
    refine .inl ⟨vs, .of (w.sub _ _ h), ?_⟩
    have := rs.len
    cases ds <;> cases vs <;> simp_all
  | tup ds =>
    obtain ⟨a, vs, rfl, h, rs⟩ := r.tup
    unfold truD at e; cases e
    refine .inr (.inl ⟨vs, (h.mono w.sub).sq, ?_⟩)
    have := rs.len
    cases ds <;> cases vs <;> simp_all
  | pr ds => unfold truD at e; cases e
  | ins c n x => unfold truD at e; cases e
  | exc c n x => unfold truD at e; cases e
  | fn x => unfold truD at e; cases e
  | dct k x => unfold truD at e; cases e
  | dtt k x => unfold truD at e; cases e
  | dtn k x => unfold truD at e; cases e
  | urn => unfold truD at e; cases e
end Dv
namespace Dv
open PySem PySem.Spec PyProof.Rows L2
abbrev M := List Sl → U → Option (D × U)
abbrev Ms := List Sl → U → Option (List D × U)
abbrev MB := List Sl → U → Option (Bool × U)
def bnd {α β : Type} (m : Option (α × U)) (k : α → U → Option β) : Option β := match m with
  | none => none
  | some (a, u) => k a u
theorem bnd_some {α β : Type} {m : Option (α × U)} {k : α → U → Option β} {b : β} (h : bnd m k = some b) : ∃ a u, m = some (a, u) ∧ k a u = some b := by
  unfold bnd at h
  split at h
  · cases h
  · exact ⟨_, _, rfl, h⟩
def lft {α : Type} (o : Option α) (u : U) : Option (α × U) := match o with
  | none => none
  | some a => some (a, u)
theorem lft_some {α : Type} {o : Option α} {u u' : U} {a : α} (h : lft o u = some (a, u')) : o = some a ∧ u' = u := by
  unfold lft at h
  split at h
  · cases h
  · cases h; exact ⟨rfl, rfl⟩
theorem _root_.L2.PE.imp {X : Cx} {e : Expr} {t t' : TE} (h : PE X e t) (i : ∀ σ H Q, t' σ H Q → t σ H Q) : PE X e t' := ⟨fun pins s σ H Q I q => h.run pins s σ H Q I (i σ H Q q)⟩
theorem _root_.L2.PT.imp {X : Cx} {e : Expr} {t t' : TT} (h : PT X e t) (i : ∀ σ H Q, t' σ H Q → t σ H Q) : PT X e t' := ⟨fun pins s σ H Q I q => h.run pins s σ H Q I (i σ H Q q)⟩
theorem _root_.L2.PW.imp {X : Cx} {e : Expr} {t t' : TT} (h : PW X e t) (i : ∀ σ H Q, t' σ H Q → t σ H Q) : PW X e t' := ⟨fun wh pins s σ H Q I q => h.run wh pins s σ H Q I (i σ H Q q)⟩
theorem _root_.L2.PA.imp {X : Cx} {e : List Expr} {t t' : TA} (h : PA X e t) (i : ∀ σ H Q, t' σ H Q → t σ H Q) : PA X e t' := ⟨fun p pins s σ H Q I q => h.run p pins s σ H Q I (i σ H Q q)⟩
theorem _root_.L2.PI.imp {X : Cx} {g e : Expr} {t t' : TI} (h : PI X g e t) (i : ∀ σ H Q, t' σ H Q → t σ H Q) : PI X g e t' := ⟨fun pins s σ H Q I q => h.run pins s σ H Q I (i σ H Q q)⟩
theorem _root_.L2.PI.by {X : Cx} {g e : Expr} {t' : TI} (i : ∀ σ H Q, t' σ H Q → ∃ t, PI X g e t ∧ t σ H Q) : PI X g e t' := ⟨fun pins s σ H Q I q => by
  obtain ⟨t, h, q⟩ := i σ H Q q
  exact h.run pins s σ H Q I q⟩
theorem _root_.L2.PE.by {X : Cx} {e : Expr} {t' : TE} (i : ∀ σ H Q, t' σ H Q → ∃ t, PE X e t ∧ t σ H Q) : PE X e t' := ⟨fun pins s σ H Q I q => by
  obtain ⟨t, h, q⟩ := i σ H Q q
  exact h.run pins s σ H Q I q⟩
section
variable {K : PySem.W.Frag} (G : Gx K)
def tEv (m : M) : TE := fun σ H Q => ∃ ua u B env d u', EnvOk G ua env σ B H ∧ Wd ua u B H ∧ m env u = some (d, u') ∧ ∀ v H', Aft G ua B H u' d v H' → Q v H'
def Afts (ua : Option Addr) (B H : Hp) (u' : U) (ds : List D) : List V → Hp → Prop := fun vs H' => ∃ B', Grow ua B H B' H' ∧ Wd ua u' B' H' ∧ Reps G ua ds vs B'
def tEvs (m : Ms) : TA := fun σ H Q => ∃ ua u B env ds u', EnvOk G ua env σ B H ∧ Wd ua u B H ∧ m env u = some (ds, u') ∧ ∀ vs H', Afts G ua B H u' ds vs H' → Q vs H'
def AftB (ua : Option Addr) (B H : Hp) (u' : U) (H' : Hp) : Prop := ∃ B', Grow ua B H B' H' ∧ Wd ua u' B' H'
def tTst (m : MB) : TT := fun σ H Q => ∃ ua u B env b u', EnvOk G ua env σ B H ∧ Wd ua u B H ∧ m env u = some (b, u') ∧ ∀ H', AftB ua B H u' H' → Q b H'
end
section
variable {X : Cx} {G : Gx X.K} {a b c e : Expr} {es : List Expr} {ma mb mc : M} {ms : Ms} {pos : Pos}
def mVar (i : Nat) : M := fun env u => match env[i]? with
  | some (.pub d) => some (d, u)
  | _ => none
def mC (d : D) : M := fun _ u => some (d, u)
theorem dv_var (i : Nat) {x : Str} {pos : Pos} (hN : X.N[i]? = some x := by rfl) (hv : Vis X.env.scope x := by first | exact Or.inl rfl | exact Or.inr (Or.inl rfl) | exact Or.inr (Or.inr rfl)) (hd : (x == ("__debug__" : Str)) = false := by decide)
    (hcd : (x == ("__classdict__" : Str)) = false := by decide) : PE X (.Name x pos) (tEv G (mVar i)) := by
  refine (pe_var hN hv hd hcd).imp fun σ H Q h => ?_
  obtain ⟨ua, u, B, env, d, u', hE, hW, hm, q⟩ := h
  unfold mVar at hm
  split at hm
  · rename_i h
    cases hm
    obtain ⟨v, h1, h2⟩ := hE.pub _ _ h
    exact ⟨v, h1, q v H (.here hW h2)⟩
  · cases hm
/-- a constant's value stands for its data in any heap -/
theorem dv_c {t : TE} {v : V} {d : D} (h : PE X e (tC v)) (r : ∀ ua B, Rep G ua d v B) : PE X e (tEv G (mC d)) := by
  refine h.imp fun σ H Q h => ?_
  obtain ⟨ua, u, B, env, d', u', hE, hW, hm, q⟩ := h
  cases hm
  exact q v H (.here hW (r ua B))
theorem dv_int {i j} : PE X (.Constant (.int i) j pos) (tEv G (mC (.int i))) := dv_c (t := tC .non) pe_int fun _ _ => rep_int
theorem dv_bl {i j} : PE X (.Constant (.bool i) j pos) (tEv G (mC (.bl i))) := dv_c (t := tC .non) pe_bl fun _ _ => rep_bl
theorem dv_str {i j} : PE X (.Constant (.str i) j pos) (tEv G (mC (.str i))) := dv_c (t := tC .non) pe_str fun _ _ => rep_str
theorem dv_non {j} : PE X (.Constant .none j pos) (tEv G (mC .non)) := dv_c (t := tC .non) pe_non fun _ _ => rep_non
theorem dv_globS {x : Str} {z : Str} {t : Tok} {pos : Pos} (hg : Gl X x) (hm : X.mg x = some (.str z t)) (hd : (x == ("__debug__" : Str)) = false := by decide) : PE X (.Name x pos) (tEv G (mC (.str z))) :=
  dv_c (t := tC .non) (pe_glob (v := .str z) hg hm ⟨_, rfl⟩ hd) fun _ _ => rep_str
def mNil : Ms := fun _ u => some ([], u)
def mCons (m : M) (r : Ms) : Ms := fun env u => bnd (m env u) fun d u1 => bnd (r env u1) fun ds u2 => some (d :: ds, u2)
theorem dvs_nil : PA X [] (tEvs G mNil) := by
  refine pa_nil.imp fun σ H Q h => ?_
  obtain ⟨ua, u, B, env, ds, u', hE, hW, hm, q⟩ := h
  cases hm
  exact q [] H ⟨B, .refl, hW, .nil⟩
theorem dvs_cons (ha : PE X e (tEv G ma)) (hr : PA X es (tEvs G ms)) (hs : starEach (e :: es) X.env = (false, eval e X.env) :: starEach es X.env := by rfl) : PA X (e :: es) (tEvs G (mCons ma ms)) := by
  refine (pa_cons ha hr hs).imp fun σ H Q h => ?_
  obtain ⟨ua, u, B, env, ds, u', hE, hW, hm, q⟩ := h
  obtain ⟨d, u1, h1, h2⟩ := bnd_some hm
  obtain ⟨ds', u2, h2, h3⟩ := bnd_some h2
  cases h3
  refine ⟨ua, u, B, env, d, u1, hE, hW, h1, fun v H1 ⟨B1, g1, w1, r1⟩ => ⟨ua, u1, B1, env, ds', _, hE.grow g1, w1, h2, fun vs H2 ⟨B2, g2, w2, r2⟩ => q _ _ ⟨B2, g1.trans g2, w2, .cons (r1.mono _ _ g2.pub) r2⟩⟩⟩
def mLst (m : Ms) : M := fun env u => bnd (m env u) fun ds u1 => if ds.length ≤ sizeLine then some (.lst ds, u1) else none
def mTup (m : Ms) : M := fun env u => bnd (m env u) fun ds u1 => if ds.length ≤ sizeLine then some (.tup ds, u1) else none
theorem dv_lst (h : PA X es (tEvs G ms)) : PE X (.List es pos) (tEv G (mLst ms)) := by
  refine (pe_lst h).imp fun σ H Q h => ?_
  obtain ⟨ua, u, B, env, d, u', hE, hW, hm, q⟩ := h
  obtain ⟨ds, u1, h1, h2⟩ := bnd_some hm
  split at h2
  · cases h2
    refine ⟨ua, u, B, env, ds, _, hE, hW, h1, fun vs H1 ⟨B1, g1, w1, r1⟩ => ⟨by rw [← r1.len]; assumption, fun p hp => q _ _ (.up g1 (.lst w1 hp r1))⟩⟩
  · cases h2
theorem dv_tup {k : Nat} (h : PA X es (tEvs G ms)) : PE X (.Tuple es k pos) (tEv G (mTup ms)) := by
  refine (pe_tupF h).imp fun σ H Q h => ?_
  obtain ⟨ua, u, B, env, d, u', hE, hW, hm, q⟩ := h
  obtain ⟨ds, u1, h1, h2⟩ := bnd_some hm
  split at h2
  · cases h2
    refine ⟨ua, u, B, env, ds, _, hE, hW, h1, fun vs H1 ⟨B1, g1, w1, r1⟩ => ⟨by rw [← r1.len]; assumption, fun p o hp ho => q _ _ (.up g1 (.tup w1 hp ho r1))⟩⟩
  · cases h2
def rBin (G : Gx X.K) (f : D → D → Option D) : R2 := fun x y H Q => ∃ ua u B da db d, f da db = some d ∧ Rep G ua da x B ∧ Rep G ua db y B ∧ Wd ua u B H ∧ ∀ v H', Aft G ua B H u d v H' → Q v H'
theorem op_of {F : Value → Value → Sem Value} {f : D → D → Option D} (hf : BinOk G F f) : OpR X F (rBin G f) := by
  intro pins s σ H x y v u Q I rx ry h
  obtain ⟨ua, u0, B, da, db, d, e, ra, rb, w, q⟩ := h
  obtain ⟨r, ho, hr⟩ := hf ua u0 B H da db d x y e ra rb w
  exact thn (ho pins s σ H x y v u _ I rx ry hr) fun v s ⟨z, H', I', r', a⟩ => ⟨z, H', I', r', q _ _ a⟩
def mBin (f : D → D → Option D) (a b : M) : M := fun env u => bnd (a env u) fun x u1 => bnd (b env u1) fun y u2 => lft (f x y) u2
theorem bin_read {f : D → D → Option D} {σ : L2.St} {H : Hp} {Q : VK} (h : tEv G (mBin f ma mb) σ H Q) : tOp (rBin G f) (tEv G ma) (tEv G mb) σ H Q := by
  obtain ⟨ua, u, B, env, d, u', hE, hW, hm, q⟩ := h
  obtain ⟨x, u1, h1, h2⟩ := bnd_some hm
  obtain ⟨y, u2, h2, h3⟩ := bnd_some h2
  obtain ⟨l3, rfl⟩ := lft_some h3
  exact ⟨ua, u, B, env, x, u1, hE, hW, h1, fun v H1 ⟨B1, g1, w1, r1⟩ => ⟨ua, u1, B1, env, y, u', hE.grow g1, w1, h2, fun v2 H2 ⟨B2, g2, w2, r2⟩ =>
    ⟨ua, u', B2, x, y, d, l3, r1.mono _ _ g2.pub, r2, w2, fun v3 H3 a => q v3 H3 (.up g1 (.up g2 a))⟩⟩⟩
theorem dv_bin {op : Operator} {f : D → D → Option D} (hf : BinOk G (binaryOp op) f) (ha : PE X a (tEv G ma)) (hb : PE X b (tEv G mb)) : PE X (.BinOp a op b pos) (tEv G (mBin f ma mb)) :=
  (pe_op (op_of hf) ha hb).imp fun _ _ _ h => bin_read h
theorem dv_cmp {op : CmpOp} {f : D → D → Option D} (hf : BinOk G (compareOp op) f) (ha : PE X a (tEv G ma)) (hb : PE X b (tEv G mb)) (hm : behindInMarks op b = false := by rfl) : PE X (.Compare a [op] [b] pos) (tEv G (mBin f ma mb)) :=
  (pe_cmpR (op_of hf) ha hb hm).imp fun _ _ _ h => bin_read h
def mNeg (a : M) : M := fun env u => bnd (a env u) fun x u1 => match x with
  | .int i => some (.int (-i), u1)
  | _ => none
theorem dv_neg (ha : PE X a (tEv G ma)) : PE X (.UnaryOp .USub a pos) (tEv G (mNeg ma)) := by
  refine (pe_un un_neg ha).imp fun σ H Q h => ?_
  obtain ⟨ua, u, B, env, d, u', hE, hW, hm, q⟩ := h
  obtain ⟨x, u1, h1, h2⟩ := bnd_some hm
  split at h2
  · cases h2
    refine ⟨ua, u, B, env, _, _, hE, hW, h1, fun v H1 ⟨B1, g1, w1, r1⟩ => ?_⟩
    cases r1.int
    exact ⟨_, rfl, q _ _ ⟨B1, g1, w1, rep_int⟩⟩
  · cases h2
/-- what gives a bool -/
def BoolF (f : D → D → Option D) : Prop := ∀ x y d, f x y = some d → ∃ k, d = .bl k
theorem bf_eq : BoolF cEq := fun x y d h => by unfold cEq at h; cases q : eqD x y with | none => rw [q] at h; cases h | some k => rw [q] at h; cases h; exact ⟨_, rfl⟩
theorem bf_ne : BoolF cNe := fun x y d h => by unfold cNe at h; cases q : eqD x y with | none => rw [q] at h; cases h | some k => rw [q] at h; cases h; exact ⟨_, rfl⟩
theorem bf_notin : BoolF cNotIn := fun x y d h => by unfold cNotIn at h; cases q : inD x y with | none => rw [q] at h; cases h | some k => rw [q] at h; cases h; exact ⟨_, rfl⟩
theorem bf_lt : BoolF cLt := fun x y d h => by unfold cLt at h; split at h <;> cases h <;> exact ⟨_, rfl⟩
theorem bf_le : BoolF cLe := fun x y d h => by unfold cLe at h; split at h <;> cases h <;> exact ⟨_, rfl⟩
theorem bf_gt : BoolF cGt := fun x y d h => by unfold cGt at h; split at h <;> cases h <;> exact ⟨_, rfl⟩
theorem bf_is : BoolF cIs := fun x y d h => by unfold cIs at h; split at h <;> cases h <;> exact ⟨_, rfl⟩
/-- a op b op' c -/
def mChain (f g : D → D → Option D) (a b c : M) : M := fun env u => bnd (a env u) fun x u1 => bnd (b env u1) fun y u2 => match f x y with
  | some (.bl true) => bnd (c env u2) fun z u3 => lft (g y z) u3
  | some (.bl false) => some (.bl false, u2)
  | _ => none
def mTru (a : M) : MB := fun env u => bnd (a env u) fun x u1 => lft (truD x) u1
theorem dt_val (ha : PE X a (tEv G ma)) (he : ∀ whole, isTrue a X.env whole = (do let v ← whole; standAt a.pos; holding [v] (truthy v)) := by intro _; rfl) : PT X a (tTst G (mTru ma)) := by
  refine (pt_truth ha he).imp fun σ H Q h => ?_
  obtain ⟨ua, u, B, env, d, u', hE, hW, hm, q⟩ := h
  obtain ⟨x, u1, h1, h2⟩ := bnd_some hm
  obtain ⟨l2, rfl⟩ := lft_some h2
  exact ⟨ua, u, B, env, x, u', hE, hW, h1, fun v H1 ⟨B1, g1, w1, r1⟩ => ⟨d, rep_tru l2 r1 w1, q _ ⟨B1, g1, w1⟩⟩⟩
theorem dt_cmp {op : CmpOp} {f : D → D → Option D} (hf : BinOk G (compareOp op) f) (bf : BoolF f) (ha : PE X a (tEv G ma)) (hb : PE X b (tEv G mb)) (hm : behindInMarks op b = false := by rfl) : PT X (.Compare a [op] [b] pos) (tTst G (mTru (mBin f ma mb))) := by
  refine (pt_cmpR (op_of hf) ha hb hm).imp fun σ H Q h => ?_
  obtain ⟨ua, u, B, env, d, u', hE, hW, hm, q⟩ := h
  obtain ⟨x, u1, h1, h2⟩ := bnd_some hm
  obtain ⟨l2, rfl⟩ := lft_some h2
  obtain ⟨k, rfl⟩ : ∃ k, x = .bl k := by
    obtain ⟨x1, u3, h3, h4⟩ := bnd_some h1
    obtain ⟨x2, u4, h4, h5⟩ := bnd_some h4
    exact bf _ _ _ (lft_some h5).1
  unfold truD at l2; cases l2
  refine bin_read ⟨ua, u, B, env, _, u', hE, hW, h1, fun v H1 ⟨B1, g1, w1, r1⟩ => ?_⟩
  cases r1.bl
  exact ⟨_, rfl, q _ ⟨B1, g1, w1⟩⟩
theorem dt_chain {op op' : CmpOp} {f g : D → D → Option D} (hf : BinOk G (compareOp op) f) (hg : BinOk G (compareOp op') g) (bg : BoolF g) (ha : PE X a (tEv G ma)) (hb : PE X b (tEv G mb)) (hc : PE X c (tEv G mc))
    (hm : lastMarks [op, op'] [b, c] = false := by with_unfolding_all rfl) : PT X (.Compare a [op, op'] [b, c] pos) (tTst G (mTru (mChain f g ma mb mc))) := by
  refine (pt_chain (op_of hf) (op_of hg) ha hb hc hm).imp fun σ H Q h => ?_
  obtain ⟨ua, u, B, env, d, u', hE, hW, hm, q⟩ := h
  obtain ⟨x0, u0, h1, h2⟩ := bnd_some hm
  obtain ⟨h0, rfl⟩ := lft_some h2
  obtain ⟨x, u1, h1, h2⟩ := bnd_some h1
  obtain ⟨y, u2, h2, h3⟩ := bnd_some h2
  refine ⟨ua, u, B, env, x, u1, hE, hW, h1, fun v H1 ⟨B1, g1, w1, r1⟩ => ⟨ua, u1, B1, env, y, u2, hE.grow g1, w1, h2, fun v2 H2 ⟨B2, g2, w2, r2⟩ => ?_⟩⟩
  split at h3
  · rename_i hk
    obtain ⟨z, u3, h4, h5⟩ := bnd_some h3
    obtain ⟨l5, rfl⟩ := lft_some h5
    refine ⟨ua, u2, B2, x, y, _, hk, r1.mono _ _ g2.pub, r2, w2, fun v3 H3 a3 => ?_⟩
    obtain ⟨B3, g3, w3, r3⟩ := a3
    cases r3.bl
    refine ⟨true, rfl, ?_⟩
    rw [if_pos rfl]
    refine ⟨ua, u2, B3, env, z, u', (hE.grow (g1.trans g2)).grow g3, w3, h4, fun v4 H4 ⟨B4, g4, w4, r4⟩ => ?_⟩
    refine ⟨ua, u', B4, y, z, x0, l5, (r2.mono _ _ g3.pub).mono _ _ g4.pub, r4, w4, fun v5 H5 a5 => ?_⟩
    obtain ⟨k, rfl⟩ := bg _ _ _ l5
    unfold truD at h0; cases h0
    obtain ⟨B5, g5, w5, r5⟩ := a5
    cases r5.bl
    exact ⟨_, rfl, q _ ⟨B5, g1.trans (g2.trans (g3.trans (g4.trans g5))), w5⟩⟩
  · rename_i hk
    cases h3
    unfold truD at h0; cases h0
    refine ⟨ua, _, B2, x, y, _, hk, r1.mono _ _ g2.pub, r2, w2, fun v3 H3 a3 => ?_⟩
    obtain ⟨B3, g3, w3, r3⟩ := a3
    cases r3.bl
    refine ⟨false, rfl, ?_⟩
    rw [if_neg Bool.false_ne_true]
    exact ⟨false, rfl, q _ ⟨B3, g1.trans (g2.trans g3), w3⟩⟩
  · cases h3
variable {na nb : MB} {rest : List Expr}
def mNotB (a : MB) : MB := fun env u => bnd (a env u) fun k u1 => some (!k, u1)
def mAndB (a b : MB) : MB := fun env u => bnd (a env u) fun k u1 => if k = true then b env u1 else some (false, u1)
def mOrB (a b : MB) : MB := fun env u => bnd (a env u) fun k u1 => if k = true then some (true, u1) else b env u1
theorem dt_not (ha : PT X a (tTst G na)) : PT X (.UnaryOp .Not a pos) (tTst G (mNotB na)) := by
  refine (pt_not ha).imp fun σ H Q h => ?_
  obtain ⟨ua, u, B, env, d, u', hE, hW, hm, q⟩ := h
  obtain ⟨k, u1, h1, h2⟩ := bnd_some hm
  cases h2
  exact ⟨ua, u, B, env, k, _, hE, hW, h1, fun H1 g => q _ g⟩
theorem dw_and1 (ha : PT X a (tTst G na)) : PW X (.BoolOp .And [a] pos) (tTst G na) := pw_and1 ha
theorem dw_or1 (ha : PT X a (tTst G na)) : PW X (.BoolOp .Or [a] pos) (tTst G na) := pw_or1 ha
theorem dw_and (ha : PT X a (tTst G na)) (hb : PW X (.BoolOp .And (b :: rest) pos) (tTst G nb)) : PW X (.BoolOp .And (a :: b :: rest) pos) (tTst G (mAndB na nb)) := by
  refine (pw_and ha hb).imp fun σ H Q h => ?_
  obtain ⟨ua, u, B, env, d, u', hE, hW, hm, q⟩ := h
  obtain ⟨k, u1, h1, h2⟩ := bnd_some hm
  refine ⟨ua, u, B, env, k, _, hE, hW, h1, fun H1 ⟨B1, g1, w1⟩ => ?_⟩
  cases k with
  | true => rw [if_pos rfl] at h2 ⊢; exact ⟨ua, u1, B1, env, d, u', hE.grow g1, w1, h2, fun H2 ⟨B2, g2, w2⟩ => q _ ⟨B2, g1.trans g2, w2⟩⟩
  | false => rw [if_neg Bool.false_ne_true] at h2 ⊢; cases h2; exact q _ ⟨B1, g1, w1⟩
theorem dw_or (ha : PT X a (tTst G na)) (hb : PW X (.BoolOp .Or (b :: rest) pos) (tTst G nb)) : PW X (.BoolOp .Or (a :: b :: rest) pos) (tTst G (mOrB na nb)) := by
  refine (pw_or ha hb).imp fun σ H Q h => ?_
  obtain ⟨ua, u, B, env, d, u', hE, hW, hm, q⟩ := h
  obtain ⟨k, u1, h1, h2⟩ := bnd_some hm
  refine ⟨ua, u, B, env, k, _, hE, hW, h1, fun H1 ⟨B1, g1, w1⟩ => ?_⟩
  cases k with
  | false => rw [if_neg Bool.false_ne_true] at h2 ⊢; exact ⟨ua, u1, B1, env, d, u', hE.grow g1, w1, h2, fun H2 ⟨B2, g2, w2⟩ => q _ ⟨B2, g1.trans g2, w2⟩⟩
  | true => rw [if_pos rfl] at h2 ⊢; cases h2; exact q _ ⟨B1, g1, w1⟩
def mNot (a : M) : M := fun env u => bnd (a env u) fun x u1 => bnd (lft (truD x) u1) fun k u2 => some (.bl (!k), u2)
def mAnd (a b : M) : M := fun env u => bnd (a env u) fun x u1 => bnd (lft (truD x) u1) fun k u2 => if k = true then b env u2 else some (x, u2)
def mOr (a b : M) : M := fun env u => bnd (a env u) fun x u1 => bnd (lft (truD x) u1) fun k u2 => if k = true then some (x, u2) else b env u2
theorem dv_not (ha : PE X a (tEv G ma)) : PE X (.UnaryOp .Not a pos) (tEv G (mNot ma)) := by
  refine (pe_notT ha).imp fun σ H Q h => ?_
  obtain ⟨ua, u, B, env, d, u', hE, hW, hm, q⟩ := h
  obtain ⟨x, u1, h1, h2⟩ := bnd_some hm
  obtain ⟨k, u2, h2, h3⟩ := bnd_some h2
  obtain ⟨l2, rfl⟩ := lft_some h2
  cases h3
  exact ⟨ua, u, B, env, x, _, hE, hW, h1, fun v H1 ⟨B1, g1, w1, r1⟩ => ⟨k, rep_tru l2 r1 w1, q _ _ ⟨B1, g1, w1, rep_bl⟩⟩⟩
theorem dv_one (op : PySem.BoolOp) (ha : PE X a (tEv G ma)) : PE X (.BoolOp op [a] pos) (tEv G ma) := pe_one ha
theorem dv_and (ha : PE X a (tEv G ma)) (hb : PE X (.BoolOp .And (b :: rest) pos) (tEv G mb)) : PE X (.BoolOp .And (a :: b :: rest) pos) (tEv G (mAnd ma mb)) := by
  refine (pe_andT ha hb).imp fun σ H Q h => ?_
  obtain ⟨ua, u, B, env, d, u', hE, hW, hm, q⟩ := h
  obtain ⟨x, u1, h1, h2⟩ := bnd_some hm
  obtain ⟨k, u2, h2, h3⟩ := bnd_some h2
  obtain ⟨l2, rfl⟩ := lft_some h2
  refine ⟨ua, u, B, env, x, _, hE, hW, h1, fun v H1 ⟨B1, g1, w1, r1⟩ => ⟨k, rep_tru l2 r1 w1, ?_⟩⟩
  cases k with
  | true => rw [if_pos rfl] at h3 ⊢; exact ⟨ua, _, B1, env, d, u', hE.grow g1, w1, h3, fun v2 H2 a2 => q _ _ (.up g1 a2)⟩
  | false => rw [if_neg Bool.false_ne_true] at h3 ⊢; cases h3; exact q _ _ ⟨B1, g1, w1, r1⟩
def mIte (c : MB) (a b : M) : M := fun env u => bnd (c env u) fun k u1 => if k = true then a env u1 else b env u1
theorem dv_ite (hc : PT X c (tTst G na)) (ha : PE X a (tEv G ma)) (hb : PE X b (tEv G mb)) : PE X (.IfExp c a b pos) (tEv G (mIte na ma mb)) := by
  refine (pe_ifExp hc ha hb).imp fun σ H Q h => ?_
  obtain ⟨ua, u, B, env, d, u', hE, hW, hm, q⟩ := h
  obtain ⟨k, u1, h1, h2⟩ := bnd_some hm
  refine ⟨ua, u, B, env, k, _, hE, hW, h1, fun H1 ⟨B1, g1, w1⟩ => ?_⟩
  cases k with
  | true => rw [if_pos rfl] at h2 ⊢; exact ⟨ua, u1, B1, env, d, u', hE.grow g1, w1, h2, fun v2 H2 a2 => q _ _ (.up g1 a2)⟩
  | false => rw [if_neg Bool.false_ne_true] at h2 ⊢; exact ⟨ua, u1, B1, env, d, u', hE.grow g1, w1, h2, fun v2 H2 a2 => q _ _ (.up g1 a2)⟩
end
end Dv
namespace Dv
open PySem PySem.Spec PyProof.Rows L2
def spF {K : PySem.W.Frag} (G : Gx K) (F : List D → U → Option (D × U)) (n : Nat) : Sp := fun vs H Q _ => ∃ ua u B ds d u', Reps G ua ds vs B ∧ ds.length = n ∧ Wd ua u B H ∧ F ds u = some (d, u') ∧ ∀ v H', Aft G ua B H u' d v H' → Q v H'
/-- the def x of the module, called by place, does F -/
def DefOk (P : Program) (w : World) {K : PySem.W.Frag} (mg : Str → Option Value) (base : Heap) (G : Gx K) (x : Str) (k n : Nat) (F : List D → U → Option (D × U)) : Prop :=
  ∃ f fd ps, FnOk P w K mg base CX0 k f fd ps (spF G F n) ∧ mg x = some (.ref f) ∧ PySem.W.keepIn K (.ref f) = true ∧ Binds K fd ps []
theorem DefOk.mono {P : Program} {w : World} {K : PySem.W.Frag} {mg : Str → Option Value} {base : Heap} {G : Gx K} {x : Str} {j k n : Nat} {F : List D → U → Option (D × U)} (h : DefOk P w mg base G x j n F) (l : j ≤ k) : DefOk P w mg base G x k n F := by
  obtain ⟨f, fd, ps, h1, h2⟩ := h
  exact ⟨f, fd, ps, h1.mono l, h2⟩
def mCall (n : Nat) (F : List D → U → Option (D × U)) (m : Ms) : M := fun env u => bnd (m env u) fun ds u1 => if ds.length = n then F ds u1 else none
section
variable {X : Cx} {G : Gx X.K} {a b c e : Expr} {es : List Expr} {ma mb mc : M} {ms : Ms} {pos p : Pos}
theorem dv_call {x : Str} {k n : Nat} {F : List D → U → Option (D × U)} (D0 : DefOk X.prog X.w X.mg X.base G x k n F) (hr : Room k X.A) (hg : Gl X x) (ha : PA X (e :: es) (tEvs G ms))
    (hdb : (x == ("__debug__" : Str)) = false := by decide) (he : starEach (e :: es) X.env = (false, eval e X.env) :: starEach es X.env := by rfl) (hpl : (backTo pos (starEach es X.env)).any (·.1) = false := by rfl) :
    PE X (.Call (.Name x p) (e :: es) [] pos) (tEv G (mCall n F ms)) := by
  obtain ⟨f, fd, ps, hf, hm, hk, hb⟩ := D0
  refine (pe_call hf hr hg hm hk hb .nil pass0 ha hdb he hpl).imp fun σ H Q h => ?_
  obtain ⟨ua, u, B, env, d, u', hE, hW, hm, q⟩ := h
  obtain ⟨ds, u1, h1, h2⟩ := bnd_some hm
  split at h2
  · refine ⟨ua, u, B, env, ds, u1, hE, hW, h1, fun vs H1 ⟨B1, g1, w1, r1⟩ => ?_⟩
    show spF G F n (vs ++ []) H1 Q E0
    rw [List.append_nil]
    exact ⟨ua, u1, B1, ds, d, u', r1, ‹_›, w1, h2, fun v H2 a => q _ _ (.up g1 a)⟩
  · cases h2
theorem dv_call0 {x : Str} {k : Nat} {F : List D → U → Option (D × U)} (D0 : DefOk X.prog X.w X.mg X.base G x k 0 F) (hr : Room k X.A) (hg : Gl X x)
    (hdb : (x == ("__debug__" : Str)) = false := by decide) : PE X (.Call (.Name x p) [] [] pos) (tEv G (mCall 0 F mNil)) := by
  obtain ⟨f, fd, ps, hf, hm, hk, hb⟩ := D0
  refine (pe_call0 hf hr hg hm hk hb .nil pass0 hdb).imp fun σ H Q h => ?_
  obtain ⟨ua, u, B, env, d, u', hE, hW, hm, q⟩ := h
  obtain ⟨ds, u1, h1, h2⟩ := bnd_some hm
  cases h1
  have h2 : F [] u = some (d, u') := h2
  exact ⟨ua, u, B, [], d, u', .nil, rfl, hW, h2, fun v H2 a => q _ _ a⟩
def BiOk {X : Cx} (G : Gx X.K) (f : Value) (sem : List D → Option D) : Prop := ∀ (ua : Option Addr) (u : U) (B H : Hp) (ds : List D) (d : D) (vs : List V), sem ds = some d → Reps G ua ds vs B → Wd ua u B H →
  ∃ r, CallR X f r ∧ r vs H (Aft G ua B H u d)
def rBi (G : Gx X.K) (sem : List D → Option D) : List V → Hp → VK → Prop := fun vs H Q => ∃ ua u B ds d, sem ds = some d ∧ Reps G ua ds vs B ∧ Wd ua u B H ∧ ∀ v H', Aft G ua B H u d v H' → Q v H'
theorem call_of {f : Value} {sem : List D → Option D} (hf : BiOk G f sem) : CallR X f (rBi G sem) := by
  intro pins s σ H xs us Q I r h
  obtain ⟨ua, u0, B, ds, d, e, rs, w, q⟩ := h
  obtain ⟨r', hr, hc⟩ := hf ua u0 B H ds d xs e rs w
  exact thn (hr pins s σ H xs us _ I r hc) fun v s ⟨z, H', I', r', a⟩ => ⟨z, H', I', r', q _ _ a⟩
def mBi (sem : List D → Option D) (m : Ms) : M := fun env u => bnd (m env u) fun ds u1 => lft (sem ds) u1
theorem bi_read {sem : List D → Option D} {σ : L2.St} {H : Hp} {Q : VK} (h : tEv G (mBi sem ms) σ H Q) : tCB (rBi G sem) (tEvs G ms) σ H Q := by
  obtain ⟨ua, u, B, env, d, u', hE, hW, hm, q⟩ := h
  obtain ⟨ds, u1, h1, h2⟩ := bnd_some hm
  obtain ⟨l2, rfl⟩ := lft_some h2
  exact ⟨ua, u, B, env, ds, u', hE, hW, h1, fun vs H1 ⟨B1, g1, w1, r1⟩ => ⟨ua, u', B1, ds, d, l2, r1, w1, fun v H2 a => q _ _ (.up g1 a)⟩⟩
theorem dv_bi {x : Str} {id : String} {sem : List D → Option D} (hc : BiOk G (.builtin id) sem) (hg : Gl X x) (hm : X.mg x = none) (hv : bootBuiltins x = some (.builtin id)) (ha : PA X (e :: es) (tEvs G ms)) (hn : x ≠ "__name__" := by decide) (hdb : (x == ("__debug__" : Str)) = false := by decide)
    (he : starEach (e :: es) X.env = (false, eval e X.env) :: starEach es X.env := by rfl) (hpl : (backTo pos (starEach es X.env)).any (·.1) = false := by rfl) : PE X (.Call (.Name x p) (e :: es) [] pos) (tEv G (mBi sem ms)) :=
  (pe_callB (call_of hc) hg hm hv ha hn hdb he hpl).imp fun _ _ _ h => bi_read h
theorem dv_ty {x : Str} {T : String} {sem : List D → Option D} (hc : BiOk G (.type T) sem) (hg : Gl X x) (hm : X.mg x = none) (hv : bootBuiltins x = some (.type T)) (ha : PA X (e :: es) (tEvs G ms)) (hn : x ≠ "__name__" := by decide) (hdb : (x == ("__debug__" : Str)) = false := by decide)
    (he : starEach (e :: es) X.env = (false, eval e X.env) :: starEach es X.env := by rfl) (hpl : (backTo pos (starEach es X.env)).any (·.1) = false := by rfl) : PE X (.Call (.Name x p) (e :: es) [] pos) (tEv G (mBi sem ms)) :=
  (pe_callTy (call_of hc) hg hm hv ha hn hdb he hpl).imp fun _ _ _ h => bi_read h
def bLen : List D → Option D
  | [.lst ds] => some (.int ds.length)
  | [.tup ds] => some (.int ds.length)
  | [.str x] => if x.length ≤ sizeLine then some (.int x.length) else none
  | _ => none
def bAbs : List D → Option D
  | [.int i] => some (.int (if i < 0 then -i else i))
  | _ => none
def bInt : List D → Option D
  | [.int i] => some (.int i)
  | [.bl k] => some (.int (if k then 1 else 0))
  | _ => none
def blsOf : List D → Option (List Bool)
  | [] => some []
  | .bl b :: r => (blsOf r).map fun bs => b :: bs
  | _ :: _ => none
def strsOf : List D → Option (List Str)
  | [] => some []
  | .str b :: r => (strsOf r).map fun bs => b :: bs
  | _ :: _ => none
theorem blsOf_eq : ∀ {ds : List D} {bs : List Bool}, blsOf ds = some bs → ds = bs.map .bl
  | [], bs, h => by unfold blsOf at h; cases h; rfl
  | d :: ds, bs, h => by
    cases d with
    | bl b =>
      unfold blsOf at h
      cases q : blsOf ds with
      | none => rw [q] at h; cases h
      | some r => rw [q] at h; cases h; rw [blsOf_eq q]; rfl
    | _ => unfold blsOf at h; cases h
theorem strsOf_eq : ∀ {ds : List D} {bs : List Str}, strsOf ds = some bs → ds = bs.map .str
  | [], bs, h => by unfold strsOf at h; cases h; rfl
  | d :: ds, bs, h => by
    cases d with
    | str b =>
      unfold strsOf at h
      cases q : strsOf ds with
      | none => rw [q] at h; cases h
      | some r => rw [q] at h; cases h; rw [strsOf_eq q]; rfl
    | _ => unfold strsOf at h; cases h
def bAll : List D → Option D
  | [.lst ds] => (blsOf ds).map fun bs => .bl (bs.all id)
  | _ => none
def bList : List D → Option D
  | [.lst ds] => some (.lst ds)
  | [.tup ds] => some (.lst ds)
  | _ => none
def bTuple : List D → Option D
  | [.lst ds] => some (.tup ds)
  | [.tup ds] => some (.tup ds)
  | _ => none
/-- insertion by the texts' order -/
def insS (x : Str) : List Str → List Str
  | [] => [x]
  | y :: r => if y.cps.toList < x.cps.toList then y :: insS x r else x :: y :: r
def sortS : List Str → List Str
  | [] => []
  | x :: r => insS x (sortS r)
def leS (a b : Str) : Prop := a.cps.toList ≤ b.cps.toList
theorem leS_anti {a b : Str} (h : leS a b) (h' : leS b a) : a = b := by
  have e : a.cps.toList = b.cps.toList := List.le_antisymm h h'
  obtain ⟨⟨x⟩⟩ := a
  obtain ⟨⟨y⟩⟩ := b
  have e' : x = y := e
  rw [e']
theorem insS_perm (x : Str) : ∀ l : List Str, (insS x l).Perm (x :: l)
  | [] => .refl _
  | y :: r => by
    unfold insS
    split
    · exact ((insS_perm x r).cons y).trans (.swap x y r)
    · exact .refl _
theorem sortS_perm : ∀ l : List Str, (sortS l).Perm l
  | [] => .refl _
  | x :: r => (insS_perm x _).trans ((sortS_perm r).cons x)
theorem insS_sorted (x : Str) : ∀ l : List Str, l.Pairwise leS → (insS x l).Pairwise leS
  | [], _ => by unfold insS; exact List.pairwise_singleton _ _
  | y :: r, h => by
    have h1 := List.pairwise_cons.mp h
    unfold insS
    split
    · rename_i hl
      refine List.pairwise_cons.mpr ⟨fun z hz => ?_, insS_sorted x r h1.2⟩
      rcases List.mem_cons.mp ((insS_perm x r).subset hz) with rfl | hz
      · exact List.not_lt.mp (fun q => List.lt_irrefl _ (List.lt_trans hl q))
      · exact h1.1 z hz
    · rename_i hl
      have hxy : leS x y := List.not_lt.mp hl
      refine List.pairwise_cons.mpr ⟨fun z hz => ?_, h⟩
      rcases List.mem_cons.mp hz with rfl | hz
      · exact hxy
      · exact List.le_trans hxy (h1.1 z hz)
theorem sortS_sorted : ∀ l : List Str, (sortS l).Pairwise leS
  | [] => .nil
  | x :: r => insS_sorted x _ (sortS_sorted r)
theorem rising_pw : ∀ (p : Str) (l : List Str), risingS p l = true → (p :: l).Pairwise leS
  | p, [], _ => List.pairwise_singleton _ _
  | p, x :: r, h => by
    unfold risingS at h
    simp only [Bool.and_eq_true, Bool.not_eq_true'] at h
    have h1 : leS p x := by
      have := h.1
      rw [ltCps_eq] at this
      exact List.not_lt.mp (of_decide_eq_false this)
    have h2 := rising_pw x r h.2
    refine List.pairwise_cons.mpr ⟨fun z hz => ?_, h2⟩
    rcases List.mem_cons.mp hz with rfl | hz
    · exact h1
    · exact List.le_trans h1 ((List.pairwise_cons.mp h2).1 z hz)
theorem sorted_pw (l : List Str) (h : sortedS l = true) : l.Pairwise leS := by
  cases l with
  | nil => exact .nil
  | cons x r => exact rising_pw x r h
theorem sortS_uniq {xs ys : List Str} (p : ys.Perm xs) (h : sortedS ys = true) : ys = sortS xs :=
  List.Perm.eq_of_pairwise (fun _ _ _ _ h1 h2 => leS_anti h1 h2) (sorted_pw _ h) (sortS_sorted xs) (p.trans (sortS_perm xs).symm)
def bSorted : List D → Option D
  | [.lst ds] => (strsOf ds).bind fun xs => if xs.length < 64 then some (.lst ((sortS xs).map .str)) else none
  | _ => none
theorem ok_len : BiOk G (.builtin "len") bLen := by
  intro ua u B H ds d vs e rs w
  unfold bLen at e
  split at e
  · cases e
    obtain ⟨v, t, rfl, r1, r2⟩ := rs.of_cons
    rw [r2.of_nil]
    obtain ⟨a, ys, rfl, h, r3⟩ := r1.lst
    exact ⟨_, call_len_seq, a, ys, rfl, .inl (.of (w.sub _ _ h)), .here w (by rw [← r3.len]; exact rep_int)⟩
  · cases e
    obtain ⟨v, t, rfl, r1, r2⟩ := rs.of_cons
    rw [r2.of_nil]
    obtain ⟨a, ys, rfl, h, r3⟩ := r1.tup
    exact ⟨_, call_len_seq, a, ys, rfl, .inr (h.mono w.sub).sq, .here w (by rw [← r3.len]; exact rep_int)⟩
  · split at e
    · cases e
      obtain ⟨v, t, rfl, r1, r2⟩ := rs.of_cons
      rw [r2.of_nil]
      cases r1.str
      exact ⟨_, call_len_str, _, rfl, ‹_›, .here w rep_int⟩
    · cases e
  · cases e
theorem ok_abs : BiOk G (.builtin "abs") bAbs := by
  intro ua u B H ds d vs e rs w
  unfold bAbs at e
  split at e
  · cases e
    obtain ⟨v, t, rfl, r1, r2⟩ := rs.of_cons
    rw [r2.of_nil]
    cases r1.int
    exact ⟨_, call_abs, _, rfl, .here w rep_int⟩
  · cases e
theorem ok_int : BiOk G (.type "int") bInt := by
  intro ua u B H ds d vs e rs w
  unfold bInt at e
  split at e
  · cases e
    obtain ⟨v, t, rfl, r1, r2⟩ := rs.of_cons
    rw [r2.of_nil]
    cases r1.int
    exact ⟨_, call_int1, .inl ⟨_, rfl, .here w rep_int⟩⟩
  · cases e
    obtain ⟨v, t, rfl, r1, r2⟩ := rs.of_cons
    rw [r2.of_nil]
    cases r1.bl
    exact ⟨_, call_int1, .inr ⟨_, rfl, .here w rep_int⟩⟩
  · cases e
theorem ok_all (hc : X.calm = true) : BiOk G (.builtin "all") bAll := by
  intro ua u B H ds d vs e rs w
  unfold bAll at e
  split at e
  · rename_i ds
    cases q : blsOf ds with
    | none => rw [q] at e; cases e
    | some bs =>
      rw [q] at e; cases e
      obtain ⟨v, t, rfl, r1, r2⟩ := rs.of_cons
      rw [r2.of_nil]
      obtain ⟨a, ys, rfl, h, r3⟩ := r1.lst
      rw [blsOf_eq q] at r3
      rw [r3.bls_of] at h
      exact ⟨_, cr_all hc, a, bs, rfl, .of (w.sub _ _ h), .here w rep_bl⟩
  · cases e
theorem ok_list : BiOk G (.type "list") bList := by
  intro ua u B H ds d vs e rs w
  unfold bList at e
  split at e
  · cases e
    obtain ⟨v, t, rfl, r1, r2⟩ := rs.of_cons
    rw [r2.of_nil]
    obtain ⟨a, ys, rfl, h, r3⟩ := r1.lst
    exact ⟨_, call_list_of, a, ys, rfl, .inl (.of (w.sub _ _ h)), fun l hl => .lst w hl r3⟩
  · cases e
    obtain ⟨v, t, rfl, r1, r2⟩ := rs.of_cons
    rw [r2.of_nil]
    obtain ⟨a, ys, rfl, h, r3⟩ := r1.tup
    exact ⟨_, call_list_of, a, ys, rfl, .inr (h.mono w.sub).sq, fun l hl => .lst w hl r3⟩
  · cases e
theorem ok_tuple : BiOk G (.type "tuple") bTuple := by
  intro ua u B H ds d vs e rs w
  unfold bTuple at e
  split at e
  · cases e
    obtain ⟨v, t, rfl, r1, r2⟩ := rs.of_cons
    rw [r2.of_nil]
    obtain ⟨a, ys, rfl, h, r3⟩ := r1.lst
    exact ⟨_, call_tupF, a, ys, rfl, .inl ⟨.of (w.sub _ _ h), fun l o hl ho => .tup w hl ho r3⟩⟩
  · cases e
    obtain ⟨v, t, rfl, r1, r2⟩ := rs.of_cons
    rw [r2.of_nil]
    have r1' := r1
    obtain ⟨a, ys, rfl, h, r3⟩ := r1.tup
    exact ⟨_, call_tupF, a, ys, rfl, .inr ⟨(h.mono w.sub).sq, .here w r1'⟩⟩
  · cases e
theorem ok_sorted : BiOk G (.builtin "sorted") bSorted := by
  intro ua u B H ds d vs e rs w
  unfold bSorted at e
  split at e
  · rename_i ds
    cases q : strsOf ds with
    | none => rw [q] at e; cases e
    | some xs =>
      rw [q] at e
      simp only [Option.bind_some] at e
      split at e
      · cases e
        obtain ⟨v, t, rfl, r1, r2⟩ := rs.of_cons
        rw [r2.of_nil]
        obtain ⟨a, ys, rfl, h, r3⟩ := r1.lst
        rw [strsOf_eq q] at r3
        rw [r3.strs_of] at h
        refine ⟨_, cr_sortedS, a, xs, rfl, .of (w.sub _ _ h), ‹_›, fun ys p hp hs hn => ?_⟩
        rw [sortS_uniq hp hs]
        exact .lst w hn Reps.strs
      · cases e
  · cases e
def tyN : D → Option String
  | .non => some "NoneType"
  | .bl _ => some "bool"
  | .int _ => some "int"
  | .str _ => some "str"
  | .lst _ => some "list"
  | .tup _ => some "tuple"
  | _ => none
def kitAnyB (t : String) : List String → Option Bool
  | [] => some false
  | n :: r => match kitB t n with
    | some true => some true
    | some false => kitAnyB t r
    | none => none
def plainTys : List String := ["str", "int", "bool", "list", "tuple"]
def isiD (d : D) (ts : List String) : Option Bool := match d with
  | .ins _ _ _ => if ts.all (plainTys.contains ·) then some false else none
  | d => (tyN d).bind fun t => kitAnyB t ts
theorem kitAny_of {K : PySem.W.Frag} {t : String} : ∀ {ts : List String} {b : Bool}, kitAnyB t ts = some b → PySem.W.kitAny K (.type t) (ts.map Value.type) = some b
  | [], b, h => by unfold kitAnyB at h; cases h; rfl
  | n :: r, b, h => by
    unfold kitAnyB at h
    show PySem.W.kitAny K (.type t) (.type n :: r.map Value.type) = some b
    split at h
    · rename_i q; cases h; exact kitAny_cons (kit_ty q) (fun z => nomatch z) (fun _ => rfl)
    · rename_i q; exact kitAny_cons (kit_ty q) (fun _ => kitAny_of h) (fun z => nomatch z)
    · cases h
theorem InsOk.one {K : PySem.W.Frag} {C : Addr} (h : InsOk K C) {n : String} (hn : plainTys.contains n = true) : PySem.W.kitOne K (.ref C) (.type n) = some false := by
  simp only [plainTys, List.contains_cons, List.contains_nil, Bool.or_eq_true, beq_iff_eq, Bool.or_false] at hn
  rcases hn with rfl | rfl | rfl | rfl | rfl
  · exact h.kStr
  · exact h.kInt
  · exact h.kBool
  · exact h.kList
  · exact h.kTup
theorem InsOk.any {K : PySem.W.Frag} {C : Addr} (h : InsOk K C) : ∀ {ts : List String}, ts.all (plainTys.contains ·) = true → PySem.W.kitAny K (.ref C) (ts.map Value.type) = some false
  | [], _ => rfl
  | n :: r, hn => by
    simp only [List.all_cons, Bool.and_eq_true] at hn
    exact kitAny_cons (h.one hn.1) (fun _ => InsOk.any h hn.2) (fun z => nomatch z)
theorem rep_isi {ua : Option Addr} {u : U} {B H : Hp} {d : D} {v : V} {ts : List String} {k : Bool} (e : isiD d ts = some k) (r : Rep G ua d v B) (w : Wd ua u B H) : ∃ t, TyX X.K H v t ∧ PySem.W.kitAny X.K t (ts.map Value.type) = some k := by
  unfold isiD at e
  cases d with
  | non => cases r.non; exact ⟨_, .base .non, kitAny_of e⟩
  | bl b => cases r.bl; exact ⟨_, .base (.bl b), kitAny_of e⟩
  | int b => cases r.int; exact ⟨_, .base (.int b), kitAny_of e⟩
  | str b => cases r.str; exact ⟨_, .base (.str b), kitAny_of e⟩
  | lst b => obtain ⟨a, vs, rfl, h, _⟩ := r.lst; exact ⟨_, .base (.lst (w.sub _ _ h)), kitAny_of e⟩
  | tup b => obtain ⟨a, vs, rfl, ⟨o, _, h⟩, _⟩ := r.tup; exact ⟨_, .fTuple (w.sub _ _ h), kitAny_of e⟩
  | pr b => exact absurd e (by simp [tyN])
  | ins c ns xs =>
    unfold Rep at r
    obtain ⟨a, C, dx, vs, rfl, hc, h, _⟩ := r
    have i := G.ok c C hc
    dsimp only at e
    split at e
    · cases e; exact ⟨_, .base (.ins (w.sub _ _ h) i.cl i.ha i.hn i.htk i.hm), i.any ‹_›⟩
    · cases e
  | exc c ns xs => exact absurd e (by simp [tyN])
  | fn x => exact absurd e (by simp [tyN])
  | dct k x => exact absurd e (by simp [tyN])
  | dtt k x => exact absurd e (by simp [tyN])
  | dtn k x => exact absurd e (by simp [tyN])
  | urn => exact absurd e (by simp [tyN])
def mIsi (ts : List String) (a : M) : M := fun env u => bnd (a env u) fun x u1 => lft ((isiD x ts).map .bl) u1
theorem map_some {α β : Type} {o : Option α} {f : α → β} {b : β} (h : o.map f = some b) : ∃ a, o = some a ∧ f a = b := by
  cases o with
  | none => cases h
  | some a => exact ⟨a, rfl, Option.some.inj h⟩
/-- isinstance(e, T) -/
theorem dv_isi {T : Str} {n : String} {pT : Pos} (hg : Gl X "isinstance") (hm : X.mg "isinstance" = none) (ha : PE X a (tEv G ma)) (hgT : Gl X T) (hmT : X.mg T = none) (hvT : bootBuiltins T = some (.type n)) (hnT : T ≠ "__name__" := by decide) (hdT : (T == ("__debug__" : Str)) = false := by decide)
    (hs : starEach (a :: [.Name T pT]) X.env = (false, eval a X.env) :: starEach [.Name T pT] X.env := by rfl) : PE X (.Call (.Name "isinstance" p) [a, .Name T pT] [] pos) (tEv G (mIsi [n] ma)) := by
  refine (pe_callB call_isi hg hm (by decide +kernel) (pa_cons ha (pa_cons (pe_bltn (v := .ty n) hgT hmT hvT rfl hnT hdT) pa_nil) hs) (he := hs)).imp fun σ H Q h => ?_
  obtain ⟨ua, u, B, env, d, u', hE, hW, hm, q⟩ := h
  obtain ⟨x, u1, h1, h2⟩ := bnd_some hm
  obtain ⟨l2, rfl⟩ := lft_some h2
  obtain ⟨k, e, rfl⟩ := map_some l2
  refine ⟨ua, u, B, env, x, u', hE, hW, h1, fun v H1 ⟨B1, g1, w1, r1⟩ => ?_⟩
  obtain ⟨t, ty, kk⟩ := rep_isi e r1 w1
  refine ⟨v, .ty n, t, .type n, k, rfl, .ty n, ty, ?_, q _ _ ⟨B1, g1, w1, rep_bl⟩⟩
  have kk : PySem.W.kitAny X.K t [Value.type n] = some k := kk
  unfold PySem.W.kitAny at kk
  split at kk
  · rename_i z; cases kk; exact z
  · rename_i z; cases kk; exact z
  · cases kk
theorem dv_isi2 {T T2 : Str} {n n2 : String} {pT pT2 pt : Pos} {kt : Nat} (hg : Gl X "isinstance") (hm : X.mg "isinstance" = none) (ha : PE X a (tEv G ma)) (hgT : Gl X T) (hmT : X.mg T = none) (hvT : bootBuiltins T = some (.type n)) (hgT2 : Gl X T2) (hmT2 : X.mg T2 = none) (hvT2 : bootBuiltins T2 = some (.type n2))
    (hnT : T ≠ "__name__" := by decide) (hdT : (T == ("__debug__" : Str)) = false := by decide) (hnT2 : T2 ≠ "__name__" := by decide) (hdT2 : (T2 == ("__debug__" : Str)) = false := by decide)
    (hs : starEach (a :: [.Tuple [.Name T pT, .Name T2 pT2] kt pt]) X.env = (false, eval a X.env) :: starEach [.Tuple [.Name T pT, .Name T2 pT2] kt pt] X.env := by rfl) :
    PE X (.Call (.Name "isinstance" p) [a, .Tuple [.Name T pT, .Name T2 pT2] kt pt] [] pos) (tEv G (mIsi [n, n2] ma)) := by
  refine (pe_callB call_isiT hg hm (by decide +kernel) (pa_cons ha (pa_cons (pe_tup (pa_cons (pe_bltn (v := .ty n) hgT hmT hvT rfl hnT hdT) (pa_cons (pe_bltn (v := .ty n2) hgT2 hmT2 hvT2 rfl hnT2 hdT2) pa_nil))) pa_nil) hs) (he := hs)).imp fun σ H Q h => ?_
  obtain ⟨ua, u, B, env, d, u', hE, hW, hm, q⟩ := h
  obtain ⟨x, u1, h1, h2⟩ := bnd_some hm
  obtain ⟨l2, rfl⟩ := lft_some h2
  obtain ⟨k, e, rfl⟩ := map_some l2
  refine ⟨ua, u, B, env, x, u', hE, hW, h1, fun v H1 ⟨B1, g1, w1, r1⟩ => ?_⟩
  refine ⟨by show 2 ≤ sizeLine; decide, fun tp htp => ?_⟩
  have w2 : Wd ua u' (upd B1 tp (.tup [.ty n, .ty n2])) (upd H1 tp (.tup [.ty n, .ty n2])) := w1.new1 htp
  have g2 : Grow ua B1 H1 (upd B1 tp (.tup [.ty n, .ty n2])) (upd H1 tp (.tup [.ty n, .ty n2])) := .new1 w1 htp
  obtain ⟨t, ty, kk⟩ := rep_isi e (r1.mono _ _ g2.pub) w2
  exact ⟨v, tp, [.ty n, .ty n2], t, [.type n, .type n2], k, rfl, upd_same, .cons (.ty n) (.cons (.ty n2) .nil), ty, kk, q _ _ ⟨_, g1.trans g2, w2, rep_bl⟩⟩
def ixD : D → D → Option D
  | .lst ds, .int i => atI ds i
  | .tup ds, .int i => atI ds i
  | .pr ds, .int i => atI ds i
  | .str z, .int i => if z.length ≤ sizeLine then (atI z.cps.toList i).map fun c => .str ⟨#[c]⟩ else none
  | _, _ => none
theorem Reps.at {ua : Option Addr} {B : Hp} {ds : List D} {vs : List V} {i : Int} {d : D} (r : Reps G ua ds vs B) (e : atI ds i = some d) : ∃ v, atI vs i = some v ∧ Rep G ua d v B := by
  unfold atI at e ⊢
  rw [← r.len]
  cases q : ixN ds.length i with
  | none => rw [q] at e; cases e
  | some j => rw [q] at e; exact r.get e
theorem dv_ix (ha : PE X a (tEv G ma)) (hb : PE X b (tEv G mb)) (hs : PlainIx b := by exact fun _ _ => rfl) : PE X (.Subscript a b pos) (tEv G (mBin ixD ma mb)) := by
  refine (pe_ix ix_seq ha hb hs).imp fun σ H Q h => ?_
  obtain ⟨ua, u, B, env, d, u', hE, hW, hm, q⟩ := h
  obtain ⟨x, u1, h1, h2⟩ := bnd_some hm
  obtain ⟨y, u2, h2, h3⟩ := bnd_some h2
  obtain ⟨l3, rfl⟩ := lft_some h3
  refine ⟨ua, u, B, env, x, u1, hE, hW, h1, fun v H1 ⟨B1, g1, w1, r1⟩ => ⟨ua, u1, B1, env, y, u', hE.grow g1, w1, h2, fun v2 H2 ⟨B2, g2, w2, r2⟩ => ?_⟩⟩
  have r1 := r1.mono _ _ g2.pub
  unfold ixD at l3
  split at l3
  · obtain ⟨p, xs, rfl, h, r3⟩ := r1.lst
    cases r2.int
    obtain ⟨z, e, r4⟩ := r3.at l3
    exact .inl ⟨p, xs, _, z, rfl, rfl, .of (w2.sub _ _ h), e, q _ _ ⟨B2, g1.trans g2, w2, r4⟩⟩
  · obtain ⟨p, xs, rfl, h, r3⟩ := r1.tup
    cases r2.int
    obtain ⟨z, e, r4⟩ := r3.at l3
    exact .inr (.inl ⟨p, xs, _, z, rfl, rfl, (h.mono w2.sub).sq, e, q _ _ ⟨B2, g1.trans g2, w2, r4⟩⟩)
  · obtain ⟨p, xs, rfl, h, r3⟩ := r1.pr
    cases r2.int
    obtain ⟨z, e, r4⟩ := r3.at l3
    exact .inr (.inl ⟨p, xs, _, z, rfl, rfl, .of (w2.sub _ _ h), e, q _ _ ⟨B2, g1.trans g2, w2, r4⟩⟩)
  · split at l3
    · cases r1.str
      cases r2.int
      obtain ⟨c, e, rfl⟩ := map_some l3
      exact .inr (.inr ⟨_, _, c, rfl, rfl, ‹_›, e, q _ _ ⟨B2, g1.trans g2, w2, rep_str⟩⟩)
    · cases l3
  · cases l3
abbrev MO := List Sl → U → Option (Option Int × U)
def tEvO (G : Gx X.K) (m : MO) : TO := fun σ H Q => ∃ ua u B env o u', EnvOk G ua env σ B H ∧ Wd ua u B H ∧ m env u = some (o, u') ∧ ∀ H', AftB ua B H u' H' → Q o H'
def moNo : MO := fun _ u => some (none, u)
def moAt (m : M) : MO := fun env u => bnd (m env u) fun d u1 => match d with
  | .int i => some (some i, u1)
  | _ => none
theorem _root_.L2.PO.imp {X : Cx} {e : Option Expr} {t t' : TO} (h : PO X e t) (i : ∀ σ H Q, t' σ H Q → t σ H Q) : PO X e t' := ⟨fun pins s σ H Q I q => h.run pins s σ H Q I (i σ H Q q)⟩
theorem do_no : PO X none (tEvO G moNo) := po_none.imp fun σ H Q h => by
  obtain ⟨ua, u, B, env, d, u', hE, hW, hm, q⟩ := h
  cases hm
  exact q _ ⟨B, .refl, hW⟩
theorem do_at (ha : PE X a (tEv G ma)) : PO X (some a) (tEvO G (moAt ma)) := (po_some ha).imp fun σ H Q h => by
  obtain ⟨ua, u, B, env, d, u', hE, hW, hm, q⟩ := h
  obtain ⟨x, u1, h1, h2⟩ := bnd_some hm
  split at h2
  · cases h2
    refine ⟨ua, u, B, env, _, _, hE, hW, h1, fun v H1 ⟨B1, g1, w1, r1⟩ => ?_⟩
    cases r1.int
    exact ⟨_, rfl, q _ ⟨B1, g1, w1⟩⟩
  · cases h2
def cutD (xs : List D) (lo hi : Option Int) : List D := (xs.drop (HT.sIx xs.length 0 lo)).take (HT.sIx xs.length xs.length hi - HT.sIx xs.length 0 lo)
def slD : D → Option Int → Option Int → Option D
  | .lst ds, lo, hi => some (.lst (cutD ds lo hi))
  | .tup ds, lo, hi => some (.tup (cutD ds lo hi))
  | .str z, lo, hi => if z.length ≤ sizeLine then some (.str (cutS z lo hi)) else none
  | _, _, _ => none
def mSl (a : M) (lo hi : MO) : M := fun env u => bnd (a env u) fun x u1 => bnd (lo env u1) fun l u2 => bnd (hi env u2) fun h u3 => lft (slD x l h) u3
theorem Reps.cut {ua : Option Addr} {B : Hp} {ds : List D} {vs : List V} (r : Reps G ua ds vs B) (lo hi : Option Int) : Reps G ua (cutD ds lo hi) (cutV vs lo hi) B := by
  unfold cutD cutV
  rw [← r.len]
  exact (r.drop _).take _
theorem dv_sl {lo hi : Option Expr} {ml mh : MO} {p2 : Pos} (ha : PE X a (tEv G ma)) (hl : PO X lo (tEvO G ml)) (hh : PO X hi (tEvO G mh)) : PE X (.Subscript a (.Slice lo hi none p2) pos) (tEv G (mSl ma ml mh)) := by
  refine (pe_slice (sl_list.or (sl_tupF.or sl_str)) ha hl hh).imp fun σ H Q h => ?_
  obtain ⟨ua, u, B, env, d, u', hE, hW, hm, q⟩ := h
  obtain ⟨x, u1, h1, h2⟩ := bnd_some hm
  obtain ⟨l, u2, h2, h3⟩ := bnd_some h2
  obtain ⟨h, u3, h3, h4⟩ := bnd_some h3
  obtain ⟨l4, rfl⟩ := lft_some h4
  refine ⟨ua, u, B, env, x, u1, hE, hW, h1, fun v H1 ⟨B1, g1, w1, r1⟩ => ⟨ua, u1, B1, env, l, u2, hE.grow g1, w1, h2, fun H2 ⟨B2, g2, w2⟩ => ⟨ua, u2, B2, env, h, u', (hE.grow g1).grow g2, w2, h3, fun H3 ⟨B3, g3, w3⟩ => ?_⟩⟩⟩
  have r1 := (r1.mono _ _ g2.pub).mono _ _ g3.pub
  have gg := g1.trans (g2.trans g3)
  unfold slD at l4
  split at l4
  · cases l4
    obtain ⟨p, xs, rfl, h, r3⟩ := r1.lst
    exact .inl ⟨p, xs, rfl, .of (w3.sub _ _ h), fun p hp => q _ _ (.up gg (.lst w3 hp (r3.cut _ _)))⟩
  · cases l4
    have r1' := r1
    obtain ⟨p, xs, rfl, h, r3⟩ := r1.tup
    refine .inr (.inl ⟨p, xs, rfl, (h.mono w3.sub).sq, fun hw => q _ _ ⟨B3, gg, w3, ?_⟩, fun _ p o hp ho => q _ _ (.up gg (.tup w3 hp ho (r3.cut _ _)))⟩)
    unfold cutD
    rw [r3.len, hw.1, hw.2, List.drop_zero, Nat.sub_zero, ← r3.len, List.take_length]
    exact r1'
  · split at l4
    · cases l4
      cases r1.str
      exact .inr (.inr ⟨_, rfl, ‹_›, q _ _ ⟨B3, gg, w3, rep_str⟩⟩)
    · cases l4
  · cases l4
def joinD : D → D → Option D
  | .str a, .lst ds => (strsOf ds).bind fun ys => if (ys.map (·.length)).sum + ys.length * a.length ≤ 16777216 then some (.str (Txt.join a ys)) else none
  | _, _ => none
theorem joinD_inv {x y d : D} (h : joinD x y = some d) : ∃ z ds ys, x = .str z ∧ y = .lst ds ∧ strsOf ds = some ys ∧ (ys.map (·.length)).sum + ys.length * z.length ≤ 16777216 ∧ d = .str (Txt.join z ys) := by
  unfold joinD at h
  split at h
  · rename_i z ds
    cases q2 : strsOf ds with
    | none => rw [q2] at h; cases h
    | some ys =>
      rw [q2] at h
      simp only [Option.bind_some] at h
      split at h
      · cases h; exact ⟨z, ds, ys, rfl, rfl, q2, ‹_›, rfl⟩
      · cases h
  · cases h
theorem dv_join {apos : Pos} (ha : PE X a (tEv G ma)) (hb : PE X b (tEv G mb)) (hs : starEach [b] X.env = [(false, eval b X.env)] := by rfl) (hbase : attributeBase a "join" X.env (eval a X.env) = eval a X.env := by rfl) (hline : (apos.endLine == pos.line) = true := by rfl) :
    PE X (.Call (.Attribute a "join" apos) [b] [] pos) (tEv G (mBin joinD ma mb)) := by
  refine (pe_join ha hb hs hbase hline).imp fun σ H Q h => ?_
  obtain ⟨ua, u, B, env, d, u', hE, hW, hm, q⟩ := h
  obtain ⟨x, u1, h1, h2⟩ := bnd_some hm
  obtain ⟨y, u2, h4, h3⟩ := bnd_some h2
  obtain ⟨l3, rfl⟩ := lft_some h3
  refine ⟨ua, u, B, env, x, u1, hE, hW, h1, fun v H1 ⟨B1, g1, w1, r1⟩ => ?_⟩
  obtain ⟨z, ds, ys, rfl, rfl, q2, hz, rfl⟩ := joinD_inv l3
  cases r1.str
  refine ⟨⟨_, rfl⟩, ua, u1, B1, env, _, u', hE.grow g1, w1, h4, fun v2 H2 ⟨B2, g2, w2, r2⟩ => ?_⟩
  obtain ⟨p, xs, rfl, h, r3⟩ := r2.lst
  rw [strsOf_eq q2] at r3
  rw [r3.strs_of] at h
  exact ⟨_, p, ys, rfl, rfl, .inl (.of (w2.sub _ _ h)), hz, q _ _ ⟨B2, g1.trans g2, w2, rep_str⟩⟩
end
end Dv
namespace Dv
open PySem PySem.Spec PyProof.Rows L2 RZ
def Wk {K : PySem.W.Frag} (G : Gx K) (ua : Option Addr) (J : It) (B0 : Hp) (ds : List D) : Prop := ∀ (i : Nat) (B H : Hp) (u : U), Same B0 B → Wd ua u B H →
  (∀ d, ds[i]? = some d → J.go i H ∧ ∀ x H', J.yld i H x H' → Aft G ua B H u d x H') ∧ (ds[i]? = none → J.stop i H)
abbrev MI := List Sl → U → Option (List D × U)
def tIt {K : PySem.W.Frag} (G : Gx K) (m : MI) : TI := fun σ H R => ∃ ua u B env ds u', EnvOk G ua env σ B H ∧ Wd ua u B H ∧ m env u = some (ds, u') ∧ ∀ J B' H', Grow ua B H B' H' → Wd ua u' B' H' → Wk G ua J B' ds → R J H'
def itemsD : D → Option (List D)
  | .lst ds => some ds
  | .tup ds => some ds
  | .str x => some (x.cps.toList.map fun c => .str ⟨#[c]⟩)
  | _ => none
def mItems (m : M) : MI := fun env u => bnd (m env u) fun d u1 => lft (itemsD d) u1
section
variable {X : Cx} {G : Gx X.K} {ua : Option Addr} {B H : Hp} {ds es : List D} {vs ws : List V}
theorem Reps.none {ua : Option Addr} {i : Nat} (r : Reps G ua ds vs B) (h : ds[i]? = none) : vs[i]? = none := by
  rw [List.getElem?_eq_none_iff] at h ⊢
  rw [← r.len]; exact h
theorem wk_lst {a : Addr} (h : B a = some (.lst vs)) (r : Reps G ua ds vs B) : Wk G ua (Itl X.K a) B ds := fun i B' H' u s w => by
  have hq : SqL X.K H' a vs := .of (w.sub _ _ (s _ _ h))
  refine ⟨fun d hd => ?_, fun hn => ⟨vs, hq, List.getElem?_eq_none_iff.mp (r.none hn)⟩⟩
  obtain ⟨v, hv, rv⟩ := r.get hd
  refine ⟨⟨vs, v, hq, hv⟩, fun x H2 y => ?_⟩
  obtain ⟨rfl, y⟩ := y
  have := y vs hq
  rw [hv] at this; cases this
  exact .here w (rv.mono _ _ s)
theorem wk_tup {a : Addr} (h : TupB B a vs) (r : Reps G ua ds vs B) : Wk G ua (Itt X.K a) B ds := fun i B' H' u s w => by
  have hq : SqT X.K H' a vs := ((h.mono s).mono w.sub).sq
  refine ⟨fun d hd => ?_, fun hn => ⟨vs, hq, List.getElem?_eq_none_iff.mp (r.none hn)⟩⟩
  obtain ⟨v, hv, rv⟩ := r.get hd
  refine ⟨⟨vs, v, hq, hv⟩, fun x H2 y => ?_⟩
  obtain ⟨rfl, y⟩ := y
  have := y vs hq
  rw [hv] at this; cases this
  exact .here w (rv.mono _ _ s)
theorem wk_str {x : Str} : Wk G ua (Its x) B (x.cps.toList.map fun c => .str ⟨#[c]⟩) := fun i B' H' u s w => by
  refine ⟨fun d hd => ?_, fun hn => ?_⟩
  · rw [List.getElem?_map] at hd
    obtain ⟨c, hc, rfl⟩ := map_some hd
    have hc' : x.cps[i]? = some c := by rw [← Array.getElem?_toList]; exact hc
    refine ⟨(Array.getElem?_eq_some_iff.mp hc').1, fun v H2 y => ?_⟩
    obtain ⟨rfl, c2, h2, rfl⟩ := y
    rw [hc'] at h2; cases h2
    exact .here w rep_str
  · rw [List.getElem?_eq_none_iff, List.length_map, Array.length_toList] at hn
    exact hn
theorem di_items {tg e : Expr} {m : M} (he : PE X e (tEv G m)) : PI X tg e (tIt G (mItems m)) := by
  refine PI.by fun σ H R h => ?_
  obtain ⟨ua, u, B, env, ds, u', hE, hW, hm, q⟩ := h
  obtain ⟨d, u1, h1, h2⟩ := bnd_some hm
  obtain ⟨l2, rfl⟩ := lft_some h2
  cases d with
  | lst xs =>
    cases l2
    refine ⟨_, pi_list he, ua, u, B, env, _, u', hE, hW, h1, fun v H1 ⟨B1, g1, w1, r1⟩ => ?_⟩
    obtain ⟨a, vs, rfl, h, rs⟩ := r1.lst
    exact ⟨a, rfl, ⟨vs, .of (w1.sub _ _ h)⟩, q _ _ _ g1 w1 (wk_lst h rs)⟩
  | tup xs =>
    cases l2
    refine ⟨_, pi_tup he, ua, u, B, env, _, u', hE, hW, h1, fun v H1 ⟨B1, g1, w1, r1⟩ => ?_⟩
    obtain ⟨a, vs, rfl, h, rs⟩ := r1.tup
    exact ⟨a, rfl, ⟨vs, (h.mono w1.sub).sq⟩, q _ _ _ g1 w1 (wk_tup h rs)⟩
  | str x =>
    cases l2
    refine ⟨_, pi_str he, ua, u, B, env, _, u', hE, hW, h1, fun v H1 ⟨B1, g1, w1, r1⟩ => ?_⟩
    cases r1.str
    exact ⟨_, rfl, q _ _ _ g1 w1 wk_str⟩
  | _ => cases l2
def rangeD (lo : Int) (n : Nat) : List D := (List.range n).map fun i => .int (lo + (i : Nat))
theorem wk_range {lo : Int} {n : Nat} : Wk G ua (Itr lo n) B (rangeD lo n) := fun i B' H' u s w => by
  unfold rangeD
  refine ⟨fun d hd => ?_, fun hn => ?_⟩
  · rw [List.getElem?_map] at hd
    obtain ⟨c, hc, rfl⟩ := map_some hd
    obtain ⟨hi, e⟩ := List.getElem?_eq_some_iff.mp hc
    rw [List.getElem_range] at e
    rw [List.length_range] at hi
    subst e
    refine ⟨hi, fun v H2 y => ?_⟩
    obtain ⟨rfl, rfl⟩ := y
    exact .here w rep_int
  · rw [List.getElem?_eq_none_iff, List.length_map, List.length_range] at hn
    exact hn
def mRange1 (m : M) : MI := fun env u => bnd (m env u) fun d u1 => match d with
  | .int j => if -(2 ^ 62) ≤ j ∧ j < 2 ^ 62 then some (rangeD 0 j.toNat, u1) else none
  | _ => none
theorem di_range1 {tg a : Expr} {m : M} {p pos : Pos} (hg : Gl X "range") (hm : X.mg "range" = none) (ha : PE X a (tEv G m)) (hs : starEach [a] X.env = [(false, eval a X.env)] := by rfl) : PI X tg (.Call (.Name "range" p) [a] [] pos) (tIt G (mRange1 m)) := by
  refine (pi_range1 hg hm (pa_cons ha pa_nil hs) hs).imp fun σ H R h => ?_
  obtain ⟨ua, u, B, env, ds, u', hE, hW, hm, q⟩ := h
  obtain ⟨d, u1, h1, h2⟩ := bnd_some hm
  refine ⟨ua, u, B, env, d, u1, hE, hW, h1, fun v H1 ⟨B1, g1, w1, r1⟩ => ?_⟩
  split at h2
  · split at h2
    · rename_i hj
      cases h2
      cases r1.int
      exact ⟨_, rfl, hj.1, hj.2, q _ _ _ g1 w1 wk_range⟩
    · cases h2
  · cases h2
/-- enumerate of a list -/
def enumD : Nat → List D → List D
  | _, [] => []
  | n, d :: r => .pr [.int n, d] :: enumD (n + 1) r
theorem enumD_get : ∀ (ds : List D) (n i : Nat), (enumD n ds)[i]? = (ds[i]?).map fun d => .pr [.int ((n + i : Nat) : Int), d]
  | [], n, i => by unfold enumD; simp
  | d :: r, n, 0 => by unfold enumD; simp
  | d :: r, n, i + 1 => by
    unfold enumD
    rw [List.getElem?_cons_succ, List.getElem?_cons_succ, enumD_get r (n + 1) i, show n + 1 + i = n + (i + 1) by omega]
theorem wk_enum {a : Addr} (h : B a = some (.lst vs)) (r : Reps G ua ds vs B) : Wk G ua (Ite X.K a) B (enumD 0 ds) := fun i B' H' u s w => by
  have hq : SqL X.K H' a vs := .of (w.sub _ _ (s _ _ h))
  rw [enumD_get]
  refine ⟨fun d hd => ?_, fun hn => ⟨vs, hq, List.getElem?_eq_none_iff.mp (r.none (Option.map_eq_none_iff.mp hn))⟩⟩
  obtain ⟨d', hd', rfl⟩ := map_some hd
  obtain ⟨v, hv, rv⟩ := r.get hd'
  refine ⟨⟨vs, v, hq, hv⟩, fun x H2 y => ?_⟩
  obtain ⟨T, x, rfl, hT, rfl, y⟩ := y
  have := y vs hq
  rw [hv] at this; cases this
  rw [Nat.zero_add]
  exact .pr w hT (.cons rep_int (.cons (rv.mono _ _ s) .nil))
/-- zip of two lists, of two tuples -/
def zipD (ds es : List D) : List D := List.zipWith (fun x y => .pr [x, y]) ds es
theorem zipD_get (ds es : List D) (i : Nat) : (zipD ds es)[i]? = match ds[i]?, es[i]? with | some x, some y => some (.pr [x, y]) | _, _ => none := by
  unfold zipD; rw [List.getElem?_zipWith]; cases ds[i]? <;> cases es[i]? <;> rfl
theorem wk_zipL {a b : Addr} (h : B a = some (.lst vs)) (r : Reps G ua ds vs B) (h2 : B b = some (.lst ws)) (r2 : Reps G ua es ws B) : Wk G ua (Itz X.K a b) B (zipD ds es) := fun i B' H' u s w => by
  have hq : SqL X.K H' a vs := .of (w.sub _ _ (s _ _ h))
  have hq2 : SqL X.K H' b ws := .of (w.sub _ _ (s _ _ h2))
  rw [zipD_get]
  refine ⟨fun d hd => ?_, fun hn => ⟨vs, ws, hq, hq2, ?_⟩⟩
  · split at hd
    · rename_i x y hx hy
      cases hd
      obtain ⟨v, hv, rv⟩ := r.get hx
      obtain ⟨v2, hv2, rv2⟩ := r2.get hy
      refine ⟨⟨vs, ws, v, v2, hq, hq2, hv, hv2⟩, fun x H2 y => ?_⟩
      obtain ⟨T, x, y, rfl, hT, rfl, y1, y2⟩ := y
      have e1 := y1 vs hq
      have e2 := y2 ws hq2
      rw [hv] at e1; cases e1
      rw [hv2] at e2; cases e2
      exact .pr w hT (.cons (rv.mono _ _ s) (.cons (rv2.mono _ _ s) .nil))
    · cases hd
  · cases q1 : ds[i]? with
    | none => exact .inl (List.getElem?_eq_none_iff.mp (r.none q1))
    | some x =>
      cases q2 : es[i]? with
      | none => exact .inr (List.getElem?_eq_none_iff.mp (r2.none q2))
      | some y => rw [q1, q2] at hn; cases hn
theorem wk_zipT {a b : Addr} (h : TupB B a vs) (r : Reps G ua ds vs B) (h2 : TupB B b ws) (r2 : Reps G ua es ws B) : Wk G ua (ItzT X.K a b) B (zipD ds es) := fun i B' H' u s w => by
  have hq : SqT X.K H' a vs := ((h.mono s).mono w.sub).sq
  have hq2 : SqT X.K H' b ws := ((h2.mono s).mono w.sub).sq
  rw [zipD_get]
  refine ⟨fun d hd => ?_, fun hn => ⟨vs, ws, hq, hq2, ?_⟩⟩
  · split at hd
    · rename_i x y hx hy
      cases hd
      obtain ⟨v, hv, rv⟩ := r.get hx
      obtain ⟨v2, hv2, rv2⟩ := r2.get hy
      refine ⟨⟨vs, ws, v, v2, hq, hq2, hv, hv2⟩, fun x H2 y => ?_⟩
      obtain ⟨T, x, y, rfl, hT, rfl, y1, y2⟩ := y
      have e1 := y1 vs hq
      have e2 := y2 ws hq2
      rw [hv] at e1; cases e1
      rw [hv2] at e2; cases e2
      exact .pr w hT (.cons (rv.mono _ _ s) (.cons (rv2.mono _ _ s) .nil))
    · cases hd
  · cases q1 : ds[i]? with
    | none => exact .inl (List.getElem?_eq_none_iff.mp (r.none q1))
    | some x =>
      cases q2 : es[i]? with
      | none => exact .inr (List.getElem?_eq_none_iff.mp (r2.none q2))
      | some y => rw [q1, q2] at hn; cases hn
def mZip (m m2 : M) : MI := fun env u => bnd (m env u) fun d u1 => bnd (m2 env u1) fun e u2 => match d, e with
  | .lst ds, .lst es => some (zipD ds es, u2)
  | .tup ds, .tup es => some (zipD ds es, u2)
  | _, _ => none
theorem di_zip {a b : Expr} {m m2 : M} {p pos tpos : Pos} {elts : List Expr} {kk : Nat} (hg : Gl X "zip") (hm : X.mg "zip" = none) (ha : PE X a (tEv G m)) (hb : PE X b (tEv G m2))
    (hs : starEach [a, b] X.env = (false, eval a X.env) :: starEach [b] X.env := by rfl) (hs2 : starEach [b] X.env = (false, eval b X.env) :: starEach [] X.env := by rfl) (hpl : (backTo pos (starEach [b] X.env)).any (·.1) = false := by rfl) :
    PI X (.Tuple elts kk tpos) (.Call (.Name "zip" p) [a, b] [] pos) (tIt G (mZip m m2)) := by
  refine (pi_zipA hg hm (pa_cons ha (pa_cons hb pa_nil hs2) hs) hs hpl).imp fun σ H R h => ?_
  obtain ⟨ua, u, B, env, ds, u', hE, hW, hm, q⟩ := h
  obtain ⟨d, u1, h1, h2⟩ := bnd_some hm
  obtain ⟨d2, u2, h3, h2⟩ := bnd_some h2
  refine ⟨ua, u, B, env, d, u1, hE, hW, h1, fun v H1 ⟨B1, g1, w1, r1⟩ => ⟨ua, u1, B1, env, d2, u2, hE.grow g1, w1, h3, fun v2 H2 ⟨B2, g2, w2, r2⟩ => ?_⟩⟩
  have r1 := r1.mono _ _ g2.pub
  split at h2
  · cases h2
    obtain ⟨a, vs, rfl, h, rs⟩ := r1.lst
    obtain ⟨b, ws, rfl, h', rs'⟩ := r2.lst
    exact ⟨a, b, vs, ws, rfl, .inl ⟨.of (w2.sub _ _ h), .of (w2.sub _ _ h'), q _ _ _ (g1.trans g2) w2 (wk_zipL h rs h' rs')⟩⟩
  · cases h2
    obtain ⟨a, vs, rfl, h, rs⟩ := r1.tup
    obtain ⟨b, ws, rfl, h', rs'⟩ := r2.tup
    exact ⟨a, b, vs, ws, rfl, .inr ⟨(h.mono w2.sub).sq, (h'.mono w2.sub).sq, q _ _ _ (g1.trans g2) w2 (wk_zipT h rs h' rs')⟩⟩
  · cases h2
end
inductive Tgt where
  | one (i : Nat) | many (is : List Nat) | tree (ts : List (Nat ⊕ List Nat)) | sq (is : List Nat)
def treeIds : List (Nat ⊕ List Nat) → List Nat
  | [] => []
  | .inl i :: r => i :: treeIds r
  | .inr is :: r => is ++ treeIds r
def Tgt.ids : Tgt → List Nat
  | .one i => [i]
  | .many is => is
  | .tree ts => treeIds ts
  | .sq is => is
def gNames : List Nat → TGs
  | [] => gNil
  | i :: r => gCons (gName i) (gNames r)
def gTrees (K : PySem.W.Frag) : List (Nat ⊕ List Nat) → TGs
  | [] => gNil
  | .inl i :: r => gCons (gName i) (gTrees K r)
  | .inr is :: r => gCons (gTup K is.length (gNames is)) (gTrees K r)
def gSq (K : PySem.W.Frag) (n : Nat) (t : TGs) : TG := fun v σ H Q => ∃ a xs, v = .ref a ∧ (SqT K H a xs ∨ SqL K H a xs) ∧ xs.length = n ∧ t xs σ H Q
def gOf (K : PySem.W.Frag) : Tgt → TG
  | .one i => gName i
  | .many is => gTup K is.length (gNames is)
  | .tree ts => gTup K ts.length (gTrees K ts)
  | .sq is => gSq K is.length (gNames is)
def setE : List Sl → List Nat → List D → List Sl
  | env, i :: is, d :: ds => setE (env.set i (Sl.pub d)) is ds
  | env, _, _ => env
def setV : List (Option V) → List Nat → List V → List (Option V)
  | σ, i :: is, v :: vs => setV (σ.set i (some v)) is vs
  | σ, _, _ => σ
theorem gNames_ok : ∀ (is : List Nat) (vs : List V) (σ : L2.St) (H : Hp) (Q : L2.St → Hp → Prop), vs.length = is.length → Q (setV σ is vs) H → gNames is vs σ H Q
  | [], [], σ, H, Q, _, q => ⟨rfl, q⟩
  | [], _ :: _, _, _, _, h, _ => by cases h
  | _ :: _, [], _, _, _, h, _ => by cases h
  | i :: is, v :: vs, σ, H, Q, h, q => ⟨v, vs, rfl, gNames_ok is vs _ H Q (by simpa using h) q⟩
section
variable {K : PySem.W.Frag} {G : Gx K} {ua : Option Addr} {B H : Hp}
theorem setE_ok : ∀ (is : List Nat) (ds : List D) (vs : List V) (env : List Sl) (σ : List (Option V)), EnvOk G ua env σ B H → Reps G ua ds vs B → EnvOk G ua (setE env is ds) (setV σ is vs) B H
  | [], ds, vs, env, σ, e, r => e
  | i :: is, [], vs, env, σ, e, r => by rw [r.of_nil]; exact e
  | i :: is, d :: ds, vs, env, σ, e, r => by
    obtain ⟨v, t, rfl, r1, r2⟩ := r.of_cons
    exact setE_ok is ds t _ _ (e.set r1 i) r2
end
theorem wipe_get (σ : List (Option V)) : ∀ (vs : List Nat) (j : Nat), (wipe σ vs)[j]? = if j ∈ vs then (σ[j]?).map (fun _ => none) else σ[j]?
  | [], j => by unfold wipe; simp
  | v :: vs, j => by
    unfold wipe
    by_cases h : v = j
    · subst h
      rw [if_pos List.mem_cons_self]
      by_cases hl : v < σ.length
      · rw [List.getElem?_set_self (by rw [wipe_length]; exact hl), List.getElem?_eq_getElem hl]; rfl
      · rw [List.getElem?_eq_none (by rw [List.length_set, wipe_length]; omega), List.getElem?_eq_none (by omega)]; rfl
    · rw [List.getElem?_set_ne h, wipe_get σ vs j]
      by_cases hj : j ∈ vs
      · rw [if_pos hj, if_pos (List.mem_cons_of_mem _ hj)]
      · rw [if_neg hj, if_neg (fun z => by rcases List.mem_cons.mp z with z | z; exact h z.symm; exact hj z)]
theorem wipe_set {σ : List (Option V)} {vs : List Nat} {i : Nat} {x : Option V} (h : i ∈ vs) : wipe (σ.set i x) vs = wipe σ vs := by
  apply List.ext_getElem?
  intro j
  rw [wipe_get, wipe_get]
  by_cases hj : j ∈ vs
  · rw [if_pos hj, if_pos hj]
    by_cases e : i = j
    · subst e
      by_cases hl : i < σ.length
      · rw [List.getElem?_set_self hl, List.getElem?_eq_getElem hl]; rfl
      · rw [List.getElem?_eq_none (by rw [List.length_set]; omega), List.getElem?_eq_none (by omega)]
    · rw [List.getElem?_set_ne e]
  · rw [if_neg hj, if_neg hj, List.getElem?_set_ne (fun z => hj (by rw [← z]; exact h))]
theorem wipe_wipe {σ : List (Option V)} {vs : List Nat} : wipe (wipe σ vs) vs = wipe σ vs := by
  apply List.ext_getElem?
  intro j
  rw [wipe_get, wipe_get]
  by_cases hj : j ∈ vs
  · rw [if_pos hj, if_pos hj]; cases σ[j]? <;> rfl
  · rw [if_neg hj, if_neg hj]
theorem wipe_setV {vs : List Nat} : ∀ {is : List Nat} {xs : List V} {σ : List (Option V)}, (∀ i ∈ is, i ∈ vs) → wipe (setV σ is xs) vs = wipe σ vs
  | [], _, _, _ => rfl
  | _ :: _, [], _, _ => rfl
  | i :: is, x :: xs, σ, h => by
    show wipe (setV (σ.set i (some x)) is xs) vs = _
    rw [wipe_setV fun j hj => h j (List.mem_cons_of_mem _ hj), wipe_set (h i List.mem_cons_self)]
theorem setV_keep : ∀ {is : List Nat} {vs : List V} {σ : List (Option V)} (j : Nat) (x : V), (setV σ is vs)[j]? = some (some x) → j ∉ is → σ[j]? = some (some x)
  | [], _, _, _, _, h, _ => h
  | _ :: _, [], _, _, _, h, _ => h
  | i :: is, v :: vs, σ, j, x, h, hj => by
    have := setV_keep (is := is) (vs := vs) (σ := σ.set i (some v)) j x h (fun z => hj (List.mem_cons_of_mem _ z))
    rw [List.getElem?_set_ne (fun z => hj (by rw [z]; exact List.mem_cons_self))] at this
    exact this
def flatN (n : Nat) : D → Option (List D)
  | .tup ds => if ds.length = n then some ds else none
  | .pr ds => if ds.length = n then some ds else none
  | _ => none
theorem flatN_ok {K : PySem.W.Frag} {G : Gx K} {ua : Option Addr} {u : U} {B H : Hp} {n : Nat} {d : D} {v : V} {ds : List D} (w : Wd ua u B H) (r : Rep G ua d v B) (h : flatN n d = some ds) : ∃ a vs, v = .ref a ∧ SqT K H a vs ∧ vs.length = n ∧ Reps G ua ds vs B := by
  cases d with
  | tup xs =>
    dsimp only [flatN] at h
    split at h
    · rename_i hl
      cases h
      obtain ⟨a, vs, rfl, h, rs⟩ := r.tup
      exact ⟨a, vs, rfl, (h.mono w.sub).sq, by rw [← rs.len]; exact hl, rs⟩
    · cases h
  | pr xs =>
    dsimp only [flatN] at h
    split at h
    · rename_i hl
      cases h
      obtain ⟨a, vs, rfl, h, rs⟩ := r.pr
      exact ⟨a, vs, rfl, .of (w.sub _ _ h), by rw [← rs.len]; exact hl, rs⟩
    · cases h
  | _ => cases h
def setT : List Sl → List (Nat ⊕ List Nat) → List D → Option (List Sl)
  | env, [], [] => some env
  | env, .inl i :: r, d :: ds => setT (env.set i (Sl.pub d)) r ds
  | env, .inr is :: r, d :: ds => match flatN is.length d with
    | some xs => setT (setE env is xs) r ds
    | none => none
  | _, _, _ => none
theorem tree_ok {K : PySem.W.Frag} {G : Gx K} {ua : Option Addr} {u : U} {B H : Hp} (w : Wd ua u B H) : ∀ (ts : List (Nat ⊕ List Nat)) (ds : List D) (vs : List V) (env env' : List Sl) (σ : List (Option V)) (Q : L2.St → Hp → Prop), EnvOk G ua env σ B H → Reps G ua ds vs B → setT env ts ds = some env' →
    (∀ σ' : List (Option V), EnvOk G ua env' σ' B H → (∀ vs, (∀ i ∈ treeIds ts, i ∈ vs) → wipe σ' vs = wipe σ vs) → (∀ (j : Nat) x, σ'[j]? = some (some x) → j ∉ treeIds ts → σ[j]? = some (some x)) → Q σ' H) → gTrees K ts vs σ H Q
  | [], [], vs, env, env', σ, Q, e, r, h, q => by
    cases h
    rw [r.of_nil]
    exact ⟨rfl, q σ e (fun _ _ => rfl) fun _ _ h _ => h⟩
  | [], _ :: _, vs, env, env', σ, Q, e, r, h, q => by cases h
  | .inl i :: ts, [], vs, env, env', σ, Q, e, r, h, q => by cases h
  | .inr is :: ts, [], vs, env, env', σ, Q, e, r, h, q => by cases h
  | .inl i :: ts, d :: ds, vs, env, env', σ, Q, e, r, h, q => by
    obtain ⟨v, t, rfl, r1, r2⟩ := r.of_cons
    refine ⟨v, t, rfl, ?_⟩
    refine tree_ok w ts ds t (env.set i (Sl.pub d)) env' (σ.set i (some v)) Q (e.set r1 i) r2 h fun σ' e' hw hk => q σ' e' (fun vs hv => ?_) fun j x hx hj => ?_
    · rw [hw vs (fun j hj => hv j (List.mem_cons_of_mem _ hj)), wipe_set (hv i List.mem_cons_self)]
    · have := hk j x hx (fun z => hj (List.mem_cons_of_mem _ z))
      rw [List.getElem?_set_ne (fun z => hj (by rw [z]; exact List.mem_cons_self))] at this
      exact this
  | .inr is :: ts, d :: ds, vs, env, env', σ, Q, e, r, h, q => by
    obtain ⟨v, t, rfl, r1, r2⟩ := r.of_cons
    have h : (match flatN is.length d with | some xs => setT (setE env is xs) ts ds | none => none) = some env' := h
    split at h
    · rename_i xs hf
      obtain ⟨a, ws, rfl, hs, hl, rs⟩ := flatN_ok w r1 hf
      refine ⟨_, t, rfl, a, ws, rfl, hs, hl, gNames_ok is ws σ H _ hl ?_⟩
      refine tree_ok w ts ds t (setE env is xs) env' (setV σ is ws) Q (setE_ok is xs ws env σ e rs) r2 h fun σ' e' hw hk => q σ' e' (fun vs hv => ?_) fun j x hx hj => ?_
      · rw [hw vs (fun j hj => hv j (List.mem_append_right _ hj)), wipe_setV fun j hj => hv j (List.mem_append_left _ hj)]
      · exact setV_keep j x (hk j x hx (fun z => hj (List.mem_append_right _ z))) fun z => hj (List.mem_append_left _ z)
    · cases h
def flatS (n : Nat) : D → Option (List D)
  | .tup ds => if ds.length = n then some ds else none
  | .lst ds => if ds.length = n then some ds else none
  | .pr ds => if ds.length = n then some ds else none
  | _ => none
theorem flatS_ok {K : PySem.W.Frag} {G : Gx K} {ua : Option Addr} {u : U} {B H : Hp} {n : Nat} {d : D} {v : V} {ds : List D} (w : Wd ua u B H) (r : Rep G ua d v B) (h : flatS n d = some ds) : ∃ a vs, v = .ref a ∧ (SqT K H a vs ∨ SqL K H a vs) ∧ vs.length = n ∧ Reps G ua ds vs B := by
  cases d with
  | tup xs =>
    dsimp only [flatS] at h
    split at h
    · rename_i hl
      cases h
      obtain ⟨a, vs, rfl, h, rs⟩ := r.tup
      exact ⟨a, vs, rfl, .inl (h.mono w.sub).sq, by rw [← rs.len]; exact hl, rs⟩
    · cases h
  | lst xs =>
    dsimp only [flatS] at h
    split at h
    · rename_i hl
      cases h
      obtain ⟨a, vs, rfl, h, rs⟩ := r.lst
      exact ⟨a, vs, rfl, .inr (.of (w.sub _ _ h)), by rw [← rs.len]; exact hl, rs⟩
    · cases h
  | pr xs =>
    dsimp only [flatS] at h
    split at h
    · rename_i hl
      cases h
      obtain ⟨a, vs, rfl, h, rs⟩ := r.pr
      exact ⟨a, vs, rfl, .inl (.of (w.sub _ _ h)), by rw [← rs.len]; exact hl, rs⟩
    · cases h
  | _ => cases h
def bindT : Tgt → D → List Sl → Option (List Sl)
  | .one i, d, env => some (env.set i (Sl.pub d))
  | .many is, .tup ds, env => if ds.length = is.length then some (setE env is ds) else none
  | .many is, .pr ds, env => if ds.length = is.length then some (setE env is ds) else none
  | .tree ts, d, env => match flatN ts.length d with
    | some ds => setT env ts ds
    | none => none
  | .sq is, d, env => match flatS is.length d with
    | some ds => some (setE env is ds)
    | none => none
  | _, _, _ => none
theorem bindT_ok {K : PySem.W.Frag} {G : Gx K} {ua : Option Addr} {u : U} {B H : Hp} {t : Tgt} {d : D} {v : V} {env env' : List Sl} {σ : List (Option V)} {Q : L2.St → Hp → Prop} (e : EnvOk G ua env σ B H) (w : Wd ua u B H) (r : Rep G ua d v B) (b : bindT t d env = some env')
    (q : ∀ σ' : List (Option V), EnvOk G ua env' σ' B H → (∀ vs, (∀ i ∈ t.ids, i ∈ vs) → wipe σ' vs = wipe σ vs) → (∀ (j : Nat) x, σ'[j]? = some (some x) → j ∉ t.ids → σ[j]? = some (some x)) → Q σ' H) : gOf K t v σ H Q := by
  cases t with
  | one i =>
    unfold bindT at b; cases b
    refine q (σ.set i (some v)) (e.set r i) (fun vs h => wipe_set (h i (by simp [Tgt.ids]))) fun j x hx hj => ?_
    rw [List.getElem?_set_ne (fun z => hj (by simp [Tgt.ids, z]))] at hx
    exact hx
  | many is =>
    cases d with
    | tup ds =>
      dsimp only [bindT] at b
      split at b
      · rename_i hl
        cases b
        obtain ⟨a, vs, rfl, h, rs⟩ := r.tup
        have hlv : vs.length = is.length := by rw [← rs.len]; exact hl
        refine ⟨a, vs, rfl, (h.mono w.sub).sq, hlv, gNames_ok is vs σ H Q hlv (q _ (setE_ok is ds vs env σ e rs) (fun ws h => wipe_setV h) ?_)⟩
        clear q e hl hlv h rs
        induction is generalizing σ vs with
        | nil => intro j x hx _; exact hx
        | cons i is ih =>
          intro j x hx hj
          cases vs with
          | nil => exact hx
          | cons v vs =>
            have hj' : j ∉ i :: is := hj
            have := ih (σ := σ.set i (some v)) (vs := vs) j x hx (fun z => hj' (List.mem_cons_of_mem _ z))
            rw [List.getElem?_set_ne (fun z => hj' (by rw [z]; exact List.mem_cons_self))] at this
            exact this
      · cases b
    | pr ds =>
      dsimp only [bindT] at b
      split at b
      · rename_i hl
        cases b
        obtain ⟨a, vs, rfl, h, rs⟩ := r.pr
        have hlv : vs.length = is.length := by rw [← rs.len]; exact hl
        refine ⟨a, vs, rfl, .of (w.sub _ _ h), hlv, gNames_ok is vs σ H Q hlv (q _ (setE_ok is ds vs env σ e rs) (fun ws h => wipe_setV h) ?_)⟩
        clear q e hl hlv h rs
        induction is generalizing σ vs with
        | nil => intro j x hx _; exact hx
        | cons i is ih =>
          intro j x hx hj
          cases vs with
          | nil => exact hx
          | cons v vs =>
            have hj' : j ∉ i :: is := hj
            have := ih (σ := σ.set i (some v)) (vs := vs) j x hx (fun z => hj' (List.mem_cons_of_mem _ z))
            rw [List.getElem?_set_ne (fun z => hj' (by rw [z]; exact List.mem_cons_self))] at this
            exact this
      · cases b
    | _ => cases b
  | tree ts =>
    unfold bindT at b
    dsimp only at b
    split at b
    · rename_i ds hf
      obtain ⟨a, vs, rfl, hs, hl, rs⟩ := flatN_ok w r hf
      exact ⟨a, vs, rfl, hs, hl, tree_ok w ts ds vs env env' σ Q e rs b q⟩
    · cases b
  | sq is =>
    unfold bindT at b
    dsimp only at b
    split at b
    · rename_i ds hf
      cases b
      obtain ⟨a, vs, rfl, hs, hl, rs⟩ := flatS_ok w r hf
      exact ⟨a, vs, rfl, hs, hl, gNames_ok is vs σ H Q hl (q _ (setE_ok is ds vs env σ e rs) (fun ws h => wipe_setV h) fun j x hx hj => setV_keep j x hx hj)⟩
    · cases b
end Dv
namespace Dv
open PySem PySem.Spec PyProof.Rows L2
def compL (f : D → U → Option (Option D × U)) : List D → U → Option (List D × U)
  | [], u => some ([], u)
  | d :: ds, u => bnd (f d u) fun o u1 => bnd (compL f ds u1) fun r u2 => some (match o with | some x => x :: r | none => r, u2)
def turnL (t : Tgt) (own : List Nat) (env : List Sl) (mc : MB) (me : M) : D → U → Option (Option D × U) := fun d u => match bindT t d (wipeE env own) with
  | none => none
  | some env' => bnd (mc env' u) fun b u1 => if b = true then bnd (me env' u1) fun x u2 => some (some x, u2) else some (none, u1)
def mLc (t : Tgt) (own : List Nat) (mi : MI) (mc : MB) (me : M) : M := fun env u => bnd (mi env u) fun ds u1 => bnd (compL (turnL t own env mc me) ds u1) fun r u2 => if r.length ≤ sizeLine then some (.lst r, u2) else none
def mYes : MB := fun _ u => some (true, u)
theorem Grow.put {ua : Option Addr} {B H B' H' : Hp} {p : Addr} {o : HO} (g : Grow ua B H B' H') (h : H p = none) : Grow ua B H B' (upd H' p o) := by
  refine ⟨fun a x e n => ?_, fun a e => ?_, g.pub, g.new⟩
  · rw [upd_ne (ne_of_none e h)]; exact g.keep a x e n
  · by_cases q : a = p
    · subst q; exact h
    · rw [upd_ne q] at e; exact g.live a e
/-- one's own object is shown to all -/
theorem Grow.show {ua : Option Addr} {B H B' H' : Hp} {p : Addr} {o : HO} (g : Grow ua B H B' H') (h : H p = none) (hb : B' p = none) : Grow ua B H (upd B' p o) H' := by
  refine ⟨g.keep, g.live, fun a x e => same_new hb a x (g.pub a x e), fun a x e => ?_⟩
  by_cases q : a = p
  · subst q; exact .inr h
  · rw [upd_ne q] at e; exact g.new a x e
theorem Wd.show {ua : Option Addr} {u : U} {B H : Hp} {p : Addr} {o : HO} (w : Wd ua u B H) (h : H p = some o) (n : ua ≠ some p) : Wd ua u (upd B p o) H := by
  refine ⟨fun a x e => ?_, fun a e => ?_⟩
  · by_cases q : a = p
    · subst q; rw [upd_same] at e; cases e; exact h
    · rw [upd_ne q] at e; exact w.sub a x e
  · rw [upd_ne (fun z => n (by rw [← z]; exact e))]; exact w.urn a e
theorem Grow.none_of {ua : Option Addr} {B H B' H' : Hp} {p : Addr} {o : HO} (g : Grow ua B H B' H') (h : H p = some o) (hb : B p = none) : B' p = none := by
  cases q : B' p with
  | none => rfl
  | some x =>
    rcases g.new p x q with z | z
    · rw [z] at hb; cases hb
    · rw [z] at h; cases h
section
variable {X : Cx} {G : Gx X.K} {mi : MI} {mc : MB} {me : M}
theorem lc_inner {t : Tgt} {own : List Nat} {σ : L2.St} {Q : VK} {ua : Option Addr} {u1 u' : U} {B1 H1 : Hp} {env : List Sl} {J : It} {ds r : List D} (ht : ∀ i ∈ t.ids, i ∈ own) (hE1 : EnvOk G ua env σ B1 H1) (w1 : Wd ua u1 B1 H1) (wk : Wk G ua J B1 ds)
    (h3 : compL (turnL t own env mc me) ds u1 = some (r, u')) (hr : r.length ≤ sizeLine) (q : ∀ v H', Aft G ua B1 H1 u' (.lst r) v H' → Q v H') :
    ∀ D, H1 D = none → ∃ W : Nat → Nat → Hp → Prop, (∃ m, W 0 m (upd H1 D (.lst []))) ∧ ∀ i m H, W i m H →
  (J.stop i H ∧ Q (.ref D) H) ∨ (J.go i H ∧ ∃ Nx : Hp → Prop, (∀ H', Nx H' → ∃ m', m' < m ∧ W (i + 1) m' H') ∧ ∀ x H', J.yld i H x H' → gOf X.K t x (wipe σ own) H' fun σ2 H2 => wipe σ2 own = wipe σ own ∧ tTst G mc σ2 H2 fun b H3 =>
    if b = true then tEv G me σ2 H3 fun y H4 => ∃ acc, H4 D = some (.lst acc) ∧ acc.length < sizeLine ∧ Nx (upd H4 D (.lst (acc ++ [y]))) else Nx H3) := by
  intro Dp hD
  refine ⟨fun i m H' => m = ds.length - i ∧ i ≤ ds.length ∧ ∃ B' uu done vs rest, Grow ua B1 H1 B' H' ∧ Wd ua uu B' H' ∧ H' Dp = some (.lst vs) ∧ B' Dp = none ∧ Reps G ua done vs B' ∧ compL (turnL t own env mc me) (ds.drop i) uu = some (rest, u') ∧ done ++ rest = r,
    ⟨ds.length, by omega, by omega, B1, u1, [], [], r, .own1 w1 hD, w1.own1 hD, upd_same, w1.none_of hD, .nil, h3, rfl⟩, ?_⟩
  rintro i m H' ⟨rfl, hi, B', uu, done, vs, rest, g2, w2, hv, hb, rs, hc, hcat⟩
  have sB : Same B1 B' := g2.pub
  have nu : ua ≠ some Dp := w1.ne_urn hD
  have hk := wk i B' H' uu sB w2
  by_cases hlt : i < ds.length
  · have hd : ds[i]? = some ds[i] := List.getElem?_eq_getElem hlt
    obtain ⟨hgo, hy⟩ := hk.1 _ hd
    rw [List.drop_eq_getElem_cons hlt] at hc
    obtain ⟨o, u3, c1, c2⟩ := bnd_some (show bnd (turnL t own env mc me ds[i] uu) _ = _ from hc)
    obtain ⟨rest', u4, c3, c4⟩ := bnd_some c2
    refine .inr ⟨hgo, fun H2 => ∃ B' uu done vs rest, Grow ua B1 H1 B' H2 ∧ Wd ua uu B' H2 ∧ H2 Dp = some (.lst vs) ∧ B' Dp = none ∧ Reps G ua done vs B' ∧ compL (turnL t own env mc me) (ds.drop (i + 1)) uu = some (rest, u') ∧ done ++ rest = r,
      fun H2 h2 => ⟨ds.length - (i + 1), by omega, rfl, hlt, h2⟩, fun x H2 y => ?_⟩
    obtain ⟨B2, g3, w3, r3⟩ := hy x H2 y
    have hv2 : H2 Dp = some (.lst vs) := g3.keep _ _ hv nu
    have hb2 : B2 Dp = none := g3.none_of hv hb
    have rs2 := rs.mono _ _ g3.pub
    have hE2 : EnvOk G ua (wipeE env own) (wipe σ own) B2 H2 := ((hE1.wipe own).grow g2).grow g3
    unfold turnL at c1
    split at c1
    · cases c1
    · rename_i env' hbt
      refine bindT_ok hE2 w3 r3 hbt fun σ' hE3 hwp hback => ⟨by rw [hwp own ht, wipe_wipe], ?_⟩
      obtain ⟨b, u5, c5, c6⟩ := bnd_some c1
      refine ⟨ua, uu, B2, env', b, u5, hE3, w3, c5, fun H3 ⟨B3, g4, w4⟩ => ?_⟩
      have hv3 : H3 Dp = some (.lst vs) := g4.keep _ _ hv2 nu
      have hb3 : B3 Dp = none := g4.none_of hv2 hb2
      have rs3 := rs2.mono _ _ g4.pub
      have gg := g2.trans (g3.trans g4)
      cases b with
      | true =>
        rw [if_pos rfl] at c6
        refine iteT ?_
        obtain ⟨x', u6, c7, c8⟩ := bnd_some c6
        cases c8
        cases c4
        refine ⟨ua, u5, B3, env', x', u3, hE3.grow g4, w4, c7, fun yv H4 ⟨B4, g5, w5, r5⟩ => ?_⟩
        have hv4 : H4 Dp = some (.lst vs) := g5.keep _ _ hv3 nu
        have hb4 : B4 Dp = none := g5.none_of hv3 hb3
        have rs4 := rs3.mono _ _ g5.pub
        refine ⟨vs, hv4, ?_, B4, u3, done ++ [x'], vs ++ [yv], rest', (gg.trans g5).put hD, w5.put hb4 nu, upd_same, hb4, rs4.append (.cons r5 .nil), c3, by rw [← hcat]; simp⟩
        have := congrArg List.length hcat
        rw [List.length_append, List.length_cons] at this
        rw [← rs4.len]
        omega
      | false =>
        rw [if_neg Bool.false_ne_true] at c6
        refine iteF ?_
        cases c6
        cases c4
        exact ⟨B3, _, done, vs, rest', gg, w4, hv3, hb3, rs3, c3, hcat⟩
  · have e : i = ds.length := by omega
    subst e
    rw [List.drop_length] at hc
    cases hc
    rw [List.append_nil] at hcat
    subst hcat
    refine .inl ⟨hk.2 (List.getElem?_eq_none (Nat.le_refl _)), q _ _ ⟨upd B' Dp (.lst vs), g2.show hD hb, w2.show hv nu, ?_⟩⟩
    unfold Rep
    exact ⟨Dp, vs, rfl, upd_same, rs.mono _ _ (same_new hb)⟩
theorem lc_innerD {t : Tgt} {own : List Nat} {σ : L2.St} {Qd : Hp → Prop} {ua : Option Addr} {u1 u' : U} {B1 H1 : Hp} {env : List Sl} {J : It} {ds r : List D} {Dp : Addr} (ht : ∀ i ∈ t.ids, i ∈ own) (hE1 : EnvOk G ua env σ B1 H1) (w1 : Wd ua u1 B1 H1) (wk : Wk G ua J B1 ds)
    (h3 : compL (turnL t own env mc me) ds u1 = some (r, u')) (hr : r.length ≤ sizeLine) (hD : H1 Dp = none) (q : ∀ H', Aft G ua B1 H1 u' (.lst r) (.ref Dp) H' → Qd H') :
    ∃ W : Nat → Nat → Hp → Prop, (∃ m, W 0 m (upd H1 Dp (.lst []))) ∧ ∀ i m H, W i m H →
  (J.stop i H ∧ Qd H) ∨ (J.go i H ∧ ∃ Nx : Hp → Prop, (∀ H', Nx H' → ∃ m', m' < m ∧ W (i + 1) m' H') ∧ ∀ x H', J.yld i H x H' → gOf X.K t x (wipe σ own) H' fun σ2 H2 => wipe σ2 own = wipe σ own ∧ tTst G mc σ2 H2 fun b H3 =>
    if b = true then tEv G me σ2 H3 fun y H4 => ∃ acc, H4 Dp = some (.lst acc) ∧ acc.length < sizeLine ∧ Nx (upd H4 Dp (.lst (acc ++ [y]))) else Nx H3) := by
  obtain ⟨W, h0, h⟩ := lc_inner (Q := fun v H => v = .ref Dp → Qd H) ht hE1 w1 wk h3 hr (fun v H' a e => q H' (by rw [← e]; exact a)) Dp hD
  refine ⟨W, h0, fun i m H w => ?_⟩
  rcases h i m H w with ⟨a, b⟩ | c
  · exact .inl ⟨a, b rfl⟩
  · exact .inr c
theorem lc_read {t : Tgt} {own : List Nat} {σ : L2.St} {H : Hp} {Q : VK} (ht : ∀ i ∈ t.ids, i ∈ own) (h : tEv G (mLc t own mi mc me) σ H Q) : tLc (tIt G mi) (gOf X.K t) (tTst G mc) (tEv G me) own σ H Q := by
  obtain ⟨ua, u, B, env, d, u', hE, hW, hm, q⟩ := h
  obtain ⟨ds, u1, h1, h2⟩ := bnd_some hm
  obtain ⟨r, u2, h3, h4⟩ := bnd_some h2
  split at h4
  · cases h4
    exact ⟨ua, u, B, env, ds, u1, hE, hW, h1, fun J B1 H1 g1 w1 wk => lc_inner ht (hE.grow g1) w1 wk h3 ‹_› fun v H' a => q v H' (.up g1 a)⟩
  · cases h4
theorem dts_no : PTs X [] (tTst G mYes) := ⟨fun pins s σ H Q I h => by
  obtain ⟨ua, u, B, env, b, u', hE, hW, hm, q⟩ := h
  cases hm
  exact pts_nil.run pins s σ H Q I (q _ ⟨B, .refl, hW⟩)⟩
theorem dts_one {c : Expr} (h : PT X c (tTst G mc)) : PTs X [c] (tTst G mc) := pts_one h
variable {elt tg iter : Expr} {ifs : List Expr} {scope : Scope} {own : List (Str × Nat)} {pos : Pos}
theorem dv_lc (t : Tgt) (ids : List Nat) (hc : X.calm = true) (hN : X.N.Nodup) (hi : PI X tg iter (tIt G mi)) (ok : BlkOk X.N X.env.scope scope own) (hid : own.map (·.2) = ids) (ht : ∀ i ∈ t.ids, i ∈ ids)
    (hg : ∀ (s : Shared) (H : Hp) (C : Addr) (cl : List (Str × Addr)) (fp : List Addr), PG (X.blk s H scope (compEnvC scope cl C X.env) fp) tg (gOf X.K t)) (hq : ∀ (s : Shared) (H : Hp) (C : Addr) (cl : List (Str × Addr)) (fp : List Addr), PTs (X.blk s H scope (compEnvC scope cl C X.env) fp) ifs (tTst (K := X.K) G mc))
    (he : ∀ (s : Shared) (H : Hp) (C : Addr) (cl : List (Str × Addr)) (fp : List Addr), PE (X.blk s H scope (compEnvC scope cl C X.env) fp) elt (tEv (K := X.K) G me)) (hs : ∀ x, foldedSetIterable iter X.env x = pure x := by intro _; rfl) :
    PE X (.ListComp elt [⟨tg, iter, ifs, 0⟩] scope pos) (tEv G (mLc t ids mi mc me)) := by
  subst hid
  exact (pe_lc hc hN hi ok hg hq he hs).imp fun _ _ _ h => lc_read ht h
end
inductive Fl where
  | nx (env : List Sl) | rt (d : D) | er (env : List Sl) (c : Str) (ns : List Str) (xs : List D)
/-- an error in the air: its class, its dict, its fields -/
def ErR {K : PySem.W.Frag} (G : Gx K) (ua : Option Addr) (c : Str) (ns : List Str) (xs : List D) (cls : Value) (d : Option Addr) (B : Hp) : Prop := ∃ C vs, G.exc c = some C ∧ cls = .ref C ∧ ErD B ns vs d ∧ Reps G ua xs vs B
theorem ErR.mono {K : PySem.W.Frag} {G : Gx K} {ua : Option Addr} {c : Str} {ns : List Str} {xs : List D} {cls : Value} {d : Option Addr} {B B' : Hp} (h : ErR G ua c ns xs cls d B) (s : Same B B') : ErR G ua c ns xs cls d B' := by
  obtain ⟨C, vs, h1, h2, h3, h4⟩ := h
  exact ⟨C, vs, h1, h2, h3.mono s, h4.mono _ _ s⟩
abbrev MS := List Sl → U → Option (Fl × U)
def OwnNew (env : List Sl) (σ : List (Option V)) (H0 : Hp) : Prop := ∀ (i : Nat) ds p, env[i]? = some (Sl.own ds) → σ[i]? = some (some (V.ref p)) → H0 p = none
theorem OwnNew.set {env : List Sl} {σ : List (Option V)} {H0 : Hp} (h : OwnNew env σ H0) (i : Nat) (d : D) (v : V) : OwnNew (env.set i (Sl.pub d)) (σ.set i (some v)) H0 := fun j ds p h1 h2 => by
  rcases get_set h1 with ⟨rfl, q⟩ | ⟨q, h1⟩
  · cases q
  · rw [List.getElem?_set_ne (fun z => q z.symm)] at h2
    exact h j ds p h1 h2
def tSt {K : PySem.W.Frag} (G : Gx K) (W : WX) (m : MS) : TS := fun Dn σ H => ∃ ua u B env fl u' B0 H0, Grow ua B0 H0 B H ∧ OwnNew env σ H0 ∧ EnvOk G ua env σ B H ∧ Wd ua u B H ∧ m env u = some (fl, u') ∧ match fl with
  | .nx env' => ∀ (σ' : List (Option V)) B' H', Grow ua B0 H0 B' H' → OwnNew env' σ' H0 → EnvOk G ua env' σ' B' H' → Wd ua u' B' H' → Dn.nx σ' H'
  | .rt d => ∀ v B' H', Grow ua B0 H0 B' H' → Wd ua u' B' H' → Rep G ua d v B' → Dn.rt v H'
  | .er env' c ns xs => ∀ (σ' : List (Option V)) B' H' cls d, Grow ua B0 H0 B' H' → OwnNew env' σ' H0 → EnvOk G ua env' σ' B' H' → Wd ua u' B' H' → ErR G ua c ns xs cls d B' → W cls d σ' H'
theorem _root_.L2.PS.imp {X : Cx} {st : Stmt} {t t' : TS} (h : PS X st t) (i : ∀ Dn σ H, t' Dn σ H → t Dn σ H) : PS X st t' := ⟨fun pins s σ H Q I q => h.run pins s σ H Q I (i Q σ H q)⟩
theorem _root_.L2.PSs.imp {X : Cx} {st : List Stmt} {t t' : TS} (h : PSs X st t) (i : ∀ Dn σ H, t' Dn σ H → t Dn σ H) : PSs X st t' := ⟨fun pins s σ H Q I q => h.run pins s σ H Q I (i Q σ H q)⟩
section
variable {X : Cx} {G : Gx X.K} {W : WX} {a b e : Expr} {me ma mb : M} {mc : MB} {pos : Pos} {st : Stmt} {sts : List Stmt} {m1 m2 : MS}
def sNil : MS := fun env u => some (.nx env, u)
def sCons (a b : MS) : MS := fun env u => bnd (a env u) fun fl u1 => match fl with
  | .nx env' => b env' u1
  | fl => some (fl, u1)
theorem dss_nil : PSs X [] (tSt G W sNil) := pss_nil.imp fun Dn σ H h => by
  obtain ⟨ua, u, B, env, fl, u', B0, H0, hg, hO, hE, hW, hm, q⟩ := h
  cases hm
  exact q σ B H hg hO hE hW
theorem dss_cons (h1 : PS X st (tSt G W m1)) (h2 : PSs X sts (tSt G W m2)) : PSs X (st :: sts) (tSt G W (sCons m1 m2)) := (pss_cons h1 h2).imp fun Dn σ H h => by
  obtain ⟨ua, u, B, env, fl, u', B0, H0, hg, hO, hE, hW, hm, q⟩ := h
  obtain ⟨f1, u1, c1, c2⟩ := bnd_some hm
  refine ⟨ua, u, B, env, f1, u1, B0, H0, hg, hO, hE, hW, c1, ?_⟩
  cases f1 with
  | nx env' => exact fun σ' B' H' g o e w => ⟨ua, u1, B', env', fl, u', B0, H0, g, o, e, w, c2, q⟩
  | rt d => cases c2; exact q
  | er env' c ns xs => cases c2; exact q
def sSet (i : Nat) (m : M) : MS := fun env u => bnd (m env u) fun d u1 => some (.nx (env.set i (Sl.pub d)), u1)
theorem ds_set (i : Nat) {x : Str} {pos' : Pos} (hN : X.N.Nodup) (he : PE X e (tEv G me)) (hi : X.N[i]? = some x := by rfl) (hx : Loc X.env.scope x := by first | exact Or.inl rfl | exact Or.inr rfl) (hs : swapsWith e (some (.Name x pos')) pos.line X.env = pure false := by rfl)
    (hf : X.fn x = true ∨ X.env.scope.names.lookup x = some .local := by first | exact .inl rfl | exact .inr rfl | assumption) : PS X (.Assign [.Name x pos'] e pos) (tSt G W (sSet i me)) := (ps_set hN hi hx he hs hf).imp fun Dn σ H h => by
  obtain ⟨ua, u, B, env, fl, u', B0, H0, hg, hO, hE, hW, hm, q⟩ := h
  obtain ⟨d, u1, c1, c2⟩ := bnd_some hm
  cases c2
  exact ⟨ua, u, B, env, d, _, hE, hW, c1, fun v H1 ⟨B1, g1, w1, r1⟩ => q _ B1 H1 (hg.trans g1) (hO.set i d v) ((hE.grow g1).set r1 i) w1⟩
theorem ds_setLc (i : Nat) {y : Str} {py : Pos} {elt tg iter : Expr} {ifs : List Expr} {scope : Scope} {own : List (Str × Nat)} {spos : Pos} {mi : MI} (t : Tgt) (ids : List Nat) (hc : X.calm = true) (hN : X.N.Nodup)
    (hsw : swapsWith (.ListComp elt [⟨tg, iter, ifs, 0⟩] scope pos) (some (.Name y py)) spos.line X.env = pure true) (hi : PI X tg iter (tIt G mi)) (ok : BlkOk X.N X.env.scope scope own) (hid : own.map (·.2) = ids) (ht : ∀ i ∈ t.ids, i ∈ ids)
    (hg : ∀ (s : Shared) (H : Hp) (C : Addr) (cl : List (Str × Addr)) (fp : List Addr), PG (X.blk s H scope (compEnvC scope cl C X.env) fp) tg (gOf X.K t)) (hq : ∀ (s : Shared) (H : Hp) (C : Addr) (cl : List (Str × Addr)) (fp : List Addr), PTs (X.blk s H scope (compEnvC scope cl C X.env) fp) ifs (tTst (K := X.K) G mc))
    (he : ∀ (s : Shared) (H : Hp) (C : Addr) (cl : List (Str × Addr)) (fp : List Addr), PE (X.blk s H scope (compEnvC scope cl C X.env) fp) elt (tEv (K := X.K) G me)) (hy : X.N[i]? = some y := by rfl) (hyl : X.env.scope.names.lookup y = some .local := by rfl) (hs : ∀ x, foldedSetIterable iter X.env x = pure x := by intro _; rfl) :
    PS X (.Assign [.Name y py] (.ListComp elt [⟨tg, iter, ifs, 0⟩] scope pos) spos) (tSt G W (sSet i (mLc t ids mi mc me))) := by
  subst hid
  refine (ps_setLc hc hN hy hyl hsw hi ok hg hq he hs).imp fun Dn σ H h => ?_
  obtain ⟨ua, u, B, env, fl, u', B0, H0, hg, hO, hE, hW, hm, q⟩ := h
  obtain ⟨d, u1, c1, c2⟩ := bnd_some hm
  cases c2
  exact lc_read ht ⟨ua, u, B, env, d, _, hE, hW, c1, fun v H1 ⟨B1, g1, w1, r1⟩ => q _ B1 H1 (hg.trans g1) (hO.set i d v) ((hE.grow g1).set r1 i) w1⟩
/-- a, b = a tuple -/
def sTgt (t : Tgt) (m : M) : MS := fun env u => bnd (m env u) fun d u1 => match bindT t d env with
  | some env' => some (.nx env', u1)
  | none => none
theorem setE_own : ∀ {is : List Nat} {xs : List D} {env : List Sl} (j : Nat) (ds : Oo), (setE env is xs)[j]? = some (Sl.own ds) → xs.length = is.length → env[j]? = some (Sl.own ds) ∧ j ∉ is
  | [], _, _, _, _, h, _ => ⟨h, by simp⟩
  | _ :: _, [], _, _, _, _, hl => by cases hl
  | i :: is, x :: xs, env, j, ds, h, hl => by
    obtain ⟨h1, h2⟩ := setE_own (is := is) (xs := xs) (env := env.set i (Sl.pub x)) j ds h (by simpa using hl)
    rcases get_set h1 with ⟨rfl, q⟩ | ⟨q, h3⟩
    · cases q
    · exact ⟨h3, fun z => by rcases List.mem_cons.mp z with z | z; exact q z; exact h2 z⟩
theorem flatN_len {n : Nat} {d : D} {xs : List D} (h : flatN n d = some xs) : xs.length = n := by
  cases d with
  | tup ys => dsimp only [flatN] at h; split at h; (cases h; assumption); cases h
  | pr ys => dsimp only [flatN] at h; split at h; (cases h; assumption); cases h
  | _ => cases h
theorem flatS_len {n : Nat} {d : D} {xs : List D} (h : flatS n d = some xs) : xs.length = n := by
  cases d with
  | tup ys => dsimp only [flatS] at h; split at h; (cases h; assumption); cases h
  | lst ys => dsimp only [flatS] at h; split at h; (cases h; assumption); cases h
  | pr ys => dsimp only [flatS] at h; split at h; (cases h; assumption); cases h
  | _ => cases h
theorem setT_own : ∀ {ts : List (Nat ⊕ List Nat)} {xs : List D} {env env' : List Sl} (j : Nat) (ds : Oo), setT env ts xs = some env' → env'[j]? = some (Sl.own ds) → env[j]? = some (Sl.own ds) ∧ j ∉ treeIds ts
  | [], [], _, _, _, _, b, h => by cases b; exact ⟨h, by simp [treeIds]⟩
  | [], _ :: _, _, _, _, _, b, _ => by cases b
  | .inl _ :: _, [], _, _, _, _, b, _ => by cases b
  | .inr _ :: _, [], _, _, _, _, b, _ => by cases b
  | .inl i :: ts, x :: xs, env, env', j, ds, b, h => by
    obtain ⟨h1, h2⟩ := setT_own (ts := ts) (xs := xs) (env := env.set i (Sl.pub x)) j ds b h
    rcases get_set h1 with ⟨rfl, q⟩ | ⟨q, h3⟩
    · cases q
    · exact ⟨h3, fun z => by rcases List.mem_cons.mp z with z | z; exact q z; exact h2 z⟩
  | .inr is :: ts, x :: xs, env, env', j, ds, b, h => by
    have b : (match flatN is.length x with | some ys => setT (setE env is ys) ts xs | none => none) = some env' := b
    split at b
    · rename_i ys hf
      obtain ⟨h1, h2⟩ := setT_own (ts := ts) (xs := xs) (env := setE env is ys) j ds b h
      obtain ⟨h3, h4⟩ := setE_own j ds h1 (flatN_len hf)
      exact ⟨h3, fun z => (List.mem_append.mp z).elim h4 h2⟩
    · cases b
theorem bindT_own {t : Tgt} {d : D} {env env' : List Sl} (b : bindT t d env = some env') (j : Nat) (ds : Oo) (h : env'[j]? = some (Sl.own ds)) : env[j]? = some (Sl.own ds) ∧ j ∉ t.ids := by
  cases t with
  | one i =>
    unfold bindT at b; cases b
    rcases get_set h with ⟨rfl, q⟩ | ⟨q, h⟩
    · cases q
    · exact ⟨h, by simp [Tgt.ids, q]⟩
  | many is =>
    cases d with
    | tup xs =>
      dsimp only [bindT] at b
      split at b
      · rename_i hl
        cases b
        show env[j]? = some (Sl.own ds) ∧ j ∉ is
        induction is generalizing env xs with
        | nil => exact ⟨h, by simp⟩
        | cons i is ih =>
          cases xs with
          | nil => cases hl
          | cons x xs =>
            obtain ⟨h1, h2⟩ := ih (env := env.set i (Sl.pub x)) xs (by simpa using hl) h
            rcases get_set h1 with ⟨rfl, q⟩ | ⟨q, h3⟩
            · cases q
            · exact ⟨h3, fun z => by rcases List.mem_cons.mp z with z | z; exact q z; exact h2 z⟩
      · cases b
    | pr xs =>
      dsimp only [bindT] at b
      split at b
      · rename_i hl
        cases b
        show env[j]? = some (Sl.own ds) ∧ j ∉ is
        induction is generalizing env xs with
        | nil => exact ⟨h, by simp⟩
        | cons i is ih =>
          cases xs with
          | nil => cases hl
          | cons x xs =>
            obtain ⟨h1, h2⟩ := ih (env := env.set i (Sl.pub x)) xs (by simpa using hl) h
            rcases get_set h1 with ⟨rfl, q⟩ | ⟨q, h3⟩
            · cases q
            · exact ⟨h3, fun z => by rcases List.mem_cons.mp z with z | z; exact q z; exact h2 z⟩
      · cases b
    | _ => cases b
  | tree ts =>
    unfold bindT at b
    dsimp only at b
    split at b
    · exact setT_own j ds b h
    · cases b
  | sq is =>
    unfold bindT at b
    dsimp only at b
    split at b
    · rename_i xs hf
      cases b
      exact setE_own j ds h (flatS_len hf)
    · cases b
theorem ds_tgt (t : Tgt) {tg : Expr} (he : PE X e (tEv G me)) (hg : PG X tg (gOf X.K t)) (hs : swapsWithSole [tg] e pos.line X.env = pure false := by rfl) (hw : swappedStores [tg] e X.env = pure none := by rfl)
    (h1 : (assignEach [tg] X.env).map (·.2) = [assign tg X.env] := by rfl) : PS X (.Assign [tg] e pos) (tSt G W (sTgt t me)) := (ps_asg he hg hs hw h1).imp fun Dn σ H h => by
  obtain ⟨ua, u, B, env, fl, u', B0, H0, hg, hO, hE, hW, hm, q⟩ := h
  obtain ⟨d, u1, c1, c2⟩ := bnd_some hm
  split at c2
  · rename_i env' hb
    cases c2
    refine ⟨ua, u, B, env, d, _, hE, hW, c1, fun v H1 ⟨B1, g1, w1, r1⟩ => bindT_ok (hE.grow g1) w1 r1 hb fun σ' e' _ hk => q _ B1 H1 (hg.trans g1) (fun j ds p z1 z2 => ?_) e' w1⟩
    obtain ⟨z3, z4⟩ := bindT_own hb j ds z1
    exact hO j ds p z3 (hk j _ z2 z4)
  · cases c2
/-- a, b = x, y -/
def sPar (i j : Nat) (a b : M) : MS := fun env u => bnd (a env u) fun d u1 => bnd (b env u1) fun d2 u2 => some (.nx ((env.set i (Sl.pub d)).set j (Sl.pub d2)), u2)
def sRet (m : M) : MS := fun env u => bnd (m env u) fun d u1 => some (.rt d, u1)
theorem ds_ret (he : PE X e (tEv G me)) : PS X (.Return (some e) pos) (tSt G W (sRet me)) := (ps_ret he).imp fun Dn σ H h => by
  obtain ⟨ua, u, B, env, fl, u', B0, H0, hg, hO, hE, hW, hm, q⟩ := h
  obtain ⟨d, u1, c1, c2⟩ := bnd_some hm
  cases c2
  exact ⟨ua, u, B, env, d, _, hE, hW, c1, fun v H1 ⟨B1, g1, w1, r1⟩ => q v B1 H1 (hg.trans g1) w1 r1⟩
def sIf (c : MB) (a b : MS) : MS := fun env u => bnd (c env u) fun k u1 => if k = true then a env u1 else b env u1
theorem ds_if {c : Expr} {x y : List Stmt} (hc : PT X c (tTst G mc)) (ha : PSs X x (tSt G W m1)) (hb : PSs X y (tSt G W m2)) : PS X (.If c x y pos) (tSt G W (sIf mc m1 m2)) := (ps_if hc ha hb).imp fun Dn σ H h => by
  obtain ⟨ua, u, B, env, fl, u', B0, H0, hg, hO, hE, hW, hm, q⟩ := h
  obtain ⟨k, u1, c1, c2⟩ := bnd_some hm
  refine ⟨ua, u, B, env, k, u1, hE, hW, c1, fun H1 ⟨B1, g1, w1⟩ => ?_⟩
  cases k with
  | true => rw [if_pos rfl] at c2 ⊢; exact ⟨ua, u1, B1, env, fl, u', B0, H0, hg.trans g1, hO, hE.grow g1, w1, c2, q⟩
  | false => rw [if_neg Bool.false_ne_true] at c2 ⊢; exact ⟨ua, u1, B1, env, fl, u', B0, H0, hg.trans g1, hO, hE.grow g1, w1, c2, q⟩
def sDrop (m : M) : MS := fun env u => bnd (m env u) fun _ u1 => some (.nx env, u1)
/-- a loop; no break, no continue -/
def forL (t : Tgt) (f : MS) : List D → List Sl → U → Option (Fl × U)
  | [], env, u => some (.nx env, u)
  | d :: ds, env, u => match bindT t d env with
    | none => none
    | some env1 => bnd (f env1 u) fun fl u1 => match fl with
      | .nx env2 => forL t f ds env2 u1
      | fl => some (fl, u1)
def sFor (t : Tgt) (mi : MI) (f : MS) : MS := fun env u => bnd (mi env u) fun ds u1 => forL t f ds env u1
theorem Grow.mid {ua : Option Addr} {B0 H0 B1 B2 H1 H2 : Hp} (g1 : Grow ua B0 H0 B1 H1) (g2 : Grow ua B0 H0 B2 H2) (s : Same B1 B2) : Grow ua B1 H0 B2 H2 :=
  ⟨g2.keep, g2.live, s, fun a o h => by
    rcases g2.new a o h with z | z
    · exact .inl (by
        have z1 := g1.pub a o z
        exact z1)
    · exact .inr z⟩
theorem Grow.unmid {ua : Option Addr} {B0 H0 B1 B2 H1 H2 : Hp} (g1 : Grow ua B0 H0 B1 H1) (g2 : Grow ua B1 H0 B2 H2) : Grow ua B0 H0 B2 H2 :=
  ⟨g2.keep, g2.live, fun a o h => g2.pub a o (g1.pub a o h), fun a o h => by
    rcases g2.new a o h with z | z
    · exact g1.new a o z
    · exact .inr z⟩
theorem for_read {t : Tgt} {mi : MI} {Dn : Ends} {σ : L2.St} {H : Hp} (h : tSt G W (sFor t mi m1) Dn σ H) : tFor (tIt G mi) (gOf X.K t) (tSt G W m1) Dn σ H := by
  obtain ⟨ua, u, B, env, fl, u', B0, H0, hg, hO, hE, hW, hm, q⟩ := h
  obtain ⟨ds, u1, c1, c2⟩ := bnd_some hm
  refine ⟨ua, u, B, env, ds, u1, hE, hW, c1, fun J B1 H1 g1 w1 wk => ?_⟩
  have g01 : Grow ua B0 H0 B1 H1 := hg.trans g1
  refine ⟨fun i m σ2 H2 => m = ds.length - i ∧ i ≤ ds.length ∧ ∃ B2 u2 env2, Grow ua B1 H0 B2 H2 ∧ OwnNew env2 σ2 H0 ∧ EnvOk G ua env2 σ2 B2 H2 ∧ Wd ua u2 B2 H2 ∧ forL t m1 (ds.drop i) env2 u2 = some (fl, u'),
    ⟨ds.length, by omega, by omega, B1, u1, env, g01.mid g01 (fun _ _ z => z), hO, hE.grow g1, w1, c2⟩, ?_⟩
  rintro i m σ2 H2 ⟨rfl, hi, B2, u2, env2, g2, o2, e2, w2, hf⟩
  have hk := wk i B2 H2 u2 g2.pub w2
  by_cases hlt : i < ds.length
  · have hd : ds[i]? = some ds[i] := List.getElem?_eq_getElem hlt
    obtain ⟨hgo, hy⟩ := hk.1 _ hd
    rw [List.drop_eq_getElem_cons hlt] at hf
    refine .inr ⟨hgo, fun σ3 H3 => ∃ B3 u3 env3, Grow ua B1 H0 B3 H3 ∧ OwnNew env3 σ3 H0 ∧ EnvOk G ua env3 σ3 B3 H3 ∧ Wd ua u3 B3 H3 ∧ forL t m1 (ds.drop (i + 1)) env3 u3 = some (fl, u'),
      fun σ3 H3 z => ⟨ds.length - (i + 1), by omega, rfl, hlt, z⟩, fun x H3 y => ?_⟩
    obtain ⟨B3, g3, w3, r3⟩ := hy x H3 y
    unfold forL at hf
    split at hf
    · cases hf
    · rename_i env3 hb
      refine bindT_ok (e2.grow g3) w3 r3 hb fun σ3 e3 _ hkk => ?_
      obtain ⟨f1, u3, c3, c4⟩ := bnd_some hf
      have o3 : OwnNew env3 σ3 H0 := fun j es p z1 z2 => by
        obtain ⟨z3, z4⟩ := bindT_own hb j es z1
        exact o2 j es p z3 (hkk j _ z2 z4)
      refine ⟨ua, u2, B3, env3, f1, u3, B1, H0, g2.trans g3, o3, e3, w3, c3, ?_⟩
      cases f1 with
      | nx env4 => exact fun σ4 B4 H4 z1 z2 z3 z4 => ⟨B4, u3, env4, z1, z2, z3, z4, c4⟩
      | rt x =>
        cases c4
        exact fun v B4 H4 z1 z2 z3 => q v B4 H4 (g01.unmid z1) z2 z3
      | er env4 c ns xs =>
        cases c4
        exact fun σ4 B4 H4 cls d z1 z2 z3 z4 z5 => q σ4 B4 H4 cls d (g01.unmid z1) z2 z3 z4 z5
  · have e : i = ds.length := by omega
    subst e
    rw [List.drop_length] at hf
    cases hf
    exact .inl ⟨hk.2 (List.getElem?_eq_none (Nat.le_refl _)), q σ2 B2 H2 (g01.unmid g2) o2 e2 w2⟩
theorem ds_for (t : Tgt) {mi : MI} {tg it : Expr} {body : List Stmt} (hp : PassesOwn (model X.prog X.w) X.A X.env X.xe) (hc : X.calm = true) (hi : PI X tg it (tIt G mi)) (hg : PG X tg (gOf X.K t)) (hb : PSs X body (tSt G W m1)) (hs : ∀ x, foldedSetIterable it X.env x = pure x := by intro _; rfl) :
    PS X (.For tg it body [] pos) (tSt G W (sFor t mi m1)) := (ps_for hp hc hi hg hb hs).imp fun _ _ _ h => for_read h
end
def runB (m : MS) (L : Nat) (ds : List D) (u : U) : Option (D × U) := match m (ds.map Sl.pub ++ List.replicate (L - ds.length) Sl.no) u with
  | some (.rt d, u') => some (d, u')
  | some (.nx _, u') => some (.non, u')
  | _ => none
theorem start_ok {K : PySem.W.Frag} {G : Gx K} {ua : Option Addr} {B H : Hp} {ds : List D} {vs : List V} {N : List Str} (r : Reps G ua ds vs B) : EnvOk G ua (ds.map Sl.pub ++ List.replicate (N.length - ds.length) Sl.no) (L2.start N vs) B H := by
  have hpub : ∀ (i : Nat) x, (ds.map Sl.pub ++ List.replicate (N.length - ds.length) Sl.no)[i]? = some x → (∃ d, ds[i]? = some d ∧ x = Sl.pub d) ∨ x = Sl.no := fun i x h => by
    by_cases hi : i < ds.length
    · rw [List.getElem?_append_left (by rw [List.length_map]; exact hi), List.getElem?_map] at h
      obtain ⟨d, h1, h2⟩ := map_some h
      exact .inl ⟨d, h1, h2.symm⟩
    · rw [List.getElem?_append_right (by rw [List.length_map]; omega), List.getElem?_replicate] at h
      split at h
      · exact .inr (Option.some.inj h).symm
      · cases h
  refine ⟨?_, fun i d h => ?_, fun i es h => ?_, fun i j es fs p h => ?_⟩
  · unfold L2.start
    rw [List.length_append, List.length_append, List.length_map, List.length_map, List.length_replicate, List.length_replicate, r.len]
  · rcases hpub i _ h with ⟨d', h1, h2⟩ | h2
    · cases h2
      obtain ⟨v, h3, h4⟩ := r.get h1
      refine ⟨v, ?_, h4⟩
      unfold L2.start
      rw [List.getElem?_append_left (by rw [List.length_map]; exact lt_of_get h3), List.getElem?_map, h3]; rfl
    · cases h2
  · rcases hpub i _ h with ⟨d', h1, h2⟩ | h2 <;> cases h2
  · rcases hpub i _ h with ⟨d', h1, h2⟩ | h2 <;> cases h2
/-- no error is wished for -/
def W0 : WX := fun _ _ _ _ => False
theorem def_ok {P : Program} {w : World} {K : PySem.W.Frag} {mg : Str → Option Value} {base : Heap} {G : Gx K} {x qual : Str} {st : Stmt} {f : Addr} {fd : FuncData} {N ps : List Str} {k n : Nat} {m : MS} (F : Fun K x qual st f fd) (S : FnScope N ps (defScope st)) (hn : ps.length = n)
    (hb : ∀ (cdv : Value) (A : Around) (outer : List Env) (s : Shared) (H : Hp) (E : XK), Room k (A.deeper (envOfC qual (defScope st) s.heap.objs.size f cdv)) → PSs (cxOf CX0 P w K mg base N qual (defScope st) f cdv A outer s H E).nox (defBody st) (tSt G W0 m)) :
    FnOk P w K mg base CX0 (k + 1) f fd ps (spF G (runB m N.length) n) := by
  refine F.ok S (fun vs H Q E h => ?_) (fun cdv A outer s H vs Q E hr h => ⟨_, hb cdv A outer s H E hr, ?_⟩)
  · obtain ⟨ua, u, B, ds, d, u', r, hl, _⟩ := h
    rw [← r.len, hl, hn]
  · obtain ⟨ua, u, B, ds, d, u', r, hl, hw, hf, q⟩ := h
    unfold runB at hf
    split at hf
    · rename_i d0 u0 hm
      cases hf
      refine ⟨ua, u, B, _, _, _, B, H, .refl, fun i es p z _ => ?_, start_ok r, hw, hm, fun v B' H' g w' r' => q v H' ⟨B', g, w', r'⟩⟩
      obtain ⟨_, _, h1, _⟩ := (start_ok (N := N) (H := H) r).own i es z
      have z2 := (start_ok (N := N) (H := H) r).own i es z
      exfalso
      by_cases hi : i < ds.length
      · rw [List.getElem?_append_left (by rw [List.length_map]; exact hi), List.getElem?_map] at z
        obtain ⟨_, _, h2⟩ := map_some z
        cases h2
      · rw [List.getElem?_append_right (by rw [List.length_map]; omega), List.getElem?_replicate] at z
        split at z <;> cases z
    · rename_i e0 u0 hm
      cases hf
      refine ⟨ua, u, B, _, _, _, B, H, .refl, fun i es p z _ => ?_, start_ok r, hw, hm, fun σ' B' H' g o e w' => q _ H' ⟨B', g, w', rep_non⟩⟩
      exfalso
      by_cases hi : i < ds.length
      · rw [List.getElem?_append_left (by rw [List.length_map]; exact hi), List.getElem?_map] at z
        obtain ⟨_, _, h2⟩ := map_some z
        cases h2
      · rw [List.getElem?_append_right (by rw [List.length_map]; omega), List.getElem?_replicate] at z
        split at z <;> cases z
    · cases hf
end Dv
namespace Dv
open PySem PySem.Spec PyProof.Rows L2
theorem hU64 {A : Around} {k : Nat} (hr : Room k A) : A.units + 64 < cLine := hr.units
theorem hU65 {A : Around} {k : Nat} (hr : Room k A) : A.units + 65 < cLine := by have := hr.un; omega
section
variable {X : Cx} {G : Gx X.K} {W : WX} {e : Expr} {me : M} {pos : Pos}
def isUrn (env : List Sl) (i : Nat) : Bool := match env[i]? with
  | some (.pub .urn) => true
  | _ => false
theorem isUrn_pub {env : List Sl} {i : Nat} (h : isUrn env i = true) : env[i]? = some (.pub .urn) := by
  unfold isUrn at h
  split at h
  · assumption
  · cases h
def mUrn0 (i : Nat) : M := fun env u => if isUrn env i = true then some (.int u.a, u) else none
def mUrn1 (i : Nat) : M := fun env u => if isUrn env i = true then some (.int u.b, u) else none
def mUrn2 (i : Nat) : M := fun env u => if isUrn env i = true then some (.int u.c, u) else none
def sUrn0 (i : Nat) (m : M) : MS := fun env u => bnd (m env u) fun d u1 => match d with
  | .int z => if isUrn env i = true then some (.nx env, { u1 with a := z }) else none
  | _ => none
def sUrn2 (i : Nat) (m : M) : MS := fun env u => bnd (m env u) fun d u1 => match d with
  | .int z => if isUrn env i = true then some (.nx env, { u1 with c := z }) else none
  | _ => none
theorem urn_read {j : Nat} {z : U → Int} {i : Nat} {σ : L2.St} {H : Hp} {Q : VK} (hj : ∀ u : U, ([V.int u.a, .int u.b, .int u.c] : List V)[j]? = some (.int (z u))) (h : tEv G (fun env u => if isUrn env i = true then some (D.int (z u), u) else none) σ H Q) :
    tOp (rIx X.K) (tVar i) (tC (.int (j : Nat))) σ H Q := by
  obtain ⟨ua, u, B, env, d, u', hE, hW, hm, q⟩ := h
  dsimp only at hm
  split at hm
  · rename_i hi
    cases hm
    obtain ⟨v, hv, r⟩ := hE.pub _ _ (isUrn_pub hi)
    unfold Rep at r
    obtain ⟨p, e1, rfl⟩ := r
    have hw := hW.urn p e1
    exact ⟨_, hv, .inl ⟨p, _, _, _, rfl, rfl, .of hw.2, atI_nat (hj u), q _ _ ⟨B, .refl, hW, rep_int⟩⟩⟩
  · cases hm
section
variable {x : Str} {px pc : Pos} {k : Nat}
theorem dv_urn0 (i : Nat) (hN : X.N[i]? = some x := by rfl) (hv : Vis X.env.scope x := by first | exact Or.inl rfl | exact Or.inr (Or.inl rfl) | exact Or.inr (Or.inr rfl)) (hd : (x == ("__debug__" : Str)) = false := by decide)
    (hcd : (x == ("__classdict__" : Str)) = false := by decide) : PE X (.Subscript (.Name x px) (.Constant (.int 0) k pc) pos) (tEv G (mUrn0 i)) := (pe_ix ix_seq (pe_var hN hv hd hcd) pe_int fun _ _ => rfl).imp fun _ _ _ h => urn_read (j := 0) (z := fun u => u.a) (fun _ => rfl) h
theorem dv_urn1 (i : Nat) (hN : X.N[i]? = some x := by rfl) (hv : Vis X.env.scope x := by first | exact Or.inl rfl | exact Or.inr (Or.inl rfl) | exact Or.inr (Or.inr rfl)) (hd : (x == ("__debug__" : Str)) = false := by decide)
    (hcd : (x == ("__classdict__" : Str)) = false := by decide) : PE X (.Subscript (.Name x px) (.Constant (.int 1) k pc) pos) (tEv G (mUrn1 i)) := (pe_ix ix_seq (pe_var hN hv hd hcd) pe_int fun _ _ => rfl).imp fun _ _ _ h => urn_read (j := 1) (z := fun u => u.b) (fun _ => rfl) h
theorem dv_urn2 (i : Nat) (hN : X.N[i]? = some x := by rfl) (hv : Vis X.env.scope x := by first | exact Or.inl rfl | exact Or.inr (Or.inl rfl) | exact Or.inr (Or.inr rfl)) (hd : (x == ("__debug__" : Str)) = false := by decide)
    (hcd : (x == ("__classdict__" : Str)) = false := by decide) : PE X (.Subscript (.Name x px) (.Constant (.int 2) k pc) pos) (tEv G (mUrn2 i)) := (pe_ix ix_seq (pe_var hN hv hd hcd) pe_int fun _ _ => rfl).imp fun _ _ _ h => urn_read (j := 2) (z := fun u => u.c) (fun _ => rfl) h
theorem urn_put {j : Nat} {i : Nat} {f : U → Int → U} {Dn : Ends} {σ : L2.St} {H : Hp} (hj : ∀ (u : U) (z : Int), ([V.int u.a, .int u.b, .int u.c] : List V).set j (.int z) = [V.int (f u z).a, .int (f u z).b, .int (f u z).c]) (hj3 : j < 3)
    (h : tSt G W (fun env u => bnd (me env u) fun d u1 => match d with | .int z => if isUrn env i = true then some (.nx env, f u1 z) else none | _ => none) Dn σ H) :
    tAsg (tEv G me) (gSub (tVar i) (tC (.int (j : Nat))) rSetL) Dn σ H := by
  obtain ⟨ua, u, B, env, fl, u', B0, H0, hg, hO, hE, hW, hm, q⟩ := h
  obtain ⟨d, u1, c1, c2⟩ := bnd_some hm
  refine ⟨ua, u, B, env, d, u1, hE, hW, c1, fun v H1 ⟨B1, g1, w1, r1⟩ => ?_⟩
  split at c2
  · split at c2
    · rename_i z hi
      cases c2
      cases r1.int
      have hE1 := hE.grow g1
      obtain ⟨v, hv, r⟩ := hE1.pub _ _ (isUrn_pub hi)
      unfold Rep at r
      obtain ⟨p, e1, rfl⟩ := r
      have hw := w1.urn p e1
      refine ⟨_, hv, p, _, _, j, rfl, rfl, hw.2, ?_, ?_⟩
      · unfold ixN
        rw [if_pos (by omega), if_pos (by show (j : Int) < ((3 : Nat) : Int); omega)]
        rfl
      · rw [hj]
        have gg := hg.trans g1
        refine q σ B1 _ ⟨fun a o h n => ?_, fun a h => ?_, gg.pub, gg.new⟩ hO ⟨hE1.len, hE1.pub, fun k ds hk => ?_, hE1.inj⟩ ⟨fun a o h => ?_, fun a ha => ?_⟩
        · rw [upd_ne (fun z => n (by rw [z]; exact e1))]; exact gg.keep a o h n
        · refine gg.live a ?_
          by_cases z : a = p
          · subst z; rw [upd_same] at h; cases h
          · rw [upd_ne z] at h; exact h
        · obtain ⟨p2, vs, h1, h2, h3, h4, h5⟩ := hE1.own k ds hk
          refine ⟨p2, vs, h1, ?_, h3, h4, h5⟩
          rw [upd_ne (fun z => h5 (by rw [z]; exact e1))]; exact h2
        · rw [upd_ne (ne_of_none h hw.1)]; exact w1.sub a o h
        · rw [e1] at ha
          cases ha
          exact ⟨hw.1, upd_same⟩
    · cases c2
  · cases c2
theorem ds_urn0 (i : Nat) (he : PE X e (tEv G me)) (hN : X.N[i]? = some x := by rfl) (hv : Vis X.env.scope x := by first | exact Or.inl rfl | exact Or.inr (Or.inl rfl) | exact Or.inr (Or.inr rfl)) (hd : (x == ("__debug__" : Str)) = false := by decide) (hcd : (x == ("__classdict__" : Str)) = false := by decide)
    (hs : swapsWithSole [.Subscript (.Name x px) (.Constant (.int 0) k pc) pos] e pos.line X.env = pure false := by rfl) {pos2 : Pos} (hs : swapsWithSole [.Subscript (.Name x px) (.Constant (.int 0) k pc) pos] e pos2.line X.env = pure false := by rfl) (hw : swappedStores [.Subscript (.Name x px) (.Constant (.int 0) k pc) pos] e X.env = pure none := by rfl) :
    PS X (.Assign [.Subscript (.Name x px) (.Constant (.int 0) k pc) pos] e pos2) (tSt G W (sUrn0 i me)) := (ps_asg he (pg_sub (pe_var hN hv hd hcd) pe_int set_list) hs hw).imp fun _ _ _ h => urn_put (j := 0) (f := fun u z => { u with a := z }) (fun _ _ => rfl) (by decide) h
theorem ds_urn2 (i : Nat) (he : PE X e (tEv G me)) (hN : X.N[i]? = some x := by rfl) (hv : Vis X.env.scope x := by first | exact Or.inl rfl | exact Or.inr (Or.inl rfl) | exact Or.inr (Or.inr rfl)) (hd : (x == ("__debug__" : Str)) = false := by decide) (hcd : (x == ("__classdict__" : Str)) = false := by decide)
    {pos2 : Pos} (hs : swapsWithSole [.Subscript (.Name x px) (.Constant (.int 2) k pc) pos] e pos2.line X.env = pure false := by rfl) (hw : swappedStores [.Subscript (.Name x px) (.Constant (.int 2) k pc) pos] e X.env = pure none := by rfl) :
    PS X (.Assign [.Subscript (.Name x px) (.Constant (.int 2) k pc) pos] e pos2) (tSt G W (sUrn2 i me)) := (ps_asg he (pg_sub (pe_var hN hv hd hcd) pe_int set_list) hs hw).imp fun _ _ _ h => urn_put (j := 2) (f := fun u z => { u with c := z }) (fun _ _ => rfl) (by decide) h
end
def DefK (P : Program) (w : World) {K : PySem.W.Frag} (mg : Str → Option Value) (base : Heap) (G : Gx K) (x : Str) (ks : List Str) (k : Nat) (F : List D → U → Option (D × U)) : Prop :=
  ∃ f fd, FnOk P w K mg base CX0 k f fd ks (spF G F ks.length) ∧ mg x = some (.ref f) ∧ PySem.W.keepIn K (.ref f) = true ∧ ∀ (s : Shared) (ws : List Value), K.In s.heap → ws.length = ks.length → BindsTo s fd ⟨[], ks.zip ws⟩ (ks.zip ws)
theorem DefK.mono {P : Program} {w : World} {K : PySem.W.Frag} {mg : Str → Option Value} {base : Heap} {G : Gx K} {x : Str} {ks : List Str} {j k : Nat} {F : List D → U → Option (D × U)} (h : DefK P w mg base G x ks j F) (l : j ≤ k) : DefK P w mg base G x ks k F := by
  obtain ⟨f, fd, h1, h2⟩ := h
  exact ⟨f, fd, h1.mono l, h2⟩
variable {kws : List Keyword} {ms : Ms} {kpos p : Pos} {nm : Option Str}
theorem dks_nil : PK X [] (tEvs G mNil) := ⟨fun pos pins s σ H Q I h => by
  obtain ⟨ua, u, B, env, ds, u', hE, hW, hm, q⟩ := h
  cases hm
  exact pk_nil.run pos pins s σ H Q I (q [] H ⟨B, .refl, hW, .nil⟩)⟩
theorem dks_cons (ha : PE X e (tEv G me)) (hr : PK X kws (tEvs G ms)) : PK X (⟨nm, e, kpos⟩ :: kws) (tEvs G (mCons me ms)) := ⟨fun pos pins s σ H Q I h => by
  obtain ⟨ua, u, B, env, ds, u', hE, hW, hm, q⟩ := h
  obtain ⟨d, u1, h1, h2⟩ := bnd_some hm
  obtain ⟨ds', u2, h4, h3⟩ := bnd_some h2
  cases h3
  refine (pk_cons ha hr).run pos pins s σ H Q I ⟨ua, u, B, env, d, u1, hE, hW, h1, fun v H1 ⟨B1, g1, w1, r1⟩ => ⟨ua, u1, B1, env, ds', _, hE.grow g1, w1, h4, fun vs H2 ⟨B2, g2, w2, r2⟩ => q _ _ ⟨B2, g1.trans g2, w2, .cons (r1.mono _ _ g2.pub) r2⟩⟩⟩⟩
/-- C(d): a new instance with the fields that mk tells -/
def MakeOk (P : Program) (w : World) {K : PySem.W.Frag} (mg : Str → Option Value) (base : Heap) (G : Gx K) (x : Str) (k n : Nat) (F : List D → U → Option (D × U)) : Prop :=
  ∃ C f fd ps sp ds dvs, Mk K C f ∧ FnOk P w K mg base CX0 k f fd ps sp ∧ mg x = some (.ref C) ∧ Binds K fd ps ds ∧ Vals dvs ds ∧
    ∀ (ua : Option Addr) (u u' : U) (B H : Hp) (as : List D) (vs : List V) (d : D), as.length = n → F as u = some (d, u') → Reps G ua as vs B → Wd ua u B H → ∀ (y dx : Addr), H y = none → H dx = none → dx ≠ y →
      ∀ Q : VK, (∀ H', Aft G ua B H u' d (.ref y) H' → Q (.ref y) H') → sp (.ref y :: (vs ++ dvs)) (upd (upd H dx (.own y)) y (.ins C dx [])) (fun v H2 => v = .non ∧ Q (.ref y) H2) E0
theorem MakeOk.mono {P : Program} {w : World} {K : PySem.W.Frag} {mg : Str → Option Value} {base : Heap} {G : Gx K} {x : Str} {j k n : Nat} {F : List D → U → Option (D × U)} (h : MakeOk P w mg base G x j n F) (l : j ≤ k) : MakeOk P w mg base G x k n F := by
  obtain ⟨C, f, fd, ps, sp, ds, dvs, h1, h2, h3⟩ := h
  exact ⟨C, f, fd, ps, sp, ds, dvs, h1, h2.mono l, h3⟩
theorem dv_make {es : List Expr} {x : Str} {k n : Nat} {F : List D → U → Option (D × U)} (D0 : MakeOk X.prog X.w X.mg X.base G x k n F) (hr : Room (k + 1) X.A) (hg : Gl X x) (ha : PA X (e :: es) (tEvs G ms))
    (hdb : (x == ("__debug__" : Str)) = false := by decide) (he : starEach (e :: es) X.env = (false, eval e X.env) :: starEach es X.env := by rfl) (hpl : (backTo pos (starEach es X.env)).any (·.1) = false := by rfl) :
    PE X (.Call (.Name x p) (e :: es) [] pos) (tEv G (mCall n F ms)) := by
  obtain ⟨C, f, fd, ps, sp, dds, dvs, hM, hf, hm, hb, hd, hsp⟩ := D0
  refine (pe_make hM hf hr hg hm hb hd pass0 ha hdb he hpl).imp fun σ H Q h => ?_
  obtain ⟨ua, u, B, env, d, u', hE, hW, hm, q⟩ := h
  obtain ⟨ds, u1, h1, h2⟩ := bnd_some hm
  split at h2
  · refine ⟨ua, u, B, env, ds, u1, hE, hW, h1, fun vs H1 ⟨B1, g1, w1, r1⟩ => fun y dx hy hdx hne => ?_⟩
    exact hsp ua u1 u' B1 H1 ds vs d ‹_› h2 r1 w1 y dx hy hdx hne Q fun H' a => q _ _ (.up g1 a)
  · cases h2
end
end Dv
namespace Dv
open PySem PySem.Spec PyProof.Rows L2
section
variable {X : Cx} {G : Gx X.K} {W : WX}
theorem dv_gS {x : Str} {z : Str} {pos : Pos} (hg : Gl X x) (hm : ∃ t, X.mg x = some (.str z t)) (hd : (x == ("__debug__" : Str)) = false := by decide) : PE X (.Name x pos) (tEv G (mC (.str z))) := by
  obtain ⟨t, hm⟩ := hm
  exact dv_globS hg hm hd
end
end Dv
namespace Dv
open PySem PySem.Spec PyProof.Rows L2
section
variable {env env' : List Sl} {u u1 u2 u3 : U} {m a b : M} {ms : Ms} {mi : MI} {mc na nb : MB} {me : M} {p q : MS} {d x y z : D} {ds r : List D} {i n : Nat} {fl : Fl} {k : Bool}
theorem runB_rt {m : MS} {L : Nat} (h : m (ds.map Sl.pub ++ List.replicate (L - ds.length) Sl.no) u = some (.rt d, u1)) : runB m L ds u = some (d, u1) := by
  unfold runB; rw [h]
theorem sc_nx (h : p env u = some (.nx env', u1)) (h2 : q env' u1 = some (fl, u2)) : sCons p q env u = some (fl, u2) := by
  unfold sCons; rw [h]; exact h2
theorem sc_rt (h : p env u = some (.rt d, u1)) : sCons p q env u = some (.rt d, u1) := by
  unfold sCons; rw [h]; rfl
theorem sSet_eq (h : m env u = some (d, u1)) : sSet i m env u = some (.nx (env.set i (Sl.pub d)), u1) := by
  unfold sSet; rw [h]; rfl
theorem sTgt_eq {t : Tgt} (h : m env u = some (d, u1)) (h2 : bindT t d env = some env') : sTgt t m env u = some (.nx env', u1) := by
  unfold sTgt; rw [h]; show (match bindT t d env with | some env' => some (Fl.nx env', u1) | none => none) = _; rw [h2]
theorem sRet_eq (h : m env u = some (d, u1)) : sRet m env u = some (.rt d, u1) := by
  unfold sRet; rw [h]; rfl
theorem sIf_t (h : mc env u = some (true, u1)) (h2 : p env u1 = some (fl, u2)) : sIf mc p q env u = some (fl, u2) := by
  unfold sIf; rw [h]; exact h2
theorem sIf_f (h : mc env u = some (false, u1)) (h2 : q env u1 = some (fl, u2)) : sIf mc p q env u = some (fl, u2) := by
  unfold sIf; rw [h]; exact h2
theorem mVar_eq (h : env[i]? = some (Sl.pub d)) : mVar i env u = some (d, u) := by
  unfold mVar; rw [h]
theorem mCons_eq (h : m env u = some (x, u1)) (h2 : ms env u1 = some (ds, u2)) : mCons m ms env u = some (x :: ds, u2) := by
  unfold mCons; rw [h]; show bnd (ms env u1) _ = _; rw [h2]; rfl
theorem mNil_eq : mNil env u = some ([], u) := rfl
theorem mLst_eq (h : ms env u = some (ds, u1)) (hl : ds.length ≤ sizeLine) : mLst ms env u = some (.lst ds, u1) := by
  unfold mLst; rw [h]; exact if_pos hl
theorem mTup_eq (h : ms env u = some (ds, u1)) (hl : ds.length ≤ sizeLine) : mTup ms env u = some (.tup ds, u1) := by
  unfold mTup; rw [h]; exact if_pos hl
theorem mBin_eq {f : D → D → Option D} (h : a env u = some (x, u1)) (h2 : b env u1 = some (y, u2)) (h3 : f x y = some z) : mBin f a b env u = some (z, u2) := by
  unfold mBin; rw [h]; show bnd (b env u1) _ = _; rw [h2]; show lft (f x y) u2 = _; rw [h3]; rfl
theorem mBi_eq {f : List D → Option D} (h : ms env u = some (ds, u1)) (h2 : f ds = some d) : mBi f ms env u = some (d, u1) := by
  unfold mBi; rw [h]; show lft (f ds) u1 = _; rw [h2]; rfl
theorem mCall_eq {F : List D → U → Option (D × U)} (h : ms env u = some (ds, u1)) (hl : ds.length = n) (h2 : F ds u1 = some (d, u2)) : mCall n F ms env u = some (d, u2) := by
  unfold mCall; rw [h]; show (if ds.length = n then F ds u1 else none) = _; rw [if_pos hl]; exact h2
theorem mTru_eq (h : a env u = some (x, u1)) (h2 : truD x = some k) : mTru a env u = some (k, u1) := by
  unfold mTru; rw [h]; show lft (truD x) u1 = _; rw [h2]; rfl
theorem mNotB_eq (h : na env u = some (k, u1)) : mNotB na env u = some (!k, u1) := by
  unfold mNotB; rw [h]; rfl
theorem mAndB_t (h : na env u = some (true, u1)) (h2 : nb env u1 = some (k, u2)) : mAndB na nb env u = some (k, u2) := by
  unfold mAndB; rw [h]; exact h2
theorem mAndB_f (h : na env u = some (false, u1)) : mAndB na nb env u = some (false, u1) := by
  unfold mAndB; rw [h]; rfl
theorem mOrB_t (h : na env u = some (true, u1)) : mOrB na nb env u = some (true, u1) := by
  unfold mOrB; rw [h]; rfl
theorem mOrB_f (h : na env u = some (false, u1)) (h2 : nb env u1 = some (k, u2)) : mOrB na nb env u = some (k, u2) := by
  unfold mOrB; rw [h]; exact h2
theorem mAnd_t (h : a env u = some (x, u1)) (ht : truD x = some true) (h2 : b env u1 = some (y, u2)) : mAnd a b env u = some (y, u2) := by
  unfold mAnd; rw [h]; show bnd (lft (truD x) u1) _ = _; rw [ht]; exact h2
theorem mAnd_f (h : a env u = some (x, u1)) (ht : truD x = some false) : mAnd a b env u = some (x, u1) := by
  unfold mAnd; rw [h]; show bnd (lft (truD x) u1) _ = _; rw [ht]; rfl
theorem mNot_eq (h : a env u = some (x, u1)) (ht : truD x = some k) : mNot a env u = some (.bl (!k), u1) := by
  unfold mNot; rw [h]; show bnd (lft (truD x) u1) _ = _; rw [ht]; rfl
theorem mIte_t (h : na env u = some (true, u1)) (h2 : a env u1 = some (d, u2)) : mIte na a b env u = some (d, u2) := by
  unfold mIte; rw [h]; exact h2
theorem mIte_f (h : na env u = some (false, u1)) (h2 : b env u1 = some (d, u2)) : mIte na a b env u = some (d, u2) := by
  unfold mIte; rw [h]; exact h2
theorem mSl_eq {lo hi : MO} {l h' : Option Int} (h : a env u = some (x, u1)) (h2 : lo env u1 = some (l, u2)) (h3 : hi env u2 = some (h', u3)) (h4 : slD x l h' = some z) : mSl a lo hi env u = some (z, u3) := by
  unfold mSl; rw [h]; show bnd (lo env u1) _ = _; rw [h2]; show bnd (hi env u2) _ = _; rw [h3]; show lft (slD x l h') u3 = _; rw [h4]; rfl
theorem moAt_eq {i : Int} (h : a env u = some (.int i, u1)) : moAt a env u = some (some i, u1) := by
  unfold moAt; rw [h]; rfl
theorem mIsi_eq {ts : List String} (h : a env u = some (x, u1)) (h2 : isiD x ts = some k) : mIsi ts a env u = some (.bl k, u1) := by
  unfold mIsi; rw [h]; show lft ((isiD x ts).map D.bl) u1 = _; rw [h2]; rfl
theorem mLc_eq {t : Tgt} {own : List Nat} (h : mi env u = some (ds, u1)) (h2 : compL (turnL t own env mc me) ds u1 = some (r, u2)) (hl : r.length ≤ sizeLine) : mLc t own mi mc me env u = some (.lst r, u2) := by
  unfold mLc; rw [h]; show bnd (compL (turnL t own env mc me) ds u1) _ = _; rw [h2]; exact if_pos hl
theorem mItems_eq (h : a env u = some (x, u1)) (h2 : itemsD x = some ds) : mItems a env u = some (ds, u1) := by
  unfold mItems; rw [h]; show lft (itemsD x) u1 = _; rw [h2]; rfl
theorem mRange1_eq {j : Int} (h : a env u = some (.int j, u1)) (h2 : -(2 ^ 62) ≤ j ∧ j < 2 ^ 62) : mRange1 a env u = some (rangeD 0 j.toNat, u1) := by
  unfold mRange1; rw [h]; exact if_pos h2
theorem turnL_eq {t : Tgt} {own : List Nat} (h : bindT t d (wipeE env own) = some env') (h2 : me env' u = some (x, u1)) : turnL t own env mYes me d u = some (some x, u1) := by
  unfold turnL; rw [h]; show bnd (me env' u) _ = _; rw [h2]; rfl
theorem turnL_c {t : Tgt} {own : List Nat} (h : bindT t d (wipeE env own) = some env') (hc : mc env' u = some (true, u1)) (h2 : me env' u1 = some (x, u2)) : turnL t own env mc me d u = some (some x, u2) := by
  unfold turnL; rw [h]; show bnd (mc env' u) _ = _; rw [hc]; show bnd (me env' u1) _ = _; rw [h2]; rfl
theorem turnL_n {t : Tgt} {own : List Nat} (h : bindT t d (wipeE env own) = some env') (hc : mc env' u = some (false, u1)) : turnL t own env mc me d u = some (none, u1) := by
  unfold turnL; rw [h]; show bnd (mc env' u) _ = _; rw [hc]; rfl
theorem sFor_eq {t : Tgt} (h : mi env u = some (ds, u1)) (h2 : forL t p ds env u1 = some (fl, u2)) : sFor t mi p env u = some (fl, u2) := by
  unfold sFor; rw [h]; exact h2
theorem mem_rangeD {lo : Int} (h : d ∈ rangeD lo n) : ∃ i : Nat, i < n ∧ d = .int (lo + i) := by
  unfold rangeD at h
  obtain ⟨i, hi, rfl⟩ := List.mem_map.mp h
  exact ⟨i, List.mem_range.mp hi, rfl⟩
theorem rangeD_len {lo : Int} : (rangeD lo n).length = n := by unfold rangeD; rw [List.length_map, List.length_range]
end
end Dv
namespace Dv
open PySem PySem.Spec PyProof.Rows L2
def cntS (x : Str) : List Str → Nat
  | [] => 0
  | y :: r => if y = x then cntS x r + 1 else cntS x r
/-- seen: what came before, the latest first -/
def numG (seen : List Str) : List Str → List D
  | [] => []
  | x :: r => .tup [.str x, .int ((cntS x seen : Nat) + 1 : Int)] :: numG (x :: seen) r
def revOn : List Str → List Str → List Str
  | [], a => a
  | x :: r, a => revOn r (x :: a)
theorem numG_snoc (y : Str) : ∀ (xs seen : List Str), numG seen (xs ++ [y]) = numG seen xs ++ [.tup [.str y, .int ((cntS y (revOn xs seen) : Nat) + 1 : Int)]]
  | [], seen => rfl
  | x :: r, seen => by
    show _ :: numG (x :: seen) (r ++ [y]) = _
    rw [numG_snoc y r (x :: seen)]; rfl
theorem revOn_snoc (y : Str) : ∀ (xs seen : List Str), revOn (xs ++ [y]) seen = y :: revOn xs seen
  | [], seen => rfl
  | x :: r, seen => revOn_snoc y r (x :: seen)
theorem numG_len : ∀ (xs seen : List Str), (numG seen xs).length = xs.length
  | [], _ => rfl
  | x :: r, seen => by show (numG (x :: seen) r).length + 1 = r.length + 1; rw [numG_len r]
def numF : List D → U → Option (D × U) := fun ds u => match ds with
  | [.tup ds] => match strsOf ds with
    | some xs => if xs.length ≤ sizeLine then some (.tup (numG [] xs), u) else none
    | none => none
  | _ => none
/-- a dict of texts and numbers: what it holds -/
structure Tally (seen : List Str) (kvs : List (Key × V)) : Prop where
  val : ∀ x : Str, valV kvs (Sum.inr x) = if cntS x seen = 0 then none else some (.int (cntS x seen))
  len : kvs.length ≤ seen.length
theorem Tally.nil : Tally [] [] := ⟨fun _ => rfl, Nat.le_refl _⟩
theorem Tally.getD {seen : List Str} {kvs : List (Key × V)} (t : Tally seen kvs) (x : Str) : (valV kvs (Sum.inr x)).getD (.int 0) = .int (cntS x seen) := by
  rw [t.val]
  by_cases h : cntS x seen = 0
  · rw [if_pos h, h]; rfl
  · rw [if_neg h]; rfl
theorem Tally.put {seen : List Str} {kvs : List (Key × V)} (t : Tally seen kvs) (x : Str) : Tally (x :: seen) (putK kvs (Sum.inr x) (.int ((cntS x seen : Nat) + 1 : Int))) := by
  refine ⟨fun y => ?_, Nat.le_trans (length_putK _ _ _) (Nat.add_le_add_right t.len 1)⟩
  rw [valV_put]
  by_cases e : y = x
  · subst e
    rw [if_pos rfl]
    have : cntS y (y :: seen) = cntS y seen + 1 := if_pos rfl
    rw [this, if_neg (Nat.succ_ne_zero _)]; rfl
  · have h1 : ¬ (Sum.inr y : Key) = Sum.inr x := fun z => e (Sum.inr.inj z)
    have h2 : cntS y (x :: seen) = cntS y seen := if_neg fun z => e z.symm
    rw [if_neg h1, h2, t.val]
theorem revOn_len : ∀ (xs seen : List Str), (revOn xs seen).length = xs.length + seen.length
  | [], seen => by rw [List.length_nil, Nat.zero_add]; rfl
  | x :: r, seen => by
    show (revOn r (x :: seen)).length = _
    rw [revOn_len r, List.length_cons, List.length_cons]; omega
theorem take_snoc {xs : List Str} {i : Nat} {x : Str} (h : xs[i]? = some x) : xs.take (i + 1) = xs.take i ++ [x] := by
  rw [List.take_add_one, h]; rfl
theorem Grow.putOwn {ua : Option Addr} {B H B2 H2 : Hp} {p : Addr} {o : HO} (g : Grow ua B H B2 H2) (hp : H p = none) : Grow ua B H B2 (upd H2 p o) := by
  refine ⟨fun b x e n => ?_, fun b e => ?_, g.pub, g.new⟩
  · rw [upd_ne (ne_of_none e hp)]; exact g.keep b x e n
  · by_cases q : b = p
    · subst q; exact hp
    · rw [upd_ne q] at e; exact g.live b e
end Dv
namespace Dv
open PySem PySem.Spec PyProof.Rows L2
def fldD (c f : Str) : D → Option D
  | .ins c' ns xs => if c' = c then (ns.zip xs).lookup f else none
  | _ => none
theorem Reps.fld {K : PySem.W.Frag} {G : Gx K} {ua : Option Addr} {f : Str} {d : D} {B : Hp} : ∀ {ns : List Str} {ds : List D} {vs : List V}, Reps G ua ds vs B → (ns.zip ds).lookup f = some d → ∃ v, (ns.zip vs).lookup f = some v ∧ Rep G ua d v B
  | [], ds, vs, r, h => by cases h
  | n :: ns, [], vs, r, h => by cases h
  | n :: ns, x :: ds, vs, r, h => by
    obtain ⟨v, t, rfl, q, t'⟩ := r.of_cons
    rw [List.zip_cons_cons, List.lookup_cons] at h ⊢
    cases e : f == n with
    | true => rw [e] at h; cases h; exact ⟨v, rfl, q⟩
    | false => rw [e] at h; exact Reps.fld t' h
/-- the class's instances keep f in their own dict, and the class has no f -/
def FldOk {K : PySem.W.Frag} (G : Gx K) (c f : Str) : Prop := ∀ C, G.cls c = some C → Cls K C ∧ NoAttr K C f
def mFld (c f : Str) (m : M) : M := fun env u => bnd (m env u) fun d u1 => lft (fldD c f d) u1
def mPrp (c : Str) (F : List D → U → Option (D × U)) (m : M) : M := fun env u => bnd (m env u) fun d u1 => match d with
  | .ins c' ns xs => if c' = c then F [.ins c' ns xs] u1 else none
  | _ => none
/-- the property f of the class c does F -/
def PrpOk (P : Program) (w : World) {K : PySem.W.Frag} (mg : Str → Option Value) (base : Heap) (G : Gx K) (c f : Str) (k : Nat) (F : List D → U → Option (D × U)) : Prop :=
  ∃ C p g fd ps, G.cls c = some C ∧ Cls K C ∧ PropOf K C f p g ∧ FnOk P w K mg base CX0 k g fd ps (spF G F 1) ∧ Binds K fd ps []
theorem PrpOk.mono {P : Program} {w : World} {K : PySem.W.Frag} {mg : Str → Option Value} {base : Heap} {G : Gx K} {c f : Str} {j k : Nat} {F : List D → U → Option (D × U)} (h : PrpOk P w mg base G c f j F) (l : j ≤ k) : PrpOk P w mg base G c f k F := by
  obtain ⟨C, p, g, fd, ps, h1, h2, h3, h4, h5⟩ := h
  exact ⟨C, p, g, fd, ps, h1, h2, h3, h4.mono l, h5⟩
section
variable {X : Cx} {G : Gx X.K} {e : Expr} {me : M} {pos : Pos} {c f : Str} {k : Nat} {F : List D → U → Option (D × U)}
theorem dv_fld (ho : FldOk G c f) (he : PE X e (tEv G me)) (hab : attributeBase e f X.env (eval e X.env) = eval e X.env := by rfl) : PE X (.Attribute e f pos) (tEv G (mFld c f me)) :=
  (pe_fld he hab).imp fun σ H Q h => by
    obtain ⟨ua, u, B, env, d, u', hE, hW, hm, q⟩ := h
    obtain ⟨d0, u1, h1, h2⟩ := bnd_some hm
    obtain ⟨h3, rfl⟩ := lft_some h2
    clear h2
    refine ⟨ua, u, B, env, d0, u', hE, hW, h1, fun v H1 ⟨B1, g1, w1, r1⟩ => ?_⟩
    unfold fldD at h3
    split at h3
    · split at h3
      · rename_i hc
        subst hc
        unfold Rep at r1
        obtain ⟨a, C, dx, vs, rfl, hC, hB, hl, rs⟩ := r1
        obtain ⟨v, l, r⟩ := rs.fld h3
        exact ⟨a, C, dx, _, v, rfl, w1.sub _ _ hB, (ho C hC).1, (ho C hC).2, l, q _ _ ⟨B1, g1, w1, r⟩⟩
      · cases h3
    · cases h3
theorem dv_prp (h0 : PrpOk X.prog X.w X.mg X.base G c f k F) (hr : Room (k + 1) X.A) (he : PE X e (tEv G me)) (hab : attributeBase e f X.env (eval e X.env) = eval e X.env := by rfl) : PE X (.Attribute e f pos) (tEv G (mPrp c F me)) := by
  obtain ⟨C, p, g, fd, ps, hC, cl, hp, hf, hb⟩ := h0
  refine (pe_prop he cl hp hf hr hb .nil pass0 hab).imp fun σ H Q h => ?_
  obtain ⟨ua, u, B, env, d, u', hE, hW, hm, q⟩ := h
  obtain ⟨d0, u1, h1, h2⟩ := bnd_some hm
  refine ⟨ua, u, B, env, d0, u1, hE, hW, h1, fun v H1 ⟨B1, g1, w1, r1⟩ => ?_⟩
  split at h2
  · split at h2
    · rename_i hc
      subst hc
      have r2 := r1
      unfold Rep at r1
      obtain ⟨a, C', dx, vs, rfl, hC', hB, hl, rs⟩ := r1
      rw [hC] at hC'
      cases hC'
      exact ⟨a, dx, _, rfl, w1.sub _ _ hB, ua, u1, B1, _, d, u', .cons r2 .nil, rfl, w1, h2, fun v H2 a => q _ _ (.up g1 a)⟩
    · cases h2
  · cases h2
end
end Dv
namespace Dv
open PySem PySem.Spec PyProof.Rows L2
/-- the special method of the class c does F -/
def SpcOk (P : Program) (w : World) {K : PySem.W.Frag} (mg : Str → Option Value) (base : Heap) (G : Gx K) (c name : Str) (k n : Nat) (F : List D → U → Option (D × U)) : Prop :=
  ∃ C f fd ps, G.cls c = some C ∧ PySem.W.findIn K (.ref C) name = some (some (.ref f)) ∧ PySem.W.isFn K (.ref f) = true ∧ PySem.W.fnIn K f = true ∧ FnOk P w K mg base CX0 k f fd ps (spF G F n) ∧ Binds K fd ps []
theorem SpcOk.mono {P : Program} {w : World} {K : PySem.W.Frag} {mg : Str → Option Value} {base : Heap} {G : Gx K} {c name : Str} {j k n : Nat} {F : List D → U → Option (D × U)} (h : SpcOk P w mg base G c name j n F) (l : j ≤ k) : SpcOk P w mg base G c name k n F := by
  obtain ⟨C, f, fd, ps, h1, h2, h3, h4, h5, h6⟩ := h
  exact ⟨C, f, fd, ps, h1, h2, h3, h4, h5.mono l, h6⟩
section
variable {X : Cx} {G : Gx X.K}
theorem call_fnA {A : Around} {pins : List (Addr × Obj)} {s : Shared} {σ : L2.St} {H : Hp} {f : Addr} {fd : FuncData} {ps : List Str} {sp : Sp} {k : Nat} {vs : List V} {us : List Value} {Q : VK} {E : Value → Shared → Prop}
    (hf : FnOk X.prog X.w X.K X.mg X.base CX0 k f fd ps sp) (hb : Binds X.K fd ps []) (hr : Room k A) (hA : A.frames = X.A.frames) (I : Inv X pins σ H s) (rv : Vals vs us) (hs : sp vs H Q E0) :
    wpAny (model X.prog X.w) A (call (.ref f) us) (EP X pins σ Q) E s := by
  have e0 : Env0 X.prog X.w X.K X.mg X.base A X.stack s H := by
    have e := I.env0
    exact ⟨by rw [hA]; exact e.frames, e.mod, e.bs, e.bsz, e.funs, e.frf, e.hok, e.bare⟩
  have hl := hf.len _ _ _ _ hs
  have hu : us.length = ps.length := by rw [← rv.length]; exact hl
  refine wpAny_call (codeAny_mono (hf.run A X.stack s H ⟨us, []⟩ us vs Q E0 hr e0 ?_ rv hs) fun r s' hq => ?_)
  · have := hb s us I.kIn (by rw [List.append_nil]; exact hu)
    rw [List.append_nil] at this
    exact this
  · cases r with
    | error e => exact hq.elim
    | ok fl =>
      cases fl with
      | ret w => exact I.after hq
      | next => exact False.elim hq
      | brk => exact False.elim hq
      | cont => exact False.elim hq
/-- == and the like with a state -/
def BinUOk (G : Gx X.K) (F : Value → Value → Sem Value) (f : D → D → U → Option (D × U)) : Prop :=
  ∀ (ua : Option Addr) (u u' : U) (B H : Hp) (da db d : D) (va vb : V), f da db u = some (d, u') → Rep G ua da va B → Rep G ua db vb B → Wd ua u B H → ∃ r : R2, OpR X F r ∧ r va vb H (Aft G ua B H u' d)
def rBinU (G : Gx X.K) (f : D → D → U → Option (D × U)) : R2 := fun x y H Q => ∃ ua u u' B da db d, f da db u = some (d, u') ∧ Rep G ua da x B ∧ Rep G ua db y B ∧ Wd ua u B H ∧ ∀ v H', Aft G ua B H u' d v H' → Q v H'
theorem opU_of {F : Value → Value → Sem Value} {f : D → D → U → Option (D × U)} (hf : BinUOk G F f) : OpR X F (rBinU G f) := by
  intro pins s σ H x y v u Q I rx ry h
  obtain ⟨ua, u0, u', B, da, db, d, e, ra, rb, w, q⟩ := h
  obtain ⟨r, ho, hr⟩ := hf ua u0 u' B H da db d x y e ra rb w
  exact thn (ho pins s σ H x y v u _ I rx ry hr) fun v s ⟨z, H', I', r', a⟩ => ⟨z, H', I', r', q _ _ a⟩
def mBinU (f : D → D → U → Option (D × U)) (a b : M) : M := fun env u => bnd (a env u) fun x u1 => bnd (b env u1) fun y u2 => f x y u2
variable {a b e : Expr} {ma mb : M} {pos : Pos}
theorem binU_read {f : D → D → U → Option (D × U)} {σ : L2.St} {H : Hp} {Q : VK} (h : tEv G (mBinU f ma mb) σ H Q) : tOp (rBinU G f) (tEv G ma) (tEv G mb) σ H Q := by
  obtain ⟨ua, u, B, env, d, u', hE, hW, hm, q⟩ := h
  obtain ⟨x, u1, h1, h2⟩ := bnd_some hm
  obtain ⟨y, u2, h2, h3⟩ := bnd_some h2
  exact ⟨ua, u, B, env, x, u1, hE, hW, h1, fun v H1 ⟨B1, g1, w1, r1⟩ => ⟨ua, u1, B1, env, y, u2, hE.grow g1, w1, h2, fun v2 H2 ⟨B2, g2, w2, r2⟩ =>
    ⟨ua, u2, u', B2, x, y, d, h3, r1.mono _ _ g2.pub, r2, w2, fun v3 H3 a => q v3 H3 (.up g1 (.up g2 a))⟩⟩⟩
theorem dv_cmpU {op : CmpOp} {f : D → D → U → Option (D × U)} (hf : BinUOk G (compareOp op) f) (ha : PE X a (tEv G ma)) (hb : PE X b (tEv G mb)) (hm : behindInMarks op b = false := by rfl) : PE X (.Compare a [op] [b] pos) (tEv G (mBinU f ma mb)) :=
  (pe_cmpR (opU_of hf) ha hb hm).imp fun _ _ _ h => binU_read h
def blO (r : Option (D × U)) (n : Bool) : Option (D × U) := match r with
  | some (.bl b, u) => some (.bl (if n then !b else b), u)
  | _ => none
theorem blO_some {r : Option (D × U)} {n : Bool} {d : D} {u : U} (h : blO r n = some (d, u)) : ∃ b, r = some (.bl b, u) ∧ d = .bl (if n then !b else b) := by
  unfold blO at h
  split at h
  · cases h; exact ⟨_, rfl, rfl⟩
  · cases h
/-- x in y -/
def inO (c : Str) (F : List D → U → Option (D × U)) (f : D → D → Option D) (n : Bool) (x y : D) (u : U) : Option (D × U) := match y with
  | .ins c' ns xs => if c' = c then blO (F [.ins c' ns xs, x] u) n else none
  | y => lft (f x y) u
theorem ok_inU {c : Str} {k : Nat} {F : List D → U → Option (D × U)} (h0 : SpcOk X.prog X.w X.mg X.base G c ("__contains__" : Str) k 2 F) (hr : Room k X.A) {f : D → D → Option D} (hf : BinOk G (compareOp .In) f) : BinUOk G (compareOp .In) (inO c F f false) := by
  intro ua u u' B H da db d va vb e ra rb w
  unfold inO at e
  split at e
  · rename_i c' ns xs
    split at e
    · rename_i hc
      subst hc
      obtain ⟨k0, e1, rfl⟩ := blO_some e
      obtain ⟨C, f0, fd, ps, hC, hs, hfn, hfi, hfo, hb⟩ := h0
      have rb0 := rb
      unfold Rep at rb
      obtain ⟨y, C', dx, vs, rfl, hC', hB, hl, rs⟩ := rb
      rw [hC] at hC'
      cases hC'
      refine ⟨fun x y' H2 Q => x = va ∧ y' = V.ref y ∧ H2 = H ∧ ∀ v H', Aft G ua B H u' (.bl k0) v H' → Q v H', ?_, rfl, rfl, rfl, fun _ _ z => z⟩
      intro pins s σ H2 x y' v u2 Q I rx ry hq
      obtain ⟨rfl, rfl, rfl, q⟩ := hq
      cases ry
      obtain ⟨mA, J, _⟩ := ins_get I.hok (w.sub _ _ hB)
      obtain ⟨od, J, _⟩ := J.look
      obtain ⟨m, hF⟩ := I.fr
      refine PySem.W.in_K hF I.ok.mod.kin J hs hfn ?_
      refine wpAny_mono (call_fnA hfo hb hr rfl I (.cons (show RelV (V.ref y) (Value.ref y) from rfl) (.cons rx .nil)) ⟨ua, u, B, _, _, u', .cons rb0 (.cons ra .nil), rfl, w, e1, fun v H' a => (⟨a, rfl⟩ : Aft G ua B H2 u' (.bl k0) v H' ∧ v = v)⟩) (fun r s' hv => ?_) fun _ _ z => z
      obtain ⟨z, H', I', rz, ⟨a, _⟩⟩ := hv
      obtain ⟨B1, g1, w1, r1⟩ := id a
      cases r1.bl
      cases rz
      exact wpAny_truthy_bool ⟨.bl k0, H', I', rfl, q _ _ a⟩
    · cases e
  · obtain ⟨e2, rfl⟩ := lft_some e
    exact hf ua _ B H da _ d va vb e2 ra rb w
theorem ok_notinU {c : Str} {k : Nat} {F : List D → U → Option (D × U)} (h0 : SpcOk X.prog X.w X.mg X.base G c ("__contains__" : Str) k 2 F) (hr : Room k X.A) {f : D → D → Option D} (hf : BinOk G (compareOp .NotIn) f) : BinUOk G (compareOp .NotIn) (inO c F f true) := by
  intro ua u u' B H da db d va vb e ra rb w
  unfold inO at e
  split at e
  · rename_i c' ns xs
    split at e
    · rename_i hc
      subst hc
      obtain ⟨k0, e1, rfl⟩ := blO_some e
      obtain ⟨C, f0, fd, ps, hC, hs, hfn, hfi, hfo, hb⟩ := h0
      have rb0 := rb
      unfold Rep at rb
      obtain ⟨y, C', dx, vs, rfl, hC', hB, hl, rs⟩ := rb
      rw [hC] at hC'
      cases hC'
      refine ⟨fun x y' H2 Q => x = va ∧ y' = V.ref y ∧ H2 = H ∧ ∀ v H', Aft G ua B H u' (.bl (!k0)) v H' → Q v H', ?_, rfl, rfl, rfl, fun _ _ z => z⟩
      intro pins s σ H2 x y' v u2 Q I rx ry hq
      obtain ⟨rfl, rfl, rfl, q⟩ := hq
      cases ry
      obtain ⟨mA, J, _⟩ := ins_get I.hok (w.sub _ _ hB)
      obtain ⟨od, J, _⟩ := J.look
      obtain ⟨m, hF⟩ := I.fr
      refine PySem.W.notIn_K hF I.ok.mod.kin J hs hfn ?_
      refine wpAny_mono (call_fnA hfo hb hr rfl I (.cons (show RelV (V.ref y) (Value.ref y) from rfl) (.cons rx .nil)) ⟨ua, u, B, _, _, u', .cons rb0 (.cons ra .nil), rfl, w, e1, fun v H' a => (⟨a, rfl⟩ : Aft G ua B H2 u' (.bl k0) v H' ∧ v = v)⟩) (fun r s' hv => ?_) fun _ _ z => z
      obtain ⟨z, H', I', rz, ⟨a, _⟩⟩ := hv
      obtain ⟨B1, g1, w1, r1⟩ := id a
      cases r1.bl
      cases rz
      exact wpAny_truthy_bool ⟨.bl (!k0), H', I', rfl, q _ _ (show Aft G ua B H2 u' (.bl (!k0)) (.bl (!k0)) H' from ⟨B1, g1, w1, rep_bl⟩)⟩
    · cases e
  · obtain ⟨e2, rfl⟩ := lft_some e
    exact hf ua _ B H da _ d va vb e2 ra rb w
end
end Dv
namespace Dv
open PySem PySem.Spec PyProof.Rows L2
end Dv
namespace Dv
open PySem PySem.Spec PyProof.Rows L2
/-- no urn, no error -/
def noUrn : D → Bool
  | .urn => false
  | .exc _ _ _ => false
  | .fn _ => false
  | .dct _ _ => false
  | .dtt _ _ => false
  | .dtn _ _ => false
  | _ => true
def ClsNF {K : PySem.W.Frag} (G : Gx K) (c : Str) : Prop := ∀ C, G.cls c = some C → ∀ c' C', G.cls c' = some C' → PySem.W.notFirst K C (.ref C') = true
def isIns : D → Bool
  | .ins _ _ _ => true
  | _ => false
/-- x == y -/
def eqO (c : Str) (F : List D → U → Option (D × U)) (f : D → D → Option D) (x y : D) (u : U) : Option (D × U) := match x with
  | .ins c' ns xs => if c' = c ∧ noUrn y = true then blO (F [.ins c' ns xs, y] u) false else none
  | x => if isIns y = true then none else lft (f x y) u
end Dv
namespace Dv
open PySem PySem.Spec PyProof.Rows L2
def NeObj {K : PySem.W.Frag} (G : Gx K) (c : Str) : Prop := ∀ C, G.cls c = some C → PySem.W.findIn K (.ref C) "__ne__" = some (some (.builtin "object.__ne__"))
end Dv
namespace Dv
open PySem PySem.Spec PyProof.Rows L2
def SubL {K : PySem.W.Frag} (G : Gx K) (c : Str) : Prop := ∀ C, G.cls c = some C → PySem.W.subIn K (.ref C) (.type "list") = some false
/-- x == y, y asked where x is a list and y an instance -/
def eqL (c : Str) (F : List D → U → Option (D × U)) (f : D → D → Option D) (x y : D) (u : U) : Option (D × U) := match x, y with
  | .lst ds, .ins c' ns xs => if c' = c then blO (F [.ins c' ns xs, .lst ds] u) false else none
  | x, y => eqO c F f x y u
end Dv
namespace Dv
open PySem PySem.Spec PyProof.Rows L2
def TyC {K : PySem.W.Frag} (G : Gx K) (c : Str) : Prop := ∀ C, G.cls c = some C → (PySem.W.clsIn K C).isSome = true ∧ PySem.W.typeIn K (.ref C) = some (.type "type")
end Dv
namespace Dv
open PySem PySem.Spec PyProof.Rows L2
end Dv
namespace Dv
open PySem PySem.Spec PyProof.Rows L2
theorem upd_id {H : Hp} {a : Addr} {o : HO} (h : H a = some o) : upd H a o = H := by
  funext b
  by_cases e : b = a
  · rw [e, upd_same, h]
  · rw [upd_ne e]
section
variable {K : PySem.W.Frag} {G : Gx K} {ua : Option Addr} {u : U} {env : List Sl} {σ : List (Option V)} {B H H0 : Hp} {i : Nat} {o o' : Oo} {l : Addr} {ho ho' : HO} {d : D}
/-- one's own thing is changed -/
theorem EnvOk.chg (e : EnvOk G ua env σ B H) (hi : env[i]? = some (.own o)) (hs : σ[i]? = some (some (.ref l))) (hb : B l = none) (nu : ua ≠ some l) (r : RepO G ua o' ho' B) : EnvOk G ua (env.set i (.own o')) σ B (upd H l ho') := by
  refine ⟨by rw [List.length_set]; exact e.len, fun j x hj => ?_, fun j x hj => ?_, fun j k x y p a1 a2 a3 a4 => ?_⟩
  · rcases get_set hj with ⟨_, z⟩ | ⟨_, hj⟩
    · cases z
    · exact e.pub j x hj
  · rcases get_set hj with ⟨rfl, z⟩ | ⟨hne, hj⟩
    · cases z
      exact ⟨l, _, hs, upd_same, hb, r, nu⟩
    · obtain ⟨p, ws, b1, b2, b3, b4, b5⟩ := e.own j x hj
      refine ⟨p, ws, b1, ?_, b3, b4, b5⟩
      rw [upd_ne (fun z => hne (by subst z; exact e.inj j i x o p hj hi b1 hs))]
      exact b2
  · have o1 : ∃ x', env[j]? = some (Sl.own x') := by
      rcases get_set a1 with ⟨rfl, _⟩ | ⟨_, a1⟩
      · exact ⟨o, hi⟩
      · exact ⟨x, a1⟩
    have o2 : ∃ x', env[k]? = some (Sl.own x') := by
      rcases get_set a2 with ⟨rfl, _⟩ | ⟨_, a2⟩
      · exact ⟨o, hi⟩
      · exact ⟨y, a2⟩
    exact e.inj j k _ _ p o1.choose_spec o2.choose_spec a3 a4
theorem OwnNew.chg (h : OwnNew env σ H0) (hi : env[i]? = some (.own o)) : OwnNew (env.set i (.own o')) σ H0 := fun j es p' h1 h2 => by
  rcases get_set h1 with ⟨rfl, _⟩ | ⟨_, h1'⟩
  · exact h _ o p' hi h2
  · exact h j es p' h1' h2
theorem OwnNew.pub (h : OwnNew env σ H0) (i : Nat) (d : D) : OwnNew (env.set i (.pub d)) σ H0 := fun j es p' h1 h2 => by
  rcases get_set h1 with ⟨_, z⟩ | ⟨_, h1'⟩
  · cases z
  · exact h j es p' h1' h2
/-- a new thing of one's own -/
theorem EnvOk.newOwn {p : Addr} (e : EnvOk G ua env σ B H) (hn : ∀ q o2, H q = some o2 → ∀ (j : Nat) es, env[j]? = some (Sl.own es) → σ[j]? = some (some (V.ref q)) → q ≠ p) (hp : H p = some ho) (hb : B p = none) (nu : ua ≠ some p) (r : RepO G ua o ho B) : EnvOk G ua (env.set i (.own o)) (σ.set i (some (.ref p))) B H :=
  e.setOwn hp hb r nu fun j es q h1 h2 hj => by
    obtain ⟨p2, vs2, a1, a2, _⟩ := e.own j es h1
    rw [h2] at a1
    cases a1
    exact hn q _ a2 j es h1 h2
theorem OwnNew.newOwn {p : Addr} (h : OwnNew env σ H0) (h0 : H0 p = none) : OwnNew (env.set i (.own o)) (σ.set i (some (.ref p))) H0 := fun j es' p' h1 h2 => by
  rcases get_set h1 with ⟨rfl, _⟩ | ⟨hj, h1'⟩
  · have hl := lt_of_get h2
    rw [List.length_set] at hl
    rw [set_get hl] at h2
    cases h2
    exact h0
  · rw [List.getElem?_set_ne (fun z => hj z.symm)] at h2
    exact h j es' p' h1' h2
/-- one's own thing is shown -/
theorem EnvOk.show (e : EnvOk G ua env σ B H) (hi : env[i]? = some (.own o)) (hs : σ[i]? = some (some (.ref l))) (hb : B l = none) (r : Rep G ua d (.ref l) (upd B l ho')) : EnvOk G ua (env.set i (.pub d)) σ (upd B l ho') (upd H l ho') := by
  have sB : Same B (upd B l ho') := same_new hb
  refine ⟨by rw [List.length_set]; exact e.len, fun j x hj => ?_, fun j x hj => ?_, fun j k x y p a1 a2 a3 a4 => ?_⟩
  · rcases get_set hj with ⟨rfl, z⟩ | ⟨_, hj⟩
    · cases z
      exact ⟨_, hs, r⟩
    · obtain ⟨v, b1, b2⟩ := e.pub j x hj
      exact ⟨v, b1, b2.mono _ _ sB⟩
  · rcases get_set hj with ⟨_, z⟩ | ⟨hne, hj⟩
    · cases z
    · obtain ⟨p, ws, b1, b2, b3, b4, b5⟩ := e.own j x hj
      have np : p ≠ l := fun z => hne (by subst z; exact e.inj j i x o p hj hi b1 hs)
      exact ⟨p, ws, b1, by rw [upd_ne np]; exact b2, by rw [upd_ne np]; exact b3, b4.mono sB, b5⟩
  · rcases get_set a1 with ⟨_, z⟩ | ⟨_, a1⟩
    · cases z
    · rcases get_set a2 with ⟨_, z⟩ | ⟨_, a2⟩
      · cases z
      · exact e.inj j k x y p a1 a2 a3 a4
theorem Wd.showU (w : Wd ua u B H) (hb : B l = none) (nu : ua ≠ some l) : Wd ua u (upd B l ho') (upd H l ho') := by
  refine ⟨fun a x z => ?_, fun a z => ?_⟩
  · by_cases c : a = l
    · subst c; rw [upd_same] at z ⊢; exact z
    · rw [upd_ne c] at z ⊢; exact w.sub a x z
  · have := w.urn a z
    have c : a ≠ l := fun c => nu (by rw [← c]; exact z)
    rw [upd_ne c, upd_ne c]; exact this
/-- what is shown: a list as it is, a dict frozen -/
def ooD : Oo → D
  | .lst ds => .lst ds
  | .dct ks ds => .dct ks ds
  | .dtt ks ds => .dtt ks ds
  | .dtn ks ds => .dtn ks ds
def isDk : Oo → Bool
  | .dct _ _ => true
  | _ => false
theorem RepO.show (r : RepO G ua o ho B) (hb : B l = none) : (isDk o = false ∧ Rep G ua (ooD o) (.ref l) (upd B l ho)) ∨ ∃ ks ds, o = .dct ks ds ∧ Mut (some ho) ∧ ∀ od, Rep G ua (.dct ks ds) (.ref l) (upd B l (.frz od ho)) := by
  cases o with
  | lst ds =>
    obtain ⟨vs, rfl, rs⟩ := r
    refine .inl ⟨rfl, ?_⟩
    unfold ooD Rep
    exact ⟨l, vs, rfl, upd_same, rs.mono _ _ (same_new hb)⟩
  | dtt ks ds =>
    obtain ⟨vs, hd, rs⟩ := r
    refine .inl ⟨rfl, ?_⟩
    unfold ooD Rep
    exact ⟨l, vs, ho, rfl, upd_same, hd.mono (same_new hb), rs.mono _ _ (same_new hb)⟩
  | dtn ks ds =>
    obtain ⟨vs, hd, rs⟩ := r
    refine .inl ⟨rfl, ?_⟩
    unfold ooD Rep
    exact ⟨l, vs, ho, rfl, upd_same, hd.mono (same_new hb), rs.mono _ _ (same_new hb)⟩
  | dct ks ds =>
    obtain ⟨vs, rfl, hl, rs, _⟩ := r
    refine .inr ⟨ks, ds, rfl, trivial, fun od => ?_⟩
    unfold Rep
    exact ⟨l, vs, rfl, ⟨od, upd_same⟩, hl, rs.mono _ _ (same_new hb)⟩
end
abbrev MSl := List Sl → U → Option (Sl × U)
section
variable {K : PySem.W.Frag} (G : Gx K)
/-- v stands for s; Hs: the heap from which it came -/
def SlR (ua : Option Addr) (Hs : Hp) : Sl → V → Hp → Hp → Prop
  | .pub d => fun v B _ => Rep G ua d v B
  | .own o => fun v B H => ∃ p ho, v = .ref p ∧ Hs p = none ∧ H p = some ho ∧ B p = none ∧ ua ≠ some p ∧ RepO G ua o ho B
  | .no => fun _ _ _ => False
def AftS (ua : Option Addr) (B H : Hp) (u' : U) (s : Sl) : V → Hp → Prop := fun v H' => ∃ B', Grow ua B H B' H' ∧ Wd ua u' B' H' ∧ SlR G ua H s v B' H'
def tSv (m : MSl) : TE := fun σ H Q => ∃ ua u B env s u', EnvOk G ua env σ B H ∧ Wd ua u B H ∧ m env u = some (s, u') ∧ ∀ v H', AftS G ua B H u' s v H' → Q v H'
end
section
variable {K : PySem.W.Frag} {G : Gx K} {ua : Option Addr} {u u' : U} {env : List Sl} {σ : List (Option V)} {B H B1 H1 H0 B0 Hs : Hp} {i : Nat} {s : Sl} {v : V}
theorem SlR.grow (r : SlR G ua Hs s v B H) (g : Grow ua B H B1 H1) : SlR G ua Hs s v B1 H1 := by
  cases s with
  | no => exact r.elim
  | pub d => exact Rep.mono _ _ g.pub r
  | own o =>
    obtain ⟨p, ho, e, h1, h2, h3, h4, h5⟩ := r
    exact ⟨p, ho, e, h1, g.keep _ _ h2 h4, g.none_of h2 h3, h4, h5.mono g.pub⟩
/-- such a value is stored -/
theorem SlR.store (r : SlR G ua Hs s v B H) (e : EnvOk G ua env σ B H) (i : Nat) (far : ∀ (j : Nat) es q, env[j]? = some (Sl.own es) → σ[j]? = some (some (V.ref q)) → Hs q ≠ none) : EnvOk G ua (env.set i s) (σ.set i (some v)) B H := by
  cases s with
  | no => exact r.elim
  | pub d => exact e.set r i
  | own o =>
    obtain ⟨p, ho, rfl, h1, h2, h3, h4, h5⟩ := r
    exact e.setOwn h2 h3 h5 h4 fun j es q z1 z2 hj z => far j es q z1 z2 (by rw [z]; exact h1)
theorem SlR.news (r : SlR G ua Hs s v B H) (hO : OwnNew env σ H0) (live : ∀ a, Hs a = none → H0 a = none) (i : Nat) : OwnNew (env.set i s) (σ.set i (some v)) H0 := by
  cases s with
  | no => exact r.elim
  | pub d => exact hO.set i d v
  | own o =>
    obtain ⟨p, ho, rfl, h1, _⟩ := r
    exact hO.newOwn (live _ h1)
theorem EnvOk.far (e : EnvOk G ua env σ B H) : ∀ (j : Nat) es q, env[j]? = some (Sl.own es) → σ[j]? = some (some (V.ref q)) → H q ≠ none := fun j es q z1 z2 z => by
  obtain ⟨p2, vs2, a1, a2, _⟩ := e.own j es z1
  rw [z2] at a1
  cases a1
  rw [z] at a2
  cases a2
end
section
variable {X : Cx} {G : Gx X.K} {W : WX} {e f : Expr} {es : List Expr} {me : M} {ms : Ms} {pos apos cpos p : Pos} {sts : List Stmt} {m : MS} {mv mv2 : MSl}
def vP (m : M) : MSl := fun env u => bnd (m env u) fun d u1 => some (.pub d, u1)
theorem dv_P (h : PE X e (tEv G me)) : PE X e (tSv G (vP me)) := h.imp fun σ H Q z => by
  obtain ⟨ua, u, B, env, s, u', hE, hW, hm, q⟩ := z
  obtain ⟨d, u1, c1, c2⟩ := bnd_some hm
  cases c2
  exact ⟨ua, u, B, env, d, _, hE, hW, c1, q⟩
/-- [..] -/
def vLst (ms : Ms) : MSl := fun env u => bnd (ms env u) fun ds u1 => if ds.length ≤ sizeLine then some (.own (.lst ds), u1) else none
theorem dv_oLst (h : PA X es (tEvs G ms)) : PE X (.List es pos) (tSv G (vLst ms)) := (pe_lst h).imp fun σ H Q z => by
  obtain ⟨ua, u, B, env, s, u', hE, hW, hm, q⟩ := z
  obtain ⟨ds, u1, c1, c2⟩ := bnd_some hm
  split at c2
  · cases c2
    exact ⟨ua, u, B, env, ds, _, hE, hW, c1, fun vs H1 ⟨B1, g1, w1, r1⟩ => ⟨by rw [← r1.len]; assumption, fun p hp =>
      q _ _ ⟨B1, g1.trans (.own1 w1 hp), w1.own1 hp, p, _, rfl, g1.live _ hp, upd_same, w1.none_of hp, w1.ne_urn hp, _, rfl, r1⟩⟩⟩
  · cases c2
/-- list(e) -/
def vList (m : M) : MSl := fun env u => bnd (m env u) fun d u1 => match bList [d] with
  | some (.lst ds) => some (.own (.lst ds), u1)
  | _ => none
theorem dv_oList (hg : Gl X "list") (hm : X.mg "list" = none) (ha : PE X e (tEv G me)) (he : starEach (e :: []) X.env = (false, eval e X.env) :: starEach [] X.env := by rfl) (hpl : (backTo pos (starEach [] X.env)).any (·.1) = false := by rfl) :
    PE X (.Call (.Name "list" p) [e] [] pos) (tSv G (vList me)) :=
  (pe_callTy call_list_of hg hm (by decide +kernel) (pa_cons ha pa_nil he) (by decide) (by decide) he hpl).imp fun σ H Q z => by
    obtain ⟨ua, u, B, env, s, u', hE, hW, hm, q⟩ := z
    obtain ⟨d, u1, c1, c2⟩ := bnd_some hm
    refine ⟨ua, u, B, env, d, u1, hE, hW, c1, fun v H1 ⟨B1, g1, w1, r1⟩ => ?_⟩
    cases d with
    | lst ds =>
      cases c2
      obtain ⟨a, ys, rfl, h, r3⟩ := r1.lst
      exact ⟨a, ys, rfl, .inl (.of (w1.sub _ _ h)), fun l hl => q _ _ ⟨B1, g1.trans (.own1 w1 hl), w1.own1 hl, l, _, rfl, g1.live _ hl, upd_same, w1.none_of hl, w1.ne_urn hl, _, rfl, r3⟩⟩
    | tup ds =>
      cases c2
      obtain ⟨a, ys, rfl, h, r3⟩ := r1.tup
      exact ⟨a, ys, rfl, .inr (h.mono w1.sub).sq, fun l hl => q _ _ ⟨B1, g1.trans (.own1 w1 hl), w1.own1 hl, l, _, rfl, g1.live _ hl, upd_same, w1.none_of hl, w1.ne_urn hl, _, rfl, r3⟩⟩
    | _ => cases c2
/-- {} -/
def vDct : MSl := fun _ u => some (.own (.dct [] []), u)
theorem dv_oDct : PE X (.Dict [] [] pos) (tSv G vDct) := pe_dnewK.imp fun σ H Q z => by
  obtain ⟨ua, u, B, env, s, u', hE, hW, hm, q⟩ := z
  cases hm
  exact fun p hp => q _ _ ⟨B, .own1 hW hp, hW.own1 hp, p, _, rfl, hp, upd_same, hW.none_of hp, hW.ne_urn hp, [], rfl, rfl, .nil, List.nodup_nil⟩
def sSv (i : Nat) (m : MSl) : MS := fun env u => bnd (m env u) fun s u1 => some (.nx (env.set i s), u1)
theorem ds_setv (i : Nat) {x : Str} {pos' : Pos} (hN : X.N.Nodup) (he : PE X e (tSv G mv)) (hi : X.N[i]? = some x := by rfl) (hx : Loc X.env.scope x := by first | exact Or.inl rfl | exact Or.inr rfl) (hs : swapsWith e (some (.Name x pos')) pos.line X.env = pure false := by rfl)
    (hf : X.fn x = true ∨ X.env.scope.names.lookup x = some .local := by first | exact .inl rfl | exact .inr rfl | assumption) : PS X (.Assign [.Name x pos'] e pos) (tSt G W (sSv i mv)) := (ps_set hN hi hx he hs hf).imp fun Dn σ H h => by
  obtain ⟨ua, u, B, env, fl, u', B0, H0, hg, hO, hE, hW, hm, q⟩ := h
  obtain ⟨s, u1, c1, c2⟩ := bnd_some hm
  cases c2
  refine ⟨ua, u, B, env, s, _, hE, hW, c1, fun v H1 a => ?_⟩
  obtain ⟨B', g, w, r⟩ := a
  exact q _ B' H1 (hg.trans g) (r.news hO hg.live i) (r.store (hE.grow g) i hE.far) w
def sParv (i j : Nat) (a b : MSl) : MS := fun env u => bnd (a env u) fun s u1 => bnd (b env u1) fun s2 u2 => some (.nx ((env.set i s).set j s2), u2)
theorem ds_parv (i j : Nat) {a b : Expr} {ma mb : MSl} {x y : Str} {px py pt pt2 : Pos} {kt k2 : Nat} (ha : PE X a (tSv G ma)) (hb : PE X b (tSv G mb)) (h : ∀ {ta : TA}, PA X [a, b] ta → PS X (.Assign [.Tuple [.Name x px, .Name y py] kt pt] (.Tuple [a, b] k2 pt2) pos) (tPar i j ta))
    (hs : starEach (a :: [b]) X.env = (false, eval a X.env) :: starEach [b] X.env := by rfl) (hs2 : starEach (b :: []) X.env = (false, eval b X.env) :: starEach [] X.env := by rfl) :
    PS X (.Assign [.Tuple [.Name x px, .Name y py] kt pt] (.Tuple [a, b] k2 pt2) pos) (tSt G W (sParv i j ma mb)) := (h (pa_cons ha (pa_cons hb pa_nil hs2) hs)).imp fun Dn σ H h => by
  obtain ⟨ua, u, B, env, fl, u', B0, H0, hg, hO, hE, hW, hm, q⟩ := h
  obtain ⟨s, u1, c1, c2⟩ := bnd_some hm
  obtain ⟨s2, u2, c3, c4⟩ := bnd_some c2
  cases c4
  refine ⟨ua, u, B, env, s, u1, hE, hW, c1, fun v H1 ⟨B1, g1, w1, r1⟩ => ⟨ua, u1, B1, env, s2, _, hE.grow g1, w1, c3, fun v2 H2 ⟨B2, g2, w2, r2⟩ => ⟨v, v2, rfl, ?_⟩⟩⟩
  have gg := g1.trans g2
  have ea := (r1.grow g2).store (hE.grow gg) i hE.far
  have oa := r1.news hO hg.live i
  refine q _ B2 H2 (hg.trans gg) (r2.news oa (fun a z => hg.live _ (g1.live _ z)) j) (r2.store ea j fun k es p z1 z2 => ?_) w2
  exact ((r1.store (hE.grow g1) i hE.far).far k es p z1 z2)
/-- x.append(e), x one's own list -/
def sApp (i : Nat) (m : M) : MS := fun env u => match env[i]? with
  | some (.own (.lst ds)) => bnd (m env u) fun d u1 => if ds.length < sizeLine then some (.nx (env.set i (.own (.lst (ds ++ [d])))), u1) else none
  | _ => none
theorem ds_app (i : Nat) {x : Str} {px : Pos} (he : PE X e (tEv G me)) (hN : X.N[i]? = some x := by rfl) (hv : Vis X.env.scope x := by first | exact Or.inl rfl | exact Or.inr (Or.inl rfl) | exact Or.inr (Or.inr rfl)) (hd : (x == ("__debug__" : Str)) = false := by decide) (hcd : (x == ("__classdict__" : Str)) = false := by decide)
    (hbase : attributeBase (.Name x px) "append" X.env (eval (.Name x px) X.env) = eval (.Name x px) X.env := by rfl)
    (hfew : ((backTo cpos (starEach [e] X.env)).all (fun x => !x.1) && (backToKw cpos (keywordEach [] X.env)).all (fun x => x.1.isSome)
      && decide ([e].length + ([] : List Keyword).length + (if ([] : List Keyword).isEmpty then 0 else 1) < 30)) = true := by rfl)
    (hline : (apos.endLine == cpos.line) = true := by rfl) (hs : starEach [e] X.env = (false, eval e X.env) :: starEach [] X.env := by rfl) (hp : (backTo cpos (starEach [] X.env)).any (·.1) = false := by rfl)
    (hsw : swapsWith (.Call (.Attribute (.Name x px) "append" apos) [e] [] cpos) none pos.line X.env = pure false := by rfl) :
    PS X (.Expr (.Call (.Attribute (.Name x px) "append" apos) [e] [] cpos) pos) (tSt G W (sApp i me)) :=
  (ps_expr (pe_bm PySem.F.plainAttrs_list PySem.F.slot_list_append PySem.F.type_list_append mt_append (pe_var hN hv hd hcd) (pa_cons he pa_nil hs) hbase hfew hline hs hp) hsw).imp fun Dn σ H h => by
  obtain ⟨ua, u, B, env, fl, u', B0, H0, hg, hO, hE, hW, hm, q⟩ := h
  unfold sApp at hm
  split at hm
  · rename_i ds hi
    obtain ⟨d, u1, c1, c2⟩ := bnd_some hm
    split at c2
    · rename_i hz
      cases c2
      obtain ⟨l, ho, s1, s2, s3, ⟨vs, rfl, s4⟩, s5⟩ := hE.own i _ hi
      refine ⟨_, s1, .inl ⟨rfl, _, SqL.of s2⟩, ua, u, B, env, d, _, hE, hW, c1, fun v H1 ⟨B1, g1, w1, r1⟩ => ?_⟩
      have e1 := hE.grow g1
      obtain ⟨l', ho', t1, t2, t3, ⟨vs', rfl, t4⟩, t5⟩ := e1.own i _ hi
      rw [s1] at t1
      cases t1
      refine ⟨l, vs', v, rfl, rfl, t2, by rw [← t4.len]; exact hz, ?_⟩
      exact q σ B1 _ ((hg.trans g1).putOwn (hO i _ l hi s1)) (hO.chg hi) (e1.chg hi s1 t3 t5 ⟨_, rfl, t4.append (.cons r1 .nil)⟩) (w1.put t3 t5)
    · cases c2
  · cases hm
/-- x[k] = e, x one's own dict -/
def keyOf : D → Option Key
  | .int i => some (.inl i)
  | .str x => some (.inr x)
  | _ => none
theorem keyOf_rep {K : PySem.W.Frag} {G : Gx K} {ua : Option Addr} {B : Hp} {d : D} {v : V} {k : Key} (h : keyOf d = some k) (r : Rep G ua d v B) : v = kV k := by
  unfold keyOf at h
  split at h
  · cases h; cases r.int; rfl
  · cases h; cases r.str; rfl
  · cases h
/-- in its place, or at the end -/
def putD : List Key → List D → Key → D → List Key × List D
  | k :: ks, d :: ds, j, x => if k = j then (k :: ks, x :: ds) else let r := putD ks ds j x; (k :: r.1, d :: r.2)
  | ks, ds, j, x => (ks ++ [j], ds ++ [x])
theorem putK_cons {κ : Type} [DecidableEq κ] (p : κ × V) (r : List (κ × V)) (k : κ) (v : V) (hn : k ∉ r.map (·.1) ∨ p.1 ≠ k) : putK (p :: r) k v = if p.1 = k then (p.1, v) :: r else p :: putK r k v := by
  by_cases e : p.1 = k
  · rw [if_pos e]
    unfold putK
    have h1 : ((p :: r).any fun kv => decide (kv.1 = k)) = true := by simp [e]
    rw [if_pos h1, List.map_cons, if_pos e]
    congr 1
    rcases hn with hn | hn
    · conv => rhs; rw [← List.map_id r]
      refine List.map_congr_left fun q hq => ?_
      rw [if_neg (fun z => hn (List.mem_map.mpr ⟨q, hq, z⟩))]; rfl
    · exact (hn e).elim
  · rw [if_neg e]
    unfold putK
    rw [List.any_cons, decide_eq_false e, Bool.false_or]
    split
    · rw [List.map_cons, if_neg e]
    · rfl
theorem putD_rep {K : PySem.W.Frag} {G : Gx K} {ua : Option Addr} {B : Hp} {j : Key} {x : D} {w : V} (rx : Rep G ua x w B) : ∀ {ks : List Key} {ds : List D} {vs : List V}, ks.Nodup → ks.length = vs.length → Reps G ua ds vs B →
    ∃ ws, putK (ks.zip vs) j w = (putD ks ds j x).1.zip ws ∧ (putD ks ds j x).1.length = ws.length ∧ Reps G ua (putD ks ds j x).2 ws B ∧ (∀ k ∈ (putD ks ds j x).1, k ∈ ks ∨ k = j) ∧ (putD ks ds j x).1.Nodup
  | [], ds, vs, hn, hl, r => by
    cases vs with
    | cons v vs => cases hl
    | nil =>
      cases ds with
      | cons d ds => obtain ⟨_, _, h, _⟩ := r.of_cons; cases h
      | nil => exact ⟨[w], rfl, rfl, .cons rx .nil, fun k hk => .inr (by simpa [putD] using hk), by simp [putD]⟩
  | k :: ks, ds, vs, hn, hl, r => by
    cases vs with
    | nil => cases hl
    | cons v vs =>
      cases ds with
      | nil => have := r.of_nil; cases this
      | cons d ds =>
        obtain ⟨v', t, hv, r1, r2⟩ := r.of_cons
        cases hv
        obtain ⟨h1, h2⟩ := List.nodup_cons.mp hn
        have hl' : ks.length = vs.length := Nat.succ.inj hl
        rw [List.zip_cons_cons]
        unfold putD
        by_cases e : k = j
        · subst e
          rw [if_pos rfl, putK_cons (k, v) (ks.zip vs) k w (.inl fun z => h1 (by
            obtain ⟨q, hq, e⟩ := List.mem_map.mp z
            rw [← e]; exact (List.of_mem_zip hq).1)), if_pos rfl]
          exact ⟨w :: vs, rfl, hl, .cons rx r2, fun k' hk => .inl hk, hn⟩
        · rw [if_neg e]
          rw [putK_cons (k, v) (ks.zip vs) j w (.inr e), if_neg e]
          obtain ⟨ws, q1, q2, q3, q4, q5⟩ := putD_rep rx h2 hl' r2
          refine ⟨v :: ws, by rw [q1]; rfl, by show _ + 1 = _ + 1; rw [q2], .cons r1 q3, fun k' hk => ?_, List.nodup_cons.mpr ⟨fun z => ?_, q5⟩⟩
          · rcases List.mem_cons.mp hk with rfl | hk
            · exact .inl List.mem_cons_self
            · rcases q4 k' hk with z | z
              · exact .inl (List.mem_cons_of_mem _ z)
              · exact .inr z
          · rcases q4 k z with z | z
            · exact h1 z
            · exact e z
end
end Dv
namespace Dv
open PySem PySem.Spec PyProof.Rows L2
section
variable {X : Cx} {e : Expr} {t : TT}
theorem pss_frz {sts : List Stmt} {t : TS} (h : PSs X sts t) : PSs X sts (fun Dn σ H => t Dn σ H ∨ ∃ d u, H d = some u ∧ Mut (some u) ∧ ∀ od, t Dn σ (upd H d (.frz od u))) := by
  refine ⟨fun pins s σ H D I hw => ?_⟩
  rcases hw with hw | ⟨d, u, hd, mu, hw⟩
  · exact h.run pins s σ H D I hw
  · obtain ⟨od, I1⟩ := I.lock hd mu
    exact h.run pins s σ _ D I1 (hw od)
end
section
variable {K : PySem.W.Frag} {G : Gx K} {ua : Option Addr} {u : U} {env : List Sl} {σ : List (Option V)} {B H B0 H0 B1 H1 : Hp} {i : Nat} {o : Oo} {l : Addr} {ho ho' : HO} {d : D} {v : V}
theorem Grow.showU (g : Grow ua B0 H0 B H) (h0 : H0 l = none) (hb : B l = none) : Grow ua B0 H0 (upd B l ho') (upd H l ho') := by
  refine ⟨fun a x e n => ?_, fun a e => ?_, fun a x e => same_new hb a x (g.pub a x e), fun a x e => ?_⟩
  · rw [upd_ne (fun z => by rw [z, h0] at e; cases e)]; exact g.keep a x e n
  · by_cases q : a = l
    · rw [q]; exact h0
    · rw [upd_ne q] at e; exact g.live a e
  · by_cases q : a = l
    · rw [q]; exact .inr h0
    · rw [upd_ne q] at e; exact g.new a x e
/-- data without objects -/
def scalD : D → Bool
  | .non => true
  | .bl _ => true
  | .int _ => true
  | .str _ => true
  | _ => false
theorem Rep.scal (h : scalD d = true) (r : Rep G ua d v B) : Rep G ua d v B1 := by
  cases d <;> first | (unfold Rep at r ⊢; exact r) | cases h
/-- behind a look into one's own thing -/
theorem peek_back (w : Wd ua u B H) (hl : H l = some ho) (hb : B l = none) (nu : ua ≠ some l) {u' : U} (g : Grow ua (upd B l ho') (upd H l ho') B1 H1) (w1 : Wd ua u' B1 H1) : Grow ua B H B (upd H1 l ho) ∧ Wd ua u' B (upd H1 l ho) := by
  have key : ∀ a x, H a = some x → a ≠ l → ua ≠ some a → H1 a = some x := fun a x e n m => g.keep a x (by rw [upd_ne n]; exact e) m
  refine ⟨⟨fun a x e n => ?_, fun a e => ?_, fun _ _ e => e, fun _ _ e => .inl e⟩, ⟨fun a x e => ?_, fun a e => ?_⟩⟩
  · by_cases q : a = l
    · subst q; rw [hl] at e; cases e; exact upd_same
    · rw [upd_ne q]; exact key a x e q n
  · by_cases q : a = l
    · subst q; rw [upd_same] at e; cases e
    · rw [upd_ne q] at e
      have := g.live a e
      rw [upd_ne q] at this
      exact this
  · have q : a ≠ l := fun z => by rw [z, hb] at e; cases e
    rw [upd_ne q]
    exact key a x (w.sub a x e) q (fun z => by rw [(w.urn a z).1] at e; cases e)
  · have q : a ≠ l := fun z => nu (by rw [← z]; exact e)
    rw [upd_ne q]
    exact ⟨(w.urn a e).1, (w1.urn a e).2⟩
end
section
variable {X : Cx} {G : Gx X.K} {W : WX} {e f : Expr} {es : List Expr} {me mk : M} {mb : MB} {ms : Ms} {pos apos cpos p : Pos} {sts : List Stmt} {m : MS}
/-- one's own thing is let out -/
def sPub (i : Nat) (m : MS) : MS := fun env u => match env[i]? with
  | some (.own o) => m (env.set i (.pub (ooD o))) u
  | _ => none
theorem dss_pub (i : Nat) (h : PSs X sts (tSt G W m)) : PSs X sts (tSt G W (sPub i m)) := (pss_frz h).imp fun Dn σ H h => by
  obtain ⟨ua, u, B, env, fl, u', B0, H0, hg, hO, hE, hW, hm, q⟩ := h
  unfold sPub at hm
  split at hm
  · rename_i o hi
    obtain ⟨l, ho, s1, s2, s3, s4, s5⟩ := hE.own i o hi
    have h0 : H0 l = none := hO i o l hi s1
    rcases s4.show s3 with ⟨_, r⟩ | ⟨ks, ds, rfl, mu, r⟩
    · left
      have eS := hE.show hi s1 s3 r
      have gS := hg.showU (ho' := ho) h0 s3
      have wS := hW.showU (ho' := ho) s3 s5
      rw [upd_id s2] at eS gS wS
      exact ⟨ua, u, _, _, fl, u', B0, H0, gS, hO.pub i _, eS, wS, hm, q⟩
    · right
      exact ⟨l, ho, s2, mu, fun od => ⟨ua, u, _, _, fl, u', B0, H0, hg.showU h0 s3, hO.pub i _, hE.show hi s1 s3 (r od), hW.showU s3 s5, hm, q⟩⟩
  · cases hm
/-- an expression without objects looks into one's own list, one's own dict -/
def mPeek (i : Nat) (m : M) : M := fun env u => match env[i]? with
  | some (.own o) => bnd (m (env.set i (.pub (ooD o))) u) fun d u1 => if scalD d = true then some (d, u1) else none
  | _ => none
theorem dv_peek (i : Nat) (h : PE X e (tEv G me)) : PE X e (tEv G (mPeek i me)) := by
  refine PE.by fun σ H Q z => ?_
  obtain ⟨ua, u, B, env, d, u', hE, hW, hm, q⟩ := z
  unfold mPeek at hm
  split at hm
  · rename_i o hi
    obtain ⟨d, u1, c1, c2⟩ := bnd_some hm
    split at c2
    · rename_i hsc
      cases c2
      obtain ⟨l, ho, s1, s2, s3, s4, s5⟩ := hE.own i o hi
      rcases s4.show s3 with ⟨_, r⟩ | ⟨ks, ds, rfl, mu, r⟩
      · refine ⟨_, h, ?_⟩
        have eS := hE.show hi s1 s3 r
        have wS := hW.showU (ho' := ho) s3 s5
        have id := upd_id s2
        rw [id] at eS wS
        refine ⟨ua, u, _, _, d, _, eS, wS, c1, fun v H1 ⟨B1, g1, w1, r1⟩ => ?_⟩
        have g1' : Grow ua (upd B l ho) (upd H l ho) B1 H1 := by rw [id]; exact g1
        obtain ⟨g2, w2⟩ := peek_back hW s2 s3 s5 g1' w1
        have k1 : H1 l = some ho := g1.keep _ _ s2 s5
        rw [upd_id k1] at g2 w2
        exact q v H1 ⟨B, g2, w2, r1.scal hsc⟩
      · refine ⟨_, pe_lock h, l, ho, s2, mu, fun od => ?_⟩
        refine ⟨ua, u, _, _, d, _, hE.show hi s1 s3 (r od), hW.showU s3 s5, c1, fun v H1 ⟨B1, g1, w1, r1⟩ => ?_⟩
        obtain ⟨g2, w2⟩ := peek_back hW s2 s3 s5 g1 w1
        exact ⟨g1.keep _ _ upd_same s5, q v _ ⟨B, g2, w2, r1.scal hsc⟩⟩
    · cases c2
  · cases hm
/-- x[k] = e, x one's own dict: the value first -/
def sPutD (i : Nat) (mk mv : M) : MS := fun env u => match env[i]? with
  | some (.own (.dct ks ds)) => bnd (mv env u) fun x u1 => bnd (mk env u1) fun k u2 => match keyOf k with
    | some key => if ks.length < sizeLine then some (.nx (env.set i (.own (.dct (putD ks ds key x).1 (putD ks ds key x).2))), u2) else none
    | none => none
  | _ => none
theorem ds_putD (i : Nat) {x : Str} {px pos' : Pos} (hu : X.A.units + 1 < cLine) (hk : PE X f (tEv G mk)) (he : PE X e (tEv G me)) (hN : X.N[i]? = some x := by rfl) (hv : Vis X.env.scope x := by first | exact Or.inl rfl | exact Or.inr (Or.inl rfl) | exact Or.inr (Or.inr rfl)) (hd : (x == ("__debug__" : Str)) = false := by decide) (hcd : (x == ("__classdict__" : Str)) = false := by decide)
    (hs : swapsWith e (some (.Subscript (.Name x px) f pos')) pos.line X.env = pure false := by rfl) : PS X (.Assign [.Subscript (.Name x px) f pos'] e pos) (tSt G W (sPutD i mk me)) :=
  (ps_dput hu (pe_var hN hv hd hcd) hk he hs).imp fun Dn σ H h => by
  obtain ⟨ua, u, B, env, fl, u', B0, H0, hg, hO, hE, hW, hm, q⟩ := h
  unfold sPutD at hm
  split at hm
  · rename_i ks ds hi
    obtain ⟨d, u1, c1, c2⟩ := bnd_some hm
    obtain ⟨k, u2, c3, c4⟩ := bnd_some c2
    split at c4
    · rename_i key hkey
      split at c4
      · rename_i hz
        cases c4
        obtain ⟨l, ho, s1, s2, s3, s4, s5⟩ := hE.own i _ hi
        refine ⟨ua, u, B, env, d, u1, hE, hW, c1, fun v H1 ⟨B1, g1, w1, r1⟩ => ⟨_, s1, ua, u1, B1, env, k, _, hE.grow g1, w1, c3, fun v2 H2 ⟨B2, g2, w2, r2⟩ => ?_⟩⟩
        have gg := g1.trans g2
        have e2 := hE.grow gg
        obtain ⟨l', ho', t1, t2, t3, ⟨vs, rfl, t4, t6, t7⟩, t5⟩ := e2.own i _ hi
        rw [s1] at t1
        cases t1
        obtain ⟨ws, a1, a2, a3, a4, a5⟩ := putD_rep (j := key) (r1.mono _ _ g2.pub) t7 t4 t6
        refine ⟨l, _, rfl, .inl ⟨_, key, t2, keyOf_rep hkey r2, by rw [List.length_zip, ← t4, Nat.min_self]; exact hz, rfl⟩, ?_⟩
        exact q σ B2 _ ((hg.trans gg).putOwn (hO i _ l hi s1)) (hO.chg hi) (e2.chg hi s1 t3 t5 ⟨ws, congrArg HO.dK a1, a2, a3, a5⟩) (w2.put t3 t5)
      · cases c4
    · cases c4
  · cases hm
end
section
variable {X : Cx} {G : Gx X.K} {W : WX} {e f : Expr} {me : M} {pos apos cpos apos2 cpos2 p : Pos}
/-- x.append(y.pop(e)), both one's own lists -/
def sAppPop (i j : Nat) (m : M) : MS := fun env u => match env[i]?, env[j]? with
  | some (.own (.lst ds)), some (.own (.lst es)) => bnd (m env u) fun k u1 => match k with
    | .int n => if 0 ≤ n ∧ n < es.length ∧ es.length ≤ 2 ^ 62 ∧ ds.length < sizeLine ∧ i ≠ j then (match es[n.toNat]? with
      | some d => some (.nx ((env.set j (.own (.lst (es.eraseIdx n.toNat)))).set i (.own (.lst (ds ++ [d])))), u1)
      | none => none) else none
    | _ => none
  | _, _ => none
theorem Reps.erase {K : PySem.W.Frag} {G : Gx K} {ua : Option Addr} {B : Hp} : ∀ {ds : List D} {vs : List V} (n : Nat), Reps G ua ds vs B → Reps G ua (ds.eraseIdx n) (vs.eraseIdx n) B
  | [], vs, n, h => by rw [h.of_nil]; exact .nil
  | d :: ds, vs, 0, h => by
    obtain ⟨v, r, rfl, q, t⟩ := h.of_cons
    exact t
  | d :: ds, vs, n + 1, h => by
    obtain ⟨v, r, rfl, q, t⟩ := h.of_cons
    exact .cons q (Reps.erase n t)
theorem ds_appPop (i j : Nat) {x y : Str} {px py : Pos} (he : PE X e (tEv G me)) (hN : X.N[i]? = some x := by rfl) (hNj : X.N[j]? = some y := by rfl) (hv : Vis X.env.scope x := by first | exact Or.inl rfl | exact Or.inr (Or.inl rfl) | exact Or.inr (Or.inr rfl)) (hvy : Vis X.env.scope y := by first | exact Or.inl rfl | exact Or.inr (Or.inl rfl) | exact Or.inr (Or.inr rfl))
    (hd : (x == ("__debug__" : Str)) = false := by decide) (hcd : (x == ("__classdict__" : Str)) = false := by decide) (hdy : (y == ("__debug__" : Str)) = false := by decide) (hcdy : (y == ("__classdict__" : Str)) = false := by decide)
    (hbase : attributeBase (.Name x px) "append" X.env (eval (.Name x px) X.env) = eval (.Name x px) X.env := by rfl) (hbasey : attributeBase (.Name y py) "pop" X.env (eval (.Name y py) X.env) = eval (.Name y py) X.env := by rfl)
    (hfew : ((backTo cpos (starEach [.Call (.Attribute (.Name y py) "pop" apos2) [e] [] cpos2] X.env)).all (fun x => !x.1) && (backToKw cpos (keywordEach [] X.env)).all (fun x => x.1.isSome)
      && decide ([Expr.Call (.Attribute (.Name y py) "pop" apos2) [e] [] cpos2].length + ([] : List Keyword).length + (if ([] : List Keyword).isEmpty then 0 else 1) < 30)) = true := by rfl)
    (hfewy : ((backTo cpos2 (starEach [e] X.env)).all (fun x => !x.1) && (backToKw cpos2 (keywordEach [] X.env)).all (fun x => x.1.isSome)
      && decide ([e].length + ([] : List Keyword).length + (if ([] : List Keyword).isEmpty then 0 else 1) < 30)) = true := by rfl)
    (hline : (apos.endLine == cpos.line) = true := by rfl) (hliney : (apos2.endLine == cpos2.line) = true := by rfl) (hs : starEach [.Call (.Attribute (.Name y py) "pop" apos2) [e] [] cpos2] X.env = (false, eval (.Call (.Attribute (.Name y py) "pop" apos2) [e] [] cpos2) X.env) :: starEach [] X.env := by rfl) (hsy : starEach [e] X.env = (false, eval e X.env) :: starEach [] X.env := by rfl)
    (hp : (backTo cpos (starEach [] X.env)).any (·.1) = false := by rfl) (hpy : (backTo cpos2 (starEach [] X.env)).any (·.1) = false := by rfl)
    (hsw : swapsWith (.Call (.Attribute (.Name x px) "append" apos) [.Call (.Attribute (.Name y py) "pop" apos2) [e] [] cpos2] [] cpos) none pos.line X.env = pure false := by rfl) :
    PS X (.Expr (.Call (.Attribute (.Name x px) "append" apos) [.Call (.Attribute (.Name y py) "pop" apos2) [e] [] cpos2] [] cpos) pos) (tSt G W (sAppPop i j me)) :=
  (ps_expr (pe_bm PySem.F.plainAttrs_list PySem.F.slot_list_append PySem.F.type_list_append mt_append (pe_var hN hv hd hcd) (pa_cons (pe_bm PySem.F.plainAttrs_list PySem.F.slot_list_pop PySem.F.type_list_pop mt_popAt (pe_var hNj hvy hdy hcdy) (pa_cons he pa_nil hsy) hbasey hfewy hliney hsy hpy) pa_nil hs) hbase hfew hline hs hp) hsw).imp fun Dn σ H h => by
  obtain ⟨ua, u, B, env, fl, u', B0, H0, hg, hO, hE, hW, hm, q⟩ := h
  unfold sAppPop at hm
  split at hm
  · rename_i ds es hi hj
    obtain ⟨k, u1, c1, c2⟩ := bnd_some hm
    split at c2
    · rename_i n
      split at c2
      · rename_i hz
        obtain ⟨z0, z1, z2, z3, z4⟩ := hz
        split at c2
        · rename_i dd hdd
          cases c2
          obtain ⟨l, ho, s1, s2, s3, ⟨vs, rfl, s4⟩, s5⟩ := hE.own i _ hi
          obtain ⟨l2, ho2, y1, y2, y3, ⟨vs2, rfl, y4⟩, y5⟩ := hE.own j _ hj
          refine ⟨_, s1, .inl ⟨rfl, _, SqL.of s2⟩, _, y1, .inl ⟨rfl, _, SqL.of y2⟩, ua, u, B, env, _, _, hE, hW, c1, fun v H1 ⟨B1, g1, w1, r1⟩ => ?_⟩
          cases r1.int
          have e1 := hE.grow g1
          obtain ⟨l', ho', t1, t2, t3, ⟨vs', rfl, t4⟩, t5⟩ := e1.own i _ hi
          rw [s1] at t1
          cases t1
          obtain ⟨l2', ho2', x1, x2, x3, ⟨vs2', rfl, x4⟩, x5⟩ := e1.own j _ hj
          rw [y1] at x1
          cases x1
          obtain ⟨yv, hy, ry⟩ := x4.get hdd
          have nl : l ≠ l2 := fun z => z4 (e1.inj i j _ _ l hi hj s1 (by rw [z]; exact y1))
          have hlen : vs2'.length = es.length := x4.len.symm
          have ha : seqIndex? n vs2'.length = some n.toNat := by
            unfold seqIndex?
            have h1 : ¬ n < 0 := by omega
            simp only [h1, if_false]
            rw [if_pos (by simp; omega)]
          refine ⟨l2, vs2', n, n.toNat, yv, rfl, rfl, x2, by omega, by omega, ha, hy, ?_⟩
          refine ⟨l, vs', yv, rfl, rfl, by rw [upd_ne nl]; exact t2, by rw [← t4.len]; exact z3, ?_⟩
          have ej := e1.chg hj y1 x3 x5 (o' := .lst (es.eraseIdx n.toNat)) ⟨_, rfl, x4.erase n.toNat⟩
          have hi' : (env.set j (.own (.lst (es.eraseIdx n.toNat))))[i]? = some (.own (.lst ds)) := by rw [List.getElem?_set_ne (fun z => z4 z.symm)]; exact hi
          have oj := hO.chg hj (o' := .lst (es.eraseIdx n.toNat))
          exact q σ B1 _ (((hg.trans g1).putOwn (hO j _ l2 hj y1)).putOwn (hO i _ l hi s1)) (oj.chg hi') (ej.chg hi' s1 t3 t5 ⟨_, rfl, t4.append (.cons ry .nil)⟩) ((w1.put x3 x5).put t3 t5)
        · cases c2
      · cases c2
    · cases c2
  · cases hm
end
end Dv
namespace Dv
open PySem PySem.Spec PyProof.Rows L2
def ltK : Key → Key → Bool
  | .inl i, .inl j => decide (i < j)
  | .inr x, .inr y => decide (x.cps.toList < y.cps.toList)
  | .inl _, .inr _ => true
  | .inr _, .inl _ => false
theorem ltK_irr (a : Key) : ltK a a = false := by
  cases a with
  | inl i => exact decide_eq_false (Int.lt_irrefl _)
  | inr x => exact decide_eq_false (List.lt_irrefl _)
theorem ltK_trans {a b c : Key} (h : ltK a b = true) (g : ltK b c = true) : ltK a c = true := by
  cases a <;> cases b <;> cases c <;> simp only [ltK, decide_eq_true_eq, Bool.false_eq_true] at h g ⊢
  · omega
  · exact List.lt_trans h g
theorem ltK_tri (a b : Key) : ltK a b = true ∨ a = b ∨ ltK b a = true := by
  cases a with
  | inl i =>
    cases b with
    | inl j =>
      rcases Int.lt_trichotomy i j with h | h | h
      · exact .inl (decide_eq_true h)
      · exact .inr (.inl (by rw [h]))
      · exact .inr (.inr (decide_eq_true h))
    | inr y => exact .inl rfl
  | inr x =>
    cases b with
    | inl j => exact .inr (.inr rfl)
    | inr y =>
      by_cases h : x.cps.toList < y.cps.toList
      · exact .inl (decide_eq_true h)
      · by_cases g : y.cps.toList < x.cps.toList
        · exact .inr (.inr (decide_eq_true g))
        · exact .inr (.inl (by rw [leS_anti (List.not_lt.mp g) (List.not_lt.mp h)]))
def leR : List Key → List Key → Bool
  | [], _ => true
  | _ :: _, [] => false
  | a :: as, b :: bs => if a = b then leR as bs else ltK a b
theorem leR_cons (a b : Key) (as bs : List Key) : leR (a :: as) (b :: bs) = if a = b then leR as bs else ltK a b := by rw [leR]
theorem leR_trans : ∀ {a b c : List Key}, leR a b = true → leR b c = true → leR a c = true
  | [], _, _, _, _ => by unfold leR; rfl
  | _ :: _, [], _, h, _ => by unfold leR at h; cases h
  | _ :: _, _ :: _, [], _, h => by unfold leR at h; cases h
  | a :: as, b :: bs, c :: cs, h, g => by
    unfold leR at h g ⊢
    by_cases e : a = b
    · subst e
      rw [if_pos rfl] at h
      by_cases f : a = c
      · rw [if_pos f] at g ⊢; exact leR_trans h g
      · rw [if_neg f] at g ⊢; exact g
    · rw [if_neg e] at h
      by_cases f : b = c
      · subst f
        rw [if_neg e]; exact h
      · rw [if_neg f] at g
        have t := ltK_trans h g
        by_cases k : a = c
        · subst k; rw [ltK_irr] at t; cases t
        · rw [if_neg k]; exact t
theorem leR_total : ∀ a b : List Key, leR a b = true ∨ leR b a = true
  | [], _ => .inl (by unfold leR; rfl)
  | _ :: _, [] => .inr (by unfold leR; rfl)
  | a :: as, b :: bs => by
    unfold leR
    by_cases e : a = b
    · rw [if_pos e, if_pos e.symm]; exact leR_total as bs
    · rw [if_neg e, if_neg (fun z => e z.symm)]
      rcases ltK_tri a b with h | h | h
      · exact .inl h
      · exact absurd h e
      · exact .inr h
theorem leR_anti : ∀ {a b : List Key}, leR a b = true → leR b a = true → a = b
  | [], [], _, _ => rfl
  | [], _ :: _, _, h => by unfold leR at h; cases h
  | _ :: _, [], h, _ => by unfold leR at h; cases h
  | a :: as, b :: bs, h, g => by
    unfold leR at h g
    by_cases e : a = b
    · subst e
      rw [if_pos rfl] at h g
      rw [leR_anti h g]
    · rw [if_neg e] at h
      rw [if_neg (fun z => e z.symm)] at g
      have := ltK_trans h g
      rw [ltK_irr] at this; cases this
def insR (x : List Key) : List (List Key) → List (List Key)
  | [] => [x]
  | y :: r => if leR x y = true then x :: y :: r else y :: insR x r
def sortR : List (List Key) → List (List Key)
  | [] => []
  | x :: r => insR x (sortR r)
theorem insR_perm (x : List Key) : ∀ l, (insR x l).Perm (x :: l)
  | [] => .refl _
  | y :: r => by
    unfold insR
    split
    · exact .refl _
    · exact ((insR_perm x r).cons y).trans (.swap x y r)
theorem sortR_perm : ∀ l, (sortR l).Perm l
  | [] => .refl _
  | x :: r => (insR_perm x _).trans ((sortR_perm r).cons x)
abbrev LeR (a b : List Key) : Prop := leR a b = true
theorem insR_sorted (x : List Key) : ∀ l : List (List Key), l.Pairwise LeR → (insR x l).Pairwise LeR
  | [], _ => List.pairwise_singleton _ _
  | y :: r, h => by
    have h1 := List.pairwise_cons.mp h
    unfold insR
    split
    · rename_i hl
      refine List.pairwise_cons.mpr ⟨fun z hz => ?_, h⟩
      rcases List.mem_cons.mp hz with rfl | hz
      · exact hl
      · exact leR_trans hl (h1.1 z hz)
    · rename_i hl
      refine List.pairwise_cons.mpr ⟨fun z hz => ?_, insR_sorted x r h1.2⟩
      rcases List.mem_cons.mp ((insR_perm x r).subset hz) with rfl | hz
      · exact (leR_total _ _).resolve_left hl
      · exact h1.1 z hz
theorem sortR_sorted : ∀ l : List (List Key), (sortR l).Pairwise LeR
  | [] => .nil
  | x :: r => insR_sorted x _ (sortR_sorted r)
theorem sortR_uniq {xs ys : List (List Key)} (p : ys.Perm xs) (h : ys.Pairwise LeR) : ys = sortR xs :=
  List.Perm.eq_of_pairwise (fun _ _ _ _ h1 h2 => leR_anti h1 h2) h (sortR_sorted xs) (p.trans (sortR_perm xs).symm)
def keyPy : Key → PyData
  | .inl i => .int i
  | .inr x => .str x
def rowPy (ks : List Key) : PyData := .tuple (ks.map keyPy)
def kindK : Key → Bool
  | .inl _ => true
  | .inr _ => false
abbrev shapeR (ks : List Key) : List Bool := ks.map kindK
theorem key_alike {a b : Key} (h : kindK a = kindK b) : W.alike (keyPy a) (keyPy b) = true := by
  cases a <;> cases b <;> simp_all [kindK, keyPy, W.alike]
theorem key_eqv {a b : Key} (h : kindK a = kindK b) : PyData.eqv (keyPy a) (keyPy b) = decide (a = b) := by
  cases a <;> cases b <;> simp_all [kindK, keyPy, PyData.eqv]
  · rename_i i j; by_cases e : i = j <;> simp [e]
  · rename_i i j; by_cases e : i = j <;> simp [e]
theorem key_lt {a b : Key} (h : kindK a = kindK b) : W.dataLt (keyPy a) (keyPy b) = ltK a b := by
  cases a <;> cases b <;> simp only [kindK, Bool.false_eq_true, Bool.true_eq_false] at h <;> unfold keyPy ltK
  · exact W.dataLt_int _ _
  · exact W.dataLt_str _ _
theorem row_alike : ∀ {a b : List Key}, shapeR a = shapeR b → W.alikeAll (a.map keyPy) (b.map keyPy) = true
  | [], _, _ => by simp [W.alikeAll]
  | _ :: _, [], h => by cases h
  | a :: as, b :: bs, h => by
    obtain ⟨h1, h2⟩ := List.cons.inj h
    show W.alikeAll (keyPy a :: as.map keyPy) (keyPy b :: bs.map keyPy) = true
    rw [W.alikeAll, key_alike h1, row_alike h2]; rfl
theorem row_lt : ∀ {a b : List Key}, shapeR a = shapeR b → W.rowLt (b.map keyPy) (a.map keyPy) = !leR a b
  | [], [], _ => by
    have e : W.rowLt [] [] = false := PyProof.Rows.lex_irrefl _
    unfold leR; exact e
  | [], _ :: _, h => by cases h
  | _ :: _, [], h => by cases h
  | a :: as, b :: bs, h => by
    obtain ⟨h1, h2⟩ := List.cons.inj h
    have e : W.rowLt ((b :: bs).map keyPy) ((a :: as).map keyPy) = if PyData.eqv (keyPy b) (keyPy a) = true then W.rowLt (bs.map keyPy) (as.map keyPy) else W.dataLt (keyPy b) (keyPy a) := W.dataLt_cons (key_alike h1.symm) _ _
    rw [e, key_eqv h1.symm, key_lt h1.symm, row_lt h2, leR_cons]
    by_cases f : a = b
    · subst f; simp
    · rw [if_neg (by simpa using fun z => f z.symm), if_neg f]
      rcases ltK_tri a b with h | h | h
      · rw [h]
        cases q : ltK b a with
        | false => rfl
        | true => have := ltK_trans h q; rw [ltK_irr] at this; cases this
      · exact absurd h f
      · rw [h]
        cases q : ltK a b with
        | false => rfl
        | true => have := ltK_trans h q; rw [ltK_irr] at this; cases this
theorem row_depth : ∀ ks : List Key, PyData.depthAll (ks.map keyPy) = 0
  | [] => by simp [PyData.depthAll]
  | k :: ks => by
    show PyData.depthAll (keyPy k :: ks.map keyPy) = 0
    rw [PyData.depthAll, row_depth ks]
    cases k <;> simp [keyPy, PyData.depth]
def keyD : Key → D
  | .inl i => .int i
  | .inr x => .str x
def rowD (ks : List Key) : D := .tup (ks.map keyD)
def keysOf : List D → Option (List Key)
  | [] => some []
  | d :: ds => (keyOf d).bind fun k => (keysOf ds).map fun ks => k :: ks
def rowOf : D → Option (List Key)
  | .tup ds => keysOf ds
  | _ => none
def rowsOf : List D → Option (List (List Key))
  | [] => some []
  | d :: ds => (rowOf d).bind fun k => (rowsOf ds).map fun ks => k :: ks
theorem keyOf_eq {d : D} {k : Key} (h : keyOf d = some k) : d = keyD k := by
  unfold keyOf at h
  split at h
  · cases h; rfl
  · cases h; rfl
  · cases h
theorem keysOf_eq : ∀ {ds : List D} {ks : List Key}, keysOf ds = some ks → ds = ks.map keyD
  | [], ks, h => by cases h; rfl
  | d :: ds, ks, h => by
    unfold keysOf at h
    cases q : keyOf d with
    | none => rw [q] at h; cases h
    | some k =>
      rw [q] at h
      cases q2 : keysOf ds with
      | none => rw [q2] at h; cases h
      | some r => rw [q2] at h; cases h; rw [keyOf_eq q, keysOf_eq q2]; rfl
theorem rowsOf_eq : ∀ {ds : List D} {ks : List (List Key)}, rowsOf ds = some ks → ds = ks.map rowD
  | [], ks, h => by cases h; rfl
  | d :: ds, ks, h => by
    unfold rowsOf at h
    cases q : rowOf d with
    | none => rw [q] at h; cases h
    | some k =>
      rw [q] at h
      cases q2 : rowsOf ds with
      | none => rw [q2] at h; cases h
      | some r =>
        rw [q2] at h; cases h
        unfold rowOf at q
        split at q
        · rw [keysOf_eq q, rowsOf_eq q2]; rfl
        · cases q
theorem keyD_of (k : Key) : keyOf (keyD k) = some k := by cases k <;> rfl
theorem keysOf_map : ∀ ks : List Key, keysOf (ks.map keyD) = some ks
  | [] => rfl
  | k :: ks => by
    show (keyOf (keyD k)).bind _ = _
    rw [keyD_of]
    show (keysOf (ks.map keyD)).map _ = _
    rw [keysOf_map ks]; rfl
theorem rowsOf_map : ∀ ks : List (List Key), rowsOf (ks.map rowD) = some ks
  | [] => rfl
  | k :: ks => by
    show (keysOf (k.map keyD)).bind _ = _
    rw [keysOf_map]
    show (rowsOf (ks.map rowD)).map _ = _
    rw [rowsOf_map ks]; rfl
theorem key_py (k : Key) : toPy (keyD k) = some (keyPy k) := by cases k <;> (unfold keyD toPy; rfl)
theorem keys_py : ∀ ks : List Key, toPys (ks.map keyD) = some (ks.map keyPy)
  | [] => by unfold toPys; rfl
  | k :: ks => by
    show toPys (keyD k :: ks.map keyD) = _
    unfold toPys
    rw [key_py, keys_py ks]; rfl
theorem row_py (ks : List Key) : toPy (rowD ks) = some (rowPy ks) := by
  unfold rowD toPy
  rw [keys_py]; rfl
def rSortedD (X : Cx) : List V → Hp → VK → Prop := fun vs H Q => ∃ (a : Addr) (zs : List (V × List Key)) (sh : List Bool), vs = [.ref a] ∧ SqL X.K H a (zs.map (·.1)) ∧ (∀ z ∈ zs, Dp X.K H z.1 (rowPy z.2)) ∧ (∀ z ∈ zs, shapeR z.2 = sh) ∧ sh ≠ [] ∧
  ∀ (p : Addr) (ys : List (V × List Key)), ys.Perm zs → (ys.map (·.2)).Pairwise LeR → H p = none → Q (.ref p) (upd H p (.lst (ys.map (·.1))))
theorem vals_each {R : Value → V × List Key → Prop} (hR : ∀ u z, R u z → RelV z.1 u) : ∀ {us : List Value} {zs : List (V × List Key)}, W.EachIs R us zs → Vals (zs.map (·.1)) us
  | _, _, .nil => .nil
  | _, _, .cons h t => .cons (hR _ _ h) (vals_each hR t)
theorem each_vals : ∀ {zs : List (V × List Key)} {us : List Value}, Vals (zs.map (·.1)) us → W.EachIs (fun u (z : V × List Key) => RelV z.1 u) us zs
  | [], us, h => by cases us with
    | nil => exact .nil
    | cons u us => cases h
  | z :: zs, us, h => by cases us with
    | nil => cases h
    | cons u us => cases h with
      | cons h1 h2 => exact .cons h1 (each_vals h2)
theorem each_reads {R S : Value → V × List Key → Prop} : ∀ {us : List Value} {zs : List (V × List Key)}, W.EachIs R us zs → (∀ u z, z ∈ zs → R u z → S u z) → W.EachIs S us zs
  | _, _, .nil, _ => .nil
  | _, _, .cons h t, f => .cons (f _ _ List.mem_cons_self h) (each_reads t fun u z hz => f u z (List.mem_cons_of_mem _ hz))
theorem shaped_ne {sh : List Bool} {k : List Key} (h : shapeR k = sh) (hn : sh ≠ []) : ∃ a r, k = a :: r := by
  cases k with
  | nil => exact absurd h.symm hn
  | cons a r => exact ⟨a, r, rfl⟩
theorem cr_sortedD {X : Cx} (hu : X.A.units + 64 < cLine) : CallR X (.builtin "sorted") (rSortedD X) := by
  intro pins s σ H vs us Q I r h
  obtain ⟨a, zs, sh, rfl, hs, hd, hsh, hne, q⟩ := h
  obtain ⟨its, rv, hl, hz⟩ := I.list hs
  obtain ⟨u, rfl, ru⟩ := vals1 r
  obtain rfl : u = Value.ref a := ru
  have e0 := each_vals rv
  have er : W.EachIs (fun u (z : V × List Key) => ∃ as, Reads s.heap u (rowPy z.2) as) its zs := each_reads e0 fun u z hz' ru => Dp.reads I _ _ _ (hd z hz') ru
  have hal : W.AllAlike (zs.map fun z => rowPy z.2) := by
    intro d hd1 d' hd2
    obtain ⟨z, hz1, rfl⟩ := List.mem_map.mp hd1
    obtain ⟨z', hz2, rfl⟩ := List.mem_map.mp hd2
    show W.alike (.tuple _) (.tuple _) = true
    rw [W.alike]
    exact row_alike ((hsh z hz1).trans (hsh z' hz2).symm)
  have hk : W.Sortable (zs.map fun z => rowPy z.2) := .inl fun d hd1 => by
    obtain ⟨z, hz1, rfl⟩ := List.mem_map.mp hd1
    obtain ⟨x, r, e⟩ := shaped_ne (hsh z hz1) hne
    exact ⟨keyPy x, r.map keyPy, by show PyData.tuple (z.2.map keyPy) = _; rw [e]; rfl⟩
  have hlen : its.length = zs.length := by rw [← rv.length, List.length_map]
  refine W.sorted_data (enc := fun z : V × List Key => rowPy z.2) (R := fun u z => RelV z.1 u) hl.isList e0 er hal hk (by rw [← hlen, ← rv.length]; exact hz) (fun b _ => by
    have : (rowPy b.2).depth = 1 := by show PyData.depth (.tuple (b.2.map keyPy)) = 1; rw [PyData.depth, row_depth]
    rw [this]; omega) fun out ho eo => ?_
  have hle : ∀ x ∈ zs, ∀ y ∈ zs, W.dataLe false (fun z : V × List Key => rowPy z.2) x y = leR x.2 y.2 := fun x hx y hy => by
    show (!W.dataLt (rowPy y.2) (rowPy x.2)) = _
    have : W.dataLt (rowPy y.2) (rowPy x.2) = W.rowLt (y.2.map keyPy) (x.2.map keyPy) := W.dataLt_tuple _ _
    rw [this, row_lt ((hsh x hx).trans (hsh y hy).symm), Bool.not_not]
  obtain ⟨ys, hys⟩ : ∃ ys, ys = zs.mergeSort (W.dataLe false fun z : V × List Key => rowPy z.2) := ⟨_, rfl⟩
  have hperm : ys.Perm zs := by rw [hys]; exact List.mergeSort_perm _ _
  rw [← hys] at eo
  obtain ⟨c, hc⟩ := PyProof.Rows.sortedAll_at s.heap its out.toArray
  refine ⟨.ref (s.heap.objs.size + 1), upd H (s.heap.objs.size + 1) (.lst (ys.map (·.1))), I.laid (t' := s.toks) (fun b o e => PyProof.Rows.sortedAll_old e) (Nat.le_succ _) ⟨?_, out, c, vals_each (fun _ _ h => h) eo, hc⟩, rfl, q _ ys hperm ?_ (I.hok.fresh (Nat.le_succ _))⟩
  · rw [List.length_map, hperm.length_eq, ← hlen, ← rv.length]; exact hz
  · rw [List.pairwise_map]
    rw [hys, W.sort_congr (s := fun x y : V × List Key => leR x.2 y.2) hle]
    exact W.sort_pairwise (le := fun x y : V × List Key => leR x.2 y.2) ⟨fun _ _ _ h g => leR_trans h g, fun _ _ => leR_total _ _⟩ zs
def sameShape (sh : List Bool) (ks : List (List Key)) : Bool := ks.all fun k => decide (shapeR k = sh)
def sortKs : List (List Key) → Option D
  | [] => some (.lst [])
  | k :: r => if sameShape (shapeR k) r = true ∧ k ≠ [] then some (.lst ((sortR (k :: r)).map rowD)) else none
def sortT (ds : List D) : Option D := (rowsOf ds).bind sortKs
def bSortA : List D → Option D
  | [.lst ds] => match bSorted [.lst ds] with
    | some d => some d
    | none => sortT ds
  | _ => none
theorem rep_rows {K : PySem.W.Frag} {G : Gx K} {ua : Option Addr} {B H : Hp} (sub : Same B H) : ∀ {ks : List (List Key)} {vs : List V}, Reps G ua (ks.map rowD) vs B → ∃ zs : List (V × List Key), zs.map (·.1) = vs ∧ zs.map (·.2) = ks ∧ ∀ z ∈ zs, Rep G ua (rowD z.2) z.1 B ∧ Dp K H z.1 (rowPy z.2)
  | [], vs, r => by
    have r : Reps G ua [] vs B := r
    exact ⟨[], by rw [r.of_nil]; rfl, rfl, fun z hz => by cases hz⟩
  | k :: ks, vs, r => by
    obtain ⟨v, t, rfl, r1, r2⟩ := (show Reps G ua (rowD k :: ks.map rowD) vs B from r).of_cons
    obtain ⟨zs, h1, h2, h3⟩ := rep_rows sub r2
    refine ⟨(v, k) :: zs, by rw [List.map_cons, h1], by rw [List.map_cons, h2], fun z hz => ?_⟩
    rcases List.mem_cons.mp hz with rfl | hz
    · exact ⟨r1, rep_dp sub _ _ _ (row_py k) r1⟩
    · exact h3 z hz
theorem reps_of {K : PySem.W.Frag} {G : Gx K} {ua : Option Addr} {B : Hp} : ∀ {zs : List (V × List Key)}, (∀ z ∈ zs, Rep G ua (rowD z.2) z.1 B) → Reps G ua ((zs.map (·.2)).map rowD) (zs.map (·.1)) B
  | [], _ => .nil
  | z :: zs, h => .cons (h z List.mem_cons_self) (reps_of fun y hy => h y (List.mem_cons_of_mem _ hy))
theorem ok_sortA {X : Cx} {G : Gx X.K} (hu : X.A.units + 64 < cLine) : BiOk G (.builtin "sorted") bSortA := by
  intro ua u B H ds d vs e rs w
  unfold bSortA at e
  split at e
  · rename_i ds
    split at e
    · rename_i d' hd
      cases e
      exact ok_sorted ua u B H _ _ vs hd rs w
    · rename_i hno
      unfold sortT at e
      cases q : rowsOf ds with
      | none => rw [q] at e; cases e
      | some ks =>
        rw [q] at e
        have e : sortKs ks = some d := e
        obtain ⟨v, t, rfl, r1, r2⟩ := rs.of_cons
        rw [r2.of_nil]
        obtain ⟨a, ys, rfl, h, r3⟩ := r1.lst
        rw [rowsOf_eq q] at r3
        cases ks with
        | nil =>
          rw [rowsOf_eq q] at hno
          cases (show (some (D.lst []) : Option D) = none from hno)
        | cons k r =>
          have e : (if sameShape (shapeR k) r = true ∧ k ≠ [] then some (D.lst ((sortR (k :: r)).map rowD)) else none) = some d := e
          split at e
          · rename_i hh
            cases e
            obtain ⟨zs, h1, h2, h3⟩ := rep_rows w.sub r3
            refine ⟨_, cr_sortedD hu, a, zs, shapeR k, rfl, by rw [h1]; exact .of (w.sub _ _ h), fun z hz => (h3 z hz).2, fun z hz => ?_, fun z => hh.2 (List.map_eq_nil_iff.mp z), fun p zs' hp hs hn => ?_⟩
            · have : z.2 ∈ k :: r := by rw [← h2]; exact List.mem_map.mpr ⟨z, hz, rfl⟩
              rcases List.mem_cons.mp this with e | m
              · rw [e]
              · exact of_decide_eq_true (List.all_eq_true.mp hh.1 _ m)
            · have : zs'.map (·.2) = sortR (k :: r) := sortR_uniq (by rw [← h2]; exact hp.map _) hs
              rw [← this]
              exact .lst w hn (reps_of fun z hz => (h3 z (hp.mem_iff.mp hz)).1)
          · cases e
  · cases e
theorem sortA_s {xs : List Str} (h : xs.length < 64) : bSortA [.lst (xs.map .str)] = some (.lst ((sortS xs).map .str)) := by
  have : bSorted [.lst (xs.map .str)] = some (.lst ((sortS xs).map .str)) := by
    show (strsOf (xs.map D.str)).bind _ = _
    have e : ∀ ys : List Str, strsOf (ys.map D.str) = some ys := fun ys => by
      induction ys with
      | nil => rfl
      | cons y r ih => show (strsOf (r.map D.str)).map _ = _; rw [ih]; rfl
    rw [e]
    exact if_pos h
  show (match bSorted [.lst (xs.map .str)] with | some d => some d | none => sortT (xs.map .str)) = _
  rw [this]
theorem sortA_r {ks : List (List Key)} {sh : List Bool} (h : ∀ k ∈ ks, shapeR k = sh) (hn : sh ≠ []) : bSortA [.lst (ks.map rowD)] = some (.lst ((sortR ks).map rowD)) := by
  cases ks with
  | nil => rfl
  | cons k r =>
    have e : bSorted [.lst ((k :: r).map rowD)] = none := rfl
    show (match bSorted [.lst ((k :: r).map rowD)] with | some d => some d | none => sortT ((k :: r).map rowD)) = _
    rw [e]
    show (rowsOf ((k :: r).map rowD)).bind _ = _
    rw [rowsOf_map]
    show (if _ then _ else _) = _
    rw [if_pos]
    refine ⟨List.all_eq_true.mpr fun z hz => decide_eq_true ((h z (List.mem_cons_of_mem _ hz)).trans (h k List.mem_cons_self).symm), fun z => hn ?_⟩
    rw [← h k List.mem_cons_self, z]; rfl
end Dv
namespace Dv
open PySem PySem.Spec PyProof.Rows L2
def txtOf (e : Int × Value) : Str := match e.2 with
  | .str x _ => x
  | _ => Str.ofString ""
def TxtE (w : World) (e : Int × Value) : Prop := ∃ x tk, e.2 = Value.str x tk ∧ e.1 = hashStr w x
/-- at a: the set of the texts ks; its table can be walked -/
def TxtSet (w : World) (h : Heap) (a : Addr) (ks : List Str) : Prop := ∃ o es ep t, h.get? a = some o ∧ o.ExactSet ∧ o.data = .set es ep t ∧ (∀ e ∈ es.toList, TxtE w e) ∧ (es.toList.map txtOf).Perm ks ∧ ks.Nodup ∧
  es.size < scanBound ∧ t.fits es.size = true ∧ Ris t.place.toList ∧ (w.params.followText "set-order" = true ∨ t.led = true)
section
variable {P : Program} {w : World} {A : Around} {E : Value → Shared → Prop} {s : Shared} {h h' : Heap} {a : Addr} {ks : List Str}
theorem TxtSet.at (R : TxtSet w h a ks) (k : ∀ o, h.get? a = some o → h'.get? a = some o) : TxtSet w h' a ks := by
  obtain ⟨o, es, ep, t, ho, r⟩ := R
  exact ⟨o, es, ep, t, k o ho, r⟩
end
end Dv
namespace Dv
open PySem PySem.Spec PyProof.Rows L2
/-- without repeats: each at its last place -/
def nubS : List Str → List Str
  | [] => []
  | x :: r => if x ∈ nubS r then nubS r else x :: nubS r
theorem mem_nubS {z : Str} : ∀ {l : List Str}, z ∈ nubS l ↔ z ∈ l
  | [] => Iff.rfl
  | x :: r => by
    unfold nubS
    split
    · rename_i h
      rw [List.mem_cons, mem_nubS (l := r)]
      exact ⟨.inr, fun q => q.elim (fun e => by rw [e]; exact mem_nubS.mp h) id⟩
    · rw [List.mem_cons, List.mem_cons, mem_nubS (l := r)]
theorem nodup_nubS : ∀ l : List Str, (nubS l).Nodup
  | [] => List.nodup_nil
  | x :: r => by
    unfold nubS
    split
    · exact nodup_nubS r
    · exact List.nodup_cons.mpr ⟨‹_›, nodup_nubS r⟩
theorem len_nubS : ∀ l : List Str, (nubS l).length ≤ l.length
  | [] => Nat.le_refl _
  | x :: r => by
    have := len_nubS r
    unfold nubS
    split <;> (try simp only [List.length_cons]) <;> omega
end Dv
namespace Dv
open PySem PySem.Spec PyProof.Rows L2
section
variable {X : Cx} {G : Gx X.K} {W : WX} {a b : Expr} {ma mb : M} {pos p cpos : Pos}
def sNone : MS := fun _ _ => none
theorem ds_never {st : Stmt} : PS X st (tSt G W sNone) := ⟨fun pins s σ H D I h => by
  obtain ⟨ua, u, B, env, fl, u', B0, H0, hg, hO, hE, hW, hm, q⟩ := h
  cases hm⟩
end
section
variable {X : Cx} {G : Gx X.K} {W : WX} {a b : Expr} {ma mb : M} {pos p cpos : Pos}
def BoolU (f : D → D → U → Option (D × U)) : Prop := ∀ x y u d u', f x y u = some (d, u') → ∃ k, d = .bl k
theorem blO_bool {r : Option (D × U)} {n : Bool} {d : D} {u : U} (h : blO r n = some (d, u)) : ∃ k, d = .bl k := by
  obtain ⟨k, _, rfl⟩ := blO_some h
  exact ⟨_, rfl⟩
theorem lft_bool {f : D → D → Option D} (bf : BoolF f) {x y d : D} {u u' : U} (h : lft (f x y) u = some (d, u')) : ∃ k, d = .bl k := bf _ _ _ (lft_some h).1
theorem bu_in {c : Str} {F : List D → U → Option (D × U)} {f : D → D → Option D} {n : Bool} (bf : BoolF f) : BoolU (inO c F f n) := fun x y u d u' h => by
  unfold inO at h
  split at h
  · split at h
    · exact blO_bool h
    · cases h
  · exact lft_bool bf h
theorem dt_cmpU {op : CmpOp} {f : D → D → U → Option (D × U)} (hf : BinUOk G (compareOp op) f) (bf : BoolU f) (ha : PE X a (tEv G ma)) (hb : PE X b (tEv G mb)) (hm : behindInMarks op b = false := by rfl) : PT X (.Compare a [op] [b] pos) (tTst G (mTru (mBinU f ma mb))) := by
  refine (pt_cmpR (opU_of hf) ha hb hm).imp fun σ H Q h => ?_
  obtain ⟨ua, u, B, env, d, u', hE, hW, hm, q⟩ := h
  obtain ⟨x, u1, h1, h2⟩ := bnd_some hm
  obtain ⟨l2, rfl⟩ := lft_some h2
  obtain ⟨k, rfl⟩ : ∃ k, x = .bl k := by
    obtain ⟨x1, u3, h3, h4⟩ := bnd_some h1
    obtain ⟨x2, u4, h4, h5⟩ := bnd_some h4
    exact bf _ _ _ _ _ h5
  unfold truD at l2; cases l2
  refine binU_read ⟨ua, u, B, env, _, u', hE, hW, h1, fun v H1 ⟨B1, g1, w1, r1⟩ => ?_⟩
  cases r1.bl
  exact ⟨_, rfl, q _ ⟨B1, g1, w1⟩⟩
end
section
variable {X : Cx} {G : Gx X.K} {W : WX} {pos p : Pos}
/-- C(), by the defaults -/
theorem dv_make0 {x : Str} {k : Nat} {F : List D → U → Option (D × U)} (D0 : MakeOk X.prog X.w X.mg X.base G x k 0 F) (hr : Room (k + 1) X.A) (hg : Gl X x) (hdb : (x == ("__debug__" : Str)) = false := by decide) :
    PE X (.Call (.Name x p) [] [] pos) (tEv G (mCall 0 F mNil)) := by
  obtain ⟨C, f, fd, ps, sp, dds, dvs, hM, hf, hm, hb, hd, hsp⟩ := D0
  refine (pe_make0 hM hf hr hg hm hb hd pass0 hdb).imp fun σ H Q h => ?_
  obtain ⟨ua, u, B, env, d, u', hE, hW, hm, q⟩ := h
  obtain ⟨ds, u1, h1, h2⟩ := bnd_some hm
  cases h1
  have h2 : F [] u = some (d, u') := h2
  exact fun y dx hy hdx hne => hsp ua u u' B H [] [] d rfl h2 .nil hW y dx hy hdx hne Q fun H' a => q _ _ a
end
end Dv
namespace PySem
open Builtin
theorem enumT_new (t : Addr) (o : Obj) (items : Array Value) (n : Nat) :
    Meets (Builtin.«enumerate.__new__» ⟨[.type "enumerate", .ref t], []⟩) (fun _ R s => (s.heap.get? t = some o ∧ o.cls = .type "tuple" ∧ o.data = .seq items n) ∧
      R (.ok (.ret (.ref (s.heap.objs.size + 1)))) { s with heap := (s.heap.push { cls := .type "tuple_iterator", data := .fields #[.ref t, .int 0 0] }).push { cls := .type "enumerate", data := .fields #[.none, .bool false, .ref s.heap.objs.size, rawInt 0, .none, .none] } }) :=
  .of_wp fun prog w A R s h => by
    obtain ⟨hh, g, d, tk, os⟩ := s
    obtain ⟨⟨hl, hc, hd⟩, q⟩ := h
    have sb := sub_enumerate
    have ht : Heap.IsTuple (Shared.heap ⟨hh, g, d, tk, os⟩) t items := ⟨_, hl, hc, n, hd⟩
    obtain ⟨oc, od, odt, osl⟩ := o
    dsimp only at hc hd
    subst hc
    subst hd
    have e : (hh.push { cls := .type "tuple_iterator", data := .fields #[.ref t, .int 0 0] }).objs.size = hh.objs.size + 1 := Heap.size_push ..
    wp_walk using wpAny_loadPart' hl
    refine wpAny_stack_any fun st => wpAny_pure ?_
    have fin : R (.ok (.ret (.ref (hh.push { cls := .type "tuple_iterator", data := .fields #[.ref t, .int 0 0] }).objs.size))) ⟨(hh.push { cls := .type "tuple_iterator", data := .fields #[.ref t, .int 0 0] }).push { cls := .type "enumerate", data := .fields #[.none, .bool false, .ref hh.objs.size, rawInt 0, .none, .none] }, g, d, tk, os⟩ := by rw [e]; exact q
    split
    · rename_i c _ _ _ _ _
      cases (c == Value.type "enumerate") <;> (wp_walk using wpAny_loadPart' hl, wpAny_pyIter_tuple ht; exact ⟨_, rfl, fin⟩)
    · wp_walk using wpAny_loadPart' hl, wpAny_pyIter_tuple ht
      exact ⟨_, rfl, fin⟩
end PySem
namespace PySem
open Builtin
section
variable {prog : Program} {w : World} {A : Around} {E : Value → Shared → Prop} {s : Shared}
theorem call_enumT {t : Addr} {items : Array Value} {Q : Value → Shared → Prop} (ht : s.heap.IsTuple t items)
    (h : ∀ h', IsEnum h' (s.heap.objs.size + 1) s.heap.objs.size 0 .none → h'.IsTupleIter s.heap.objs.size t 0 → (∀ b o, s.heap.get? b = some o → h'.get? b = some o) → Q (.ref (s.heap.objs.size + 1)) { s with heap := h' }) :
    wpAny (model prog w) A (call (.type "enumerate") [.ref t]) Q E s := by
  obtain ⟨o, hl, hc, n, hd⟩ := ht
  refine callType_new F.called_enumerate (by decide) (F.typeCall_enumerate_1 _) (F.newCall_enumerate_1 _) (fun obj => F.args_object_init_2 obj _) F.entry_enumerate_new (enumT_new t o items n) ⟨⟨hl, hc, hd⟩, ?_⟩
  have e : (s.heap.push { cls := .type "tuple_iterator", data := .fields #[.ref t, .int 0 0] }).objs.size = s.heap.objs.size + 1 := Heap.size_push ..
  have g1 : IsEnum ((s.heap.push { cls := .type "tuple_iterator", data := .fields #[.ref t, .int 0 0] }).push { cls := .type "enumerate", data := .fields #[.none, .bool false, .ref s.heap.objs.size, rawInt 0, .none, .none] }) (s.heap.objs.size + 1) s.heap.objs.size 0 .none := by
    have := Heap.get?_push_size (s.heap.push { cls := .type "tuple_iterator", data := .fields #[.ref t, .int 0 0] }) (o := { cls := .type "enumerate", data := .fields #[.none, .bool false, .ref s.heap.objs.size, rawInt 0, .none, .none] }) rfl
    rw [e] at this
    exact this
  exact ⟨⟨_, g1, rfl⟩, h _ g1 ⟨_, Heap.get?_push_of_some _ (Heap.get?_push_size _ rfl), rfl, rfl⟩ fun b o x => Heap.get?_push_of_some _ (Heap.get?_push_of_some _ x)⟩
end
end PySem
namespace Dv
open PySem PySem.Spec PyProof.Rows L2
/-- the tuple at a, each item in a new pair -/
def IteT (a : Addr) : It :=
  ⟨fun i H => ∃ (xs : List V) (x : V), TupB H a xs ∧ xs[i]? = some x, fun i H v H' => ∃ T x, v = .ref T ∧ H T = none ∧ H' = upd H T (.tup [.int (i : Nat), x]) ∧ ∀ xs, TupB H a xs → xs[i]? = some x, fun i H => ∃ xs : List V, TupB H a xs ∧ xs.length ≤ i⟩
theorem TupB.inj {H : Hp} {a : Addr} {xs ys : List V} (h : TupB H a xs) (h' : TupB H a ys) : xs = ys := by
  obtain ⟨o, _, e⟩ := h
  obtain ⟨o', _, e'⟩ := h'
  rw [e] at e'
  cases e'
  rfl
theorem TupB.some_ {H : Hp} {a : Addr} {xs : List V} (h : TupB H a xs) : ∃ u, H a = some u := ⟨_, h.choose_spec.2⟩
theorem Draws.ended {prog : Program} {w : World} {A : Around} (hh : A.handled = none) (it t : Addr) (items : Array Value) (i : Nat) (hx : items[i]? = none) :
    Draws prog w A it [it, t] i (fun _ _ => False) (fun j h => j = i ∧ h.IsTupleIter it t i ∧ h.IsTuple t items) where
  live := fun _ _ st => let ⟨o, ho, _⟩ := st.2.1; ⟨o, ho⟩
  frame := fun _ _ _ st hk => ⟨st.1, st.2.1.at fun o e => hk it (by simp) o e, st.2.2.at fun o e => hk t (by simp) o e⟩
  item := fun j s Q E hj st hQ => absurd hj (by rw [st.1]; exact Nat.lt_irrefl _)
  done := fun s Q E st hE => wpAny_nextOf_tuple_end hh st.2.1 st.2.2 hx hE
theorem turn_enumT {P : Program} {w : World} {K : PySem.W.Frag} {elts : List Expr} {kk : Nat} {tpos : Pos} (a e it : Addr) :
    Turn P w K (.Tuple elts kk tpos) (IteT a) [e, it] e (fun i h => (∃ old, IsEnum h e it ((i : Nat) : Int) old) ∧ h.IsTupleIter it a i ∧ e ≠ it) where
  mem := List.mem_cons_self
  obj := fun i h ⟨⟨old, he⟩, ⟨o, ho, hc, hd⟩, _⟩ b hb => by
    rcases (show b = e ∨ b = it by simpa using hb) with rfl | rfl
    · exact ⟨_, he, fun v q => nomatch q⟩
    · exact ⟨o, ho, fun v q => by rw [hd] at q; cases q⟩
  keep := fun i h h' ⟨⟨old, he⟩, hi, hne⟩ k => ⟨⟨old, k e (by simp) _ he⟩, hi.at fun o q => k it (by simp) o q, hne⟩
  item := by
    intro X hP hw hK hc i pins s σ H E I hf ⟨⟨old, he⟩, hit, hne⟩ ⟨xs, x, hq, hx⟩
    subst hP hw hK
    obtain ⟨its, rv, p, hz⟩ := I.tuple (hq.sq (K := X.K))
    obtain ⟨u, hu, ru⟩ := rv.get hx
    obtain ⟨ob, hob⟩ := hq.some_
    have hel : e < s.heap.objs.size := Heap.lt_size he
    have hil : it < s.heap.objs.size := by obtain ⟨_, q, _⟩ := hit; exact Heap.lt_size q
    have nof : ∀ b ∈ [e, it], a ≠ b := fun b hb z => by
      have q := (hf b hb).1
      rw [← z, hob] at q
      cases q
    have hai : a ≠ it := nof it (by simp)
    have hae : e ≠ a := fun z => nof e (by simp) z.symm
    have hlt : i < its.toArray.size := by
      have := (List.getElem?_eq_some_iff.mp hu).1
      rw [List.size_toArray]; exact this
    refine wpAny_pyNext_enum_itemD (Draws.tuple (A := X.A.in1) (I.ok.hd hc) it a hai its.toArray) he ⟨hit, p⟩ hlt hne (by simp [hne, hae]) fun v h' tk hv ho hst hT hsz hk => ?_
    have ev : v = u := by
      have h1 : its.toArray[i]? = some v := hv
      rw [List.getElem?_toArray, hu] at h1
      exact (Option.some.inj h1).symm
    subst ev
    refine ⟨_, rfl, wpAny_letOwnedTupleGo_enum (s := { s with heap := h', toks := tk + 1 }) ho fun h2 he2 sb => ?_⟩
    have hT2 : h2.get? s.heap.objs.size = some { cls := .type "tuple", data := .seq #[.int i tk, v] } := (sb.2 _ (Nat.ne_of_gt hel)).trans hT
    have new : ObjOk X.prog X.w (upd H s.heap.objs.size (.tup [.int (i : Nat), x])) h2 s.heap.objs.size (.tup [.int (i : Nat), x]) :=
      ⟨by show 2 ≤ sizeLine; decide, [.int i tk, v], .cons ⟨_, rfl⟩ (.cons ru .nil), ⟨_, hT2, rfl, _, rfl⟩⟩
    have J : Inv X pins σ (upd H s.heap.objs.size (.tup [.int (i : Nat), x])) { s with heap := h2, toks := tk + 1 } :=
      I.turnedNew (ch := [e, it]) (fun b ob2 hb q => (sb.2 b (fun z => hb (by simp [z]))).trans (hk b ob2 (fun z => hb (by simp [z])) (fun z => hb (by simp [z])) q)) hf (Nat.le_refl _) new
    refine ⟨.ref s.heap.objs.size, _, J, rfl, ⟨_, x, rfl, I.hok.fresh (Nat.le_refl _), rfl, fun ys hy => by rw [hy.inj hq]; exact hx⟩, ⟨⟨v, ?_⟩, hst.1.at fun o q => (sb.2 it (Ne.symm hne)).trans q, hne⟩, fun b hb => ?_⟩
    · rw [show ((i + 1 : Nat) : Int) = (i : Int) + 1 by omega]; exact he2
    · have hb' : b < s.heap.objs.size := by
        rcases (show b = e ∨ b = it by simpa using hb) with z | z <;> rw [z] <;> assumption
      rw [upd_ne (Nat.ne_of_lt hb')]
      exact (hf b hb).1
  done := by
    intro X hP hw hK hc i pins s σ H E I hf ⟨⟨old, he⟩, hit, hne⟩ ⟨xs, hq, hx⟩
    subst hP hw hK
    obtain ⟨its, rv, p, hz⟩ := I.tuple (hq.sq (K := X.K))
    obtain ⟨ob, hob⟩ := hq.some_
    obtain ⟨f0, f1, f2, f3, f4, f5⟩ := hf it (by simp)
    have hai : a ≠ it := fun z => by rw [← z, hob] at f0; cases f0
    have hn : its.toArray[i]? = none := by
      rw [List.getElem?_toArray, List.getElem?_eq_none_iff, ← rv.length]; exact hx
    exact wpAny_pyNext_enum_endD (Draws.ended (A := X.A.in1) (I.ok.hd hc) it a its.toArray i hn) he ⟨rfl, hit, p⟩ fun h' eb => ⟨rfl, I.turned (t' := s.toks) (fun b o hb q => eb b o hb q) f0 f1 f3 f4 f5⟩
  self := fun A i s Q E ⟨⟨_, he⟩, _⟩ h => wpAny_pyIter_enum he h
section
variable {X : Cx} {G : Gx X.K} {ua : Option Addr} {B H : Hp} {ds : List D} {vs : List V}
def iEnumT (ta : TA) : TI := fun σ H R => ta σ H fun vs H1 => ∃ a xs, vs = [.ref a] ∧ TupB H1 a xs ∧ R (IteT a) H1
theorem pi_enumT {e : Expr} {ta : TA} {p pos tpos : Pos} {elts : List Expr} {kk : Nat} (hg : Gl X "enumerate") (hm : X.mg "enumerate" = none) (ha : PA X [e] ta) (hs : starEach [e] X.env = [(false, eval e X.env)] := by rfl) :
    PI X (.Tuple elts kk tpos) (.Call (.Name "enumerate" p) [e] [] pos) (iEnumT ta) := by
  refine ⟨fun pins s σ H R I h => Call_ (ld_blt I hg hm boot_enumerate (PyProof.Rows.callWith_type1 (thn (ha.run pos pins s σ H _ I h) fun us s1 ⟨vs, H1, I1, r1, a, xs, ex, hq, q⟩ => ?_) hs rfl))⟩
  subst ex
  obtain ⟨u, rfl, ru⟩ := vals1 r1
  cases ru
  obtain ⟨its, rv, p', hz⟩ := I1.tuple (hq.sq (K := X.K))
  refine call_enumT p' fun h' he hit hk => wpAny_pyIter_enum he ?_
  refine ⟨s1.heap.objs.size + 1, [s1.heap.objs.size + 1, s1.heap.objs.size], _, _, H1, rfl, I1.kept (t' := s1.toks) hk, turn_enumT a (s1.heap.objs.size + 1) s1.heap.objs.size, ⟨⟨.none, he⟩, hit, Nat.succ_ne_self _⟩, fun b hb => ?_, q⟩
  have hle : s1.heap.objs.size ≤ b := by
    rcases (show b = s1.heap.objs.size + 1 ∨ b = s1.heap.objs.size by simpa using hb) with z | z
    · rw [z]; exact Nat.le_succ _
    · rw [z]; exact Nat.le_refl _
  exact I1.fpOk hle (I1.hok.fresh hle)
theorem wk_enumT {a : Addr} (h : TupB B a vs) (r : Reps G ua ds vs B) : Wk G ua (IteT a) B (enumD 0 ds) := fun i B' H' u s w => by
  have hq : TupB H' a vs := (h.mono s).mono w.sub
  rw [enumD_get]
  refine ⟨fun d hd => ?_, fun hn => ⟨vs, hq, List.getElem?_eq_none_iff.mp (r.none (Option.map_eq_none_iff.mp hn))⟩⟩
  obtain ⟨d', hd', rfl⟩ := map_some hd
  obtain ⟨v, hv, rv⟩ := r.get hd'
  refine ⟨⟨vs, v, hq, hv⟩, fun x H2 y => ?_⟩
  obtain ⟨T, x, rfl, hT, rfl, y⟩ := y
  have := y vs hq
  rw [hv] at this; cases this
  rw [Nat.zero_add]
  exact .pr w hT (.cons rep_int (.cons (rv.mono _ _ s) .nil))
/-- enumerate of a list or a tuple -/
def mEnumA (m : M) : MI := fun env u => bnd (m env u) fun d u1 => match d with
  | .lst ds => some (enumD 0 ds, u1)
  | .tup ds => some (enumD 0 ds, u1)
  | _ => none
theorem di_enumA {a : Expr} {m : M} {p pos tpos : Pos} {elts : List Expr} {kk : Nat} (hg : Gl X "enumerate") (hm : X.mg "enumerate" = none) (ha : PE X a (tEv G m)) (hs : starEach [a] X.env = [(false, eval a X.env)] := by rfl) :
    PI X (.Tuple elts kk tpos) (.Call (.Name "enumerate" p) [a] [] pos) (tIt G (mEnumA m)) := by
  refine PI.by fun σ H R h => ?_
  obtain ⟨ua, u, B, env, ds, u', hE, hW, hm2, q⟩ := h
  obtain ⟨d, u1, h1, h2⟩ := bnd_some hm2
  split at h2
  · cases h2
    refine ⟨_, pi_enum hg hm (pa_cons ha pa_nil hs) hs, ua, u, B, env, _, _, hE, hW, h1, fun v H1 ⟨B1, g1, w1, r1⟩ => ?_⟩
    obtain ⟨a, vs, rfl, h, rs⟩ := r1.lst
    exact ⟨a, vs, rfl, .of (w1.sub _ _ h), q _ _ _ g1 w1 (wk_enum h rs)⟩
  · cases h2
    refine ⟨_, pi_enumT hg hm (pa_cons ha pa_nil hs) hs, ua, u, B, env, _, _, hE, hW, h1, fun v H1 ⟨B1, g1, w1, r1⟩ => ?_⟩
    obtain ⟨a, vs, rfl, h, rs⟩ := r1.tup
    exact ⟨a, vs, rfl, h.mono w1.sub, q _ _ _ g1 w1 (wk_enumT h rs)⟩
  · cases h2
end
end Dv
namespace Dv
open PySem PySem.Spec PyProof.Rows L2
/-- what a def gives -/
inductive R where
  | ok (d : D) | er (c : Str) (ns : List Str) (xs : List D)
abbrev MX := List Sl → U → Option (R × U)
def AftE {K : PySem.W.Frag} (G : Gx K) (ua : Option Addr) (B H : Hp) (u' : U) (c : Str) (ns : List Str) (xs : List D) : Value → Option Addr → Hp → Prop := fun cls d H' => ∃ B', Grow ua B H B' H' ∧ Wd ua u' B' H' ∧ ErR G ua c ns xs cls d B'
theorem AftE.up {K : PySem.W.Frag} {G : Gx K} {ua : Option Addr} {B H B1 H1 H' : Hp} {u' : U} {c : Str} {ns : List Str} {xs : List D} {cls : Value} {d : Option Addr} (g : Grow ua B H B1 H1) (a : AftE G ua B1 H1 u' c ns xs cls d H') : AftE G ua B H u' c ns xs cls d H' := by
  obtain ⟨B', g', w, r⟩ := a
  exact ⟨B', g.trans g', w, r⟩
def OutR {K : PySem.W.Frag} (G : Gx K) (ua : Option Addr) (B H : Hp) (u' : U) (Q : VK) (E : XK) : R → Prop
  | .ok d => ∀ v H', Aft G ua B H u' d v H' → Q v H'
  | .er c ns xs => ∀ cls d H', AftE G ua B H u' c ns xs cls d H' → E cls d H'
theorem OutR.up {K : PySem.W.Frag} {G : Gx K} {ua : Option Addr} {B H B1 H1 : Hp} {u' : U} {Q : VK} {E : XK} {r : R} (g : Grow ua B H B1 H1) (a : OutR G ua B H u' Q E r) : OutR G ua B1 H1 u' Q E r := by
  cases r with
  | ok d => exact fun v H' z => a v H' (.up g z)
  | er c ns xs => exact fun cls d H' z => a cls d H' (.up g z)
theorem OutR.imp {K : PySem.W.Frag} {G : Gx K} {ua : Option Addr} {B H : Hp} {u' : U} {Q Q' : VK} {E E' : XK} {r : R} (a : OutR G ua B H u' Q E r) (q : ∀ v H', Q v H' → Q' v H') (e : ∀ c d H', E c d H' → E' c d H') : OutR G ua B H u' Q' E' r := by
  cases r with
  | ok d => exact fun v H' z => q _ _ (a v H' z)
  | er c ns xs => exact fun cls d H' z => e _ _ _ (a cls d H' z)
def spX {K : PySem.W.Frag} (G : Gx K) (F : List D → U → Option (R × U)) (n : Nat) : Sp := fun vs H Q E => ∃ ua u B ds r u', Reps G ua ds vs B ∧ ds.length = n ∧ Wd ua u B H ∧ F ds u = some (r, u') ∧ OutR G ua B H u' Q E r
def DefOkX (P : Program) (w : World) {K : PySem.W.Frag} (mg : Str → Option Value) (base : Heap) (G : Gx K) (x : Str) (k n : Nat) (F : List D → U → Option (R × U)) : Prop :=
  ∃ f fd ps, FnOk P w K mg base (L2.CX P w) k f fd ps (spX G F n) ∧ mg x = some (.ref f) ∧ PySem.W.keepIn K (.ref f) = true ∧ Binds K fd ps []
theorem DefOkX.mono {P : Program} {w : World} {K : PySem.W.Frag} {mg : Str → Option Value} {base : Heap} {G : Gx K} {x : Str} {j k n : Nat} {F : List D → U → Option (R × U)} (h : DefOkX P w mg base G x j n F) (l : j ≤ k) : DefOkX P w mg base G x k n F := by
  obtain ⟨f, fd, ps, h1, h2⟩ := h
  exact ⟨f, fd, ps, h1.mono l, h2⟩
/-- where it doesn't raise -/
def okF (F : List D → U → Option (R × U)) : List D → U → Option (D × U) := fun ds u => match F ds u with
  | some (.ok d, u') => some (d, u')
  | _ => none
theorem okF_some {F : List D → U → Option (R × U)} {ds : List D} {u u' : U} {d : D} (h : okF F ds u = some (d, u')) : F ds u = some (.ok d, u') := by
  unfold okF at h
  split at h
  · cases h; assumption
  · cases h
theorem fn_calm {P : Program} {w : World} {K : PySem.W.Frag} {mg : Str → Option Value} {base : Heap} {G : Gx K} {k n : Nat} {f : Addr} {fd : FuncData} {ps : List Str} {F : List D → U → Option (R × U)} (h : FnOk P w K mg base (L2.CX P w) k f fd ps (spX G F n)) :
    FnOk P w K mg base CX0 k f fd ps (spF G (okF F) n) := by
  have key : ∀ {vs H Q E}, spF G (okF F) n vs H Q E → spX G F n vs H Q (fun _ _ _ => False) := fun ⟨ua, u, B, ds, d, u', r, l, w, e, q⟩ => ⟨ua, u, B, ds, .ok d, u', r, l, w, okF_some e, q⟩
  refine ⟨fun vs H Q E z => h.len _ _ _ _ (key z), fun A outer s H args us vs Q E hr he hb hv z => codeAny_mono (h.run A outer s H args us vs Q _ hr he hb hv (key z)) fun r s' c => ?_⟩
  cases r with
  | ok fl => cases fl <;> exact c
  | error e =>
    obtain ⟨_, _, _, _, _, _, _, _, _, _, _, _, z⟩ := c
    exact z.elim
theorem DefOkX.calm {P : Program} {w : World} {K : PySem.W.Frag} {mg : Str → Option Value} {base : Heap} {G : Gx K} {x : Str} {k n : Nat} {F : List D → U → Option (R × U)} (h : DefOkX P w mg base G x k n F) : DefOk P w mg base G x k n (okF F) := by
  obtain ⟨f, fd, ps, h1, h2⟩ := h
  exact ⟨f, fd, ps, fn_calm h1, h2⟩
def runBX (m : MS) (L : Nat) (ds : List D) (u : U) : Option (R × U) := match m (ds.map Sl.pub ++ List.replicate (L - ds.length) Sl.no) u with
  | some (.rt d, u') => some (.ok d, u')
  | some (.nx _, u') => some (.ok .non, u')
  | some (.er _ c ns xs, u') => some (.er c ns xs, u')
  | none => none
abbrev WofE (E : XK) : WX := fun cls d _ H => E cls d H
theorem own_none {K : PySem.W.Frag} {G : Gx K} {ua : Option Addr} {B H0 : Hp} {ds : List D} {vs : List V} {N : List Str} (r : Reps G ua ds vs B) : OwnNew (ds.map Sl.pub ++ List.replicate (N.length - ds.length) Sl.no) (L2.start N vs) H0 := fun i es p z _ => by
  exfalso
  by_cases hi : i < ds.length
  · rw [List.getElem?_append_left (by rw [List.length_map]; exact hi), List.getElem?_map] at z
    obtain ⟨_, _, h2⟩ := map_some z
    cases h2
  · rw [List.getElem?_append_right (by rw [List.length_map]; omega), List.getElem?_replicate] at z
    split at z <;> cases z
theorem def_okX {P : Program} {w : World} {K : PySem.W.Frag} {mg : Str → Option Value} {base : Heap} {G : Gx K} {x qual : Str} {st : Stmt} {f : Addr} {fd : FuncData} {N ps : List Str} {k n : Nat} {m : MS} (F : Fun K x qual st f fd) (S : FnScope N ps (defScope st)) (hn : ps.length = n)
    (hb : ∀ (cdv : Value) (A : Around) (outer : List Env) (s : Shared) (H : Hp) (E : XK), Room k (A.deeper (envOfC qual (defScope st) s.heap.objs.size f cdv)) →
      Takes (cxOf (L2.CX P w) P w K mg base N qual (defScope st) f cdv A outer s H E) (WofE E) →
      PassesOwn (model P w) (cxOf (L2.CX P w) P w K mg base N qual (defScope st) f cdv A outer s H E).A (cxOf (L2.CX P w) P w K mg base N qual (defScope st) f cdv A outer s H E).env (cxOf (L2.CX P w) P w K mg base N qual (defScope st) f cdv A outer s H E).xe →
      PSs (cxOf (L2.CX P w) P w K mg base N qual (defScope st) f cdv A outer s H E) (defBody st) (tSt G (WofE E) m)) :
    FnOk P w K mg base (L2.CX P w) (k + 1) f fd ps (spX G (runBX m N.length) n) := by
  refine F.okX S (fun vs H Q E h => ?_) (fun cdv A outer s H vs Q E hr h => ⟨_, hb cdv A outer s H E hr (takes_of rfl rfl rfl rfl) (passes_of rfl), ?_⟩)
  · obtain ⟨ua, u, B, ds, d, u', r, hl, _⟩ := h
    rw [← r.len, hl, hn]
  · obtain ⟨ua, u, B, ds, r, u', rs, hl, hw, hf, q⟩ := h
    unfold runBX at hf
    split at hf
    · cases hf
      exact ⟨ua, u, B, _, _, _, B, H, .refl, own_none rs, start_ok rs, hw, ‹_›, fun v B' H' g w' r' => q v H' ⟨B', g, w', r'⟩⟩
    · cases hf
      exact ⟨ua, u, B, _, _, _, B, H, .refl, own_none rs, start_ok rs, hw, ‹_›, fun σ' B' H' g o e w' => q _ H' ⟨B', g, w', rep_non⟩⟩
    · cases hf
      exact ⟨ua, u, B, _, _, _, B, H, .refl, own_none rs, start_ok rs, hw, ‹_›, fun σ' B' H' cls d g o e w' r' => q cls d H' ⟨B', g, w', r'⟩⟩
    · cases hf
section
variable {X : Cx} {G : Gx X.K} {W : WX} {e a b : Expr} {es : List Expr} {m ma mb : M} {ms : Ms} {mx : MX} {pos p pc : Pos}
def tEvX (G : Gx X.K) (W : WX) (m : MX) : TE := fun σ H Q => ∃ ua u B env r u', EnvOk G ua env σ B H ∧ Wd ua u B H ∧ m env u = some (r, u') ∧ OutR G ua B H u' Q (fun c d H' => W c d σ H') r
def xCall (n : Nat) (F : List D → U → Option (R × U)) (ms : Ms) : MX := fun env u => bnd (ms env u) fun ds u1 => if ds.length = n then F ds u1 else none
theorem dx_call {x : Str} {k n : Nat} {F : List D → U → Option (R × U)} (D0 : DefOkX X.prog X.w X.mg X.base G x k n F) (tk : Takes X W) (hr : Room k X.A) (hg : Gl X x) (ha : PA X (e :: es) (tEvs G ms))
    (hdb : (x == ("__debug__" : Str)) = false := by decide) (he : starEach (e :: es) X.env = (false, eval e X.env) :: starEach es X.env := by rfl) (hpl : (backTo pos (starEach es X.env)).any (·.1) = false := by rfl) :
    PE X (.Call (.Name x p) (e :: es) [] pos) (tEvX G W (xCall n F ms)) := by
  obtain ⟨f, fd, ps, hf, hm, hk, hb⟩ := D0
  refine (pe_callS hf hr hg hm hk hb (fun σ => passAt tk σ) ha hdb he hpl).imp fun σ H Q h => ?_
  obtain ⟨ua, u, B, env, r, u', hE, hW, hm, q⟩ := h
  obtain ⟨ds, u1, h1, h2⟩ := bnd_some hm
  split at h2
  · exact ⟨ua, u, B, env, ds, u1, hE, hW, h1, fun vs H1 ⟨B1, g1, w1, r1⟩ => ⟨ua, u1, B1, ds, r, u', r1, ‹_›, w1, h2, q.up g1⟩⟩
  · cases h2
def SpcOkX (P : Program) (w : World) {K : PySem.W.Frag} (mg : Str → Option Value) (base : Heap) (G : Gx K) (c name : Str) (k n : Nat) (F : List D → U → Option (R × U)) : Prop :=
  ∃ C f fd ps, G.cls c = some C ∧ PySem.W.findIn K (.ref C) name = some (some (.ref f)) ∧ PySem.W.isFn K (.ref f) = true ∧ PySem.W.fnIn K f = true ∧ FnOk P w K mg base (L2.CX P w) k f fd ps (spX G F n) ∧ Binds K fd ps []
theorem SpcOkX.mono {P : Program} {w : World} {K : PySem.W.Frag} {mg : Str → Option Value} {base : Heap} {G : Gx K} {c name : Str} {j k n : Nat} {F : List D → U → Option (R × U)} (h : SpcOkX P w mg base G c name j n F) (l : j ≤ k) : SpcOkX P w mg base G c name k n F := by
  obtain ⟨C, f, fd, ps, h1, h2, h3, h4, h5, h6⟩ := h
  exact ⟨C, f, fd, ps, h1, h2, h3, h4, h5.mono l, h6⟩
theorem SpcOkX.calm {P : Program} {w : World} {K : PySem.W.Frag} {mg : Str → Option Value} {base : Heap} {G : Gx K} {c name : Str} {k n : Nat} {F : List D → U → Option (R × U)} (h : SpcOkX P w mg base G c name k n F) : SpcOk P w mg base G c name k n (okF F) := by
  obtain ⟨C, f, fd, ps, h1, h2, h3, h4, h5, h6⟩ := h
  exact ⟨C, f, fd, ps, h1, h2, h3, h4, fn_calm h5, h6⟩
def sUpX (m : MX) (k : List Sl → D → U → Option (Fl × U)) : MS := fun env u => match m env u with
  | some (.ok d, u1) => k env d u1
  | some (.er c ns xs, u1) => some (.er env c ns xs, u1)
  | none => none
theorem up_read {Dn : Ends} {σ : L2.St} {H : Hp} {k : List Sl → D → U → Option (Fl × U)} {Q : VK} (h : tSt G W (sUpX mx k) Dn σ H)
    (q : ∀ (ua : Option Addr) (u1 : U) (H0 B0 B1 H1 : Hp) (env : List Sl) (fl : Fl) (u' : U) (d : D) (v : V), Grow ua B0 H0 B1 H1 → OwnNew env σ H0 → EnvOk G ua env σ B1 H1 → Wd ua u1 B1 H1 → Rep G ua d v B1 → k env d u1 = some (fl, u') →
      (match fl with
        | .nx env' => ∀ (σ' : List (Option V)) B' H', Grow ua B0 H0 B' H' → OwnNew env' σ' H0 → EnvOk G ua env' σ' B' H' → Wd ua u' B' H' → Dn.nx σ' H'
        | .rt d => ∀ v B' H', Grow ua B0 H0 B' H' → Wd ua u' B' H' → Rep G ua d v B' → Dn.rt v H'
        | .er env' c ns xs => ∀ (σ' : List (Option V)) B' H' cls d, Grow ua B0 H0 B' H' → OwnNew env' σ' H0 → EnvOk G ua env' σ' B' H' → Wd ua u' B' H' → ErR G ua c ns xs cls d B' → W cls d σ' H') → Q v H1) :
    tEvX G W mx σ H Q := by
  obtain ⟨ua, u, B, env, fl, u', B0, H0, hg, hO, hE, hW, hm, z⟩ := h
  unfold sUpX at hm
  split at hm
  · rename_i d u1 hx
    exact ⟨ua, u, B, env, _, u1, hE, hW, hx, fun v H1 ⟨B1, g1, w1, r1⟩ => q ua u1 H0 B0 B1 H1 env fl u' d v (hg.trans g1) hO (hE.grow g1) w1 r1 hm z⟩
  · rename_i c ns xs u1 hx
    cases hm
    exact ⟨ua, u, B, env, _, _, hE, hW, hx, fun cls d H1 ⟨B1, g1, w1, r1⟩ => z σ B1 H1 cls d (hg.trans g1) hO (hE.grow g1) w1 r1⟩
  · cases hm
def sDropX (m : MX) : MS := sUpX m fun env _ u => some (.nx env, u)
theorem dsx_drop (he : PE X e (tEvX G W mx)) (hs : swapsWith e none pos.line X.env = pure false := by rfl) : PS X (.Expr e pos) (tSt G W (sDropX mx)) := (ps_expr he hs).imp fun Dn σ H h =>
  up_read h fun ua u1 H0 B0 B1 H1 env fl u' d v g o e w r k z => by
    cases k
    exact z σ B1 H1 g o e w
end
def spEr {K : PySem.W.Frag} (G : Gx K) (C : Addr) (f : Str) (F : List D → U → Option (D × U)) : Sp := fun vs H Q _ => ∃ ua u B a v d0 d u', vs = [.ref a, v] ∧ Rep G ua d0 v B ∧ Wd ua u B H ∧ B a = none ∧ ua ≠ some a ∧ H a = some (exo a C none) ∧ F [d0] u = some (d, u') ∧
  ∀ y dx B' H', Grow ua B H B' H' → Wd ua u' B' H' → Rep G ua d y B' → H' dx = none → dx ≠ a → Q .non (upd (upd H' dx (exd dx [(f, y)])) a (exo a C (some dx)))
/-- the error class x keeps F of what it is made with in its field f -/
def ErMk (P : Program) (w : World) {K : PySem.W.Frag} (mg : Str → Option Value) (base : Heap) (G : Gx K) (x f : Str) (k : Nat) (F : List D → U → Option (D × U)) : Prop :=
  ∃ C fI fd ps B newId initId bmB, OxC K C B newId initId bmB ∧ PySem.W.findIn K (.ref C) "__init__" = some (some (.ref fI)) ∧ PySem.W.typeIn K (.ref fI) = some (.type "function") ∧ FnOk P w K mg base CX0 k fI fd ps (spEr G C f F) ∧ Binds K fd ps [] ∧ mg x = some (.ref C) ∧ G.exc x = some C
theorem ErMk.mono {P : Program} {w : World} {K : PySem.W.Frag} {mg : Str → Option Value} {base : Heap} {G : Gx K} {x f : Str} {j k : Nat} {F : List D → U → Option (D × U)} (h : ErMk P w mg base G x f j F) (l : j ≤ k) : ErMk P w mg base G x f k F := by
  obtain ⟨C, fI, fd, ps, B, n1, n2, bm, h1, h2, h3, h4, h5⟩ := h
  exact ⟨C, fI, fd, ps, B, n1, n2, bm, h1, h2, h3, h4.mono l, h5⟩
/-- its __init__ by its body -/
theorem erInit_ok {P : Program} {w : World} {K : PySem.W.Frag} {mg : Str → Option Value} {base : Heap} {G : Gx K} {qual fl n1 n2 : Str} {st : Stmt} {fI C : Addr} {fd : FuncData} {k : Nat} {e : Expr} {p' p1 pa : Pos} {m : M} {B newId initId : String} {bmB : List Value} (T : OxC K C B newId initId bmB)
    (hno : PySem.W.findIn K (.ref C) fl = some none) (F : Fun K "__init__" qual st fI fd) (S : FnScope [n1, n2] [n1, n2] (defScope st)) (hbody : defBody st = [.Assign [.Attribute (.Name n1 p1) fl p'] e pa])
    (he : ∀ (cdv : Value) (A : Around) (outer : List Env) (s : Shared) (H : Hp) (E : XK), Room k (A.deeper (envOfC qual (defScope st) s.heap.objs.size fI cdv)) → PE (cxOf CX0 P w K mg base [n1, n2] qual (defScope st) fI cdv A outer s H E).nox e (tEv G m))
    (hv : ∀ (cdv : Value) (A : Around) (outer : List Env) (s : Shared) (H : Hp) (E : XK), Vis (cxOf CX0 P w K mg base [n1, n2] qual (defScope st) fI cdv A outer s H E).nox.env.scope n1)
    (hs : ∀ (cdv : Value) (A : Around) (outer : List Env) (s : Shared) (H : Hp) (E : XK), swapsWith e (some (.Attribute (.Name n1 p1) fl p')) pa.line (cxOf CX0 P w K mg base [n1, n2] qual (defScope st) fI cdv A outer s H E).nox.env = pure false)
    (hd : (n1 == ("__debug__" : Str)) = false) (hcd : (n1 == ("__classdict__" : Str)) = false) :
    FnOk P w K mg base CX0 (k + 1) fI fd [n1, n2] (spEr G C fl fun ds u => m (Sl.no :: ds.map Sl.pub) u) := by
  refine F.ok S (fun vs H Q E h => ?_) (fun cdv A outer s H vs Q E hr h => ?_)
  · obtain ⟨ua, u, B, a, v, d0, d, u', rfl, _⟩ := h
    rfl
  · obtain ⟨ua, u, B, a, v, d0, d, u', rfl, hrep, hw, hB, hua, ha, hf, q⟩ := h
    rw [hbody]
    refine ⟨_, pss_one (ps_ox (X := (cxOf CX0 P w K mg base [n1, n2] qual (defScope st) fI cdv A outer s H E).nox) (a := a) T hno rfl (hv cdv A outer s H E) hd hcd (he cdv A outer s H E hr) (hs cdv A outer s H E)), ?_⟩
    refine ⟨ua, u, B, [.no, .pub d0], d, u', ⟨rfl, fun i x hi => ?_, fun i x hi => ?_, fun i j x y p hi => ?_⟩, hw, hf, fun y H1 ⟨B1, g1, w1, r1⟩ => ⟨rfl, g1.keep _ _ ha hua, fun dx hdx hne => q y dx B1 H1 g1 w1 r1 hdx hne⟩⟩
    · match i, hi with
      | 1, hi => cases hi; exact ⟨v, rfl, hrep⟩
      | i + 2, hi => simp at hi
    · match i, hi with
      | i + 2, hi => simp at hi
    · match i, hi with
      | i + 2, hi => simp at hi
section
variable {X : Cx} {G : Gx X.K} {W : WX} {e : Expr} {me : M} {pos p pc : Pos}
def sRaise (x f : Str) (F : List D → U → Option (D × U)) (m : M) : MS := fun env u => bnd (m env u) fun d u1 => bnd (F [d] u1) fun y u2 => some (.er env x [f] [y], u2)
theorem ds_raise {x f : Str} {k : Nat} {F : List D → U → Option (D × U)} (M0 : ErMk X.prog X.w X.mg X.base G x f k F) (hc : X.calm = true) (tk : Takes X W) (hr : Room (k + 1) X.A) (hg : Gl X x) (he : PE X e (tEv G me))
    (hdb : (x == ("__debug__" : Str)) = false := by decide) (hs : starEach [e] X.env = (false, eval e X.env) :: starEach [] X.env := by rfl) (hpl : (backTo pc (starEach [] X.env)).any (·.1) = false := by rfl) :
    PS X (.Raise (some (.Call (.Name x p) [e] [] pc)) none pos) (tSt G W (sRaise x f F me)) := by
  obtain ⟨C, fI, fd, ps, B, newId, initId, bmB, T, iC, tI, Fn, hb, hm, hG⟩ := M0
  refine (ps_raise hc tk (pmk_ox T iC tI Fn hr hb pass0 hg hm (pa_cons he pa_nil hs) hdb hs hpl)).imp fun Dn σ H h => ?_
  obtain ⟨ua, u, B, env, fl, u', B0, H0, hgr, hO, hE, hW, hm, q⟩ := h
  obtain ⟨d, u1, h1, h2⟩ := bnd_some hm
  obtain ⟨y, u2, h3, h4⟩ := bnd_some h2
  cases h4
  refine ⟨ua, u, B, env, d, u1, hE, hW, h1, fun v H1 ⟨B1, g1, w1, r1⟩ => ⟨Nat.le_of_ble_eq_true rfl, fun a ha => ?_⟩⟩
  have ga := Grow.own1 (o := exo a C none) w1 ha
  have wa := w1.own1 (o := exo a C none) ha
  refine ⟨ua, u1, B1, a, v, d, y, _, rfl, r1, wa, w1.none_of ha, w1.ne_urn ha, upd_same, h3, fun yv dx B2 H2 g2 w2 r2 hdx hne => ⟨rfl, dx, [(f, yv)], upd_same, by rw [upd_ne hne]; exact upd_same, ?_, ?_⟩⟩
  · have := g2.live _ hdx
    rw [upd_ne hne] at this
    exact this
  · have ea : upd (del (upd (upd H2 dx (exd dx [(f, yv)])) a (exo a C (some dx))) a) dx (.xd [(f, yv)]) = upd (del H2 a) dx (.xd [(f, yv)]) := by
      funext b
      by_cases hbd : b = dx
      · rw [hbd, upd_same, upd_same]
      · rw [upd_ne hbd, upd_ne hbd]
        by_cases hba : b = a
        · rw [hba, del_same, del_same]
        · rw [del_ne hba, del_ne hba, upd_ne hba, upd_ne hbd]
    show W (.ref C) (some dx) σ (upd (del (upd (upd H2 dx (exd dx [(f, yv)])) a (exo a C (some dx))) a) dx (.xd [(f, yv)]))
    rw [ea]
    have hB2a : B2 a = none := g2.none_of (o := exo a C none) upd_same (w1.none_of ha)
    have nba : ∀ {b : Addr} {o : HO}, B2 b = some o → b ≠ a := fun z1 z2 => by rw [z2, hB2a] at z1; cases z1
    have nxa : ∀ {b : Addr} {o : HO}, H1 b = some o → b ≠ a := fun z1 z2 => by rw [z2, ha] at z1; cases z1
    have hB2d : B2 dx = none := w2.none_of hdx
    have g3 : Grow ua B1 H1 (upd B2 dx (.xd [(f, yv)])) (upd (del H2 a) dx (.xd [(f, yv)])) := by
      refine ⟨fun b o hb hu => ?_, fun b hb => ?_, fun b o hb => ?_, fun b o hb => ?_⟩
      · have z := g2.keep b o (by rw [upd_ne (nxa hb)]; exact hb) hu
        rw [upd_ne (fun e => by rw [e, hdx] at z; cases z), del_ne (nxa hb)]
        exact z
      · by_cases hba : b = a
        · rw [hba]; exact ha
        · by_cases hbd : b = dx
          · rw [hbd, upd_same] at hb; cases hb
          · rw [upd_ne hbd, del_ne hba] at hb
            have z := g2.live b hb
            rw [upd_ne hba] at z
            exact z
      · exact same_new hB2d b o (g2.pub b o hb)
      · by_cases hbd : b = dx
        · refine .inr ?_
          have z := g2.live dx hdx
          rw [upd_ne hne] at z
          rw [hbd]; exact z
        · rw [upd_ne hbd] at hb
          rcases g2.new b o hb with z | z
          · exact .inl z
          · rw [upd_ne (nba hb)] at z
            exact .inr z
    have w3 : Wd ua u' (upd B2 dx (.xd [(f, yv)])) (upd (del H2 a) dx (.xd [(f, yv)])) := by
      refine ⟨fun b o hb => ?_, fun b hb => ?_⟩
      · by_cases hbd : b = dx
        · rw [hbd, upd_same] at hb ⊢; exact hb
        · rw [upd_ne hbd] at hb ⊢
          rw [del_ne (nba hb)]
          exact w2.sub b o hb
      · obtain ⟨z1, z2⟩ := w2.urn b hb
        have hbd : b ≠ dx := fun e => by rw [e, hdx] at z2; cases z2
        have hba : b ≠ a := fun e => w1.ne_urn ha (by rw [← e]; exact hb)
        rw [upd_ne hbd, upd_ne hbd, del_ne hba]
        exact ⟨z1, z2⟩
    refine q σ _ _ (.ref C) (some dx) (hgr.trans (g1.trans g3)) hO ((hE.grow g1).grow g3) w3 ⟨C, [yv], hG, rfl, ⟨rfl, .inr ⟨dx, rfl, upd_same⟩⟩, .cons (r2.mono _ _ (same_new hB2d)) .nil⟩
end
end Dv
namespace Dv
open PySem PySem.Spec PyProof.Rows L2
end Dv
namespace Dv
open PySem PySem.Spec PyProof.Rows L2
theorem Reps.reverse {K : PySem.W.Frag} {G : Gx K} {ua : Option Addr} {B : Hp} : ∀ {ds : List D} {vs : List V}, Reps G ua ds vs B → Reps G ua ds.reverse vs.reverse B
  | [], vs, h => by rw [h.of_nil]; exact .nil
  | d :: ds, vs, h => by
    obtain ⟨v, r, rfl, q, t⟩ := h.of_cons
    rw [List.reverse_cons, List.reverse_cons]
    exact (Reps.reverse t).append (.cons q .nil)
def MakeK (P : Program) (w : World) {K : PySem.W.Frag} (mg : Str → Option Value) (base : Heap) (G : Gx K) (x : Str) (ks : List Str) (k : Nat) (F : List D → U → Option (D × U)) : Prop :=
  ∃ C f fd ps sp g, Mk K C f ∧ FnOk P w K mg base CX0 k f fd ps sp ∧ mg x = some (.ref C) ∧ KBn K fd ps 1 ks g (fun vs zs => vs ++ zs) ∧
    ∀ (ua : Option Addr) (u u' : U) (B H : Hp) (as : List D) (vs : List V) (d : D), as.length = ks.length → F as u = some (d, u') → Reps G ua as vs B → Wd ua u B H → ∀ (y dx : Addr), H y = none → H dx = none → dx ≠ y →
      ∀ Q : VK, (∀ H', Aft G ua B H u' d (.ref y) H' → Q (.ref y) H') → sp (.ref y :: vs) (upd (upd H dx (.own y)) y (.ins C dx [])) (fun v H2 => v = .non ∧ Q (.ref y) H2) E0
theorem MakeK.mono {P : Program} {w : World} {K : PySem.W.Frag} {mg : Str → Option Value} {base : Heap} {G : Gx K} {x : Str} {ks : List Str} {j k : Nat} {F : List D → U → Option (D × U)} (h : MakeK P w mg base G x ks j F) (l : j ≤ k) : MakeK P w mg base G x ks k F := by
  obtain ⟨C, f, fd, ps, sp, g, h1, h2, h3⟩ := h
  exact ⟨C, f, fd, ps, sp, g, h1, h2.mono l, h3⟩
end Dv
namespace Dv
open PySem PySem.Spec PyProof.Rows L2
def isNo : Sl → Bool
  | .no => true
  | _ => false
section
variable {X : Cx} {G : Gx X.K} {W : WX} {rest : List Stmt} {m : MS} {x y z : Str} {a1 a2 a3 a4 b1 b2 b3 b4 c1 c2 t0 : Str} {k1 k2 k3 k4 j1 j2 j3 j4 m1 m2 m3 : Nat} {p1 p2 p3 p4 p5 p6 p7 p8 : Pos}
theorem env_no {K : PySem.W.Frag} {G : Gx K} {ua : Option Addr} {env : List Sl} {σ : L2.St} {B B' H H' : Hp} (h : env.all isNo = true) (e : EnvOk G ua env σ B H) (τ : L2.St) (hl : τ.length = σ.length) : EnvOk G ua env τ B' H' := by
  have no : ∀ (i : Nat) s, env[i]? = some s → s = .no := fun i s hi => by
    have := List.all_eq_true.mp h s (List.mem_of_getElem? hi)
    cases s with
    | no => rfl
    | pub d => cases this
    | own ds => cases this
  exact ⟨e.len.trans hl.symm, fun i d hi => (by have z := no i _ hi; cases z), fun i d hi => (by have z := no i _ hi; cases z), fun i j d e p hi => (by have z := no i _ hi; cases z)⟩
end
end Dv
namespace Dv
open PySem PySem.Spec PyProof.Rows L2
section
variable {X : Cx} {G : Gx X.K} {a b : Expr} {ma mb : M} {pos apos : Pos}
theorem dv_s1 {name : Str} {id : String} {r : V → List V → Hp → VK → Prop} {f : D → D → Option D} (slot : PySem.Slot "str" name id) (ty : typeOf (.builtin id) = pure (.type "method_descriptor")) (rule : MtR X id r)
    (h0 : ∀ x y d, f x y = some d → ∃ s t, x = .str s ∧ y = .str t) (h1 : ∀ (ua : Option Addr) (u : U) (B H : Hp) (s t : Str) (d : D) (Q : VK), f (.str s) (.str t) = some d → Wd ua u B H → (∀ v H', Aft G ua B H u d v H' → Q v H') → r (.str s) [.str t] H Q)
    (ha : PE X a (tEv G ma)) (hb : PE X b (tEv G mb)) (hs : starEach [b] X.env = [(false, eval b X.env)] := by rfl) (hbase : attributeBase a name X.env (eval a X.env) = eval a X.env := by rfl) (hline : (apos.endLine == pos.line) = true := by rfl) :
    PE X (.Call (.Attribute a name apos) [b] [] pos) (tEv G (mBin f ma mb)) := by
  refine (pe_m1 slot ty rule ha hb hs hbase hline).imp fun σ H Q h => ?_
  obtain ⟨ua, u, B, env, d, u', hE, hW, hm, q⟩ := h
  obtain ⟨x, u1, e1, e2⟩ := bnd_some hm
  obtain ⟨y, u2, e4, e3⟩ := bnd_some e2
  obtain ⟨l3, rfl⟩ := lft_some e3
  refine ⟨ua, u, B, env, x, u1, hE, hW, e1, fun v H1 ⟨B1, g1, w1, r1⟩ => ?_⟩
  obtain ⟨s, t, rfl, rfl⟩ := h0 _ _ _ l3
  cases r1.str
  refine ⟨⟨_, rfl⟩, ua, u1, B1, env, _, u', hE.grow g1, w1, e4, fun v2 H2 ⟨B2, g2, w2, r2⟩ => ?_⟩
  cases r2.str
  exact h1 ua u' B2 H2 s t d Q l3 w2 fun v3 H3 a3 => q _ _ (.up (g1.trans g2) a3)
def rmpD : D → D → Option D
  | .str a, .str b => if a.length ≤ sizeLine then some (.str (Txt.removeprefix a b)) else none
  | _, _ => none
def stwD : D → D → Option D
  | .str a, .str b => some (.bl (Txt.startswith a b))
  | _, _ => none
def splD : D → D → Option D
  | .str a, .str b => if (b.length == 0) = false ∧ a.length + 2 ≤ sizeLine then some (.lst ((Txt.split a b).map .str)) else none
  | _, _ => none
theorem rmp_str {x y d : D} (h : rmpD x y = some d) : ∃ s t, x = .str s ∧ y = .str t := by
  unfold rmpD at h
  split at h
  · exact ⟨_, _, rfl, rfl⟩
  · cases h
theorem stw_str {x y d : D} (h : stwD x y = some d) : ∃ s t, x = .str s ∧ y = .str t := by
  unfold stwD at h
  split at h
  · exact ⟨_, _, rfl, rfl⟩
  · cases h
theorem spl_str {x y d : D} (h : splD x y = some d) : ∃ s t, x = .str s ∧ y = .str t := by
  unfold splD at h
  split at h
  · exact ⟨_, _, rfl, rfl⟩
  · cases h
theorem dv_rmp (ha : PE X a (tEv G ma)) (hb : PE X b (tEv G mb)) (hs : starEach [b] X.env = [(false, eval b X.env)] := by rfl) (hbase : attributeBase a "removeprefix" X.env (eval a X.env) = eval a X.env := by rfl) (hline : (apos.endLine == pos.line) = true := by rfl) :
    PE X (.Call (.Attribute a "removeprefix" apos) [b] [] pos) (tEv G (mBin rmpD ma mb)) :=
  dv_s1 PySem.F.slot_str_removeprefix PySem.F.type_str_removeprefix mt_removeprefix (fun _ _ _ h => rmp_str h) (fun ua u B H s t d Q h w q => by
    simp only [rmpD] at h
    split at h
    · cases h; exact ⟨s, t, rfl, rfl, ‹_›, q _ _ (.here w rep_str)⟩
    · cases h) ha hb hs hbase hline
theorem dv_stw (ha : PE X a (tEv G ma)) (hb : PE X b (tEv G mb)) (hs : starEach [b] X.env = [(false, eval b X.env)] := by rfl) (hbase : attributeBase a "startswith" X.env (eval a X.env) = eval a X.env := by rfl) (hline : (apos.endLine == pos.line) = true := by rfl) :
    PE X (.Call (.Attribute a "startswith" apos) [b] [] pos) (tEv G (mBin stwD ma mb)) :=
  dv_s1 PySem.F.slot_str_startswith PySem.F.type_str_startswith mt_startswith (fun _ _ _ h => stw_str h) (fun ua u B H s t d Q h w q => by
    simp only [stwD] at h
    cases h; exact ⟨s, t, rfl, rfl, q _ _ (.here w rep_bl)⟩) ha hb hs hbase hline
theorem dv_split (ha : PE X a (tEv G ma)) (hb : PE X b (tEv G mb)) (hs : starEach [b] X.env = [(false, eval b X.env)] := by rfl) (hbase : attributeBase a "split" X.env (eval a X.env) = eval a X.env := by rfl) (hline : (apos.endLine == pos.line) = true := by rfl) :
    PE X (.Call (.Attribute a "split" apos) [b] [] pos) (tEv G (mBin splD ma mb)) :=
  dv_s1 PySem.F.slot_str_split PySem.F.type_str_split mt_split (fun _ _ _ h => spl_str h) (fun ua u B H s t d Q h w q => by
    simp only [splD] at h
    split at h
    · rename_i hh
      cases h; exact ⟨s, t, rfl, rfl, hh.1, hh.2, fun p hp => q _ _ (.lst w hp .strs)⟩
    · cases h) ha hb hs hbase hline
def mulS (x : Str) (n : Nat) : Str := ⟨(List.replicate n x.cps).foldl (· ++ ·) #[]⟩
def fMulS : D → D → Option D
  | .str x, .int n => if 2 ≤ n ∧ n ≤ 1000 ∧ 1 ≤ x.length ∧ x.length ≤ 1000 then some (.str (mulS x n.toNat)) else none
  | _, _ => none
def rMulS : R2 := fun x y H Q => ∃ (s : Str) (n : Int), x = .str s ∧ y = .int n ∧ (2 ≤ n ∧ n ≤ 1000 ∧ 1 ≤ s.length ∧ s.length ≤ 1000) ∧ Q (.str (mulS s n.toNat)) H
theorem rep_size (xs : Array Nat) : ∀ (n : Nat) (acc : Array Nat), ((List.replicate n xs).foldl (· ++ ·) acc).size = acc.size + n * xs.size
  | 0, acc => by simp
  | n + 1, acc => by
    rw [List.replicate_succ, List.foldl_cons, rep_size xs n, Array.size_append, Nat.succ_mul]
    omega
theorem mulS_len (x : Str) (n : Nat) : (mulS x n).length = n * x.length := by
  show ((List.replicate n x.cps).foldl (· ++ ·) #[]).size = n * x.cps.size
  rw [rep_size]
  simp
theorem op_mulS : OpR X (binaryOp .Mult) rMulS := by
  intro pins s σ H x y v u Q I rx ry h
  obtain ⟨st, n, rfl, rfl, ⟨h1, h2, h3, h4⟩, q⟩ := h
  obtain ⟨t, rfl⟩ := rx
  obtain ⟨t2, rfl⟩ := ry
  have hle : st.length * n.toNat ≤ 1000 * 1000 := Nat.mul_le_mul h4 (by omega)
  have e1 : (n == 1 || st.length == 0) = false := by
    rw [Bool.or_eq_false_iff]
    exact ⟨beq_eq_false_iff_ne.mpr (by omega), beq_eq_false_iff_ne.mpr (by omega)⟩
  refine PySem.P.mul_str ?_ (fun _ _ => ?_) (fun _ _ => ?_) ?_
  · rw [decide_eq_false (by omega), decide_eq_false (by omega)]; rfl
  · have : (st.length : Int) ≤ 1000 := by omega
    have h5 : (1000 : Int) ≤ (2 ^ 63 - 1) / n := by
      rw [Int.le_ediv_iff_mul_le (by omega)]
      omega
    omega
  · exact decide_eq_false (by have : sizeLine = 16777216 := rfl; omega)
  · rw [if_neg (by omega), e1, if_neg Bool.false_ne_true]
    have hz := mulS_len st n.toNat
    rw [Nat.mul_comm] at hz
    have hs : sizeLine = 16777216 := rfl
    exact ⟨by show (mulS st n.toNat).length ≤ _; omega, ⟨V.str (mulS st n.toNat), H, I.tok _, ⟨_, rfl⟩, q⟩⟩
theorem ok_mulS : BinOk G (binaryOp .Mult) fMulS := by
  intro ua u B H da db d va vb e ra rb w
  unfold fMulS at e
  split at e
  · split at e
    · cases e; cases ra.str; cases rb.int
      exact ⟨_, op_mulS, _, _, rfl, rfl, ‹_›, .here w rep_str⟩
    · cases e
  · cases e
end
end Dv
namespace PySem.W
open PySem PySem.Calls PyProof.Rows Builtin
end PySem.W
namespace Dv
open PySem PySem.Spec PyProof.Rows L2
section
variable {X : Cx} {G : Gx X.K} {a b e : Expr} {es : List Expr} {ma mb : M} {ms : Ms} {pos apos p1 : Pos}
/-- the class x has F as its static method m -/
def StOk (P : Program) (w : World) {K : PySem.W.Frag} (mg : Str → Option Value) (base : Heap) (G : Gx K) (x m : Str) (k n : Nat) (F : List D → U → Option (D × U)) : Prop :=
  ∃ C p f fd ps, mg x = some (.ref C) ∧ PySem.W.specialIn K (.ref C) "__getattribute__" = some (some (.builtin "type.__getattribute__")) ∧ PySem.W.readsIn K C (.type "type") = true ∧
    PySem.W.findCls K (.ref C) (.type "type") m = some (.get (.builtin "staticmethod.__get__") (.ref p) .none (.ref C)) ∧ (∃ rest, PySem.W.recIn K p "staticmethod" = some (.ref f :: rest)) ∧ FnOk P w K mg base CX0 k f fd ps (spF G F n) ∧ PySem.W.keepIn K (.ref f) = true ∧ Binds K fd ps []
theorem StOk.mono {P : Program} {w : World} {K : PySem.W.Frag} {mg : Str → Option Value} {base : Heap} {G : Gx K} {x m : Str} {j k n : Nat} {F : List D → U → Option (D × U)} (h : StOk P w mg base G x m j n F) (l : j ≤ k) : StOk P w mg base G x m k n F := by
  obtain ⟨C, p, f, fd, ps, h1, h2, h3, h4, h5, h6, h7⟩ := h
  exact ⟨C, p, f, fd, ps, h1, h2, h3, h4, h5, h6.mono l, h7⟩
theorem dv_sm {x m : Str} {k n : Nat} {F : List D → U → Option (D × U)} {pl : Sem Bool} (D0 : StOk X.prog X.w X.mg X.base G x m k n F) (hr : Room k X.A) (hg : Gl X x) (ha : PA X (e :: es) (tEvs G ms))
    (hdb : (x == ("__debug__" : Str)) = false := by decide) (he : starEach (e :: es) X.env = (false, eval e X.env) :: starEach es X.env := by rfl) (hpl : (backTo pos (starEach es X.env)).any (·.1) = false := by rfl)
    (ht : eval (.Call (.Attribute (.Name x p1) m apos) (e :: es) [] pos) X.env = (do
      let ov ← eval (.Name x p1) X.env
      standAt apos.atName
      let (f, first) ← holding [ov] (getMethod ov m pl)
      callWith pos f first (backTo pos (starEach (e :: es) X.env)) (backToKw pos (keywordEach [] X.env))) := by rfl) :
    PE X (.Call (.Attribute (.Name x p1) m apos) (e :: es) [] pos) (tEv G (mCall n F ms)) := by
  obtain ⟨C, p, f, fd, ps, hm, h1, h2, h3, ⟨rest, h4⟩, hf, hk, hb⟩ := D0
  refine ⟨fun pins s σ H Q I h => ?_⟩
  obtain ⟨ua, u, B, env, d, u', hE, hW, hm2, q⟩ := h
  obtain ⟨ds, u1, c1, c2⟩ := bnd_some hm2
  split at c2
  · rename_i hl
    refine PySem.W.methodCall_KW (pl := pl) (ld_glob I hg hm ?_ hdb) ht
    refine PySem.W.method_cls I.kIn h1 (PySem.W.cls_bind I.kIn h2 h3 (wpAny_call (PySem.W.sm_get (s := { s with toks := s.toks + 1 }) I.kIn h4 (PySem.W.handed_on rfl ?_))))
    have I1 := I.tok (s.toks + 1)
    refine PySem.W.callWith_K (first := []) (h₀ := X.base) I.ok.mod.kin hk (thn (ha.run pos pins _ σ H (fun vs H1 => spF G F n vs H1 Q E0) I1 ⟨ua, u, B, env, ds, u1, hE, hW, c1, fun vs H1 ⟨B1, g1, w1, r1⟩ => ⟨ua, u1, B1, ds, d, u', r1, hl, w1, c2, fun v H2 a => q _ _ (.up g1 a)⟩⟩) fun us s2 ⟨vs, H2, I2, r, q2⟩ => ⟨I2.kIn, ?_⟩) he hpl
    exact run_fn (us := us) (vs := vs) hf hr hb .nil pass0 I2 r (by rw [List.append_nil]; exact q2)
  · cases c2
end
end Dv
namespace Dv
open PySem PySem.Spec PyProof.Rows L2
def perm {α : Type} (π : List Nat) (l : List α) : List α := π.filterMap fun i => l[i]?
theorem Reps.at_or {K : PySem.W.Frag} {G : Gx K} {ua : Option Addr} {B : Hp} : ∀ {ds : List D} {vs : List V} (i : Nat), Reps G ua ds vs B → (ds[i]? = Option.none ∧ vs[i]? = Option.none) ∨ ∃ d v, ds[i]? = some d ∧ vs[i]? = some v ∧ Rep G ua d v B
  | [], vs, i, r => by rw [r.of_nil]; exact .inl ⟨rfl, rfl⟩
  | d :: ds, vs, i, r => by
    obtain ⟨v, t, rfl, r1, r2⟩ := r.of_cons
    cases i with
    | zero => exact .inr ⟨d, v, rfl, rfl, r1⟩
    | succ i => exact Reps.at_or i r2
theorem Reps.perm {K : PySem.W.Frag} {G : Gx K} {ua : Option Addr} {B : Hp} {ds : List D} {vs : List V} (r : Reps G ua ds vs B) : ∀ π : List Nat, Reps G ua (perm π ds) (perm π vs) B
  | [] => .nil
  | i :: π => by
    unfold Dv.perm
    rw [List.filterMap_cons, List.filterMap_cons]
    rcases r.at_or i with ⟨e1, e2⟩ | ⟨d, v, e1, e2, r1⟩
    · rw [e1, e2]; exact r.perm π
    · rw [e1, e2]; exact .cons r1 (r.perm π)
theorem vals_at {vs : List V} {us : List Value} (r : Vals vs us) : ∀ i : Nat, (vs[i]? = none ∧ us[i]? = none) ∨ ∃ v u, vs[i]? = some v ∧ us[i]? = some u ∧ RelV v u := by
  induction r with
  | nil => exact fun i => .inl ⟨rfl, rfl⟩
  | cons a b ih =>
    intro i
    cases i with
    | zero => exact .inr ⟨_, _, rfl, rfl, a⟩
    | succ i => exact ih i
theorem vals_perm {vs : List V} {us : List Value} (r : Vals vs us) : ∀ π : List Nat, Vals (perm π vs) (perm π us)
  | [] => .nil
  | i :: π => by
    unfold Dv.perm
    rw [List.filterMap_cons, List.filterMap_cons]
    rcases vals_at r i with ⟨e1, e2⟩ | ⟨v, u, e1, e2, r1⟩
    · rw [e1, e2]; exact vals_perm r π
    · rw [e1, e2]; exact .cons r1 (vals_perm r π)
def mCallP (n : Nat) (π : List Nat) (F : List D → U → Option (D × U)) (m : Ms) : M := fun env u => bnd (m env u) fun ds u1 => if ds.length = n ∧ (perm π ds).length = π.length then F (perm π ds) u1 else none
def DefKp (P : Program) (w : World) {K : PySem.W.Frag} (mg : Str → Option Value) (base : Heap) (G : Gx K) (x : Str) (ks : List Str) (π : List Nat) (k : Nat) (F : List D → U → Option (D × U)) : Prop :=
  ∃ f fd ps, FnOk P w K mg base CX0 k f fd ps (spF G F π.length) ∧ mg x = some (.ref f) ∧ PySem.W.keepIn K (.ref f) = true ∧ ∀ (s : Shared) (ws : List Value), K.In s.heap → ws.length = ks.length → BindsTo s fd ⟨[], ks.zip ws⟩ (ps.zip (perm π ws))
theorem DefKp.mono {P : Program} {w : World} {K : PySem.W.Frag} {mg : Str → Option Value} {base : Heap} {G : Gx K} {x : Str} {ks : List Str} {π : List Nat} {j k : Nat} {F : List D → U → Option (D × U)} (h : DefKp P w mg base G x ks π j F) (l : j ≤ k) : DefKp P w mg base G x ks π k F := by
  obtain ⟨f, fd, ps, h1, h2⟩ := h
  exact ⟨f, fd, ps, h1.mono l, h2⟩
section
variable {X : Cx} {G : Gx X.K} {kws : List Keyword} {ms : Ms} {p pos : Pos}
theorem dv_callKp {x : Str} {k n : Nat} {ks : List Str} {π : List Nat} {F : List D → U → Option (D × U)} (D0 : DefKp X.prog X.w X.mg X.base G x ks π k F) (hr : Room k X.A) (hg : Gl X x) (hn : ks.length = n) (ha : PK X kws (tEvs G ms))
    (hall : (backToKw pos (keywordEach kws X.env)).all (·.1.isSome) = true := by rfl) (hks : (backToKw pos (keywordEach kws X.env)).filterMap (·.1) = ks := by rfl) (hdb : (x == ("__debug__" : Str)) = false := by decide)
    (hpl : ((backTo pos (starEach [] X.env)).any (·.1) || (backToKw pos (keywordEach kws X.env)).any (·.1.isNone)) = false := by rfl) :
    PE X (.Call (.Name x p) [] kws pos) (tEv G (mCallP n π F ms)) := by
  subst hn
  obtain ⟨f, fd, ps, hf, hm, hk, hb⟩ := D0
  refine ⟨fun pins s σ H Q I h => ?_⟩
  obtain ⟨ua, u, B, env, d, u', hE, hW, hm2, q⟩ := h
  obtain ⟨ds, u1, h1, h2⟩ := bnd_some hm2
  split at h2
  · rename_i hl
    obtain ⟨hl, hl2⟩ := hl
    refine wpAny_Call_Name_kw (ld_glob I hg hm ?_ hdb)
    refine PySem.W.callWith_KW0 (h₀ := X.base) I.ok.mod.kin hk hall (thn (ha.run pos pins s σ H _ I ⟨ua, u, B, env, ds, u1, hE, hW, h1, fun _ _ z => z⟩) fun ws s2 ⟨zs, H2, I2, rz, B2, g2, w2, r2⟩ => ⟨I2.kIn, ?_⟩) hpl
    rw [hks]
    have lw : ws.length = ks.length := by rw [← rz.length, ← r2.len]; exact hl
    refine wpAny_call (codeAny_mono (hf.run X.A X.stack s2 H2 ⟨[] ++ [], ks.zip ws⟩ (perm π ws) (perm π zs) Q E0 hr I2.env0 (hb s2 ws I2.kIn lw) (vals_perm rz π) ⟨ua, u1, B2, perm π ds, d, u', r2.perm π, hl2, w2, h2, fun v H3 a => q v H3 (.up g2 a)⟩) fun r s' hq => ?_)
    cases r with
    | error e => exact hq.elim
    | ok fl =>
      cases fl with
      | ret u => exact I2.after hq
      | next => exact False.elim hq
      | brk => exact False.elim hq
      | cont => exact False.elim hq
  · cases h2
end
end Dv
namespace Dv
open PySem PySem.Spec PyProof.Rows L2
section
variable {X : Cx} {G : Gx X.K} {W : WX} {e : Expr} {es : List Expr} {ms : Ms} {pos p : Pos}
/-- tab tells what the defs do that a name may hold -/
def FnX (P : Program) (w : World) {K : PySem.W.Frag} (mg : Str → Option Value) (base : Heap) (G : Gx K) (tab : Str → Option (List D → U → Option (R × U))) (k n : Nat) : Prop :=
  ∀ y F, tab y = some F → ∃ f fd ps, FnOk P w K mg base (L2.CX P w) k f fd ps (spX G F n) ∧ PySem.W.keepIn K (.ref f) = true ∧ Binds K fd ps [] ∧ G.fns y = some f
end
end Dv
namespace Dv
open PySem PySem.Spec PyProof.Rows L2
end Dv
namespace Dv
open PySem PySem.Spec PyProof.Rows L2
theorem FnX.mono {P : Program} {w : World} {K : PySem.W.Frag} {mg : Str → Option Value} {base : Heap} {G : Gx K} {tab : Str → Option (List D → U → Option (R × U))} {j k n : Nat} (h : FnX P w mg base G tab j n) (l : j ≤ k) : FnX P w mg base G tab k n := fun y F e => by
  obtain ⟨f, fd, ps, h1, h2⟩ := h y F e
  exact ⟨f, fd, ps, h1.mono l, h2⟩
end Dv
namespace Dv
open PySem PySem.Spec PyProof.Rows L2
def valD (ks : List Key) (ds : List D) (k : Key) : Option D := ((ks.zip ds).find? fun kd => decide (kd.1 = k)).map (·.2)
theorem Reps.val {K : PySem.W.Frag} {G : Gx K} {ua : Option Addr} {B : Hp} {k : Key} : ∀ {ks : List Key} {ds : List D} {vs : List V}, Reps G ua ds vs B → ks.length = vs.length →
    (valD ks ds k = Option.none ∧ valV (ks.zip vs) k = Option.none) ∨ ∃ d v, valD ks ds k = some d ∧ valV (ks.zip vs) k = some v ∧ Rep G ua d v B
  | [], ds, vs, r, l => .inl ⟨rfl, rfl⟩
  | j :: ks, [], vs, r, l => by rw [r.of_nil] at l; cases l
  | j :: ks, d :: ds, vs, r, l => by
    obtain ⟨v, t, rfl, r1, r2⟩ := r.of_cons
    unfold valD valV
    rw [List.zip_cons_cons, List.zip_cons_cons]
    by_cases e : j = k
    · refine .inr ⟨d, v, ?_, ?_, r1⟩
      · rw [List.find?_cons_of_pos (by exact decide_eq_true e)]; rfl
      · rw [List.find?_cons_of_pos (by exact decide_eq_true e)]; rfl
    · rw [List.find?_cons_of_neg (by simpa using e), List.find?_cons_of_neg (by simpa using e)]
      exact Reps.val r2 (Nat.succ.inj l)
theorem DctB.rd {H : Hp} {a : Addr} {kvs : List (Key × V)} (h : DctB H a kvs) : Rd H a (.dK kvs) := by
  obtain ⟨o, h⟩ := h
  exact .inr ⟨o, h⟩
theorem rep_dct {K : PySem.W.Frag} {G : Gx K} {ua : Option Addr} {B : Hp} {ks : List Key} {ds : List D} {v : V} (r : Rep G ua (.dct ks ds) v B) : ∃ a vs, v = .ref a ∧ DctB B a (ks.zip vs) ∧ ks.length = vs.length ∧ Reps G ua ds vs B := by
  unfold Rep at r; exact r
section
variable {X : Cx} {G : Gx X.K} {o e f i : Expr} {mo me mf : M} {pos cpos apos : Pos}
def mGet2 (mo me mf : M) : M := fun env u => bnd (mo env u) fun d u1 => bnd (me env u1) fun k u2 => bnd (mf env u2) fun x u3 => match d, keyOf k with
  | .dct ks ds, some key => some ((valD ks ds key).getD x, u3)
  | _, _ => none
theorem mGet2_inv {x k z d : D} {u3 u' : U} (h : (match x, keyOf k with | .dct ks ds, some key => some ((valD ks ds key).getD z, u3) | _, _ => (Option.none : Option (D × U))) = some (d, u')) : ∃ ks ds key, x = .dct ks ds ∧ keyOf k = some key ∧ d = (valD ks ds key).getD z ∧ u3 = u' := by
  cases hk : keyOf k with
  | none => rw [hk] at h; cases x <;> cases h
  | some key =>
    rw [hk] at h
    cases x with
    | dct ks ds => cases h; exact ⟨ks, ds, key, rfl, rfl, rfl, rfl⟩
    | _ => cases h
theorem dv_get2 (hu : X.A.units + 1 < cLine) (m : M2 X o "get" apos e f cpos) (ho : PE X o (tEv G mo)) (he : PE X e (tEv G me)) (hf : PE X f (tEv G mf)) : PE X (.Call (.Attribute o "get" apos) [e, f] [] cpos) (tEv G (mGet2 mo me mf)) := by
  refine (pe_dget2 hu ho he hf m).imp fun σ H Q h => ?_
  obtain ⟨ua, u, B, env, d, u', hE, hW, hm, q⟩ := h
  obtain ⟨x, u1, c1, c2⟩ := bnd_some hm
  obtain ⟨k, u2, c3, c4⟩ := bnd_some c2
  obtain ⟨z, u3, c5, c6⟩ := bnd_some c4
  refine ⟨ua, u, B, env, x, u1, hE, hW, c1, fun v H1 ⟨B1, g1, w1, r1⟩ => ?_⟩
  obtain ⟨ks, ds, key, rfl, hk, rfl, rfl⟩ := mGet2_inv c6
  · obtain ⟨a, vs, rfl, hd, hl, rs⟩ := rep_dct r1
    refine ⟨a, rfl, ?_, ua, u1, B1, env, k, u2, hE.grow g1, w1, c3, fun v2 H2 ⟨B2, g2, w2, r2⟩ => ⟨ua, u2, B2, env, z, _, (hE.grow g1).grow g2, w2, c5, fun v3 H3 ⟨B3, g3, w3, r3⟩ => ?_⟩⟩
    · exact .inl ⟨_, (hd.mono w1.sub).rd⟩
    · have hd3 := ((hd.mono g2.pub).mono g3.pub).mono w3.sub
      refine ⟨valV (ks.zip vs) key, .inl ⟨_, key, hd3.rd, keyOf_rep hk r2, rfl⟩, ?_⟩
      rcases rs.val (k := key) hl with ⟨e1, e2⟩ | ⟨dv, vv, e1, e2, rr⟩
      · rw [e2]; exact q _ _ (.up g1 (.up g2 ⟨B3, g3, w3, by rw [e1]; exact r3⟩))
      · rw [e2]; exact q _ _ (.up g1 (.up g2 ⟨B3, g3, w3, by rw [e1]; exact (rr.mono _ _ g2.pub).mono _ _ g3.pub⟩))
def dixD : D → D → Option D
  | .dct ks ds, k => (keyOf k).bind fun key => valD ks ds key
  | _, _ => none
theorem dv_dix (hu : X.A.units + 1 < cLine) (ho : PE X o (tEv G mo)) (he : PE X i (tEv G me)) (hs : NoSl i := by exact fun _ _ => rfl) : PE X (.Subscript o i pos) (tEv G (mBin dixD mo me)) := by
  refine (pe_dget hu ho he hs).imp fun σ H Q h => ?_
  obtain ⟨ua, u, B, env, d, u', hE, hW, hm, q⟩ := h
  obtain ⟨x, u1, c1, c2⟩ := bnd_some hm
  obtain ⟨k, u2, c3, c4⟩ := bnd_some c2
  obtain ⟨l4, rfl⟩ := lft_some c4
  refine ⟨ua, u, B, env, x, u1, hE, hW, c1, fun v H1 ⟨B1, g1, w1, r1⟩ => ⟨ua, u1, B1, env, k, _, hE.grow g1, w1, c3, fun v2 H2 ⟨B2, g2, w2, r2⟩ => ?_⟩⟩
  cases x with
  | dct ks ds =>
    obtain ⟨a, vs, rfl, hd, hl, rs⟩ := rep_dct r1
    have l4 : ((keyOf k).bind fun key => valD ks ds key) = some d := l4
    cases hk : keyOf k with
    | none => rw [hk] at l4; cases l4
    | some key =>
      rw [hk] at l4
      have l4 : valD ks ds key = some d := l4
      rcases rs.val (k := key) hl with ⟨e1, e2⟩ | ⟨dv, vv, e1, e2, rr⟩
      · rw [e1] at l4; cases l4
      · rw [e1] at l4; cases l4
        exact ⟨a, vv, rfl, .inl ⟨_, key, ((hd.mono g2.pub).mono w2.sub).rd, keyOf_rep hk r2, e2.symm⟩, q _ _ (.up g1 ⟨B2, g2, w2, rr.mono _ _ g2.pub⟩)⟩
  | _ => cases l4
end
end Dv
namespace Dv
open PySem PySem.Spec PyProof.Rows L2
section
variable {X : Cx} {G : Gx X.K} {ua : Option Addr} {B H : Hp} {ds : List D} {vs : List V} {ks : List Key}
def itemsK (ks : List Key) (ds : List D) : List D := (ks.zip ds).map fun kd => .pr [keyD kd.1, kd.2]
theorem keyD_kV {K : PySem.W.Frag} {G : Gx K} {ua : Option Addr} {B : Hp} (k : Key) : Rep G ua (keyD k) (kV k) B := by
  cases k with
  | inl i => exact rep_int
  | inr x => exact rep_str
theorem zip_get {α β γ : Type} {ks : List α} {ds : List β} {vs : List γ} (hl : ks.length = vs.length) (hd : ds.length = vs.length) {i : Nat} {k : α} {d : β} (h : (ks.zip ds)[i]? = some (k, d)) : ks[i]? = some k ∧ ds[i]? = some d := by
  rw [List.getElem?_zip_eq_some] at h
  exact h
theorem wk_ditems {a : Addr} {o : Obj} (h : B a = some (.frz o (.dK (ks.zip vs)))) (hl : ks.length = vs.length) (r : Reps G ua ds vs B) : Wk G ua (Iti a o (ks.zip vs)) B (itemsK ks ds) := fun i B' H' u s w => by
  have hq : H' a = some (.frz o (.dK (ks.zip vs))) := w.sub _ _ (s _ _ h)
  have hlen : (itemsK ks ds).length = (ks.zip vs).length := by
    unfold itemsK
    rw [List.length_map, List.length_zip, List.length_zip, r.len]
  refine ⟨fun d hd => ?_, fun hn => ⟨hq, by rw [← hlen]; exact List.getElem?_eq_none_iff.mp hn⟩⟩
  unfold itemsK at hd
  rw [List.getElem?_map] at hd
  obtain ⟨⟨k, e⟩, hke, rfl⟩ := map_some hd
  obtain ⟨hk, he⟩ := zip_get hl (r.len ▸ rfl) hke
  obtain ⟨v, hv, rv⟩ := r.get he
  have hz : (ks.zip vs)[i]? = some (k, v) := List.getElem?_zip_eq_some.mpr ⟨hk, hv⟩
  refine ⟨⟨hq, (List.getElem?_eq_some_iff.mp hz).1⟩, fun x H2 y => ?_⟩
  obtain ⟨T, k', v', h1, rfl, hT, rfl⟩ := y
  rw [hz] at h1; cases h1
  exact .pr w hT (.cons (keyD_kV k) (.cons (rv.mono _ _ s) .nil))
theorem wk_dkeys {a : Addr} {o : Obj} (h : B a = some (.frz o (.dK (ks.zip vs)))) (hl : ks.length = vs.length) : Wk G ua (Itk a o (ks.zip vs)) B (ks.map keyD) := fun i B' H' u s w => by
  have hq : H' a = some (.frz o (.dK (ks.zip vs))) := w.sub _ _ (s _ _ h)
  have hlen : (ks.zip vs).length = ks.length := by rw [List.length_zip, hl, Nat.min_self]
  refine ⟨fun d hd => ?_, fun hn => ⟨hq, by rw [hlen, ← List.length_map (f := keyD)]; exact List.getElem?_eq_none_iff.mp hn⟩⟩
  rw [List.getElem?_map] at hd
  obtain ⟨k, hk, rfl⟩ := map_some hd
  have hi : i < ks.length := (List.getElem?_eq_some_iff.mp hk).1
  refine ⟨⟨hq, by rw [hlen]; exact hi⟩, fun x H2 y => ?_⟩
  obtain ⟨rfl, k', v', h1, rfl⟩ := y
  have : k' = k := by
    have := (List.getElem?_zip_eq_some.mp h1).1
    rw [hk] at this; cases this; rfl
  subst this
  exact .here w (keyD_kV _)
def mDItems (m : M) : MI := fun env u => bnd (m env u) fun d u1 => match d with
  | .dct ks ds => some (itemsK ks ds, u1)
  | _ => none
theorem di_ditems {e : Expr} {m : M} {apos cpos tpos : Pos} {elts : List Expr} {kk : Nat} (he : PE X e (tEv G m)) (hbase : attributeBase e "items" X.env (eval e X.env) = eval e X.env := by rfl) (hline : (apos.endLine == cpos.line) = true := by rfl) :
    PI X (.Tuple elts kk tpos) (.Call (.Attribute e "items" apos) [] [] cpos) (tIt G (mDItems m)) := (pi_items he hbase hline).imp fun σ H R h => by
  obtain ⟨ua, u, B, env, ds, u', hE, hW, hm, q⟩ := h
  obtain ⟨d, u1, h1, h2⟩ := bnd_some hm
  split at h2
  · cases h2
    refine ⟨ua, u, B, env, _, u', hE, hW, h1, fun v H1 ⟨B1, g1, w1, r1⟩ => ?_⟩
    obtain ⟨a, vs, rfl, ⟨o, h⟩, hl, rs⟩ := rep_dct r1
    exact ⟨a, o, _, rfl, w1.sub _ _ h, q _ _ _ g1 w1 (wk_ditems h hl rs)⟩
  · cases h2
/-- going through a list, a tuple, a text, or a dict's keys -/
def mItemsK (m : M) : MI := fun env u => bnd (m env u) fun d u1 => match d with
  | .dct ks _ => some (ks.map keyD, u1)
  | d => lft (itemsD d) u1
theorem di_itemsK {tg e : Expr} {m : M} (he : PE X e (tEv G m)) : PI X tg e (tIt G (mItemsK m)) := by
  refine PI.by fun σ H R h => ?_
  obtain ⟨ua, u, B, env, ds, u', hE, hW, hm, q⟩ := h
  obtain ⟨d, u1, h1, h2⟩ := bnd_some hm
  have other : (∀ ks es, d ≠ .dct ks es) → ∃ t, PI X tg e t ∧ t σ H R := fun hn => by
    have h2 : lft (itemsD d) u1 = some (ds, u') := by
      cases d with
      | dct ks es => exact absurd rfl (hn ks es)
      | _ => exact h2
    exact ⟨_, di_items he, ua, u, B, env, ds, u', hE, hW, by unfold mItems; rw [h1]; exact h2, q⟩
  cases d with
  | dct ks es =>
    cases h2
    refine ⟨_, pi_keys he, ua, u, B, env, _, u', hE, hW, h1, fun v H1 ⟨B1, g1, w1, r1⟩ => ?_⟩
    obtain ⟨a, vs, rfl, ⟨o, h⟩, hl, rs⟩ := rep_dct r1
    exact ⟨a, o, rfl, .inl ⟨_, w1.sub _ _ h, q _ _ _ g1 w1 (wk_dkeys h hl)⟩⟩
  | _ => exact other fun _ _ z => by cases z
end
end Dv
namespace Dv
open PySem L2
theorem hU1 {A : Around} {k : Nat} (hr : Room k A) : A.units + 1 < cLine := by have := hU64 hr; omega
end Dv
namespace Dv
end Dv
namespace Dv
open PySem PySem.Spec PyProof.Rows L2
def turnD (t : Tgt) (own : List Nat) (env : List Sl) (mc : MB) (mk mv : M) : D → U → Option (Option (Key × D) × U) := fun d u => match bindT t d (wipeE env own) with
  | none => none
  | some env' => bnd (mc env' u) fun b u1 => if b = true then bnd (mk env' u1) fun k u2 => bnd (mv env' u2) fun v u3 => match keyOf k with
      | some key => some (some (key, v), u3)
      | none => none
    else some (none, u1)
def foldD (f : D → U → Option (Option (Key × D) × U)) : List D → List Key → List D → U → Option ((List Key × List D) × U)
  | [], ks, vs, u => some ((ks, vs), u)
  | d :: ds, ks, vs, u => bnd (f d u) fun o u1 => match o with
    | some kv => if ks.length < sizeLine then foldD f ds (putD ks vs kv.1 kv.2).1 (putD ks vs kv.1 kv.2).2 u1 else none
    | none => foldD f ds ks vs u1
def vDC (t : Tgt) (own : List Nat) (mi : MI) (mc : MB) (mk mv : M) : MSl := fun env u => bnd (mi env u) fun ds u1 => bnd (foldD (turnD t own env mc mk mv) ds [] [] u1) fun r u2 => some (.own (.dct r.1 r.2), u2)
section
variable {X : Cx} {G : Gx X.K} {mi : MI} {mc : MB} {mk mv : M}
theorem dc_read {t : Tgt} {own : List Nat} {σ : L2.St} {H : Hp} {Q : VK} (ht : ∀ i ∈ t.ids, i ∈ own) (h : tSv G (vDC t own mi mc mk mv) σ H Q) : tDc (tIt G mi) (gOf X.K t) (tTst G mc) (tEv G mk) (tEv G mv) own σ H Q := by
  obtain ⟨ua, u, B, env, s, u', hE, hW, hm, q⟩ := h
  obtain ⟨ds, u1, h1, h2⟩ := bnd_some hm
  obtain ⟨r, u2, h3, h4⟩ := bnd_some h2
  cases h4
  refine ⟨ua, u, B, env, ds, u1, hE, hW, h1, fun J B1 H1 g1 w1 wk Dp hD => ?_⟩
  have hE1 := hE.grow g1
  refine ⟨fun i m H' => m = ds.length - i ∧ i ≤ ds.length ∧ ∃ B' uu ks es vs, Grow ua B1 H1 B' H' ∧ Wd ua uu B' H' ∧ H' Dp = some (.dK (ks.zip vs)) ∧ B' Dp = none ∧ ks.Nodup ∧ ks.length = vs.length ∧ Reps G ua es vs B' ∧ foldD (turnD t own env mc mk mv) (ds.drop i) ks es uu = some (r, u'),
    ⟨ds.length, by omega, by omega, B1, u1, [], [], [], .own1 w1 hD, w1.own1 hD, upd_same, w1.none_of hD, List.nodup_nil, rfl, .nil, h3⟩, ?_⟩
  rintro i m H' ⟨rfl, hi, B', uu, ks, es, vs, g2, w2, hv, hb, hn, hl, rs, hc⟩
  have sB : Same B1 B' := g2.pub
  have nu : ua ≠ some Dp := w1.ne_urn hD
  have hk := wk i B' H' uu sB w2
  by_cases hlt : i < ds.length
  · have hd : ds[i]? = some ds[i] := List.getElem?_eq_getElem hlt
    obtain ⟨hgo, hy⟩ := hk.1 _ hd
    rw [List.drop_eq_getElem_cons hlt] at hc
    obtain ⟨o, u3, c1, c2⟩ := bnd_some (show bnd (turnD t own env mc mk mv ds[i] uu) _ = _ from hc)
    refine .inr ⟨hgo, fun H2 => ∃ B' uu ks es vs, Grow ua B1 H1 B' H2 ∧ Wd ua uu B' H2 ∧ H2 Dp = some (.dK (ks.zip vs)) ∧ B' Dp = none ∧ ks.Nodup ∧ ks.length = vs.length ∧ Reps G ua es vs B' ∧ foldD (turnD t own env mc mk mv) (ds.drop (i + 1)) ks es uu = some (r, u'),
      fun H2 h2 => ⟨ds.length - (i + 1), by omega, rfl, hlt, h2⟩, fun x H2 y => ?_⟩
    obtain ⟨B2, g3, w3, r3⟩ := hy x H2 y
    have hv2 : H2 Dp = some (.dK (ks.zip vs)) := g3.keep _ _ hv nu
    have hb2 : B2 Dp = none := g3.none_of hv hb
    have rs2 := rs.mono _ _ g3.pub
    have hE2 : EnvOk G ua (wipeE env own) (wipe σ own) B2 H2 := ((hE1.wipe own).grow g2).grow g3
    unfold turnD at c1
    split at c1
    · cases c1
    · rename_i env' hbt
      refine bindT_ok hE2 w3 r3 hbt fun σ' hE3 hwp hback => ⟨by rw [hwp own ht, wipe_wipe], ?_⟩
      obtain ⟨b, u5, c5, c6⟩ := bnd_some c1
      refine ⟨ua, uu, B2, env', b, u5, hE3, w3, c5, fun H3 ⟨B3, g4, w4⟩ => ?_⟩
      have hv3 : H3 Dp = some (.dK (ks.zip vs)) := g4.keep _ _ hv2 nu
      have hb3 : B3 Dp = none := g4.none_of hv2 hb2
      have rs3 := rs2.mono _ _ g4.pub
      have gg := g2.trans (g3.trans g4)
      cases b with
      | true =>
        rw [if_pos rfl] at c6
        refine iteT ?_
        obtain ⟨k0, u6, c7, c8⟩ := bnd_some c6
        obtain ⟨v0, u7, c9, c10⟩ := bnd_some c8
        cases hky : keyOf k0 with
        | none => rw [hky] at c10; cases c10
        | some key =>
          rw [hky] at c10
          have c10 : some (some (key, v0), u7) = some (o, u3) := c10
          cases c10
          have c2 : (if ks.length < sizeLine then foldD (turnD t own env mc mk mv) (ds.drop (i + 1)) (putD ks es key v0).1 (putD ks es key v0).2 u3 else none) = some (r, u') := c2
          split at c2
          · rename_i hz
            refine ⟨ua, u5, B3, env', k0, u6, hE3.grow g4, w4, c7, fun yv H4 ⟨B4, g5, w5, r5⟩ => ⟨ua, u6, B4, env', v0, u3, (hE3.grow g4).grow g5, w5, c9, fun zv H5 ⟨B5, g6, w6, r6⟩ => ?_⟩⟩
            have hv4 : H4 Dp = some (.dK (ks.zip vs)) := g5.keep _ _ hv3 nu
            have hb4 : B4 Dp = none := g5.none_of hv3 hb3
            have hv5 : H5 Dp = some (.dK (ks.zip vs)) := g6.keep _ _ hv4 nu
            have hb5 : B5 Dp = none := g6.none_of hv4 hb4
            have rs5 := (rs3.mono _ _ g5.pub).mono _ _ g6.pub
            obtain ⟨ws, q1, q2, q3, _, q5⟩ := putD_rep (j := key) r6 hn hl rs5
            refine ⟨_, key, keyOf_rep hky r5, hv5, by rw [List.length_zip, ← hl, Nat.min_self]; exact hz, B5, u3, (putD ks es key v0).1, (putD ks es key v0).2, ws, ((gg.trans g5).trans g6).put hD, w6.put hb5 nu, ?_, hb5, q5, q2, q3, c2⟩
            rw [upd_same, q1]
          · cases c2
      | false =>
        rw [if_neg Bool.false_ne_true] at c6
        refine iteF ?_
        cases c6
        exact ⟨B3, _, ks, es, vs, gg, w4, hv3, hb3, hn, hl, rs3, c2⟩
  · have e : i = ds.length := by omega
    subst e
    rw [List.drop_length] at hc
    cases hc
    refine .inl ⟨hk.2 (List.getElem?_eq_none (Nat.le_refl _)), q _ _ ⟨B', g1.trans g2, w2, Dp, _, rfl, g1.live _ hD, hv, hb, nu, vs, rfl, hl, rs, hn⟩⟩
variable {kx vx tg iter : Expr} {ifs : List Expr} {scope : Scope} {own : List (Str × Nat)} {pos : Pos}
end
def scalO : Oo → Bool
  | .lst ds => ds.all scalD
  | .dct _ ds => ds.all scalD
  | .dtt _ _ => false
  | .dtn _ _ => false
theorem reps_scal {K : PySem.W.Frag} {G : Gx K} {ua : Option Addr} {B B1 : Hp} : ∀ {ds : List D} {vs : List V}, ds.all scalD = true → Reps G ua ds vs B → Reps G ua ds vs B1
  | [], vs, _, r => by rw [r.of_nil]; exact .nil
  | d :: ds, vs, h, r => by
    obtain ⟨v, t, rfl, r1, r2⟩ := r.of_cons
    rw [List.all_cons, Bool.and_eq_true] at h
    exact .cons (r1.scal h.1) (reps_scal h.2 r2)
theorem RepO.scal {K : PySem.W.Frag} {G : Gx K} {ua : Option Addr} {B B1 : Hp} {o : Oo} {ho : HO} (h : scalO o = true) (r : RepO G ua o ho B) : RepO G ua o ho B1 := by
  cases o with
  | lst ds =>
    obtain ⟨vs, rfl, rs⟩ := r
    exact ⟨vs, rfl, reps_scal h rs⟩
  | dct ks ds =>
    obtain ⟨vs, rfl, hl, rs, hn⟩ := r
    exact ⟨vs, rfl, hl, reps_scal h rs, hn⟩
  | dtt ks ds => cases h
  | dtn ks ds => cases h
section
variable {X : Cx} {G : Gx X.K} {e : Expr} {mv : MSl}
def vPeek (i : Nat) (m : MSl) : MSl := fun env u => match env[i]? with
  | some (.own o) => bnd (m (env.set i (.pub (ooD o))) u) fun s u1 => match s with
    | .own o' => if scalO o' = true then some (.own o', u1) else none
    | _ => none
  | _ => none
end
end Dv
namespace Dv
open PySem PySem.Spec PyProof.Rows L2
def pyD (d : D) : PyData := (toPy d).getD .none
def leG (a b : D) : Bool := W.dataLe false pyD a b
theorem leG_total : W.TotalLe leG := by
  have := W.sortLe_total (PyProof.Rows.listOrd PyProof.Rows.itemOrd) false (fun d : D => W.keyToks (pyD d))
  exact ⟨fun a b c h g => this.trans a b c h g, fun a b => this.total a b⟩
def insG (x : D) : List D → List D
  | [] => [x]
  | y :: r => if leG x y = true then x :: y :: r else y :: insG x r
def sortG : List D → List D
  | [] => []
  | x :: r => insG x (sortG r)
theorem insG_perm (x : D) : ∀ l, (insG x l).Perm (x :: l)
  | [] => .refl _
  | y :: r => by
    unfold insG
    split
    · exact .refl _
    · exact ((insG_perm x r).cons y).trans (.swap x y r)
theorem sortG_perm : ∀ l, (sortG l).Perm l
  | [] => .refl _
  | x :: r => (insG_perm x _).trans ((sortG_perm r).cons x)
abbrev LeG (a b : D) : Prop := leG a b = true
theorem insG_sorted (x : D) : ∀ l : List D, l.Pairwise LeG → (insG x l).Pairwise LeG
  | [], _ => List.pairwise_singleton _ _
  | y :: r, h => by
    have h1 := List.pairwise_cons.mp h
    unfold insG
    split
    · rename_i hl
      refine List.pairwise_cons.mpr ⟨fun z hz => ?_, h⟩
      rcases List.mem_cons.mp hz with rfl | hz
      · exact hl
      · exact leG_total.trans _ _ _ hl (h1.1 z hz)
    · rename_i hl
      refine List.pairwise_cons.mpr ⟨fun z hz => ?_, insG_sorted x r h1.2⟩
      rcases List.mem_cons.mp ((insG_perm x r).subset hz) with rfl | hz
      · exact (leG_total.total _ _).resolve_left hl
      · exact h1.1 z hz
theorem sortG_sorted : ∀ l : List D, (sortG l).Pairwise LeG
  | [] => .nil
  | x :: r => insG_sorted x _ (sortG_sorted r)
theorem insG_rank (x c : D) : ∀ l : List D, (insG x l).filter (W.sameRank leG c) = (x :: l).filter (W.sameRank leG c)
  | [] => rfl
  | y :: r => by
    unfold insG
    split
    · rfl
    · rename_i hl
      rw [List.filter_cons, insG_rank x c r, List.filter_cons, List.filter_cons, List.filter_cons]
      by_cases hx : W.sameRank leG c x = true
      · have hy : ¬ W.sameRank leG c y = true := fun hy => hl (by
          unfold W.sameRank at hx hy
          rw [Bool.and_eq_true] at hx hy
          exact leG_total.trans _ _ _ hx.2 hy.1)
        rw [if_neg hy, if_pos hx, if_pos hx, if_neg hy]
      · rw [if_neg hx, if_neg hx]
theorem sortG_rank (c : D) : ∀ l : List D, (sortG l).filter (W.sameRank leG c) = l.filter (W.sameRank leG c)
  | [] => rfl
  | x :: r => by
    show (insG x (sortG r)).filter _ = _
    rw [insG_rank, List.filter_cons, List.filter_cons, sortG_rank c r]
theorem sortG_eq (l : List D) : sortG l = l.mergeSort leG := W.sort_unique leG_total (sortG_sorted l) fun c => sortG_rank c l
def alikeB (ps : List PyData) : Bool := ps.all fun p => ps.all fun q => W.alike p q
def tupB : PyData → Bool
  | .tuple (_ :: _) => true
  | _ => false
def flatP : PyData → Bool
  | .none => false
  | .tuple _ => false
  | _ => true
def sortableB (ps : List PyData) : Bool := ps.all tupB || ps.all flatP
def okG (ps : List PyData) : Bool := alikeB ps && sortableB ps && ps.all fun p => decide (p.depth ≤ 60)
theorem okG_al {ps : List PyData} (h : okG ps = true) : W.AllAlike ps := fun d hd d' hd' => by
  unfold okG alikeB at h
  rw [Bool.and_eq_true, Bool.and_eq_true] at h
  exact List.all_eq_true.mp (List.all_eq_true.mp h.1.1 d hd) d' hd'
theorem okG_so {ps : List PyData} (h : okG ps = true) : W.Sortable ps := by
  unfold okG sortableB at h
  rw [Bool.and_eq_true, Bool.and_eq_true, Bool.or_eq_true] at h
  rcases h.1.2 with h | h
  · refine .inl fun d hd => ?_
    have := List.all_eq_true.mp h d hd
    unfold tupB at this
    split at this
    · exact ⟨_, _, rfl⟩
    · cases this
  · refine .inr fun d hd => ?_
    have := List.all_eq_true.mp h d hd
    unfold flatP at this
    split at this
    · cases this
    · cases this
    · rename_i h1 h2
      exact ⟨h1, h2⟩
theorem okG_dep {ps : List PyData} (h : okG ps = true) : ∀ p ∈ ps, p.depth ≤ 60 := fun p hp => by
  unfold okG at h
  rw [Bool.and_eq_true] at h
  exact of_decide_eq_true (List.all_eq_true.mp h.2 p hp)
theorem toPys_pyD : ∀ {ds : List D} {ps : List PyData}, toPys ds = some ps → ps = ds.map pyD ∧ ∀ d ∈ ds, toPy d = some (pyD d)
  | [], ps, h => by unfold toPys at h; cases h; exact ⟨rfl, fun d hd => by cases hd⟩
  | d :: ds, ps, h => by
    unfold toPys at h
    cases q : toPy d with
    | none => rw [q] at h; cases h
    | some p =>
      rw [q] at h
      cases q2 : toPys ds with
      | none => rw [q2] at h; cases h
      | some r =>
        rw [q2] at h
        have h : some (p :: r) = some ps := h
        cases h
        obtain ⟨h1, h2⟩ := toPys_pyD q2
        have e : pyD d = p := by unfold pyD; rw [q]; rfl
        refine ⟨by rw [List.map_cons, e, h1], fun x hx => ?_⟩
        rcases List.mem_cons.mp hx with rfl | hx
        · rw [e]; exact q
        · exact h2 x hx
def rSortedG (X : Cx) : List V → Hp → VK → Prop := fun vs H Q => ∃ (a : Addr) (zs : List (V × D)), vs = [.ref a] ∧ SqL X.K H a (zs.map (·.1)) ∧ (∀ z ∈ zs, Dp X.K H z.1 (pyD z.2)) ∧ okG (zs.map fun z => pyD z.2) = true ∧
  ∀ (p : Addr), H p = none → Q (.ref p) (upd H p (.lst ((zs.mergeSort fun x y => leG x.2 y.2).map (·.1))))
theorem vals_eachD {R : Value → V × D → Prop} (hR : ∀ u z, R u z → RelV z.1 u) : ∀ {us : List Value} {zs : List (V × D)}, W.EachIs R us zs → Vals (zs.map (·.1)) us
  | _, _, .nil => .nil
  | _, _, .cons h t => .cons (hR _ _ h) (vals_eachD hR t)
theorem each_valsD : ∀ {zs : List (V × D)} {us : List Value}, Vals (zs.map (·.1)) us → W.EachIs (fun u (z : V × D) => RelV z.1 u) us zs
  | [], us, h => by cases us with
    | nil => exact .nil
    | cons u us => cases h
  | z :: zs, us, h => by cases us with
    | nil => cases h
    | cons u us => cases h with
      | cons h1 h2 => exact .cons h1 (each_valsD h2)
theorem each_readsD {R S : Value → V × D → Prop} : ∀ {us : List Value} {zs : List (V × D)}, W.EachIs R us zs → (∀ u z, z ∈ zs → R u z → S u z) → W.EachIs S us zs
  | _, _, .nil, _ => .nil
  | _, _, .cons h t, f => .cons (f _ _ List.mem_cons_self h) (each_readsD t fun u z hz => f u z (List.mem_cons_of_mem _ hz))
theorem cr_sortedG {X : Cx} (hu : X.A.units + 64 < cLine) : CallR X (.builtin "sorted") (rSortedG X) := by
  intro pins s σ H vs us Q I r h
  obtain ⟨a, zs, rfl, hs, hd, hok, q⟩ := h
  obtain ⟨its, rv, hl, hz⟩ := I.list hs
  obtain ⟨u, rfl, ru⟩ := vals1 r
  obtain rfl : u = Value.ref a := ru
  have e0 := each_valsD rv
  have er : W.EachIs (fun u (z : V × D) => ∃ as, Reads s.heap u (pyD z.2) as) its zs := each_readsD e0 fun u z hz' ru => Dp.reads I _ _ _ (hd z hz') ru
  have hlen : its.length = zs.length := by rw [← rv.length, List.length_map]
  refine W.sorted_data (enc := fun z : V × D => pyD z.2) (R := fun u z => RelV z.1 u) hl.isList e0 er (okG_al hok) (okG_so hok) (by rw [← hlen, ← rv.length]; exact hz) (fun b hb => by
    have := okG_dep hok (pyD b.2) (List.mem_map.mpr ⟨b, hb, rfl⟩)
    omega) fun out ho eo => ?_
  obtain ⟨ys, hys⟩ : ∃ ys, ys = zs.mergeSort (W.dataLe false fun z : V × D => pyD z.2) := ⟨_, rfl⟩
  have hperm : ys.Perm zs := by rw [hys]; exact List.mergeSort_perm _ _
  rw [← hys] at eo
  obtain ⟨c, hc⟩ := PyProof.Rows.sortedAll_at s.heap its out.toArray
  refine ⟨.ref (s.heap.objs.size + 1), upd H (s.heap.objs.size + 1) (.lst (ys.map (·.1))), I.laid (t' := s.toks) (fun b o e => PyProof.Rows.sortedAll_old e) (Nat.le_succ _) ⟨?_, out, c, vals_eachD (fun _ _ h => h) eo, hc⟩, rfl, ?_⟩
  · rw [List.length_map, hperm.length_eq, ← hlen, ← rv.length]; exact hz
  · have := q (s.heap.objs.size + 1) (I.hok.fresh (Nat.le_succ _))
    rw [hys]
    exact this
def sortP (ds : List D) : Option D := (toPys ds).bind fun ps => if okG ps = true then some (.lst (sortG ds)) else none
def bSortB : List D → Option D
  | [.lst ds] => match bSortA [.lst ds] with
    | some d => some d
    | none => sortP ds
  | _ => none
theorem rep_all {K : PySem.W.Frag} {G : Gx K} {ua : Option Addr} {B H : Hp} (sub : Same B H) : ∀ {ds : List D} {vs : List V}, (∀ d ∈ ds, toPy d = some (pyD d)) → Reps G ua ds vs B → ∃ zs : List (V × D), zs.map (·.1) = vs ∧ zs.map (·.2) = ds ∧ ∀ z ∈ zs, Rep G ua z.2 z.1 B ∧ Dp K H z.1 (pyD z.2)
  | [], vs, _, r => ⟨[], by rw [r.of_nil]; rfl, rfl, fun z hz => by cases hz⟩
  | d :: ds, vs, h, r => by
    obtain ⟨v, t, rfl, r1, r2⟩ := r.of_cons
    obtain ⟨zs, h1, h2, h3⟩ := rep_all sub (fun x hx => h x (List.mem_cons_of_mem _ hx)) r2
    refine ⟨(v, d) :: zs, by rw [List.map_cons, h1], by rw [List.map_cons, h2], fun z hz => ?_⟩
    rcases List.mem_cons.mp hz with rfl | hz
    · exact ⟨r1, rep_dp sub _ _ _ (h d List.mem_cons_self) r1⟩
    · exact h3 z hz
theorem reps_ofD {K : PySem.W.Frag} {G : Gx K} {ua : Option Addr} {B : Hp} : ∀ {zs : List (V × D)}, (∀ z ∈ zs, Rep G ua z.2 z.1 B) → Reps G ua (zs.map (·.2)) (zs.map (·.1)) B
  | [], _ => .nil
  | z :: zs, h => .cons (h z List.mem_cons_self) (reps_ofD fun y hy => h y (List.mem_cons_of_mem _ hy))
theorem ok_sortB {X : Cx} {G : Gx X.K} (hu : X.A.units + 64 < cLine) : BiOk G (.builtin "sorted") bSortB := by
  intro ua u B H ds d vs e rs w
  unfold bSortB at e
  split at e
  · rename_i ds
    split at e
    · rename_i d' hd
      cases e
      exact ok_sortA hu ua u B H _ _ vs hd rs w
    · unfold sortP at e
      cases q : toPys ds with
      | none => rw [q] at e; cases e
      | some ps =>
        rw [q] at e
        have e : (if okG ps = true then some (D.lst (sortG ds)) else none) = some d := e
        split at e
        · rename_i hok
          cases e
          obtain ⟨hp, hpy⟩ := toPys_pyD q
          obtain ⟨v, t, rfl, r1, r2⟩ := rs.of_cons
          rw [r2.of_nil]
          obtain ⟨a, ys, rfl, h, r3⟩ := r1.lst
          obtain ⟨zs, h1, h2, h3⟩ := rep_all w.sub hpy r3
          refine ⟨_, cr_sortedG hu, a, zs, rfl, by rw [h1]; exact .of (w.sub _ _ h), fun z hz => (h3 z hz).2, ?_, fun p hn => ?_⟩
          · rw [show (zs.map fun z => pyD z.2) = (zs.map (·.2)).map pyD from by rw [List.map_map]; rfl, h2, ← hp]; exact hok
          · have hm : (zs.mergeSort fun x y => leG x.2 y.2).map (·.2) = sortG ds := by
              rw [sortG_eq, ← h2]
              exact W.sort_maps (f := fun z : V × D => z.2) fun a _ b _ => rfl
            rw [← hm]
            exact .lst w hn (reps_ofD fun z hz => (h3 z ((List.mergeSort_perm _ _).mem_iff.mp hz)).1)
        · cases e
  · cases e
end Dv
namespace Dv
open PySem PySem.Spec PyProof.Rows L2
section
variable {X : Cx} {G : Gx X.K} {W : WX} {a b e : Expr} {ma mb me : M} {pos : Pos}
/-- a + b, lists: a new list -/
def vAdd (ma mb : M) : MSl := fun env u => bnd (ma env u) fun x u1 => bnd (mb env u1) fun y u2 => match x, y with
  | .lst ds, .lst es => if ds.length + es.length ≤ sizeLine then some (.own (.lst (ds ++ es)), u2) else none
  | _, _ => none
theorem dv_oAdd (ha : PE X a (tEv G ma)) (hb : PE X b (tEv G mb)) : PE X (.BinOp a .Add b pos) (tSv G (vAdd ma mb)) := by
  refine (pe_op op_cat ha hb).imp fun σ H Q z => ?_
  obtain ⟨ua, u, B, env, s, u', hE, hW, hm, q⟩ := z
  obtain ⟨x, u1, c1, c2⟩ := bnd_some hm
  obtain ⟨y, u2, c3, c4⟩ := bnd_some c2
  refine ⟨ua, u, B, env, x, u1, hE, hW, c1, fun v H1 ⟨B1, g1, w1, r1⟩ => ⟨ua, u1, B1, env, y, u2, hE.grow g1, w1, c3, fun v2 H2 ⟨B2, g2, w2, r2⟩ => ?_⟩⟩
  split at c4
  · split at c4
    · cases c4
      obtain ⟨p, xs, rfl, h1, s1⟩ := r1.lst
      obtain ⟨p2, ys, rfl, h2, s2⟩ := r2.lst
      have s1' := s1.mono _ _ g2.pub
      refine ⟨p, p2, xs, ys, rfl, rfl, w2.sub _ _ (g2.pub _ _ h1), w2.sub _ _ h2, by rw [← s1.len, ← s2.len]; assumption, fun l hl => ?_⟩
      exact q _ _ ⟨B2, (g1.trans g2).trans (.own1 w2 hl), w2.own1 hl, l, _, rfl, g1.live _ (g2.live _ hl), upd_same, w2.none_of hl, w2.ne_urn hl, _, rfl, s1'.append s2⟩
    · cases c4
  · cases c4
/-- a, b = e, f by way of a tuple -/
theorem ds_parvC (i j : Nat) {f : Expr} {mv mw : MSl} {x y : Str} {px py pt pt2 : Pos} {kt k2 : Nat} (hc : X.calm = true) (hN : X.N.Nodup) (ha : PE X e (tSv G mv)) (hb : PE X f (tSv G mw)) (hi : X.N[i]? = some x := by rfl) (hj : X.N[j]? = some y := by rfl) (hx : Loc X.env.scope x := by first | exact Or.inl rfl | exact Or.inr rfl) (hy : Loc X.env.scope y := by first | exact Or.inl rfl | exact Or.inr rfl)
    (hfx : X.fn x = true ∨ X.env.scope.names.lookup x = some .local := by first | exact .inl rfl | exact .inr rfl | assumption) (hfy : X.fn y = true ∨ X.env.scope.names.lookup y = some .local := by first | exact .inl rfl | exact .inr rfl | assumption)
    (hs : swapsWithSole [.Tuple [.Name x px, .Name y py] kt pt] (.Tuple [e, f] k2 pt2) pos.line X.env = pure false := by rfl) (hw : swappedStores [.Tuple [.Name x px, .Name y py] kt pt] (.Tuple [e, f] k2 pt2) X.env = pure none := by rfl)
    (h1 : (assignEach [.Tuple [.Name x px, .Name y py] kt pt] X.env).map (·.2) = [assign (.Tuple [.Name x px, .Name y py] kt pt) X.env] := by rfl)
    (he1 : starEach (e :: [f]) X.env = (false, eval e X.env) :: starEach [f] X.env := by rfl) (he2 : starEach (f :: []) X.env = (false, eval f X.env) :: starEach [] X.env := by rfl) :
    PS X (.Assign [.Tuple [.Name x px, .Name y py] kt pt] (.Tuple [e, f] k2 pt2) pos) (tSt G W (sParv i j mv mw)) :=
  (ps_asg (pe_tup (pa_cons ha (pa_cons hb pa_nil he2) he1)) (pg_tup hc (pgs_cons (pg_name hN hi hx hfx) (pgs_cons (pg_name hN hj hy hfy) pgs_nil)) (n := 2)) hs hw h1).imp fun Dn σ H h => by
  obtain ⟨ua, u, B, env, fl, u', B0, H0, hg, hO, hE, hW, hm, q⟩ := h
  obtain ⟨s, u1, c1, c2⟩ := bnd_some hm
  obtain ⟨s2, u2, c3, c4⟩ := bnd_some c2
  cases c4
  refine ⟨ua, u, B, env, s, u1, hE, hW, c1, fun v H1 ⟨B1, g1, w1, r1⟩ => ⟨ua, u1, B1, env, s2, _, hE.grow g1, w1, c3, fun v2 H2 ⟨B2, g2, w2, r2⟩ => ⟨by show 2 ≤ sizeLine; decide, fun T hT => ?_⟩⟩⟩
  have g3 : Grow ua B2 H2 B2 (upd H2 T (.tup [v, v2])) := .own1 w2 hT
  have w3 : Wd ua u' B2 (upd H2 T (.tup [v, v2])) := w2.own1 hT
  refine ⟨T, [v, v2], rfl, .of upd_same, rfl, _, _, rfl, _, _, rfl, rfl, ?_⟩
  have gg := (g1.trans g2).trans g3
  have r1' := (r1.grow g2).grow g3
  have r2' := r2.grow g3
  have ea := r1'.store (hE.grow gg) i hE.far
  have oa := r1.news hO hg.live i
  refine q _ B2 _ (hg.trans gg) (r2.news oa (fun a z => hg.live _ (g1.live _ z)) j) (r2'.store ea j fun k es p z1 z2 => ?_) w3
  exact ((r1.store (hE.grow g1) i hE.far).far k es p z1 z2)
end
end Dv
namespace Dv
open PySem PySem.Spec PyProof.Rows L2
def turnL2 (t : Tgt) (own : List Nat) (env : List Sl) (mc : MB) (t2 : Tgt) (own2 : List Nat) (mi2 : MI) (mc2 : MB) (me : M) : D → U → Option (List D × U) := fun d u => match bindT t d (wipeE env own) with
  | none => none
  | some env' => bnd (mc env' u) fun b u1 => if b = true then bnd (mi2 env' u1) fun ds u2 => compL (turnL t2 own2 env' mc2 me) ds u2 else some ([], u1)
def compL2 (f : D → U → Option (List D × U)) : List D → U → Option (List D × U)
  | [], u => some ([], u)
  | d :: ds, u => bnd (f d u) fun r u1 => bnd (compL2 f ds u1) fun r2 u2 => some (r ++ r2, u2)
def mLc2 (t : Tgt) (own : List Nat) (mi : MI) (mc : MB) (t2 : Tgt) (own2 : List Nat) (mi2 : MI) (mc2 : MB) (me : M) : M := fun env u => bnd (mi env u) fun ds u1 => bnd (compL2 (turnL2 t own env mc t2 own2 mi2 mc2 me) ds u1) fun r u2 => if r.length ≤ sizeLine then some (.lst r, u2) else none
section
variable {X : Cx} {G : Gx X.K} {mi mi2 : MI} {mc mc2 : MB} {me : M}
theorem EnvOk.updN {K : PySem.W.Frag} {G : Gx K} {ua : Option Addr} {env : List Sl} {σ : List (Option V)} {B H : Hp} {p : Addr} {o : HO} (e : EnvOk G ua env σ B H) (far : ∀ (j : Nat) es q, env[j]? = some (Sl.own es) → σ[j]? = some (some (V.ref q)) → q ≠ p) : EnvOk G ua env σ B (upd H p o) :=
  ⟨e.len, e.pub, fun i ds h => by
    obtain ⟨q, ho, h1, h2, h3⟩ := e.own i ds h
    exact ⟨q, ho, h1, by rw [upd_ne (far i ds q h h1)]; exact h2, h3⟩, e.inj⟩
theorem lc2_read {t t2 : Tgt} {own own2 : List Nat} {σ : L2.St} {H : Hp} {Q : VK} (ht : ∀ i ∈ t.ids, i ∈ own) (ht2 : ∀ i ∈ t2.ids, i ∈ own2) (h22 : ∀ i ∈ t2.ids, i ∈ own) (h : tEv G (mLc2 t own mi mc t2 own2 mi2 mc2 me) σ H Q) : tLc2 (tIt G mi) (gOf X.K t) (tTst G mc) (tIt G mi2) (gOf X.K t2) (tTst G mc2) (tEv G me) own own2 σ H Q := by
  obtain ⟨ua, u, B, env, d, u', hE, hW, hm, q⟩ := h
  obtain ⟨ds, u1, h1, h2⟩ := bnd_some hm
  obtain ⟨r, u2, h3, h4⟩ := bnd_some h2
  split at h4
  · rename_i hr
    cases h4
    refine ⟨ua, u, B, env, ds, u1, hE, hW, h1, fun J B1 H1 g1 w1 wk => ?_⟩
    have hE1 := hE.grow g1
    have q : ∀ v H', Aft G ua B1 H1 u' (.lst r) v H' → Q v H' := fun v H' a => q v H' (.up g1 a)
    intro Dp hD
    refine ⟨fun i m H' => m = ds.length - i ∧ i ≤ ds.length ∧ ∃ B' uu done vs rest, Grow ua B1 H1 B' H' ∧ Wd ua uu B' H' ∧ H' Dp = some (.lst vs) ∧ B' Dp = none ∧ Reps G ua done vs B' ∧ compL2 (turnL2 t own env mc t2 own2 mi2 mc2 me) (ds.drop i) uu = some (rest, u') ∧ done ++ rest = r,
      ⟨ds.length, by omega, by omega, B1, u1, [], [], r, .own1 w1 hD, w1.own1 hD, upd_same, w1.none_of hD, .nil, h3, rfl⟩, ?_⟩
    rintro i m H' ⟨rfl, hi, B', uu, done, vs, rest, g2, w2, hv, hb, rs, hc, hcat⟩
    have nu : ua ≠ some Dp := w1.ne_urn hD
    have hk := wk i B' H' uu g2.pub w2
    by_cases hlt : i < ds.length
    · have hd : ds[i]? = some ds[i] := List.getElem?_eq_getElem hlt
      obtain ⟨hgo, hy⟩ := hk.1 _ hd
      rw [List.drop_eq_getElem_cons hlt] at hc
      obtain ⟨ro, u3, c1, c2⟩ := bnd_some (show bnd (turnL2 t own env mc t2 own2 mi2 mc2 me ds[i] uu) _ = _ from hc)
      obtain ⟨rest', u4, c3, c4⟩ := bnd_some c2
      cases c4
      refine .inr ⟨hgo, fun H2 => ∃ B' uu done vs rest, Grow ua B1 H1 B' H2 ∧ Wd ua uu B' H2 ∧ H2 Dp = some (.lst vs) ∧ B' Dp = none ∧ Reps G ua done vs B' ∧ compL2 (turnL2 t own env mc t2 own2 mi2 mc2 me) (ds.drop (i + 1)) uu = some (rest, u') ∧ done ++ rest = r,
        fun H2 h2 => ⟨ds.length - (i + 1), by omega, rfl, hlt, h2⟩, fun x H2 y => ?_⟩
      obtain ⟨B2, g3, w3, r3⟩ := hy x H2 y
      have hv2 : H2 Dp = some (.lst vs) := g3.keep _ _ hv nu
      have hb2 : B2 Dp = none := g3.none_of hv hb
      have rs2 := rs.mono _ _ g3.pub
      have hE2 : EnvOk G ua (wipeE env own) (wipe σ own) B2 H2 := ((hE1.wipe own).grow g2).grow g3
      unfold turnL2 at c1
      split at c1
      · cases c1
      · rename_i env' hbt
        refine bindT_ok hE2 w3 r3 hbt fun σ' hE3 hwp hback => ⟨by rw [hwp own ht, wipe_wipe], ?_⟩
        obtain ⟨b, u5, c5, c6⟩ := bnd_some c1
        have farp : ∀ (j : Nat) es p, env'[j]? = some (Sl.own es) → σ'[j]? = some (some (V.ref p)) → p ≠ Dp := fun j es p z1 z2 e => by
          obtain ⟨z3, z4⟩ := bindT_own hbt j es z1
          exact (hE1.wipe own).far j es p z3 (hback j _ z2 z4) (by rw [e]; exact hD)
        refine ⟨ua, uu, B2, env', b, u5, hE3, w3, c5, fun H3 ⟨B3, g4, w4⟩ => ?_⟩
        have hv3 : H3 Dp = some (.lst vs) := g4.keep _ _ hv2 nu
        have hb3 : B3 Dp = none := g4.none_of hv2 hb2
        have rs3 := rs2.mono _ _ g4.pub
        have gg := g2.trans (g3.trans g4)
        cases b with
        | true =>
          rw [if_pos rfl] at c6
          refine iteT ?_
          obtain ⟨ds2, u6, c7, c8⟩ := bnd_some c6
          refine ⟨ua, u5, B3, env', ds2, u6, hE3.grow g4, w4, c7, fun J1 B4 H4 g5 w5 wk1 => ?_⟩
          have hv4 : H4 Dp = some (.lst vs) := g5.keep _ _ hv3 nu
          have hb4 : B4 Dp = none := g5.none_of hv3 hb3
          have rs4 := rs3.mono _ _ g5.pub
          have gg4 := gg.trans g5
          have hE4 := (hE3.grow g4).grow g5
          refine ⟨fun j k H => k = ds2.length - j ∧ j ≤ ds2.length ∧ ∃ B' uu done2 vs rest2, (Same B4 B' ∧ EnvOk G ua env' σ' B' H) ∧ Grow ua B1 H1 B' H ∧ Wd ua uu B' H ∧ H Dp = some (.lst vs) ∧ B' Dp = none ∧ Reps G ua (done ++ done2) vs B' ∧ compL (turnL t2 own2 env' mc2 me) (ds2.drop j) uu = some (rest2, u3) ∧ done2 ++ rest2 = ro,
            ⟨ds2.length, by omega, by omega, B4, u6, [], vs, ro, ⟨fun _ _ z => z, hE4⟩, gg4, w5, hv4, hb4, by rw [List.append_nil]; exact rs4, c8, rfl⟩, ?_⟩
          rintro j k H5 ⟨rfl, hj, B5, uu5, done2, vs5, rest2, ⟨gl, hE5⟩, gt, w6, hv5, hb5, rs5, hc5, hcat5⟩
          have hk1 := wk1 j B5 H5 uu5 gl w6
          by_cases hlt2 : j < ds2.length
          · have hd2 : ds2[j]? = some ds2[j] := List.getElem?_eq_getElem hlt2
            obtain ⟨hgo2, hy2⟩ := hk1.1 _ hd2
            rw [List.drop_eq_getElem_cons hlt2] at hc5
            obtain ⟨o, u7, e1, e2⟩ := bnd_some (show bnd (turnL t2 own2 env' mc2 me ds2[j] uu5) _ = _ from hc5)
            obtain ⟨rest3, u8, e3, e4⟩ := bnd_some e2
            refine .inr ⟨hgo2, fun H => ∃ B' uu done2 vs rest2, (Same B4 B' ∧ EnvOk G ua env' σ' B' H) ∧ Grow ua B1 H1 B' H ∧ Wd ua uu B' H ∧ H Dp = some (.lst vs) ∧ B' Dp = none ∧ Reps G ua (done ++ done2) vs B' ∧ compL (turnL t2 own2 env' mc2 me) (ds2.drop (j + 1)) uu = some (rest2, u3) ∧ done2 ++ rest2 = ro,
              fun H z => ⟨ds2.length - (j + 1), by omega, rfl, hlt2, z⟩, fun x2 H6 y2 => ?_⟩
            obtain ⟨B6, g6, w7, r6⟩ := hy2 x2 H6 y2
            have hv6 : H6 Dp = some (.lst vs5) := g6.keep _ _ hv5 nu
            have hb6 : B6 Dp = none := g6.none_of hv5 hb5
            have rs6 := rs5.mono _ _ g6.pub
            have hE6 : EnvOk G ua (wipeE env' own2) (wipe σ' own2) B6 H6 := (hE5.wipe own2).grow g6
            unfold turnL at e1
            split at e1
            · cases e1
            · rename_i env2 hbt2
              refine bindT_ok hE6 w7 r6 hbt2 fun σ3 hE7 hwp2 hback2 => ⟨by rw [hwp2 own2 ht2, wipe_wipe], ?_⟩
              obtain ⟨b2, u9, e5, e6⟩ := bnd_some e1
              refine ⟨ua, uu5, B6, env2, b2, u9, hE7, w7, e5, fun H7 ⟨B7, g7, w8⟩ => ?_⟩
              have hv7 : H7 Dp = some (.lst vs5) := g7.keep _ _ hv6 nu
              have hb7 : B7 Dp = none := g7.none_of hv6 hb6
              have rs7 := rs6.mono _ _ g7.pub
              have gl7 : Same B4 B7 := fun a o z => g7.pub _ _ (g6.pub _ _ (gl a o z))
              have hE57 := (hE5.grow g6).grow g7
              have gt7 := gt.trans (g6.trans g7)
              cases b2 with
              | true =>
                rw [if_pos rfl] at e6
                refine iteT ?_
                obtain ⟨x', u10, e7, e8⟩ := bnd_some e6
                cases e8
                cases e4
                refine ⟨ua, u9, B7, env2, x', u7, hE7.grow g7, w8, e7, fun yv H8 ⟨B8, g8, w9, r8⟩ => ?_⟩
                have hv8 : H8 Dp = some (.lst vs5) := g8.keep _ _ hv7 nu
                have hb8 : B8 Dp = none := g8.none_of hv7 hb7
                have rs8 := rs7.mono _ _ g8.pub
                refine ⟨vs5, hv8, ?_, B8, u7, done2 ++ [x'], vs5 ++ [yv], rest3, ⟨fun a o z => g8.pub _ _ (gl7 a o z), (hE57.grow g8).updN farp⟩, (gt7.trans g8).put hD, w9.put hb8 nu, upd_same, hb8, by rw [← List.append_assoc]; exact rs8.append (.cons r8 .nil), e3, by rw [← hcat5]; simp⟩
                have z1 := congrArg List.length hcat
                have z2 := congrArg List.length hcat5
                have z3 := rs8.len
                simp only [List.length_append, List.length_cons] at z1 z2 z3
                omega
              | false =>
                rw [if_neg Bool.false_ne_true] at e6
                refine iteF ?_
                cases e6
                cases e4
                exact ⟨B7, _, done2, vs5, rest3, ⟨gl7, hE57⟩, gt7, w8, hv7, hb7, rs7, e3, hcat5⟩
          · have e : j = ds2.length := by omega
            subst e
            rw [List.drop_length] at hc5
            cases hc5
            rw [List.append_nil] at hcat5
            subst hcat5
            exact .inl ⟨hk1.2 (List.getElem?_eq_none (Nat.le_refl _)), B5, u3, done ++ done2, vs5, rest', gt, w6, hv5, hb5, rs5, c3, by rw [← hcat, List.append_assoc]⟩
        | false =>
          rw [if_neg Bool.false_ne_true] at c6
          refine iteF ?_
          cases c6
          exact ⟨B3, _, done, vs, rest', gg, w4, hv3, hb3, rs3, c3, hcat⟩
    · have e : i = ds.length := by omega
      subst e
      rw [List.drop_length] at hc
      cases hc
      rw [List.append_nil] at hcat
      subst hcat
      refine .inl ⟨hk.2 (List.getElem?_eq_none (Nat.le_refl _)), q _ _ ⟨upd B' Dp (.lst vs), g2.show hD hb, w2.show hv nu, ?_⟩⟩
      unfold Rep
      exact ⟨Dp, vs, rfl, upd_same, rs.mono _ _ (same_new hb)⟩
  · cases h4
variable {elt tg iter tg1 iter1 : Expr} {ifs ifs1 : List Expr} {scope : Scope} {own : List (Str × Nat)} {pos : Pos}
theorem ds_setLc2 {W : WX} (i : Nat) {y : Str} {py spos : Pos} (t : Tgt) (ids : List Nat) (t2 : Tgt) (ids2 : List Nat) (hc : X.calm = true) (hN : X.N.Nodup)
    (hsw : swapsWith (.ListComp elt [⟨tg, iter, ifs, 0⟩, ⟨tg1, iter1, ifs1, 0⟩] scope pos) (some (.Name y py)) spos.line X.env = pure true) (hi : PI X tg iter (tIt G mi)) (ok : BlkOk X.N X.env.scope scope own) (hid : own.map (·.2) = ids) (ht : ∀ i ∈ t.ids, i ∈ ids) (ht2 : ∀ i ∈ t2.ids, i ∈ ids2) (hv : ∀ i ∈ ids2, i ∈ ids)
    (hg : ∀ (s : Shared) (H : Hp) (C : Addr) (cl : List (Str × Addr)) (fp : List Addr), PG (X.blk s H scope (compEnvC scope cl C X.env) fp) tg (gOf X.K t)) (hq : ∀ (s : Shared) (H : Hp) (C : Addr) (cl : List (Str × Addr)) (fp : List Addr), PTs (X.blk s H scope (compEnvC scope cl C X.env) fp) ifs (tTst (K := X.K) G mc))
    (hi1 : ∀ (s : Shared) (H : Hp) (C : Addr) (cl : List (Str × Addr)) (fp : List Addr), PI (X.blk s H scope (compEnvC scope cl C X.env) fp) tg1 iter1 (tIt (K := X.K) G mi2)) (hg1 : ∀ (s : Shared) (H : Hp) (C : Addr) (cl : List (Str × Addr)) (fp : List Addr), PG (X.blk s H scope (compEnvC scope cl C X.env) fp) tg1 (gOf X.K t2)) (hq1 : ∀ (s : Shared) (H : Hp) (C : Addr) (cl : List (Str × Addr)) (fp : List Addr), PTs (X.blk s H scope (compEnvC scope cl C X.env) fp) ifs1 (tTst (K := X.K) G mc2))
    (he : ∀ (s : Shared) (H : Hp) (C : Addr) (cl : List (Str × Addr)) (fp : List Addr), PE (X.blk s H scope (compEnvC scope cl C X.env) fp) elt (tEv (K := X.K) G me)) (hy : X.N[i]? = some y := by rfl) (hyl : X.env.scope.names.lookup y = some .local := by rfl) (hs : ∀ x, foldedSetIterable iter X.env x = pure x := by intro _; rfl) (hs1 : ∀ env x, foldedSetIterable iter1 env x = pure x := by intro _ _; rfl) :
    PS X (.Assign [.Name y py] (.ListComp elt [⟨tg, iter, ifs, 0⟩, ⟨tg1, iter1, ifs1, 0⟩] scope pos) spos) (tSt G W (sSet i (mLc2 t ids mi mc t2 ids2 mi2 mc2 me))) := by
  subst hid
  refine (ps_setLc2 (hc := hc) (hN := hN) (hy := hy) (hyl := hyl) (hsw := hsw) (hi := hi) (ok := ok) (hv := hv) (hg := hg) (ht := hq) (hi1 := hi1) (hg1 := hg1) (ht1 := hq1) (he := he) (hs := hs) (hs1 := hs1)).imp fun Dn σ H h => ?_
  obtain ⟨ua, u, B, env, fl, u', B0, H0, hg, hO, hE, hW, hm, q⟩ := h
  obtain ⟨d, u1, c1, c2⟩ := bnd_some hm
  cases c2
  exact lc2_read ht ht2 (fun i hi => hv i (ht2 i hi)) ⟨ua, u, B, env, d, _, hE, hW, c1, fun v H1 ⟨B1, g1, w1, r1⟩ => q _ B1 H1 (hg.trans g1) (hO.set i d v) ((hE.grow g1).set r1 i) w1⟩
end
end Dv
namespace Dv
open PySem PySem.Spec PyProof.Rows L2
/-- a text of real code points -/
def TxO (x : Str) : Prop := PyData.strOk x = true
theorem toPys_map {α : Type} {f : α → D} {g : α → PyData} : ∀ {l : List α}, (∀ a ∈ l, toPy (f a) = some (g a)) → toPys (l.map f) = some (l.map g)
  | [], _ => by simp [toPys]
  | a :: l, h => by
    rw [List.map_cons, List.map_cons]
    unfold toPys
    rw [h a List.mem_cons_self, toPys_map fun b hb => h b (List.mem_cons_of_mem _ hb)]
    rfl
theorem lay_map {α : Type} {g : α → PyData} : ∀ {l : List α}, (∀ a ∈ l, (g a).canLay0 = true) → PyData.canLayAll0 (l.map g) = true
  | [], _ => by simp [PyData.canLayAll0]
  | a :: l, h => by
    rw [List.map_cons]
    unfold PyData.canLayAll0
    rw [h a List.mem_cons_self, lay_map fun b hb => h b (List.mem_cons_of_mem _ hb)]
    rfl
theorem depth_map {α : Type} {g : α → PyData} {n : Nat} : ∀ {l : List α}, (∀ a ∈ l, (g a).depth ≤ n) → PyData.depthAll (l.map g) ≤ n
  | [], _ => by simp [PyData.depthAll]
  | a :: l, h => by
    rw [List.map_cons]
    unfold PyData.depthAll
    exact Nat.max_le.mpr ⟨h a List.mem_cons_self, depth_map fun b hb => h b (List.mem_cons_of_mem _ hb)⟩
theorem shaped_tup {α : Type} {g : α → PyData} {n : Nat} {l : List α} (h : ∀ a ∈ l, (g a).canLay0 = true) (d : ∀ a ∈ l, (g a).depth ≤ n) (hn : n < 64) : SeqAt.shaped (.tuple (l.map g)) = true := by
  unfold SeqAt.shaped
  rw [Bool.and_eq_true]
  refine ⟨by simp only [PyData.canLay0]; exact lay_map h, decide_eq_true ?_⟩
  have := depth_map d
  unfold PyData.depth
  omega
theorem eqvAll_dec {α : Type} [DecidableEq α] {f : α → PyData} : ∀ {l m : List α}, (∀ a ∈ l, ∀ b ∈ m, PyData.eqv (f a) (f b) = decide (a = b)) → PyData.eqvAll (l.map f) (m.map f) = decide (l = m)
  | [], [], _ => by simp [PyData.eqvAll]
  | [], b :: m, _ => by simp [PyData.eqvAll]
  | a :: l, [], _ => by simp [PyData.eqvAll]
  | a :: l, b :: m, h => by
    rw [List.map_cons, List.map_cons]
    unfold PyData.eqvAll
    rw [h a List.mem_cons_self b List.mem_cons_self, eqvAll_dec fun x hx y hy => h x (List.mem_cons_of_mem _ hx) y (List.mem_cons_of_mem _ hy)]
    rw [← Bool.decide_and]
    exact decide_eq_decide.mpr ⟨fun ⟨h1, h2⟩ => by rw [h1, h2], fun h => ⟨(List.cons.inj h).1, (List.cons.inj h).2⟩⟩
abbrev Dd := Bool × Str
def wdS (b : Bool) : Str := if b = true then ("write" : Str) else ("flush" : Str)
theorem wdS_inj {a b : Bool} : (wdS a = wdS b) ↔ a = b := by
  cases a <;> cases b <;> simp only [wdS, if_true, Bool.false_eq_true, if_false, reduceCtorEq, iff_false, iff_true] <;> first | trivial | decide +kernel
theorem wdS_ok (b : Bool) : PyData.strOk (wdS b) = true := by cases b <;> decide +kernel
def deedD (p : Dd) : D := .tup [.str (wdS p.1), .str p.2]
def deedP (p : Dd) : PyData := .tuple [.str (wdS p.1), .str p.2]
theorem deed_py (p : Dd) : toPy (deedD p) = some (deedP p) := by simp [deedD, deedP, toPy, toPys]
theorem deed_lay {p : Dd} (h : TxO p.2) : (deedP p).canLay0 = true := by
  have h : PyData.strOk p.2 = true := h
  simp [deedP, PyData.canLay0, PyData.canLayAll0, wdS_ok, h]
theorem deed_dep (p : Dd) : (deedP p).depth ≤ 1 := by simp [deedP, PyData.depth, PyData.depthAll]
theorem deed_eqv (p q : Dd) : PyData.eqv (deedP p) (deedP q) = decide (p = q) := by
  simp only [deedP, PyData.eqv, PyData.eqvAll, Bool.and_true]
  have e : p = q ↔ p.1 = q.1 ∧ p.2 = q.2 := ⟨fun h => by rw [h]; exact ⟨rfl, rfl⟩, fun h => Prod.ext h.1 h.2⟩
  rw [show (wdS p.1 == wdS q.1) = decide (p.1 = q.1) from by rw [← decide_eq_decide.mpr (wdS_inj (a := p.1) (b := q.1))]; rfl, show (p.2 == q.2) = decide (p.2 = q.2) from rfl, ← Bool.decide_and]
  exact (decide_eq_decide.mpr e).symm
def AllTx (ds : List Dd) : Prop := ∀ p ∈ ds, TxO p.2
theorem deeds_py {ds : List Dd} : toPys (ds.map deedD) = some (ds.map deedP) := toPys_map fun p _ => deed_py p
theorem deeds_shaped {ds : List Dd} (h : AllTx ds) : SeqAt.shaped (.tuple (ds.map deedP)) = true := shaped_tup (n := 1) (fun p hp => deed_lay (h p hp)) (fun p _ => deed_dep p) (by decide)
theorem eq_deeds {ds es : List Dd} (h : AllTx ds) (g : AllTx es) : eqD (.tup (ds.map deedD)) (.tup (es.map deedD)) = some (decide (ds = es)) := by
  have e : ∀ ds : List Dd, toPy (.tup (ds.map deedD)) = some (.tuple (ds.map deedP)) := fun ds => by unfold toPy; rw [deeds_py]; rfl
  unfold eqD
  simp only [e]
  rw [if_pos ⟨deeds_shaped h, deeds_shaped g⟩]
  simp only [PyData.eqv]
  rw [eqvAll_dec fun a _ b _ => deed_eqv a b]
theorem deed_shaped {p : Dd} (h : TxO p.2) : SeqAt.shaped (deedP p) = true := by
  unfold SeqAt.shaped
  rw [Bool.and_eq_true]
  exact ⟨deed_lay h, decide_eq_true (Nat.le_trans (deed_dep p) (by decide))⟩
def lineD (l : Str × Int) : D := .tup [.str l.1, .int l.2]
def lineP (l : Str × Int) : PyData := .tuple [.str l.1, .int l.2]
theorem line_py (l : Str × Int) : toPy (lineD l) = some (lineP l) := by simp [lineD, lineP, toPy, toPys]
theorem line_lay {l : Str × Int} (h : TxO l.1) : (lineP l).canLay0 = true := by
  have h : PyData.strOk l.1 = true := h
  simp [lineP, PyData.canLay0, PyData.canLayAll0, h]
theorem line_dep (l : Str × Int) : (lineP l).depth ≤ 1 := by simp [lineP, PyData.depth, PyData.depthAll]
theorem line_eqv (p q : Str × Int) : PyData.eqv (lineP p) (lineP q) = decide (p = q) := by
  simp only [lineP, PyData.eqv, PyData.eqvAll, Bool.and_true]
  have e : p = q ↔ p.1 = q.1 ∧ p.2 = q.2 := ⟨fun h => by rw [h]; exact ⟨rfl, rfl⟩, fun h => Prod.ext h.1 h.2⟩
  rw [show (p.1 == q.1) = decide (p.1 = q.1) from rfl, show (p.2 == q.2) = decide (p.2 = q.2) from rfl, ← Bool.decide_and]
  exact (decide_eq_decide.mpr e).symm
theorem in_lines {ls : List (Str × Int)} {l : Str × Int} (h : ∀ p ∈ ls, TxO p.1) (hl : TxO l.1) : inD (lineD l) (.tup (ls.map lineD)) = some (decide (l ∈ ls)) := by
  unfold inD
  simp only [line_py, toPys_map (f := lineD) (g := lineP) fun p _ => line_py p]
  have s1 : SeqAt.shaped (lineP l) = true := by
    unfold SeqAt.shaped
    rw [Bool.and_eq_true]
    exact ⟨line_lay hl, decide_eq_true (Nat.le_trans (line_dep l) (by decide))⟩
  rw [if_pos ⟨s1, shaped_tup (n := 1) (fun p hp => line_lay (h p hp)) (fun p _ => line_dep p) (by decide)⟩, List.any_map]
  have : ((fun z => PyData.eqv z (lineP l)) ∘ lineP) = fun q => decide (q = l) := funext fun q => line_eqv q l
  rw [this]
  congr 1
  rw [Bool.eq_iff_iff, List.any_eq_true, decide_eq_true_iff]
  exact ⟨fun ⟨x, hx, e⟩ => by rw [← of_decide_eq_true e]; exact hx, fun hx => ⟨l, hx, decide_eq_true rfl⟩⟩
/-- of each write, its stream and its number -/
def linG (seen : List Str) : List Str → List (Str × Int)
  | [] => []
  | x :: r => (x, (cntS x seen : Nat) + 1) :: linG (x :: seen) r
theorem numG_lin : ∀ (ws seen : List Str), numG seen ws = (linG seen ws).map lineD
  | [], _ => rfl
  | x :: r, seen => by
    unfold numG linG
    rw [List.map_cons, numG_lin r (x :: seen)]
    rfl
theorem linG_pos : ∀ (ws seen : List Str) (l : Str × Int), l ∈ linG seen ws → 1 ≤ l.2 ∧ l.1 ∈ ws
  | [], _, l, h => by simp [linG] at h
  | x :: r, seen, l, h => by
    unfold linG at h
    rcases List.mem_cons.mp h with rfl | h
    · exact ⟨by show (1 : Int) ≤ _ + 1; omega, List.mem_cons_self⟩
    · obtain ⟨h1, h2⟩ := linG_pos r _ l h
      exact ⟨h1, List.mem_cons_of_mem _ h2⟩
def writesOf (ds : List Dd) : List Str := ds.filterMap fun p => if p.1 = true then some p.2 else none
theorem writesOf_mem {ds : List Dd} {x : Str} (h : x ∈ writesOf ds) : ∃ p ∈ ds, p.2 = x := by
  unfold writesOf at h
  obtain ⟨p, hp, e⟩ := List.mem_filterMap.mp h
  split at e
  · exact ⟨p, hp, Option.some.inj e⟩
  · cases e
theorem writesOf_len (ds : List Dd) : (writesOf ds).length ≤ ds.length := List.length_filterMap_le _ _
/-- how often a write of x stands in a row -/
theorem cnt_writes (x : Str) : ∀ (ds : List Dd) (seen : List Str), ds.countP (fun q => decide (q = (true, x))) + cntS x seen = cntS x (revOn (writesOf ds) seen)
  | [], seen => by simp [writesOf, revOn]
  | (b, y) :: ds, seen => by
    rw [List.countP_cons]
    cases b with
    | false =>
      have h := cnt_writes x ds seen
      have e : writesOf ((false, y) :: ds) = writesOf ds := by simp [writesOf]
      rw [e, ← h]
      simp
    | true =>
      have h := cnt_writes x ds (y :: seen)
      have e : writesOf ((true, y) :: ds) = y :: writesOf ds := by simp [writesOf]
      rw [e]
      show _ = cntS x (revOn (writesOf ds) (y :: seen))
      rw [← h]
      have es : cntS x (y :: seen) = if y = x then cntS x seen + 1 else cntS x seen := rfl
      rw [es]
      by_cases hy : y = x
      · subst hy
        rw [if_pos rfl, decide_eq_true rfl, if_pos rfl]
        omega
      · have : ¬ ((true, y) = (true, x)) := fun z => hy (congrArg Prod.snd z)
        rw [if_neg hy, decide_eq_false this, if_neg Bool.false_ne_true, Nat.add_zero]
def progD (ds : List Dd) : D := .ins "Program" ["_deeds", "_writes", "_lines"] [.tup (ds.map deedD), .tup ((writesOf ds).map .str), .tup ((linG [] (writesOf ds)).map lineD)]
def plainN : Nat → D → Bool
  | _, .non => true
  | _, .bl _ => true
  | _, .int _ => true
  | _, .str _ => true
  | n + 1, .lst ds => decide (ds.length ≤ 1000) && ds.all (plainN n)
  | n + 1, .tup ds => decide (ds.length ≤ 1000) && ds.all (plainN n)
  | _, _ => false
end Dv
namespace Dv
open PySem PySem.Spec PyProof.Rows L2
theorem fMul_r {i j : Int} (h : -(2 ^ 64) < j ∧ j < 2 ^ 64) : fMul (.int i) (.int j) = some (.int (i * j)) := by
  simp only [fMul]; rw [if_pos (.inr h)]
theorem fMod_p {i j : Int} (h : 0 < j) : fMod (.int i) (.int j) = some (.int (i % j)) := by simp only [fMod]; rw [if_pos h]
theorem fDiv_p {i j : Int} (h : 0 < j ∧ j < 1073741824) : fDiv (.int i) (.int j) = some (.int (i / j)) := by simp only [fDiv]; rw [if_pos h]
theorem compL_pure {f : D → U → Option (Option D × U)} {g : D → D} {u : U} : ∀ {ds : List D}, (∀ d ∈ ds, f d u = some (some (g d), u)) → compL f ds u = some (ds.map g, u)
  | [], _ => rfl
  | d :: ds, h => by
    unfold compL
    rw [h d List.mem_cons_self]
    show bnd (compL f ds u) _ = _
    rw [compL_pure fun d hd => h d (List.mem_cons_of_mem _ hd)]
    rfl
theorem compL_inv {f : D → U → Option (Option D × U)} {P : D → Prop} {I : Int → U → Prop} {N : Int} : ∀ {ds : List D} {i : Int} {u : U}, (∀ d ∈ ds, ∀ i u, i ≤ N → I i u → ∃ x u', f d u = some (some x, u') ∧ P x ∧ I (i + 1) u') → I i u → i + ds.length ≤ N + 1 →
    ∃ xs u', compL f ds u = some (xs, u') ∧ xs.length = ds.length ∧ (∀ x ∈ xs, P x) ∧ I (i + ds.length) u'
  | [], i, u, _, hi, _ => ⟨[], u, rfl, rfl, by simp, by simpa using hi⟩
  | d :: ds, i, u, h, hi, hN => by
    rw [List.length_cons] at hN
    obtain ⟨x, u1, e, p, hi1⟩ := h d List.mem_cons_self i u (by omega) hi
    obtain ⟨xs, u2, e2, l2, p2, hi2⟩ := compL_inv (i := i + 1) (fun d hd => h d (List.mem_cons_of_mem _ hd)) hi1 (by omega)
    refine ⟨x :: xs, u2, ?_, by rw [List.length_cons, List.length_cons, l2], fun y hy => ?_, ?_⟩
    · unfold compL
      rw [e]
      show bnd (compL f ds u1) _ = _
      rw [e2]; rfl
    · rcases List.mem_cons.mp hy with rfl | hy
      · exact p
      · exact p2 y hy
    · rw [List.length_cons, show i + ((ds.length + 1 : Nat) : Int) = i + 1 + ds.length by omega]
      exact hi2
theorem strsOf_map : ∀ (xs : List Str), strsOf (xs.map .str) = some xs
  | [] => rfl
  | x :: xs => by
    show (strsOf (xs.map .str)).map _ = _
    rw [strsOf_map xs]; rfl
def AZ (x : Str) : Prop := ∀ c ∈ x.cps.toList, 97 ≤ c ∧ c ≤ 122
theorem len_cps (x : Str) : x.length = x.cps.toList.length := by
  show x.cps.size = _
  rw [Array.length_toList]
theorem join_cps (ys : List Str) : (Txt.join ("" : Str) ys).cps.toList = (ys.map (·.cps.toList)).flatten := by
  have h : ∀ ps : List (List Nat), TL.joinL [] ps = ps.flatten := by
    intro ps
    induction ps with
    | nil => rfl
    | cons p r ih =>
      cases r with
      | nil => simp [TL.joinL]
      | cons q r => simp only [TL.joinL, List.nil_append, ih, List.flatten_cons]
  have e := TL.tl_join ("" : Str) ys
  rw [show TL.tl ("" : Str) = [] from by decide +kernel, h] at e
  rw [TL.join_eq]
  exact e
theorem AZ.join {ys : List Str} (h : ∀ y ∈ ys, AZ y) : AZ (Txt.join ("" : Str) ys) := by
  intro c hc
  rw [join_cps] at hc
  obtain ⟨l, hl, hc⟩ := List.mem_flatten.mp hc
  obtain ⟨y, hy, rfl⟩ := List.mem_map.mp hl
  exact h y hy c hc
theorem line : sizeLine = 16777216 := rfl
theorem isiz {n : Nat} (h : n ≤ 1000) : n ≤ sizeLine := by rw [line]; omega
abbrev abc : Str := ("abcdefghijklmnopqrstuvwxyz" : Str)
theorem abc_mem (c : Nat) : c ∈ abc.cps.toList ↔ 97 ≤ c ∧ c ≤ 122 := by
  rw [show abc.cps.toList = (List.range 26).map (97 + ·) from by decide +kernel]
  simp only [List.mem_map, List.mem_range]
  constructor
  · rintro ⟨a, h, rfl⟩; omega
  · rintro ⟨h1, h2⟩; exact ⟨c - 97, by omega, by omega⟩
def bitB (c : Nat) : Bool := decide (c ∈ abc.cps.toList)
def allB (x : Str) : Bool := (x.cps.toList.map bitB).all id
theorem blsOf_map : ∀ bs : List Bool, blsOf (bs.map .bl) = some bs
  | [] => rfl
  | b :: bs => by
    show (blsOf (bs.map D.bl)).map _ = _
    rw [blsOf_map bs]; rfl
theorem mChain_t {f g : D → D → Option D} {a b c : M} {env : List Sl} {u u1 u2 u3 : U} {x y z w : D} (h1 : a env u = some (x, u1)) (h2 : b env u1 = some (y, u2)) (h3 : f x y = some (.bl true)) (h4 : c env u2 = some (z, u3)) (h5 : g y z = some w) : mChain f g a b c env u = some (w, u3) := by
  unfold mChain; rw [h1]; show bnd (b env u1) _ = _; rw [h2]; dsimp only [bnd]; rw [h3]; dsimp only; rw [h4]; dsimp only [bnd]; rw [h5]; rfl
theorem isi_str (x : Str) : isiD (.str x) ["str"] = some true := by show kitAnyB "str" ["str"] = some true; decide +kernel
theorem isi_tt (x : List D) : isiD (.tup x) ["tuple"] = some true := by show kitAnyB "tuple" ["tuple"] = some true; decide +kernel
theorem isi_lt (x : List D) : isiD (.lst x) ["tuple"] = some false := by show kitAnyB "list" ["tuple"] = some false; decide +kernel
theorem isi_ii (x : Int) : isiD (.int x) ["int"] = some true := by show kitAnyB "int" ["int"] = some true; decide +kernel
theorem isi_ib (x : Int) : isiD (.int x) ["bool"] = some false := by show kitAnyB "int" ["bool"] = some false; decide +kernel
theorem len_str {x : Str} (h : x.length ≤ 1000) : bLen [.str x] = some (.int x.length) := if_pos (isiz h)
theorem allB_az {x : Str} (h : AZ x) : allB x = true := by
  unfold allB
  rw [List.all_eq_true]
  intro b hb
  obtain ⟨c, hc, rfl⟩ := List.mem_map.mp hb
  exact decide_eq_true ((abc_mem c).mpr (h c hc))
theorem c1 {x : D} {env : List Sl} {u u1 : U} {a : M} (h : a env u = some (x, u1)) : mCons a mNil env u = some ([x], u1) := mCons_eq h mNil_eq
theorem az_ok {x : Str} (h : AZ x) : PyData.strOk x = true := by
  unfold PyData.strOk
  rw [← Array.all_toList, List.all_eq_true]
  intro c hc
  have := h c hc
  exact decide_eq_true (by omega)
theorem isi2_str (x : Str) : isiD (.str x) ["list", "tuple"] = some false := by show kitAnyB "str" ["list", "tuple"] = some false; decide +kernel
theorem isi2_int (x : Int) : isiD (.int x) ["list", "tuple"] = some false := by show kitAnyB "int" ["list", "tuple"] = some false; decide +kernel
theorem isi2_lst (x : List D) : isiD (.lst x) ["list", "tuple"] = some true := by show kitAnyB "list" ["list", "tuple"] = some true; decide +kernel
theorem isi2_tup (x : List D) : isiD (.tup x) ["list", "tuple"] = some true := by show kitAnyB "tuple" ["list", "tuple"] = some true; decide +kernel
theorem mFld_eq {c f : Str} {m : M} {env : List Sl} {u u1 : U} {x d : D} (h : m env u = some (x, u1)) (h2 : fldD c f x = some d) : mFld c f m env u = some (d, u1) := by
  unfold mFld; rw [h]; show lft (fldD c f x) u1 = _; rw [h2]; rfl
theorem mPrp_eq {c : Str} {F : List D → U → Option (D × U)} {m : M} {env : List Sl} {u u1 u2 : U} {ns : List Str} {xs : List D} {d : D} (h : m env u = some (.ins c ns xs, u1)) (h2 : F [.ins c ns xs] u1 = some (d, u2)) : mPrp c F m env u = some (d, u2) := by
  unfold mPrp; rw [h]; show (if c = c then F [.ins c ns xs] u1 else none) = _; rw [if_pos rfl]; exact h2
theorem mBinU_eq {f : D → D → U → Option (D × U)} {a b : M} {env : List Sl} {u u1 u2 u3 : U} {x y z : D} (h : a env u = some (x, u1)) (h2 : b env u1 = some (y, u2)) (h3 : f x y u2 = some (z, u3)) : mBinU f a b env u = some (z, u3) := by
  unfold mBinU; rw [h]; show bnd (b env u1) _ = _; rw [h2]; exact h3
theorem mEnumA_t {m : M} {env : List Sl} {u u1 : U} {ds : List D} (h : m env u = some (.tup ds, u1)) : mEnumA m env u = some (enumD 0 ds, u1) := by
  unfold mEnumA; rw [h]; rfl
theorem mZip_l {m m2 : M} {env : List Sl} {u u1 u2 : U} {ds es : List D} (h : m env u = some (.lst ds, u1)) (h2 : m2 env u1 = some (.lst es, u2)) : mZip m m2 env u = some (zipD ds es, u2) := by
  unfold mZip; rw [h]; show bnd (m2 env u1) _ = _; rw [h2]; rfl
theorem mZip_t {m m2 : M} {env : List Sl} {u u1 u2 : U} {ds es : List D} (h : m env u = some (.tup ds, u1)) (h2 : m2 env u1 = some (.tup es, u2)) : mZip m m2 env u = some (zipD ds es, u2) := by
  unfold mZip; rw [h]; show bnd (m2 env u1) _ = _; rw [h2]; rfl
theorem cutD_from {xs : List D} {k : Nat} (h : k ≤ xs.length) : cutD xs (some (k : Int)) none = xs.drop k := by
  unfold cutD
  rw [HT.sIx_none, HT.sIx_nat, Nat.min_eq_left h, ← List.length_drop, List.take_length]
theorem fAdd_l {a b : List D} (h : a.length + b.length ≤ 1000) : fAdd (.lst a) (.lst b) = some (.lst (a ++ b)) := by simp only [fAdd]; rw [if_pos (isiz h)]
theorem len_t {xs : List D} (h : xs.length ≤ 1000) : bLen [.tup xs] = some (.int xs.length) := by
  first
  | exact if_pos (isiz h)
  | rfl
theorem isi_bs_bl (b : Bool) : isiD (.bl b) ["bool", "str"] = some true := by show kitAnyB "bool" ["bool", "str"] = some true; decide +kernel
theorem isi_bs_str (b : Str) : isiD (.str b) ["bool", "str"] = some true := by show kitAnyB "str" ["bool", "str"] = some true; decide +kernel
theorem isi_bs_int (b : Int) : isiD (.int b) ["bool", "str"] = some false := by show kitAnyB "int" ["bool", "str"] = some false; decide +kernel
theorem isi2_non : isiD .non ["list", "tuple"] = some false := by decide +kernel
theorem isi2_bl (b : Bool) : isiD (.bl b) ["list", "tuple"] = some false := by show kitAnyB "bool" ["list", "tuple"] = some false; decide +kernel
theorem isi_l_l (x : List D) : isiD (.lst x) ["list"] = some true := by show kitAnyB "list" ["list"] = some true; decide +kernel
theorem isi_t_l (x : List D) : isiD (.tup x) ["list"] = some false := by show kitAnyB "tuple" ["list"] = some false; decide +kernel
theorem isi_b_non : isiD .non ["bool"] = some false := by decide +kernel
theorem isi_b_bl (b : Bool) : isiD (.bl b) ["bool"] = some true := by show kitAnyB "bool" ["bool"] = some true; decide +kernel
theorem isi_b_str (b : Str) : isiD (.str b) ["bool"] = some false := by show kitAnyB "str" ["bool"] = some false; decide +kernel
theorem ceq_bl (b : Bool) : cEq (.bl b) (.bl b) = some (.bl true) := by show some (D.bl (decide (b = b))) = _; rw [decide_eq_true rfl]
theorem ceq_str (b : Str) : cEq (.str b) (.str b) = some (.bl true) := by show some (D.bl (decide (b = b))) = _; rw [decide_eq_true rfl]
theorem ceq_int (b : Int) : cEq (.int b) (.int b) = some (.bl true) := by show some (D.bl (decide (b = b))) = _; rw [decide_eq_true rfl]
theorem bAll_ts {α : Type} (l : List α) : bAll [.lst (l.map fun _ => .bl true)] = some (.bl true) := by
  have : ∀ l : List α, blsOf (l.map fun _ => D.bl true) = some (l.map fun _ => true) := fun l => by
    induction l with
    | nil => rfl
    | cons a l ih =>
      show (blsOf (l.map fun _ => D.bl true)).map _ = _
      rw [ih]; rfl
  show (blsOf _).map _ = _
  rw [this]
  show some (D.bl _) = _
  have : (l.map fun _ => true).all id = true := by simp
  rw [this]
theorem zip_mem {xs : List D} {d : D} (h : d ∈ zipD xs xs) : ∃ x ∈ xs, d = .pr [x, x] := by
  unfold zipD at h
  induction xs with
  | nil => simp at h
  | cons x xs ih =>
    rw [List.zipWith_cons_cons] at h
    rcases List.mem_cons.mp h with rfl | h
    · exact ⟨x, List.mem_cons_self, rfl⟩
    · obtain ⟨y, hy, e⟩ := ih h
      exact ⟨y, List.mem_cons_of_mem _ hy, e⟩
theorem zip_len (xs : List D) : (zipD xs xs).length = xs.length := by unfold zipD; simp
theorem len_l {xs : List D} (h : xs.length ≤ 1000) : bLen [.lst xs] = some (.int xs.length) := by
  first
  | exact if_pos (isiz h)
  | rfl
theorem same_go {f : List D → U → Option (D × U)} {xs : List D} {a b : D} {u : U} (h : ∀ x ∈ xs, f [x, x] u = some (.bl true, u)) :
    compL (turnL (.many [2, 3]) [2, 3] [Sl.pub a, .pub b, .no, .no] mYes (mCall 2 f (mCons (mVar 2) (mCons (mVar 3) mNil)))) (zipD xs xs) u = some ((zipD xs xs).map fun _ => .bl true, u) :=
  compL_pure (g := fun _ => .bl true) fun d hd => by
    obtain ⟨x, hx, rfl⟩ := zip_mem hd
    exact turnL_eq rfl (mCall_eq (mCons_eq rfl (c1 rfl)) rfl (h x hx))
theorem xCall_eq {n : Nat} {F : List D → U → Option (R × U)} {ms : Ms} {env : List Sl} {u u1 u2 : U} {ds : List D} {r : R} (h : ms env u = some (ds, u1)) (hl : ds.length = n) (h2 : F ds u1 = some (r, u2)) : xCall n F ms env u = some (r, u2) := by
  unfold xCall; rw [h]; show (if ds.length = n then F ds u1 else none) = _; rw [if_pos hl]; exact h2
theorem sUpX_ok {m : MX} {k : List Sl → D → U → Option (Fl × U)} {env : List Sl} {u u1 : U} {d : D} (h : m env u = some (.ok d, u1)) : sUpX m k env u = k env d u1 := by unfold sUpX; rw [h]
theorem okF_eq {F : List D → U → Option (R × U)} {ds : List D} {u u1 : U} {d : D} (h : F ds u = some (.ok d, u1)) : okF F ds u = some (d, u1) := by unfold okF; rw [h]
theorem plain_row {α : Type} {n : Nat} {f : α → D} {l : List α} (h : ∀ a, plainN n (f a) = true) (few : l.length ≤ 1000) : plainN (n + 1) (.tup (l.map f)) = true := by
  unfold plainN
  rw [Bool.and_eq_true]
  exact ⟨decide_eq_true (by rw [List.length_map]; exact few), List.all_eq_true.mpr fun d hd => by obtain ⟨a, _, rfl⟩ := List.mem_map.mp hd; exact h a⟩
theorem plain_l {n : Nat} {l : List D} (h : ∀ d ∈ l, plainN n d = true) (few : l.length ≤ 1000) : plainN (n + 1) (.lst l) = true := by
  unfold plainN
  rw [Bool.and_eq_true]
  exact ⟨decide_eq_true few, List.all_eq_true.mpr h⟩
def P4 (l : List D) : Prop := ∀ d ∈ l, plainN 4 d = true
theorem P4.cons {a : D} {b : List D} (h : plainN 4 a = true) (g : P4 b) : P4 (a :: b) := fun d hd => (List.mem_cons.mp hd).elim (fun e => by rw [e]; exact h) (g d)
theorem P4.nil : P4 [] := fun d hd => by cases hd
end Dv
namespace Dv
open PySem PySem.Spec PyProof.Rows L2
section
variable {env env' : List Sl} {u u1 u2 u3 : U} {m a b : M} {ms : Ms} {mb : MB} {p q : MS} {d x y z : D} {ds es : List D} {i j n : Nat} {s s2 : Sl} {mv mv2 : MSl} {fl : Fl} {k : Bool} {o : Oo}
theorem sSv_eq (h : mv env u = some (s, u1)) : sSv i mv env u = some (.nx (env.set i s), u1) := by unfold sSv; rw [h]; rfl
theorem sParv_eq (h : mv env u = some (s, u1)) (h2 : mv2 env u1 = some (s2, u2)) : sParv i j mv mv2 env u = some (.nx ((env.set i s).set j s2), u2) := by
  unfold sParv; rw [h]; show bnd (mv2 env u1) _ = _; rw [h2]; rfl
theorem vP_eq (h : m env u = some (d, u1)) : vP m env u = some (.pub d, u1) := by unfold vP; rw [h]; rfl
theorem vLst_eq (h : ms env u = some (ds, u1)) (hl : ds.length ≤ sizeLine) : vLst ms env u = some (.own (.lst ds), u1) := by unfold vLst; rw [h]; exact if_pos hl
theorem vList_l (h : m env u = some (.lst ds, u1)) : vList m env u = some (.own (.lst ds), u1) := by unfold vList; rw [h]; rfl
theorem sApp_eq (hi : env[i]? = some (.own (.lst ds))) (h : m env u = some (d, u1)) (hl : ds.length < sizeLine) : sApp i m env u = some (.nx (env.set i (.own (.lst (ds ++ [d])))), u1) := by
  unfold sApp; rw [hi]; show bnd (m env u) _ = _; rw [h]; exact if_pos hl
theorem sPub_eq (hi : env[i]? = some (.own o)) (h : p (env.set i (.pub (ooD o))) u = some (fl, u1)) : sPub i p env u = some (fl, u1) := by unfold sPub; rw [hi]; exact h
theorem mPeek_eq (hi : env[i]? = some (.own o)) (h : m (env.set i (.pub (ooD o))) u = some (d, u1)) (hs : scalD d = true) : mPeek i m env u = some (d, u1) := by
  unfold mPeek; rw [hi]; show bnd (m _ u) _ = _; rw [h]; exact if_pos hs
theorem sAppPop_eq {n : Nat} (hi : env[i]? = some (.own (.lst ds))) (hj : env[j]? = some (.own (.lst es))) (h : m env u = some (.int n, u1)) (hn : n < es.length) (hb : es.length ≤ 2 ^ 62) (hl : ds.length < sizeLine) (ne : i ≠ j) :
    sAppPop i j m env u = some (.nx ((env.set j (.own (.lst (es.eraseIdx n)))).set i (.own (.lst (ds ++ [es[n]])))), u1) := by
  unfold sAppPop; rw [hi, hj]; show bnd (m env u) _ = _; rw [h]
  show (if (0 : Int) ≤ (n : Int) ∧ (n : Int) < es.length ∧ es.length ≤ 2 ^ 62 ∧ ds.length < sizeLine ∧ i ≠ j then _ else _) = _
  rw [if_pos ⟨by omega, by omega, hb, hl, ne⟩]
  show (match es[n]? with | some d => _ | none => _) = _
  rw [List.getElem?_eq_getElem hn]; rfl
theorem mCallP_eq {π : List Nat} {F : List D → U → Option (D × U)} (h : ms env u = some (ds, u1)) (hl : ds.length = n ∧ (perm π ds).length = π.length) (h2 : F (perm π ds) u1 = some (d, u2)) : mCallP n π F ms env u = some (d, u2) := by
  unfold mCallP; rw [h]; show (if ds.length = n ∧ (perm π ds).length = π.length then F (perm π ds) u1 else none) = _; rw [if_pos hl]; exact h2
theorem mLc2_eq {t t2 : Tgt} {own own2 : List Nat} {mi mi2 : MI} {mc mc2 : MB} {me : M} {r : List D} (h : mi env u = some (ds, u1)) (h2 : compL2 (turnL2 t own env mc t2 own2 mi2 mc2 me) ds u1 = some (r, u2)) (hl : r.length ≤ sizeLine) : mLc2 t own mi mc t2 own2 mi2 mc2 me env u = some (.lst r, u2) := by
  unfold mLc2; rw [h]; show bnd (compL2 (turnL2 t own env mc t2 own2 mi2 mc2 me) ds u1) _ = _; rw [h2]; exact if_pos hl
theorem turnL2_eq {t t2 : Tgt} {own own2 : List Nat} {mi2 : MI} {mc2 : MB} {me : M} {r : List D} (h : bindT t d (wipeE env own) = some env') (h2 : mi2 env' u = some (ds, u1)) (h3 : compL (turnL t2 own2 env' mc2 me) ds u1 = some (r, u2)) : turnL2 t own env mYes t2 own2 mi2 mc2 me d u = some (r, u2) := by
  unfold turnL2; rw [h]; show bnd (mi2 env' u) _ = _; rw [h2]; exact h3
theorem compL2_pure {f : D → U → Option (List D × U)} {g : D → List D} {u : U} : ∀ {ds : List D}, (∀ d ∈ ds, f d u = some (g d, u)) → compL2 f ds u = some (ds.flatMap g, u)
  | [], _ => rfl
  | d :: ds, h => by
    unfold compL2
    rw [h d List.mem_cons_self]
    show bnd (compL2 f ds u) _ = _
    rw [compL2_pure fun d hd => h d (List.mem_cons_of_mem _ hd)]
    simp [bnd]
end
theorem forX_inv {t : Tgt} {f : MS} {I : Nat → List Sl → U → Prop} : ∀ {ds : List D} {i : Nat} {env : List Sl} {u : U}, (∀ (j : Nat) (h : j < ds.length) env u, I (i + j) env u → ∃ env1 env2 u2, bindT t ds[j] env = some env1 ∧ f env1 u = some (.nx env2, u2) ∧ I (i + j + 1) env2 u2) → I i env u →
    ∃ env' u', forL t f ds env u = some (.nx env', u') ∧ I (i + ds.length) env' u'
  | [], i, env, u, _, hi => ⟨env, u, rfl, hi⟩
  | d :: ds, i, env, u, h, hi => by
    obtain ⟨env1, env2, u2, e1, e2, hi2⟩ := h 0 (Nat.zero_lt_succ _) env u hi
    obtain ⟨env', u', e3, hi3⟩ := forX_inv (ds := ds) (i := i + 1) (env := env2) (u := u2) (fun j hj env u hI => by
      have := h (j + 1) (Nat.succ_lt_succ hj) env u (by rw [show i + (j + 1) = i + 1 + j by omega]; exact hI)
      rw [show i + (j + 1) + 1 = i + 1 + j + 1 by omega] at this
      exact this) hi2
    refine ⟨env', u', ?_, by rw [List.length_cons, show i + (ds.length + 1) = i + 1 + ds.length by omega]; exact hi3⟩
    unfold forL
    rw [show bindT t d env = some env1 from e1]
    show bnd (f env1 u) _ = _
    rw [e2]
    exact e3
theorem forR_inv {t : Tgt} {f : MS} {I : Nat → List Sl → U → Prop} {n : Nat} {env : List Sl} {u : U} (h : ∀ (j : Nat), j < n → ∀ env u, I j env u → ∃ env1 env2 u2, bindT t (.int j) env = some env1 ∧ f env1 u = some (.nx env2, u2) ∧ I (j + 1) env2 u2) (h0 : I 0 env u) :
    ∃ env' u', forL t f (rangeD 0 n) env u = some (.nx env', u') ∧ I n env' u' := by
  have := forX_inv (t := t) (f := f) (I := I) (ds := rangeD 0 n) (i := 0) (env := env) (u := u) (fun j hj env u hI => by
    rw [rangeD_len] at hj
    have e : (rangeD 0 n)[j]'(by rw [rangeD_len]; exact hj) = .int j := by
      unfold rangeD
      rw [List.getElem_map, List.getElem_range, Int.zero_add]
    rw [e]
    have := h j hj env u (by rw [Nat.zero_add] at hI; exact hI)
    rw [Nat.zero_add]; exact this) h0
  rw [rangeD_len, Nat.zero_add] at this
  exact this
structure OkU (n : Int) (u : U) : Prop where
  a : 0 ≤ u.a
  b : 0 ≤ u.b ∧ u.b < 2 ^ 62
  c : 0 ≤ u.c ∧ u.c ≤ n
theorem OkU.mono {n k : Int} {u : U} (h : OkU n u) (l : n ≤ k) : OkU k u := ⟨h.a, h.b, h.c.1, by have := h.c.2; omega⟩
def m_takeG : MS := (sCons (sIf (mTru (mBin cGt (mUrn0 0) (mC (.int (0))))) (sCons (sSet 2 (mBin fMod (mBi bInt (mCons (mUrn0 0) mNil)) (mVar 1)))
    (sCons (sUrn0 0 (mBin fDiv (mUrn0 0) (mVar 1)))
    (sCons (sRet (mVar 2))
    sNil))) sNil)
    (sCons (sUrn2 0 (mBin fAdd (mUrn2 0) (mC (.int (1)))))
    (sCons (sSet 3 (mBin fMod (mBi bInt (mCons (mBin fMul (mBin fAdd (mUrn1 0) (mBin fMul (mC (.int (48271))) (mUrn2 0))) (mBin fAdd (mC (.int (39373))) (mUrn2 0))) mNil)) (mC (.int (2147483647)))))
    (sCons (sSet 4 (mBin fAdd (mBin fMod (mBi bInt (mCons (mVar 3) mNil)) (mC (.int (40009)))) (mC (.int (7)))))
    (sCons (sSet 5 (mBin fMod (mBi bInt (mCons (mBin fMul (mBin fAdd (mBin fAdd (mVar 3) (mUrn2 0)) (mBin fDiv (mUrn1 0) (mC (.int (1000003))))) (mVar 4)) mNil)) (mC (.int (2147483629)))))
    (sCons (sRet (mBin fMod (mBi bInt (mCons (mBin fDiv (mBin fMod (mBi bInt (mCons (mBin fAdd (mBin fMul (mVar 5) (mC (.int (48271)))) (mVar 3)) mNil)) (mC (.int (2147483587)))) (mC (.int (64)))) mNil)) (mVar 1)))
    sNil))))))
def F_takeG : List D → U → Option (D × U) := runB m_takeG 6
theorem takeG_ok {n low : Int} {u : U} (h : OkU n u) (hn : n ≤ 2 ^ 40) (h0 : 0 < low) (h1 : low < 1073741824) :
    ∃ r u', F_takeG [.urn, .int low] u = some (.int r, u') ∧ 0 ≤ r ∧ r < low ∧ OkU (n + 1) u' := by
  obtain ⟨ha, ⟨hb1, hb2⟩, hc1, hc2⟩ := h
  obtain ⟨a, b, c⟩ := u
  dsimp only at ha hb1 hb2 hc1 hc2
  by_cases q : 0 < a
  · refine ⟨a % low, ⟨a / low, b, c⟩, ?_, Int.emod_nonneg _ (by omega), Int.emod_lt_of_pos _ h0, ⟨Int.ediv_nonneg ha (by omega), ⟨hb1, hb2⟩, hc1, by show c ≤ n + 1; omega⟩⟩
    simp [F_takeG, runB, m_takeG, sCons, sIf, mTru, mBin, mUrn0, isUrn, bnd, lft, mC, cGt, truD, q, sSet, sRet, mBi, mCons, mNil, bInt, mVar, fMod_p h0, fDiv_p ⟨h0, h1⟩, sUrn0, sNil]
  · obtain ⟨k, hk⟩ : ∃ k, k = c + 1 := ⟨_, rfl⟩
    obtain ⟨once, ho⟩ : ∃ z, z = (b + 48271 * k) * (39373 + k) % 2147483647 := ⟨_, rfl⟩
    obtain ⟨far, hf⟩ : ∃ z, z = once % 40009 + 7 := ⟨_, rfl⟩
    obtain ⟨twice, ht⟩ : ∃ z, z = (once + k + b / 1000003) * far % 2147483629 := ⟨_, rfl⟩
    have o1 : 0 ≤ once ∧ once < 2147483647 := by rw [ho]; exact ⟨Int.emod_nonneg _ (by decide), Int.emod_lt_of_pos _ (by decide)⟩
    have f1 : 0 ≤ far ∧ far < 50000 := by omega
    have t1 : 0 ≤ twice ∧ twice < 2147483629 := by rw [ht]; exact ⟨Int.emod_nonneg _ (by decide), Int.emod_lt_of_pos _ (by decide)⟩
    have e0 := fMul_r (i := 48271) (j := k) (by omega)
    have e1 := fMul_r (i := b + 48271 * k) (j := 39373 + k) (by omega)
    have e2 := fMul_r (i := once + k + b / 1000003) (j := far) (by omega)
    have e3 := fMul_r (i := twice) (j := 48271) (by decide)
    have m1 := fMod_p (i := (b + 48271 * k) * (39373 + k)) (j := 2147483647) (by decide)
    have m2 := fMod_p (i := once) (j := 40009) (by decide)
    have m3 := fMod_p (i := (once + k + b / 1000003) * far) (j := 2147483629) (by decide)
    have m4 := fMod_p (i := twice * 48271 + once) (j := 2147483587) (by decide)
    have d1 := fDiv_p (i := b) (j := 1000003) (by decide)
    have d2 := fDiv_p (i := (twice * 48271 + once) % 2147483587) (j := 64) (by decide)
    rw [← ho] at m1
    rw [← ht] at m3
    refine ⟨(twice * 48271 + once) % 2147483587 / 64 % low, ⟨a, b, k⟩, ?_, Int.emod_nonneg _ (by omega), Int.emod_lt_of_pos _ h0, ⟨ha, ⟨hb1, hb2⟩, by show 0 ≤ k; omega, by show k ≤ n + 1; omega⟩⟩
    simp only [F_takeG, runB, m_takeG, sCons, sIf, mTru, mBin, mUrn0, mUrn1, mUrn2, isUrn, bnd, lft, mC, cGt, truD, q, sSet, sRet, mBi, mCons, mNil, bInt, mVar, fMod_p h0, fDiv_p ⟨h0, h1⟩, sUrn0, sUrn2, sNil, fAdd, List.map, List.length, List.replicate, List.append, List.cons_append, List.nil_append, List.getElem?_cons_zero, List.getElem?_cons_succ, List.set, decide_false, if_true, Bool.false_eq_true, if_false, ← hk, ← hf, e0, e1, e2, e3, m1, m2, m3, m4, d1, d2, Nat.reduceSub, List.replicate_succ, List.replicate_zero]
def m_ofG : MS := (sCons (sRet (mBin ixD (mVar 1) (mCall 2 F_takeG (mCons (mVar 0) (mCons (mBi bLen (mCons (mVar 1) mNil)) mNil)))))
    sNil)
def F_ofG : List D → U → Option (D × U) := runB m_ofG 2
theorem ofG_ok {n : Int} {u : U} {ds : List D} (h : OkU n u) (hn : n ≤ 2 ^ 40) (h0 : 0 < ds.length) (h1 : ds.length < 1000) :
    ∃ d u', F_ofG [.urn, .lst ds] u = some (d, u') ∧ d ∈ ds ∧ OkU (n + 1) u' := by
  obtain ⟨r, u', e, r0, r1, hu⟩ := takeG_ok (low := ds.length) h hn (by omega) (by omega)
  have hr : r.toNat < ds.length := by omega
  have e2 : ixD (.lst ds) (.int r) = some ds[r.toNat] := by
    have := atI_nat (List.getElem?_eq_getElem hr)
    rw [Int.toNat_of_nonneg r0] at this
    exact this
  refine ⟨_, u', ?_, List.getElem_mem hr, hu⟩
  simp only [F_ofG, m_ofG, runB, sCons, sSet, sTgt, sPar, sRet, sIf, sNil, sDrop, mVar, mC, mCons, mNil, mLst, mTup, mBin, mCall, mBi, mAnd, mOr, mNot, mIte, mTru, mNotB, mAndB, mOrB, mChain, mNeg, mSl, moNo, moAt, mIsi, bnd, lft, bindT, setE, List.map_cons, List.map_nil, List.length_cons, List.length_nil, List.cons_append, List.nil_append, List.getElem?_cons_zero, List.getElem?_cons_succ, List.set_cons_zero, List.set_cons_succ, if_true, if_false, Bool.false_eq_true, List.replicate_succ, List.replicate_zero, Nat.reduceSub, Nat.reduceAdd, reduceIte, Option.map_some, Option.map_none, Nat.zero_add, bLen, e, e2]
end Dv
namespace Dv
open PySem PySem.Spec PyProof.Rows L2
def AllT (xs : List Str) : Prop := ∀ x ∈ xs, TxO x
theorem AllT.sub {xs ys : List Str} (h : AllT ys) (s : ∀ x ∈ xs, x ∈ ys) : AllT xs := fun x hx => h x (s x hx)
theorem ceqS (x y : Str) : cEq (.str x) (.str y) = some (.bl (decide (x = y))) := rfl
theorem cneS (x y : Str) : cNe (.str x) (.str y) = some (.bl (!decide (x = y))) := rfl
end Dv
namespace Dv
open PySem PySem.Spec L2
abbrev Al := List (Str × Int)
def alK (al : Al) : List Key := al.map fun p => .inr p.1
def alD (al : Al) : List D := al.map fun p => .int p.2
def putA (x : Str) (v : Int) : Al → Al
  | [] => [(x, v)]
  | p :: r => if p.1 = x then (p.1, v) :: r else p :: putA x v r
def getA (x : Str) : Al → Option Int
  | [] => none
  | p :: r => if p.1 = x then some p.2 else getA x r
theorem putA_cons (x : Str) (v : Int) (p : Str × Int) (r : Al) : putA x v (p :: r) = if p.1 = x then (p.1, v) :: r else p :: putA x v r := by rw [putA]
theorem getA_cons (x : Str) (p : Str × Int) (r : Al) : getA x (p :: r) = if p.1 = x then some p.2 else getA x r := by rw [getA]
theorem inr_eq {x y : Str} : ((Sum.inr x : Key) = Sum.inr y) = (x = y) := propext ⟨fun h => Sum.inr.inj h, fun h => by rw [h]⟩
theorem put_al (x : Str) (v : Int) : ∀ al : Al, putD (alK al) (alD al) (.inr x) (.int v) = (alK (putA x v al), alD (putA x v al))
  | [] => rfl
  | p :: r => by
    show (if (Sum.inr p.1 : Key) = Sum.inr x then _ else _) = _
    by_cases e : p.1 = x
    · rw [if_pos (by rw [e]), putA_cons, if_pos e]; rfl
    · rw [if_neg (fun z => e (Sum.inr.inj z))]
      show (Sum.inr p.1 :: (putD (alK r) (alD r) (.inr x) (.int v)).1, D.int p.2 :: (putD (alK r) (alD r) (.inr x) (.int v)).2) = _
      rw [put_al x v r, putA_cons, if_neg e]; rfl
theorem val_al (x : Str) : ∀ al : Al, valD (alK al) (alD al) (.inr x) = (getA x al).map .int
  | [] => rfl
  | p :: r => by
    show Option.map _ (((((Sum.inr p.1 : Key), D.int p.2) :: (alK r).zip (alD r)).find? fun kd => decide (kd.1 = (Sum.inr x : Key)))) = _
    by_cases e : p.1 = x
    · rw [List.find?_cons_of_pos (by rw [e]; exact decide_eq_true rfl), getA_cons, if_pos e]; rfl
    · rw [List.find?_cons_of_neg (by simpa [inr_eq] using e), getA_cons, if_neg e]
      exact val_al x r
theorem get_put (x y : Str) (v : Int) : ∀ al : Al, getA y (putA x v al) = if y = x then some v else getA y al
  | [] => by
    show (if x = y then some v else none) = _
    by_cases e : y = x
    · rw [if_pos e, if_pos e.symm]
    · rw [if_neg e, if_neg (fun z => e z.symm)]; rfl
  | p :: r => by
    rw [putA_cons]
    by_cases e : p.1 = x
    · rw [if_pos e, getA_cons, getA_cons]
      show (if p.1 = y then some v else getA y r) = _
      by_cases f : y = x
      · rw [if_pos f, if_pos (e.trans f.symm)]
      · rw [if_neg f, if_neg (fun z => f (z.symm.trans e)), if_neg (fun z => f (z.symm.trans e))]
    · rw [if_neg e, getA_cons, getA_cons]
      by_cases f : p.1 = y
      · rw [if_pos f, if_pos f, if_neg (fun z => e (f.trans z))]
      · rw [if_neg f, if_neg f, get_put x y v r]
def NdA (al : Al) : Prop := (al.map (·.1)).Nodup
theorem put_keys (x : Str) (v : Int) : ∀ al : Al, (putA x v al).map (·.1) = if x ∈ al.map (·.1) then al.map (·.1) else al.map (·.1) ++ [x]
  | [] => rfl
  | p :: r => by
    rw [putA_cons]
    by_cases e : p.1 = x
    · rw [if_pos e, if_pos (by rw [← e]; exact List.mem_cons_self)]; rfl
    · rw [if_neg e, List.map_cons, put_keys x v r, List.map_cons]
      by_cases f : x ∈ r.map (·.1)
      · rw [if_pos f, if_pos (List.mem_cons_of_mem _ f)]
      · rw [if_neg f, if_neg (fun z => (List.mem_cons.mp z).elim (fun w => e w.symm) f)]; rfl
theorem NdA.put {al : Al} (h : NdA al) (x : Str) (v : Int) : NdA (putA x v al) := by
  unfold NdA
  rw [put_keys]
  split
  · exact h
  · rename_i hx
    refine List.nodup_append.mpr ⟨h, List.nodup_cons.mpr ⟨by simp, .nil⟩, fun a ha b hb => ?_⟩
    simp only [List.mem_cons, List.not_mem_nil, or_false] at hb
    rw [hb]
    intro z
    exact hx (z ▸ ha)
theorem put_len (x : Str) (v : Int) (al : Al) : (putA x v al).length ≤ al.length + 1 := by
  rw [← List.length_map (f := fun p : Str × Int => p.1), put_keys]
  split
  · rw [List.length_map]; omega
  · rw [List.length_append, List.length_map]; exact Nat.le_refl _
theorem mem_get {al : Al} (h : NdA al) {x : Str} {v : Int} : (x, v) ∈ al ↔ getA x al = some v := by
  induction al with
  | nil => exact ⟨fun z => (by cases z), fun z => (by cases (show (none : Option Int) = some v from z))⟩
  | cons p r ih =>
    obtain ⟨h1, h2⟩ := List.nodup_cons.mp (show (p.1 :: r.map (·.1)).Nodup from h)
    rw [getA_cons]
    by_cases e : p.1 = x
    · rw [if_pos e]
      constructor
      · intro m
        rcases List.mem_cons.mp m with rfl | m
        · rfl
        · exact absurd (List.mem_map.mpr ⟨_, m, rfl⟩) (by rw [← e] at *; exact h1)
      · intro z
        have : p = (x, v) := by
          obtain ⟨a, b⟩ := p
          cases z; cases e; rfl
        rw [this]; exact List.mem_cons_self
    · rw [if_neg e, ← ih h2]
      exact ⟨fun m => (List.mem_cons.mp m).elim (fun z => absurd (by rw [← z]) e) id, fun m => List.mem_cons_of_mem _ m⟩
def pairK (p : Str × Int) : List Key := [.inr p.1, .inl p.2]
theorem items_al (al : Al) : itemsK (alK al) (alD al) = al.map fun p => .pr [.str p.1, .int p.2] := by
  unfold itemsK alK alD
  rw [List.zip_map', List.map_map]
  rfl
theorem pairK_inj {p q : Str × Int} (h : pairK p = pairK q) : p = q := by
  obtain ⟨a, b⟩ := p
  obtain ⟨c, d⟩ := q
  unfold pairK at h
  simp only [List.cons.injEq, and_true] at h
  rw [Sum.inr.inj h.1, Sum.inl.inj h.2]
theorem pair_shape (p : Str × Int) : shapeR (pairK p) = [false, true] := rfl
theorem pair_row (p : Str × Int) : rowD (pairK p) = lineD p := rfl
/-- strictly rising texts -/
def Rising (xs : List Str) : Prop := xs.Pairwise fun a b => a.cps.toList < b.cps.toList
theorem Rising.nodup {xs : List Str} (h : Rising xs) : xs.Nodup := h.imp fun hl e => by rw [e] at hl; exact List.lt_irrefl _ hl
def told (xs : List Str) (f : Str → Int) : Al := (xs.map fun x => (x, f x)).filter fun p => decide (0 < p.2)
theorem told_le {xs : List Str} (h : Rising xs) (f : Str → Int) : ((told xs f).map pairK).Pairwise LeR := by
  rw [List.pairwise_map]
  refine List.Pairwise.sublist List.filter_sublist ?_
  rw [List.pairwise_map]
  refine h.imp fun {a b} hl => ?_
  show leR [.inr a, .inl (f a)] [.inr b, .inl (f b)] = true
  rw [leR_cons, if_neg (fun z => by rw [Sum.inr.inj z] at hl; exact List.lt_irrefl _ hl)]
  exact decide_eq_true hl
theorem told_nodup {xs : List Str} (h : Rising xs) (f : Str → Int) : (told xs f).Nodup := by
  refine List.Nodup.sublist List.filter_sublist ?_
  exact List.Pairwise.map _ (fun a b (hab : a ≠ b) z => hab (congrArg Prod.fst z)) h.nodup
theorem al_nodup {al : Al} (h : NdA al) : al.Nodup := by
  have := h
  unfold NdA at this
  exact (List.pairwise_map.mp this).imp fun hab z => hab (by rw [z])
theorem tally_sort {al : Al} {xs : List Str} {f : Str → Int} (h : NdA al) (hx : Rising xs) (hf : ∀ x, (getA x al).getD 0 = f x) (h0 : ∀ x, x ∉ xs → f x = 0) :
    sortR ((al.filter fun p => decide (0 < p.2)).map pairK) = (told xs f).map pairK := by
  refine (sortR_uniq ?_ (told_le hx f)).symm
  refine List.Perm.map _ ?_
  refine (List.perm_ext_iff_of_nodup (told_nodup hx f) ((al_nodup h).sublist List.filter_sublist)).mpr fun p => ?_
  obtain ⟨x, v⟩ := p
  unfold told
  rw [List.mem_filter, List.mem_filter, mem_get h]
  constructor
  · rintro ⟨h1, h2⟩
    obtain ⟨y, hy, e⟩ := List.mem_map.mp h1
    cases e
    have hp := of_decide_eq_true h2
    refine ⟨?_, h2⟩
    have := hf x
    cases q : getA x al with
    | none => rw [q] at this; have : (0 : Int) = f x := this; dsimp only at hp; omega
    | some w => rw [q] at this; have : w = f x := this; rw [this]
  · rintro ⟨h1, h2⟩
    have hv : v = f x := by have := hf x; rw [h1] at this; exact this
    have hp : 0 < v := of_decide_eq_true h2
    refine ⟨List.mem_map.mpr ⟨x, ?_, by rw [hv]⟩, h2⟩
    by_cases m : x ∈ xs
    · exact m
    · have := h0 x m; omega
theorem mGet2_eq {mo me mf : M} {env : List Sl} {u u1 u2 u3 : U} {al : Al} {x : Str} {d : D} (h : mo env u = some (.dct (alK al) (alD al), u1)) (h2 : me env u1 = some (.str x, u2)) (h3 : mf env u2 = some (d, u3)) : mGet2 mo me mf env u = some (((getA x al).map D.int).getD d, u3) := by
  unfold mGet2
  rw [h]
  show bnd (me env u1) _ = _
  rw [h2]
  show bnd (mf env u2) _ = _
  rw [h3]
  show some ((valD (alK al) (alD al) (.inr x)).getD d, u3) = _
  rw [val_al]
theorem mDItems_eq {m : M} {env : List Sl} {u u1 : U} {al : Al} (h : m env u = some (.dct (alK al) (alD al), u1)) : mDItems m env u = some (al.map fun p => .pr [.str p.1, .int p.2], u1) := by
  unfold mDItems
  rw [h, ← items_al]; rfl
theorem vDct_eq {env : List Sl} {u : U} : vDct env u = some (.own (.dct (alK []) (alD [])), u) := rfl
theorem sPutD_eq {i : Nat} {mk mv : M} {env : List Sl} {u u1 u2 : U} {al : Al} {x : Str} {v : Int} (hi : env[i]? = some (.own (.dct (alK al) (alD al)))) (h : mv env u = some (.int v, u1)) (h2 : mk env u1 = some (.str x, u2)) (hl : al.length ≤ 1000) :
    sPutD i mk mv env u = some (.nx (env.set i (.own (.dct (alK (putA x v al)) (alD (putA x v al))))), u2) := by
  unfold sPutD
  rw [hi]
  show bnd (mv env u) _ = _
  rw [h]
  show bnd (mk env u1) _ = _
  rw [h2]
  show (if (alK al).length < sizeLine then _ else _) = _
  rw [if_pos (by unfold alK; rw [List.length_map, line]; omega), put_al]
theorem getD_map (o : Option Int) : (o.map D.int).getD (.int 0) = .int (o.getD 0) := by cases o <;> rfl
theorem compL_fm {α : Type} {f : D → U → Option (Option D × U)} {g h : α → D} {P : α → Bool} {u : U} : ∀ {l : List α}, (∀ a ∈ l, f (g a) u = some (if P a = true then some (h a) else none, u)) → compL f (l.map g) u = some ((l.filter P).map h, u)
  | [], _ => rfl
  | a :: l, hf => by
    rw [List.map_cons]
    unfold compL
    rw [hf a List.mem_cons_self]
    show bnd (compL f (l.map g) u) _ = _
    rw [compL_fm fun b hb => hf b (List.mem_cons_of_mem _ hb)]
    cases q : P a with
    | true => rw [List.filter_cons_of_pos q]; rfl
    | false => rw [List.filter_cons_of_neg (by rw [q]; decide)]; rfl
theorem rising_sort {xs : List Str} (h : xs.Nodup) : Rising (sortS xs) := by
  have hn : (sortS xs).Nodup := (sortS_perm xs).nodup_iff.mpr h
  refine ((sortS_sorted xs).and hn).imp fun {a b} hab => ?_
  by_cases e : a.cps.toList < b.cps.toList
  · exact e
  · exact absurd (leS_anti hab.1 (List.not_lt.mp e)) hab.2
theorem compL_mp {α : Type} {f : D → U → Option (Option D × U)} {g h : α → D} {u : U} {l : List α} (hf : ∀ a ∈ l, f (g a) u = some (some (h a), u)) : compL f (l.map g) u = some (l.map h, u) := by
  have := compL_fm (P := fun _ => true) (h := h) (f := f) (g := g) (u := u) (l := l) fun a ha => by rw [if_pos rfl]; exact hf a ha
  rw [this, List.filter_eq_self.mpr fun _ _ => rfl]
theorem mul3 {h : D} : fMul (.lst [h]) (.int 3) = some (.lst [h, h, h]) := by
  simp only [fMul]
  rw [if_pos ⟨by decide, by decide, by rw [line]; show 1 * 3 ≤ 16777216; decide⟩]
  rfl
end Dv
namespace Dv
open PySem PySem.Spec L2
structure Cod {α : Type} [DecidableEq α] (e : α → D) (p : α → PyData) (ok : α → Prop) (n : Nat) : Prop where
  py : ∀ a, toPy (e a) = some (p a)
  lay : ∀ a, ok a → (p a).canLay0 = true
  dep : ∀ a, (p a).depth ≤ n
  eqv : ∀ a b, PyData.eqv (p a) (p b) = decide (a = b)
  tup : ∀ a, ∃ xs, e a = .tup xs
section
variable {α : Type} [DecidableEq α] {e : α → D} {p : α → PyData} {ok : α → Prop} {n : Nat}
theorem Cod.sh (c : Cod e p ok n) (hn : n < 63) {a : α} (h : ok a) : SeqAt.shaped (p a) = true := by
  unfold SeqAt.shaped
  rw [Bool.and_eq_true]
  exact ⟨c.lay a h, decide_eq_true (by have := c.dep a; omega)⟩
theorem Cod.pys (c : Cod e p ok n) (l : List α) : toPys (l.map e) = some (l.map p) := toPys_map fun a _ => c.py a
theorem Cod.shT (c : Cod e p ok n) (hn : n < 63) {l : List α} (h : ∀ a ∈ l, ok a) : SeqAt.shaped (.tuple (l.map p)) = true := shaped_tup (n := n) (fun a ha => c.lay a (h a ha)) (fun a _ => c.dep a) (by omega)
theorem Cod.shL (c : Cod e p ok n) (hn : n < 63) {l : List α} (h : ∀ a ∈ l, ok a) : SeqAt.shaped (.list (l.map p)) = true := by
  unfold SeqAt.shaped
  rw [Bool.and_eq_true]
  refine ⟨by simp only [PyData.canLay0]; exact lay_map fun a ha => c.lay a (h a ha), decide_eq_true ?_⟩
  have := depth_map (g := p) (n := n) (l := l) fun a _ => c.dep a
  unfold PyData.depth
  omega
theorem Cod.any (c : Cod e p ok n) (a : α) (l : List α) [Decidable (a ∈ l)] : ((l.map p).any fun z => PyData.eqv z (p a)) = decide (a ∈ l) := by
  rw [List.any_map]
  have : ((fun z => PyData.eqv z (p a)) ∘ p) = fun q => decide (q = a) := funext fun q => c.eqv q a
  rw [this, Bool.eq_iff_iff, List.any_eq_true, decide_eq_true_iff]
  exact ⟨fun ⟨x, hx, h⟩ => by rw [← of_decide_eq_true h]; exact hx, fun hx => ⟨a, hx, decide_eq_true rfl⟩⟩
theorem Cod.inT (c : Cod e p ok n) (hn : n < 63) {a : α} {l : List α} [Decidable (a ∈ l)] (h : ok a) (g : ∀ b ∈ l, ok b) : inD (e a) (.tup (l.map e)) = some (decide (a ∈ l)) := by
  show (match toPy (e a), toPys (l.map e) with | some x, some ys => if SeqAt.shaped x = true ∧ SeqAt.shaped (.tuple ys) = true then some (ys.any fun z => PyData.eqv z x) else none | _, _ => none) = _
  rw [c.py, c.pys]
  show (if _ then _ else _) = _
  rw [if_pos ⟨c.sh hn h, c.shT hn g⟩, c.any]
theorem Cod.inL (c : Cod e p ok n) (hn : n < 63) {a : α} {l : List α} [Decidable (a ∈ l)] (h : ok a) (g : ∀ b ∈ l, ok b) : inD (e a) (.lst (l.map e)) = some (decide (a ∈ l)) := by
  show (match toPy (e a), toPys (l.map e) with | some x, some ys => if SeqAt.shaped x = true ∧ SeqAt.shaped (.list ys) = true then some (ys.any fun z => PyData.eqv z x) else none | _, _ => none) = _
  rw [c.py, c.pys]
  show (if _ then _ else _) = _
  rw [if_pos ⟨c.sh hn h, c.shL hn g⟩, c.any]
theorem Cod.cinT (c : Cod e p ok n) (hn : n < 63) {a : α} {l : List α} [Decidable (a ∈ l)] (h : ok a) (g : ∀ b ∈ l, ok b) : cIn (e a) (.tup (l.map e)) = some (.bl (decide (a ∈ l))) := by
  show (inD _ _).map D.bl = _; rw [c.inT hn h g]; rfl
theorem Cod.cinL (c : Cod e p ok n) (hn : n < 63) {a : α} {l : List α} [Decidable (a ∈ l)] (h : ok a) (g : ∀ b ∈ l, ok b) : cIn (e a) (.lst (l.map e)) = some (.bl (decide (a ∈ l))) := by
  show (inD _ _).map D.bl = _; rw [c.inL hn h g]; rfl
end
end Dv
namespace Dv
open PySem PySem.Spec PyProof.Rows L2
end Dv
namespace Dv
open PySem PySem.Spec PyProof.Rows L2
section
variable {X : Cx}
theorem ps_setDc {i : Nat} {y : Str} {py : Pos} {kx vx tg iter : Expr} {ifs : List Expr} {scope : Scope} {own : List (Str × Nat)} {pos spos : Pos} {wi : TI} {g : TG} {tt : TT} {tk tv : TE} (hc : X.calm = true) (hN : X.N.Nodup) (hy : X.N[i]? = some y) (hyl : X.env.scope.names.lookup y = some .local)
    (hsw : swapsWith (.DictComp kx vx [⟨tg, iter, ifs, 0⟩] scope pos) (some (.Name y py)) spos.line X.env = pure true) (hi : PI X tg iter wi) (ok : BlkOk X.N X.env.scope scope own)
    (hg : ∀ (s : Shared) (H : Hp) (C : Addr) (cl : List (Str × Addr)) (fp : List Addr), PG (X.blk s H scope (compEnvC scope cl C X.env) fp) tg g) (ht : ∀ (s : Shared) (H : Hp) (C : Addr) (cl : List (Str × Addr)) (fp : List Addr), PTs (X.blk s H scope (compEnvC scope cl C X.env) fp) ifs tt)
    (hk : ∀ (s : Shared) (H : Hp) (C : Addr) (cl : List (Str × Addr)) (fp : List Addr), PE (X.blk s H scope (compEnvC scope cl C X.env) fp) kx tk)
    (he : ∀ (s : Shared) (H : Hp) (C : Addr) (cl : List (Str × Addr)) (fp : List Addr), PE (X.blk s H scope (compEnvC scope cl C X.env) fp) vx tv) (hs : ∀ x, foldedSetIterable iter X.env x = pure x := by intro _; rfl) :
    PS X (.Assign [.Name y py] (.DictComp kx vx [⟨tg, iter, ifs, 0⟩] scope pos) spos) (tAsg (tDc wi g tt tk tv (own.map (·.2))) (gName i)) := by
  refine ⟨fun pins s σ H D I h => ?_⟩
  rw [exec_Assign_Name_used _ _ _ _ hsw]
  refine wpAny_bind (wpAny_standAt (wpAny_bind ?_))
  show wpAny _ X.A (do let _ ← comprehension (.DictComp kx vx [⟨tg, iter, ifs, 0⟩] scope pos) scope X.env (firstIterPos [⟨tg, iter, ifs, 0⟩] pos) newDict false (eval iter X.env) (some (assign (.Name y py) X.env))) _ _ s
  have h : tDc wi g tt tk tv (own.map (·.2)) σ H (fun x H1 => gName i x σ H1 D.nx) := h
  refine wpAny_bind (thn (dc_core (Qf := fun _ s' => SP X pins D .next s') hc hN I hi ok hg ht hk he hs h fun L C s' m H' I' q hn f => ?_) fun _ s' hq => wpAny_pure (wpAny_pure hq))
  show wpAny _ _ (assign (.Name y py) X.env (.ref L)) _ _ _
  refine wpAny_assign_Name (store_ok2 (v := V.ref L) I' hN hy (.inl hyl) rfl (fun s2 I2 ⟨a, sb, ha⟩ => ?_) (.inr hyl))
  obtain ⟨f0, f1, f2, f3, f4, f5⟩ := f
  have haC : C ≠ a := by
    rcases ha with z | z
    · rw [z]; exact f1
    · exact fun e => f4 y a z e.symm
  refine ⟨m, hn.sameBut sb haC, fun h3 sb3 => ?_⟩
  exact ⟨_, H', I2.turned (t' := s2.toks) (fun b o hb e => (sb3.2 b hb).trans e) f0 f1 f3 f4 f5, q⟩
theorem sw_trueD {kx vx : Expr} {gs : List Comprehension} {scope : Scope} {pos py : Pos} {y : Str} {l : Nat} {env : Env} (hk : env.scope.kind = .function) (hy : env.scope.names.lookup y = some .local) (hl : (py.line == pos.line) = true)
    (ha : (scope.names.any fun (n, k) => n == y && (k == .local || k == .cell)) = false) : swapsWith (.DictComp kx vx gs scope pos) (some (.Name y py)) l env = pure true := by
  have ky : env.kindOf y = some .local := hy
  have hb : env.blockKind = .function := by unfold Env.blockKind; rw [hk]; rfl
  unfold swapsWith
  simp only [hb, ky, ha, Expr.pos, hl]
  rfl
variable {G : Gx X.K} {W : WX} {mv : MSl} {st : Stmt} {mi : MI} {mc : MB} {mk : M}
theorem ds_ofAsg (i : Nat) (h : PS X st (tAsg (tSv G mv) (gName i))) : PS X st (tSt G W (sSv i mv)) := h.imp fun Dn σ H h => by
  obtain ⟨ua, u, B, env, fl, u', B0, H0, hg, hO, hE, hW, hm, q⟩ := h
  obtain ⟨s, u1, c1, c2⟩ := bnd_some hm
  cases c2
  refine ⟨ua, u, B, env, s, _, hE, hW, c1, fun v H1 a => ?_⟩
  obtain ⟨B', g, w, r⟩ := a
  exact q _ B' H1 (hg.trans g) (r.news hO hg.live i) (r.store (hE.grow g) i hE.far) w
theorem PS.by' {t : TS} (h : ∀ D σ H, t D σ H → ∃ t0 : TS, PS X st t0 ∧ t0 D σ H) : PS X st t := ⟨fun pins s σ H D I w => let ⟨_, p, w0⟩ := h D σ H w; p.run pins s σ H D I w0⟩
theorem asg_peek (i j : Nat) (h : PS X st (tAsg (tSv G mv) (gName i))) : PS X st (tAsg (tSv G (vPeek j mv)) (gName i)) := by
  refine PS.by' fun Dn σ H z => ?_
  obtain ⟨ua, u, B, env, d, u', hE, hW, hm, q⟩ := z
  unfold vPeek at hm
  split at hm
  · rename_i o hi
    obtain ⟨s, u1, c1, c2⟩ := bnd_some hm
    split at c2
    · rename_i o' 
      split at c2
      · rename_i hsc
        cases c2
        obtain ⟨l, ho, s1, s2, s3, s4, s5⟩ := hE.own j o hi
        rcases s4.show s3 with ⟨_, r⟩ | ⟨ks, ds, rfl, mu, r⟩
        · refine ⟨_, h, ?_⟩
          have eS := hE.show hi s1 s3 r
          have wS := hW.showU (ho' := ho) s3 s5
          have id := upd_id s2
          rw [id] at eS wS
          refine ⟨ua, u, _, _, _, _, eS, wS, c1, fun v H1 ⟨B1, g1, w1, r1⟩ => ?_⟩
          have g1' : Grow ua (upd B l ho) (upd H l ho) B1 H1 := by rw [id]; exact g1
          obtain ⟨g2, w2⟩ := peek_back hW s2 s3 s5 g1' w1
          have k1 : H1 l = some ho := g1.keep _ _ s2 s5
          rw [upd_id k1] at g2 w2
          obtain ⟨p, hp, e1, e2, e3, e4, e5, e6⟩ := r1
          refine q v H1 ⟨B, g2, w2, p, hp, e1, e2, e3, ?_, e5, e6.scal hsc⟩
          exact hW.none_of e2
        · refine ⟨_, ps_lock h, l, ho, s2, mu, fun od => ?_⟩
          refine ⟨ua, u, _, _, _, _, hE.show hi s1 s3 (r od), hW.showU s3 s5, c1, fun v H1 ⟨B1, g1, w1, r1⟩ => ?_⟩
          obtain ⟨g2, w2⟩ := peek_back hW s2 s3 s5 g1 w1
          obtain ⟨p, hp, e1, e2, e3, e4, e5, e6⟩ := r1
          have np : p ≠ l := fun z => by rw [z, upd_same] at e2; cases e2
          rw [upd_ne np] at e2
          exact ⟨g1.keep _ _ upd_same s5, q v _ ⟨B, g2, w2, p, hp, e1, e2, by rw [upd_ne np]; exact e3, hW.none_of e2, e5, e6.scal hsc⟩⟩
      · cases c2
    · cases c2
  · cases hm
variable {kx vx tg iter : Expr} {ifs : List Expr} {scope : Scope} {own : List (Str × Nat)} {pos py spos : Pos} {y : Str} {mv : M}
theorem pa_dc (i : Nat) (t : Tgt) (ids : List Nat) (hc : X.calm = true) (hN : X.N.Nodup) 
    (hsw : swapsWith (.DictComp kx vx [⟨tg, iter, ifs, 0⟩] scope pos) (some (.Name y py)) spos.line X.env = pure true)
    (hi : PI X tg iter (tIt G mi)) (ok : BlkOk X.N X.env.scope scope own) (hid : own.map (·.2) = ids) (ht : ∀ i ∈ t.ids, i ∈ ids)
    (hg : ∀ (s : Shared) (H : Hp) (C : Addr) (cl : List (Str × Addr)) (fp : List Addr), PG (X.blk s H scope (compEnvC scope cl C X.env) fp) tg (gOf X.K t)) (hq : ∀ (s : Shared) (H : Hp) (C : Addr) (cl : List (Str × Addr)) (fp : List Addr), PTs (X.blk s H scope (compEnvC scope cl C X.env) fp) ifs (tTst (K := X.K) G mc))
    (hk : ∀ (s : Shared) (H : Hp) (C : Addr) (cl : List (Str × Addr)) (fp : List Addr), PE (X.blk s H scope (compEnvC scope cl C X.env) fp) kx (tEv (K := X.K) G mk))
    (he : ∀ (s : Shared) (H : Hp) (C : Addr) (cl : List (Str × Addr)) (fp : List Addr), PE (X.blk s H scope (compEnvC scope cl C X.env) fp) vx (tEv (K := X.K) G mv)) (hy : X.N[i]? = some y := by rfl) (hyl : X.env.scope.names.lookup y = some .local := by rfl) (hs : ∀ x, foldedSetIterable iter X.env x = pure x := by intro _; rfl) :
    PS X (.Assign [.Name y py] (.DictComp kx vx [⟨tg, iter, ifs, 0⟩] scope pos) spos) (tAsg (tSv G (vDC t ids mi mc mk mv)) (gName i)) := by
  subst hid
  exact (ps_setDc hc hN hy hyl hsw hi ok hg hq hk he hs).imp fun _ _ _ h => dc_read ht h
end
end Dv
namespace Dv
open PySem PySem.Spec PyProof.Rows L2
theorem perm_map_back {α β : Type} {f : α → β} : ∀ {l : List α} {ys : List β}, ys.Perm (l.map f) → ∃ qs : List α, ys = qs.map f ∧ qs.Perm l
  | [], ys, h => ⟨[], by rw [List.perm_nil.mp h]; rfl, .refl _⟩
  | x :: l, ys, h => by
    have hm : f x ∈ ys := h.symm.subset List.mem_cons_self
    obtain ⟨s, t, rfl⟩ := List.append_of_mem hm
    have h2 : (s ++ t).Perm (l.map f) := (List.perm_cons (f x)).mp ((List.perm_middle.symm.trans h))
    obtain ⟨qs, e, hp⟩ := perm_map_back h2
    obtain ⟨q1, q2, e1, e2, e3⟩ := List.append_eq_map_iff.mp e
    refine ⟨q1 ++ x :: q2, by rw [← e2, ← e3, List.map_append]; rfl, List.perm_middle.trans (.cons x (by rw [← e1]; exact hp))⟩
theorem sortB_s {xs : List Str} (h : xs.length < 64) : bSortB [.lst (xs.map .str)] = some (.lst ((sortS xs).map .str)) := by
  show (match bSortA [.lst (xs.map .str)] with | some d => some d | none => sortP (xs.map .str)) = _
  rw [sortA_s h]
theorem sortB_r {ks : List (List Key)} {sh : List Bool} (h : ∀ k ∈ ks, shapeR k = sh) (hn : sh ≠ []) : bSortB [.lst (ks.map rowD)] = some (.lst ((sortR ks).map rowD)) := by
  show (match bSortA [.lst (ks.map rowD)] with | some d => some d | none => sortP (ks.map rowD)) = _
  rw [sortA_r h hn]
theorem sortB_lines (ls : Al) : ∃ qs : Al, bSortB [.lst (ls.map lineD)] = some (.lst (qs.map lineD)) ∧ qs.Perm ls ∧ (qs.map pairK).Pairwise LeR := by
  have h := sortB_r (ks := ls.map pairK) (sh := [false, true]) (fun k hk => by
    obtain ⟨p, _, rfl⟩ := List.mem_map.mp hk
    exact pair_shape p) (by decide)
  obtain ⟨qs, hq, hp⟩ : ∃ qs : Al, sortR (ls.map pairK) = qs.map pairK ∧ qs.Perm ls := perm_map_back (sortR_perm _)
  refine ⟨qs, ?_, hp, by rw [← hq]; exact sortR_sorted _⟩
  rw [hq, List.map_map, List.map_map] at h
  exact h
abbrev TRow := (Str × Int) × Al
def rowT (r : TRow) : D := .tup [lineD r.1, .tup (r.2.map lineD)]
def rowTP (r : TRow) : PyData := .tuple [lineP r.1, .tuple (r.2.map lineP)]
theorem rowT_py (r : TRow) : toPy (rowT r) = some (rowTP r) := by
  have e : toPys (r.2.map lineD) = some (r.2.map lineP) := toPys_map fun a _ => line_py a
  unfold rowT rowTP
  simp [toPy, toPys, line_py, e]
theorem line_alike (a b : Str × Int) : W.alike (lineP a) (lineP b) = true := by simp [lineP, W.alike, W.alikeAll]
theorem lines_alike : ∀ as bs : Al, W.alikeAll (as.map lineP) (bs.map lineP) = true
  | [], bs => by rw [List.map_nil, W.alikeAll]
  | a :: as, [] => by rw [List.map_cons, List.map_nil, W.alikeAll]
  | a :: as, b :: bs => by rw [List.map_cons, List.map_cons, W.alikeAll, line_alike, lines_alike as bs]; rfl
theorem rowT_alike (a b : TRow) : W.alike (rowTP a) (rowTP b) = true := by
  unfold rowTP
  rw [W.alike, W.alikeAll, W.alikeAll, line_alike, W.alike, lines_alike]
  simp [W.alikeAll]
theorem rowTs_py (rs : List TRow) : toPys (rs.map rowT) = some (rs.map rowTP) := toPys_map fun a _ => rowT_py a
theorem rowT_dep (r : TRow) : (rowTP r).depth ≤ 60 := by
  have h : PyData.depthAll (r.2.map lineP) ≤ 1 := depth_map fun a _ => line_dep a
  have h1 := line_dep r.1
  unfold rowTP
  simp only [PyData.depth, PyData.depthAll]
  omega
theorem okG_rows (rs : List TRow) : okG (rs.map rowTP) = true := by
  unfold okG alikeB sortableB
  rw [Bool.and_eq_true, Bool.and_eq_true, Bool.or_eq_true]
  refine ⟨⟨?_, .inl ?_⟩, ?_⟩
  · refine List.all_eq_true.mpr fun p hp => List.all_eq_true.mpr fun q hq => ?_
    obtain ⟨a, _, rfl⟩ := List.mem_map.mp hp
    obtain ⟨b, _, rfl⟩ := List.mem_map.mp hq
    exact rowT_alike a b
  · refine List.all_eq_true.mpr fun p hp => ?_
    obtain ⟨a, _, rfl⟩ := List.mem_map.mp hp
    rfl
  · refine List.all_eq_true.mpr fun p hp => ?_
    obtain ⟨a, _, rfl⟩ := List.mem_map.mp hp
    exact decide_eq_true (rowT_dep a)
theorem pyD_row (r : TRow) : pyD (rowT r) = rowTP r := by unfold pyD; rw [rowT_py]; rfl
theorem leG_row {a b : TRow} (h : a.1 ≠ b.1) : leG (rowT a) (rowT b) = leR (pairK a.1) (pairK b.1) := by
  show (!W.dataLt (pyD (rowT b)) (pyD (rowT a))) = _
  rw [pyD_row, pyD_row]
  have e1 : W.dataLt (rowTP b) (rowTP a) = PyProof.Rows.lexLt PyProof.Rows.itemOrd (W.keyToksAll (lineP b.1 :: [.tuple (b.2.map lineP)])) (W.keyToksAll (lineP a.1 :: [.tuple (a.2.map lineP)])) := W.dataLt_tuple _ _
  rw [e1, W.dataLt_cons (line_alike b.1 a.1), line_eqv, if_neg (by simpa using fun z => h z.symm)]
  have e2 : W.dataLt (lineP b.1) (lineP a.1) = W.rowLt ((pairK b.1).map keyPy) ((pairK a.1).map keyPy) := W.dataLt_tuple _ _
  rw [e2, row_lt (a := pairK a.1) (b := pairK b.1) rfl, Bool.not_not]
theorem nodup_inj {α β : Type} {f : α → β} : ∀ {l : List α}, (l.map f).Nodup → ∀ {a b : α}, a ∈ l → b ∈ l → f a = f b → a = b
  | [], _, _, _, ha, _, _ => by cases ha
  | x :: r, h, a, b, ha, hb, e => by
    rw [List.map_cons, List.nodup_cons] at h
    rcases List.mem_cons.mp ha with ha1 | ha1
    · rcases List.mem_cons.mp hb with hb1 | hb1
      · rw [ha1, hb1]
      · rw [ha1] at e
        exact absurd (List.mem_map.mpr ⟨b, hb1, e.symm⟩) h.1
    · rcases List.mem_cons.mp hb with hb1 | hb1
      · rw [hb1] at e
        exact absurd (List.mem_map.mpr ⟨a, ha1, e⟩) h.1
      · exact nodup_inj h.2 ha1 hb1 e
/-- sorted rows, told by their LINEs' order -/
theorem sortB_rows {rs qs : List TRow} (hp : qs.Perm rs) (hn : (rs.map (·.1)).Nodup) (hs : (qs.map fun q => pairK q.1).Pairwise LeR) : bSortB [.lst (rs.map rowT)] = some (.lst (qs.map rowT)) := by
  have hin : ∀ {a b : TRow}, a ∈ rs → b ∈ rs → a.1 = b.1 → a = b := fun ha hb e => nodup_inj hn ha hb e
  have hG : sortG (rs.map rowT) = qs.map rowT := by
    refine List.Perm.eq_of_pairwise (le := LeG) (fun x y hx hy h1 h2 => ?_) (sortG_sorted _) ?_ ((sortG_perm _).trans (hp.map rowT).symm)
    · have hx' := (sortG_perm _).subset hx
      obtain ⟨a, ha, rfl⟩ := List.mem_map.mp hx'
      obtain ⟨b, hb, rfl⟩ := List.mem_map.mp hy
      by_cases q : a.1 = b.1
      · rw [hin ha (hp.subset hb) q]
      · have h1 : leG _ _ = true := h1
        have h2 : leG _ _ = true := h2
        rw [leG_row q] at h1
        rw [leG_row (fun z => q z.symm)] at h2
        exact absurd (pairK_inj (leR_anti h1 h2)) q
    · refine List.pairwise_map.mpr ?_
      have h1 := List.pairwise_map.mp hs
      have hn2 : (qs.map (·.1)).Nodup := (hp.map (·.1)).nodup_iff.mpr hn
      exact ((List.pairwise_map.mp hn2).and h1).imp fun ⟨h, g⟩ => by
        show leG _ _ = true
        rw [leG_row h]; exact g
  cases rs with
  | nil =>
    rw [List.perm_nil.mp hp]; rfl
  | cons r rest =>
    have e : bSortA [.lst ((r :: rest).map rowT)] = none := rfl
    show (match bSortA [.lst ((r :: rest).map rowT)] with | some d => some d | none => sortP ((r :: rest).map rowT)) = _
    rw [e]
    show (toPys ((r :: rest).map rowT)).bind _ = _
    rw [rowTs_py]
    show (if _ then _ else _) = _
    rw [if_pos (okG_rows _), hG]
end Dv
namespace Dv
open PySem PySem.Spec PyProof.Rows L2
theorem deed_eq {p q : Dd} (h : TxO p.2) (g : TxO q.2) : eqD (deedD p) (deedD q) = some (decide (p = q)) := by
  show (match toPy (deedD p), toPy (deedD q) with | some x, some y => if SeqAt.shaped x = true ∧ SeqAt.shaped y = true then some (PyData.eqv x y) else none | _, _ => none) = _
  rw [deed_py, deed_py]
  show (if _ then _ else _) = _
  rw [if_pos ⟨deed_shaped h, deed_shaped g⟩, deed_eqv]
theorem deed_ceq {p q : Dd} (h : TxO p.2) (g : TxO q.2) : cEq (deedD p) (deedD q) = some (.bl (decide (p = q))) := by
  show (eqD _ _).map D.bl = _
  rw [deed_eq h g]; rfl
def manyOf (x : Str) (ds : List Dd) : Nat := ds.countP (fun q => decide (q = (true, x)))
def outR (x : Str) : List Dd → Nat
  | [] => 0
  | p :: r => if p.1 = true then outR x r else if p.2 = x then manyOf x r else outR x r
def ouOf (x : Str) (ds : List Dd) : Nat := outR x ds.reverse
theorem many_snoc (x : Str) (ds : List Dd) (p : Dd) : manyOf x (ds ++ [p]) = manyOf x ds + if p = (true, x) then 1 else 0 := by
  unfold manyOf
  rw [List.countP_append, List.countP_singleton]
  by_cases h : p = (true, x)
  · rw [if_pos h, if_pos (decide_eq_true h)]
  · rw [if_neg h, if_neg (by simpa using h)]
theorem out_snoc (x : Str) (ds : List Dd) (p : Dd) : ouOf x (ds ++ [p]) = if p.1 = true then ouOf x ds else if p.2 = x then manyOf x ds else ouOf x ds := by
  unfold ouOf
  rw [List.reverse_append]
  show (if p.1 = true then outR x ds.reverse else if p.2 = x then manyOf x ds.reverse else outR x ds.reverse) = _
  have : manyOf x ds.reverse = manyOf x ds := List.countP_reverse ..
  rw [this]
structure CI (pre : List Dd) (w o : Al) : Prop where
  nw : NdA w
  no_ : NdA o
  lw : w.length ≤ pre.length
  lo : o.length ≤ pre.length
  w : ∀ x, (getA x w).getD 0 = (manyOf x pre : Int)
  o : ∀ x, (getA x o).getD 0 = (ouOf x pre : Int)
theorem CI.nil : CI [] [] [] := ⟨.nil, .nil, Nat.le_refl _, Nat.le_refl _, fun _ => rfl, fun _ => rfl⟩
theorem CI.write {pre : List Dd} {w o : Al} (h : CI pre w o) (x : Str) : CI (pre ++ [(true, x)]) (putA x ((getA x w).getD 0 + 1) w) o := by
  refine ⟨h.nw.put _ _, h.no_, ?_, ?_, fun y => ?_, fun y => ?_⟩
  · have := put_len x ((getA x w).getD 0 + 1) w; have := h.lw; rw [List.length_append]; simp; omega
  · have := h.lo; rw [List.length_append]; simp; omega
  · rw [get_put, many_snoc]
    by_cases e : y = x
    · subst e
      rw [if_pos rfl, if_pos rfl]
      show (getA y w).getD 0 + 1 = _
      rw [h.w]; omega
    · rw [if_neg e, if_neg (fun z => e (by cases z; rfl)), h.w]; rfl
  · rw [h.o, out_snoc, if_pos rfl]
theorem CI.flush {pre : List Dd} {w o : Al} (h : CI pre w o) (x : Str) : CI (pre ++ [(false, x)]) w (putA x ((getA x w).getD 0) o) := by
  refine ⟨h.nw, h.no_.put _ _, ?_, ?_, fun y => ?_, fun y => ?_⟩
  · have := h.lw; rw [List.length_append]; simp; omega
  · have := put_len x ((getA x w).getD 0) o; have := h.lo; rw [List.length_append]; simp; omega
  · rw [many_snoc, if_neg (fun z => by cases z), h.w]; rfl
  · rw [get_put, out_snoc]
    show _ = ((if x = y then manyOf y pre else ouOf y pre : Nat) : Int)
    by_cases e : y = x
    · subst e
      rw [if_pos rfl, if_pos rfl]
      show (getA y w).getD 0 = _
      exact h.w y
    · rw [if_neg e, if_neg (fun z => e z.symm), h.o]
theorem takeS {ds : List Dd} {j : Nat} (h : j < ds.length) : ds.take (j + 1) = ds.take j ++ [ds[j]] := by
  rw [List.take_succ, List.getElem?_eq_getElem h]; rfl
/-- the streams of ds are among xs -/
def InS (ds : List Dd) (xs : List Str) : Prop := ∀ p ∈ ds, p.2 ∈ xs
theorem outR_0 {xs : List Str} {x : Str} (hx : x ∉ xs) : ∀ {ds : List Dd}, InS ds xs → outR x ds = 0
  | [], _ => rfl
  | p :: r, h => by
    have hr : InS r xs := fun q hq => h q (List.mem_cons_of_mem _ hq)
    unfold outR
    split
    · exact outR_0 hx hr
    · rw [if_neg (fun z => hx (by rw [← z]; exact h p List.mem_cons_self))]; exact outR_0 hx hr
theorem InS.take {ds : List Dd} {xs : List Str} (h : InS ds xs) (k : Nat) : InS (ds.take k) xs := fun p hp => h p (List.mem_of_mem_take hp)
theorem InS.rev {ds : List Dd} {xs : List Str} (h : InS ds xs) : InS ds.reverse xs := fun p hp => h p (List.mem_reverse.mp hp)
def dA (al : Al) : D := .dct (alK al) (alD al)
abbrev Wp := Nat × Str
def wrUp (ds : List Dd) : Nat → List Wp
  | 0 => []
  | n + 1 => wrUp ds n ++ match ds[n]? with
    | some (true, x) => [(n, x)]
    | _ => []
abbrev wr (ds : List Dd) : List Wp := wrUp ds ds.length
theorem wr_t {ds : List Dd} {n : Nat} {x : Str} (h : ds[n]? = some (true, x)) : wrUp ds (n + 1) = wrUp ds n ++ [(n, x)] := by
  show wrUp ds n ++ (match ds[n]? with | some (true, x) => [(n, x)] | _ => []) = _
  rw [h]
theorem wr_f {ds : List Dd} {n : Nat} {x : Str} (h : ds[n]? = some (false, x)) : wrUp ds (n + 1) = wrUp ds n := by
  show wrUp ds n ++ (match ds[n]? with | some (true, x) => [(n, x)] | _ => []) = _
  rw [h]; exact List.append_nil _
theorem wr_mem {ds : List Dd} : ∀ {n : Nat} {w : Wp}, w ∈ wrUp ds n → w.1 < n ∧ ds[w.1]? = some (true, w.2)
  | 0, _, h => by cases h
  | n + 1, w, h => by
    rcases List.mem_append.mp h with h | h
    · obtain ⟨h1, h2⟩ := wr_mem h; exact ⟨by omega, h2⟩
    · split at h
      · rename_i x hx
        rw [List.mem_singleton.mp h]
        exact ⟨Nat.lt_succ_self _, hx⟩
      · cases h
theorem wr_len {ds : List Dd} : ∀ n, (wrUp ds n).length ≤ n
  | 0 => Nat.le_refl _
  | n + 1 => by
    have := wr_len (ds := ds) n
    show (wrUp ds n ++ _).length ≤ _
    rw [List.length_append]
    split
    · simp; omega
    · simp; omega
theorem wr_nodup {ds : List Dd} : ∀ n, ((wrUp ds n).map (·.1)).Nodup
  | 0 => .nil
  | n + 1 => by
    show ((wrUp ds n ++ _).map (·.1)).Nodup
    rw [List.map_append]
    refine List.nodup_append.mpr ⟨wr_nodup n, by split <;> simp, fun a ha b hb e => ?_⟩
    obtain ⟨w, hw, rfl⟩ := List.mem_map.mp ha
    have h1 := (wr_mem hw).1
    split at hb
    · simp at hb; omega
    · cases hb
def lineOf (ds : List Dd) (w : Wp) : Str × Int := (w.2, (manyOf w.2 (ds.take (w.1 + 1)) : Int))
theorem many_mono (x : Str) (ds : List Dd) {a b : Nat} (h : a ≤ b) : manyOf x (ds.take a) ≤ manyOf x (ds.take b) := by
  rw [show ds.take a = (ds.take b).take a by rw [List.take_take, Nat.min_eq_left h]]
  exact List.Sublist.countP_le (List.take_sublist _ _)
theorem many_at {x : Str} {ds : List Dd} {k : Nat} (h : ds[k]? = some (true, x)) : manyOf x (ds.take (k + 1)) = manyOf x (ds.take k) + 1 := by
  obtain ⟨hk, e⟩ := List.getElem?_eq_some_iff.mp h
  rw [takeS hk, many_snoc, e, if_pos rfl]
theorem lineOf_inj {ds : List Dd} {n : Nat} {a b : Wp} (ha : a ∈ wrUp ds n) (hb : b ∈ wrUp ds n) (e : lineOf ds a = lineOf ds b) : a = b := by
  obtain ⟨_, ga⟩ := wr_mem ha
  obtain ⟨_, gb⟩ := wr_mem hb
  obtain ⟨i, x⟩ := a
  obtain ⟨j, y⟩ := b
  have e1 : x = y := congrArg Prod.fst e
  subst e1
  have e2 : (manyOf x (ds.take (i + 1)) : Int) = (manyOf x (ds.take (j + 1)) : Int) := congrArg Prod.snd e
  have e3 : manyOf x (ds.take (i + 1)) = manyOf x (ds.take (j + 1)) := by omega
  have ma : manyOf x (ds.take (i + 1)) = manyOf x (ds.take i) + 1 := many_at ga
  have mb : manyOf x (ds.take (j + 1)) = manyOf x (ds.take j) + 1 := many_at gb
  have : i = j := by
    rcases Nat.lt_trichotomy i j with h | h | h
    · have := many_mono x ds (a := i + 1) (b := j) (by omega); omega
    · exact h
    · have := many_mono x ds (a := j + 1) (b := i) (by omega); omega
  rw [this]
theorem wr_nd {ds : List Dd} (n : Nat) : (wrUp ds n).Nodup := List.Pairwise.imp (fun h e => h (by rw [e])) (List.pairwise_map.mp (wr_nodup (ds := ds) n))
theorem lines_nodup (ds : List Dd) (n : Nat) : ((wrUp ds n).map (lineOf ds)).Nodup :=
  List.pairwise_map.mpr ((wr_nd (ds := ds) n).imp_of_mem fun ha hb h e => h (lineOf_inj ha hb e))
def flB (ds : List Dd) (y : Str) (j k : Nat) : Bool := ((ds.take k).drop j).any fun p => decide (p = (false, y))
def ahB (ds : List Dd) (k : Nat) (w : Wp) : Bool := flB ds w.2 w.1 k
theorem fl_step {ds : List Dd} {y : Str} {j k : Nat} (hk : k < ds.length) (hj : j ≤ k) : flB ds y j (k + 1) = (flB ds y j k || decide (ds[k] = (false, y))) := by
  unfold flB
  rw [takeS hk, List.drop_append_of_le_length (by rw [List.length_take]; omega), List.any_append]
  simp
theorem fl_none {ds : List Dd} {y : Str} {j k : Nat} (hj : k ≤ j) : flB ds y j k = false := by
  unfold flB
  rw [List.drop_eq_nil_of_le (by rw [List.length_take]; omega)]; rfl
/-- so many writes of a stream up to a place -/
theorem cnt_wr {ds : List Dd} {y : Str} : ∀ {n : Nat}, n ≤ ds.length → (wrUp ds n).countP (fun w => decide (w.2 = y)) = manyOf y (ds.take n)
  | 0, _ => by rw [List.take_zero]; rfl
  | n + 1, h => by
    have hn : n < ds.length := by omega
    have ih := cnt_wr (ds := ds) (y := y) (n := n) (by omega)
    obtain ⟨⟨b, x⟩, hd⟩ : ∃ p, ds[n] = p := ⟨_, rfl⟩
    rw [takeS hn, many_snoc, hd]
    have hg : ds[n]? = some (b, x) := by rw [List.getElem?_eq_getElem hn, hd]
    cases b with
    | true =>
      rw [wr_t hg, List.countP_append, ih, List.countP_singleton]
      show _ + (if decide (x = y) = true then 1 else 0) = _
      by_cases e : x = y
      · rw [if_pos (decide_eq_true e), if_pos (by rw [e])]
      · rw [if_neg (by simpa using e), if_neg (fun z => e (congrArg Prod.snd z))]
    | false =>
      rw [wr_f hg, ih, if_neg (fun z => Bool.false_ne_true (congrArg Prod.fst z))]; rfl
theorem wr_ext {ds : List Dd} {k n : Nat} (h : k ≤ n) : ∃ r, wrUp ds n = wrUp ds k ++ r ∧ ∀ w ∈ r, k ≤ w.1 := by
  induction n with
  | zero => exact ⟨[], by rw [show k = 0 by omega]; rfl, by simp⟩
  | succ n ih =>
    by_cases e : k = n + 1
    · exact ⟨[], by rw [e, List.append_nil], by simp⟩
    · obtain ⟨r, h1, h2⟩ := ih (by omega)
      refine ⟨r ++ match ds[n]? with | some (true, x) => [(n, x)] | _ => [], by rw [← List.append_assoc, ← h1]; rfl, fun w hw => ?_⟩
      rcases List.mem_append.mp hw with hw | hw
      · exact h2 w hw
      · split at hw
        · rw [List.mem_singleton.mp hw]; show k ≤ n; omega
        · cases hw
def tTold (xs : List Str) (ds : List Dd) (w : Wp) : Al := told xs fun y => if y = w.2 then 0 else (ouOf y (ds.take w.1) : Int)
def rowOf_ (xs : List Str) (ds : List Dd) (w : Wp) : TRow := (lineOf ds w, tTold xs ds w)
theorem told_len (xs : List Str) (f : Str → Int) : (told xs f).length ≤ xs.length := by
  unfold told
  exact Nat.le_trans (List.length_filter_le _ _) (by rw [List.length_map]; exact Nat.le_refl _)
/-- the sorted LINEs, with their places; the sorted rows -/
theorem tab_sorts (xs : List Str) (ds : List Dd) : ∃ ws : List Wp, ws.Perm (wr ds) ∧ bSortB [.lst ((wr ds).map fun w => lineD (lineOf ds w))] = some (.lst (ws.map fun w => lineD (lineOf ds w))) ∧
    bSortB [.lst ((wr ds).map fun w => rowT (rowOf_ xs ds w))] = some (.lst (ws.map fun w => rowT (rowOf_ xs ds w))) := by
  obtain ⟨qs, h1, h2, h3⟩ := sortB_lines ((wr ds).map (lineOf ds))
  obtain ⟨ws, rfl, hp⟩ := perm_map_back h2
  refine ⟨ws, hp, ?_, ?_⟩
  · rw [List.map_map, List.map_map] at h1; exact h1
  · have := sortB_rows (rs := (wr ds).map (rowOf_ xs ds)) (qs := ws.map (rowOf_ xs ds)) (hp.map _) (by rw [List.map_map]; exact lines_nodup ds _) (by
      rw [List.map_map] at h3 ⊢; exact h3)
    rw [List.map_map, List.map_map] at this; exact this
end Dv
namespace Dv
open PySem PySem.Spec PyProof.Rows L2
theorem deedCod : Cod deedD deedP (fun p => TxO p.2) 1 := ⟨deed_py, fun _ h => deed_lay h, deed_dep, deed_eqv, fun a => ⟨_, rfl⟩⟩
theorem cutD_mid {xs : List D} {i k : Nat} (hi : i ≤ xs.length) (hk : k ≤ xs.length) : cutD xs (some (i : Int)) (some (k : Int)) = (xs.take k).drop i := by
  unfold cutD
  rw [HT.sIx_nat, HT.sIx_nat, Nat.min_eq_left hi, Nat.min_eq_left hk, List.drop_take]
theorem slT_mid {α : Type} {f : α → D} {ds : List α} {i k : Nat} (hi : i ≤ ds.length) (hk : k ≤ ds.length) : slD (.tup (ds.map f)) (some (i : Int)) (some (k : Int)) = some (.tup (((ds.take k).drop i).map f)) := by
  show some (D.tup (cutD (ds.map f) (some (i : Int)) (some (k : Int)))) = _
  rw [cutD_mid (by rw [List.length_map]; exact hi) (by rw [List.length_map]; exact hk), ← List.map_take, ← List.map_drop]
theorem eq_fl (b : Bool) : cEq (.str (wdS b)) (.str ("flush" : Str)) = some (.bl (!b)) := by
  show some (D.bl (decide (wdS b = wdS false))) = _
  rw [decide_eq_decide.mpr wdS_inj]
  cases b <;> rfl
theorem eq_wd' (b : Bool) : cEq (.str (wdS b)) (.str ("write" : Str)) = some (.bl b) := by
  show some (D.bl (decide (wdS b = wdS true))) = _
  rw [decide_eq_decide.mpr wdS_inj]
  cases b <;> rfl
theorem compL_snoc {f : D → U → Option (Option D × U)} {x : D} {o : Option D} {u : U} : ∀ {xs : List D} {r : List D}, compL f xs u = some (r, u) → f x u = some (o, u) → compL f (xs ++ [x]) u = some (r ++ o.toList, u) := by
  have app : ∀ (xs ys : List D) (u u1 u2 : U) (r1 r2 : List D), compL f xs u = some (r1, u1) → compL f ys u1 = some (r2, u2) → compL f (xs ++ ys) u = some (r1 ++ r2, u2) := fun xs => by
    induction xs with
    | nil => intro ys u u1 u2 r1 r2 h g; cases h; exact g
    | cons d xs ih =>
      intro ys u u1 u2 r1 r2 h g
      unfold compL at h
      obtain ⟨y, v, h1, h2⟩ := bnd_some h
      obtain ⟨r, w, h3, h4⟩ := bnd_some h2
      rw [List.cons_append]
      unfold compL
      rw [h1]
      show bnd (compL f (xs ++ ys) v) _ = _
      cases y with
      | none => cases h4; rw [ih ys v _ u2 _ r2 h3 g]; rfl
      | some y => cases h4; rw [ih ys v _ u2 _ r2 h3 g]; rfl
  intro xs r h g
  refine app xs [x] u u u r _ h ?_
  unfold compL
  rw [g]
  cases o <;> rfl
theorem enumD_snoc (d : D) : ∀ (l : List D) (n : Nat), enumD n (l ++ [d]) = enumD n l ++ [.pr [.int ((n + l.length : Nat) : Int), d]]
  | [], n => rfl
  | x :: l, n => by
    rw [List.cons_append]
    unfold enumD
    rw [enumD_snoc d l (n + 1), List.length_cons, List.cons_append, show n + 1 + l.length = n + (l.length + 1) by omega]
/-- a row gone through with its numbers: of the writes, those that are asked for -/
theorem enum_wr {f : D → U → Option (Option D × U)} {g : Wp → D} {ds : List Dd} {u : U} {Q : Wp → Bool}
    (hf : ∀ (k : Nat) (b : Bool) (x : Str), ds[k]? = some (b, x) → f (.pr [.int (k : Int), deedD (b, x)]) u = some (if b = true ∧ Q (k, x) = true then some (g (k, x)) else none, u)) :
    compL f (enumD 0 (ds.map deedD)) u = some (((wr ds).filter Q).map g, u) := by
  have up : ∀ n, n ≤ ds.length → compL f (enumD 0 ((ds.take n).map deedD)) u = some (((wrUp ds n).filter Q).map g, u) := fun n => by
    induction n with
    | zero => intro _; rw [List.take_zero]; rfl
    | succ n ih =>
      intro h
      have hn : n < ds.length := by omega
      obtain ⟨⟨b, x⟩, hd⟩ : ∃ p, ds[n] = p := ⟨_, rfl⟩
      have hg : ds[n]? = some (b, x) := by rw [List.getElem?_eq_getElem hn, hd]
      rw [takeS hn, List.map_append, hd, List.map_cons, List.map_nil, enumD_snoc, Nat.zero_add, List.length_map, List.length_take, Nat.min_eq_left (Nat.le_of_lt hn)]
      rw [compL_snoc (ih (by omega)) (hf n b x hg)]
      cases b with
      | true =>
        rw [wr_t hg, List.filter_append, List.map_append]
        by_cases q : Q (n, x) = true
        · rw [if_pos ⟨rfl, q⟩, List.filter_cons, if_pos q]; rfl
        · rw [if_neg (fun z => q z.2), List.filter_cons, if_neg q]; rfl
      | false =>
        rw [wr_f hg, if_neg (fun z => Bool.false_ne_true z.1)]
        show some (_ ++ [], u) = _
        rw [List.append_nil]
  have := up ds.length (Nat.le_refl _)
  rw [List.take_length] at this
  exact this
theorem filter_t {α : Type} (l : List α) : l.filter (fun _ => true) = l := List.filter_eq_self.mpr fun _ _ => rfl
/-- where the written LINE of a stream stands -/
theorem spot_at {ds : List Dd} {w : Wp} (h : w ∈ wr ds) : ((wr ds).filter fun v => decide (v.2 = w.2))[manyOf w.2 (ds.take w.1)]? = some w := by
  obtain ⟨h1, h2⟩ := wr_mem h
  obtain ⟨r, e, _⟩ := wr_ext (ds := ds) (k := w.1 + 1) (n := ds.length) (by omega)
  have e2 : wrUp ds (w.1 + 1) = wrUp ds w.1 ++ [(w.1, w.2)] := wr_t h2
  show ((wrUp ds ds.length).filter _)[_]? = _
  rw [e, e2, List.append_assoc, List.filter_append, List.singleton_append, List.filter_cons, if_pos (decide_eq_true rfl)]
  have hl : ((wrUp ds w.1).filter fun v => decide (v.2 = w.2)).length = manyOf w.2 (ds.take w.1) := by
    rw [← List.countP_eq_length_filter]; exact cnt_wr (by omega)
  rw [List.getElem?_append_right (by rw [hl]; exact Nat.le_refl _), hl, Nat.sub_self]
  rfl
theorem putA_new {x : Str} {v : Int} : ∀ {al : Al}, x ∉ al.map (·.1) → putA x v al = al ++ [(x, v)]
  | [], _ => rfl
  | p :: r, h => by
    rw [putA_cons, if_neg (fun z => h (by rw [← z]; exact List.mem_cons_self)), putA_new (fun z => h (List.mem_cons_of_mem _ z))]; rfl
theorem scal_al (al : Al) : scalO (.dct (alK al) (alD al)) = true := by
  show (alD al).all scalD = true
  refine List.all_eq_true.mpr fun d hd => ?_
  obtain ⟨p, _, rfl⟩ := List.mem_map.mp hd
  rfl
theorem foldD_al {f : D → U → Option (Option (Key × D) × U)} {P : Str → Bool} {u : U} : ∀ {al acc : Al}, NdA (acc ++ al) → acc.length + al.length ≤ 1000 → (∀ p : Str × Int, p ∈ al → f (.str p.1) u = some (if P p.1 = true then some (.inr p.1, .int p.2) else none, u)) →
    foldD f (al.map fun p : Str × Int => .str p.1) (alK acc) (alD acc) u = some ((alK (acc ++ al.filter fun p : Str × Int => P p.1), alD (acc ++ al.filter fun p : Str × Int => P p.1)), u)
  | [], acc, _, _, _ => by rw [List.filter_nil, List.append_nil]; rfl
  | p :: r, acc, hn, hl, hf => by
    rw [List.map_cons]
    unfold foldD
    rw [hf p List.mem_cons_self]
    show (match (if P p.1 = true then some ((Sum.inr p.1 : Key), D.int p.2) else none) with | some kv => if (alK acc).length < sizeLine then foldD f (r.map fun p : Str × Int => D.str p.1) (putD (alK acc) (alD acc) kv.1 kv.2).1 (putD (alK acc) (alD acc) kv.1 kv.2).2 u else none | none => foldD f (r.map fun p : Str × Int => D.str p.1) (alK acc) (alD acc) u) = _
    rw [List.length_cons] at hl
    by_cases q : P p.1 = true
    · rw [if_pos q, List.filter_cons, if_pos q]
      show (if (alK acc).length < sizeLine then _ else none) = _
      rw [if_pos (by show (acc.map _).length < _; rw [List.length_map, sizeLine_eq]; omega)]
      rw [put_al]
      have hx : p.1 ∉ acc.map (·.1) := fun z => by
        unfold NdA at hn
        rw [List.map_append, List.nodup_append] at hn
        exact hn.2.2 _ z _ (by rw [List.map_cons]; exact List.mem_cons_self) rfl
      show foldD f _ (alK (putA p.1 p.2 acc)) (alD (putA p.1 p.2 acc)) u = _
      rw [putA_new hx]
      have := foldD_al (f := f) (P := P) (u := u) (al := r) (acc := acc ++ [p]) (by rw [List.append_assoc]; exact hn) (by rw [List.length_append]; simp; omega) (fun q hq => hf q (List.mem_cons_of_mem _ hq))
      rw [List.append_assoc] at this
      exact this
    · rw [if_neg q, List.filter_cons, if_neg q]
      refine foldD_al (f := f) (P := P) (u := u) (al := r) (acc := acc) ?_ (by omega) (fun q hq => hf q (List.mem_cons_of_mem _ hq))
      unfold NdA at hn ⊢
      rw [List.map_append] at hn ⊢
      exact hn.sublist ((List.Sublist.refl _).append (by rw [List.map_cons]; exact List.sublist_cons_self _ _))
theorem vDC_eq {t : Tgt} {own : List Nat} {mi : MI} {mc : MB} {mk mv : M} {env : List Sl} {u u1 u2 : U} {ds : List D} {r : List Key × List D} (h : mi env u = some (ds, u1)) (h2 : foldD (turnD t own env mc mk mv) ds [] [] u1 = some (r, u2)) : vDC t own mi mc mk mv env u = some (.own (.dct r.1 r.2), u2) := by
  unfold vDC; rw [h]; show bnd (foldD _ ds [] [] u1) _ = _; rw [h2]; rfl
theorem vPeek_eq {i : Nat} {m : MSl} {env : List Sl} {u u1 : U} {o o' : Oo} (hi : env[i]? = some (.own o)) (h : m (env.set i (.pub (ooD o))) u = some (.own o', u1)) (hs : scalO o' = true) : vPeek i m env u = some (.own o', u1) := by
  unfold vPeek; rw [hi]; show bnd (m _ u) _ = _; rw [h]; exact if_pos hs
theorem mItemsK_eq {m : M} {env : List Sl} {u u1 : U} {al : Al} (h : m env u = some (.dct (alK al) (alD al), u1)) : mItemsK m env u = some (al.map fun p => .str p.1, u1) := by
  unfold mItemsK; rw [h]
  show some ((alK al).map keyD, u1) = _
  unfold alK
  rw [List.map_map]; rfl
theorem dix_al {al : Al} {x : Str} {v : Int} (h : getA x al = some v) : dixD (.dct (alK al) (alD al)) (.str x) = some (.int v) := by
  show valD (alK al) (alD al) (.inr x) = _
  rw [val_al, h]; rfl
theorem turnD_c {t : Tgt} {own : List Nat} {env env' : List Sl} {mc : MB} {mk mv : M} {d k v : D} {key : Key} {u u1 u2 u3 : U} (h : bindT t d (wipeE env own) = some env') (hc : mc env' u = some (true, u1)) (h2 : mk env' u1 = some (k, u2)) (h3 : mv env' u2 = some (v, u3)) (hk : keyOf k = some key) : turnD t own env mc mk mv d u = some (some (key, v), u3) := by
  unfold turnD; rw [h]; show bnd (mc env' u) _ = _; rw [hc]; show bnd (mk env' u1) _ = _; rw [h2]; show bnd (mv env' u2) _ = _; rw [h3]; show (match keyOf k with | some key => some (some (key, v), u3) | none => none) = _; rw [hk]
theorem turnD_n {t : Tgt} {own : List Nat} {env env' : List Sl} {mc : MB} {mk mv : M} {d : D} {u u1 : U} (h : bindT t d (wipeE env own) = some env') (hc : mc env' u = some (false, u1)) : turnD t own env mc mk mv d u = some (none, u1) := by
  unfold turnD; rw [h]; show bnd (mc env' u) _ = _; rw [hc]; rfl
theorem getA_filter {P : Str → Bool} {x : Str} : ∀ (al : Al), getA x (al.filter fun p => P p.1) = if P x = true then getA x al else none
  | [] => by rw [List.filter_nil]; split <;> rfl
  | p :: r => by
    rw [List.filter_cons, getA_cons]
    have ih := getA_filter (P := P) (x := x) r
    by_cases e : p.1 = x
    · by_cases q : P p.1 = true
      · rw [if_pos q, getA_cons, if_pos e, if_pos e, if_pos (by rw [← e]; exact q)]
      · rw [if_neg q, ih, if_neg (by rw [← e]; exact q), if_neg (by rw [← e]; exact q)]
    · rw [if_neg e]
      by_cases q : P p.1 = true
      · rw [if_pos q, getA_cons, if_neg e, ih]
      · rw [if_neg q, ih]
end Dv
namespace Dv
open PySem PySem.Spec PyProof.Rows L2
theorem runBX_rt {m : MS} {L : Nat} {ds : List D} {u u1 : U} {d : D} (h : m (ds.map Sl.pub ++ List.replicate (L - ds.length) Sl.no) u = some (.rt d, u1)) : runBX m L ds u = some (.ok d, u1) := by
  unfold runBX; rw [h]
theorem runBX_nx {m : MS} {L : Nat} {ds : List D} {u u1 : U} {env : List Sl} (h : m (ds.map Sl.pub ++ List.replicate (L - ds.length) Sl.no) u = some (.nx env, u1)) : runBX m L ds u = some (.ok .non, u1) := by
  unfold runBX; rw [h]
end Dv
namespace Dv
open PySem PySem.Spec PyProof.Rows L2
end Dv
namespace Dv
open PySem PySem.Spec PyProof.Rows L2
end Dv
namespace Dv
open PySem PySem.Spec PyProof.Rows L2
section
variable {X : Cx} {G : Gx X.K} {mi : MI} {mc : MB} {me : M}
theorem AftS.up {K : PySem.W.Frag} {G : Gx K} {ua : Option Addr} {B H B1 H1 H' : Hp} {u' : U} {o : Oo} {v : V} (g : Grow ua B H B1 H1) (a : AftS G ua B1 H1 u' (.own o) v H') : AftS G ua B H u' (.own o) v H' := by
  obtain ⟨B', g', w, p, ho, e, h1, h2⟩ := a
  exact ⟨B', g.trans g', w, p, ho, e, g.live _ h1, h2⟩
variable {elt tg iter : Expr} {ifs : List Expr} {scope : Scope} {own : List (Str × Nat)} {pos : Pos}
end
def spFO {K : PySem.W.Frag} (G : Gx K) (F : List D → U → Option (Oo × U)) (n : Nat) : Sp := fun vs H Q _ => ∃ ua u B ds o u', Reps G ua ds vs B ∧ ds.length = n ∧ Wd ua u B H ∧ F ds u = some (o, u') ∧ ∀ v H', AftS G ua B H u' (.own o) v H' → Q v H'
def DefOkO (P : Program) (w : World) {K : PySem.W.Frag} (mg : Str → Option Value) (base : Heap) (G : Gx K) (x : Str) (k n : Nat) (F : List D → U → Option (Oo × U)) : Prop :=
  ∃ f fd ps, FnOk P w K mg base CX0 k f fd ps (spFO G F n) ∧ mg x = some (.ref f) ∧ PySem.W.keepIn K (.ref f) = true ∧ Binds K fd ps []
theorem DefOkO.mono {P : Program} {w : World} {K : PySem.W.Frag} {mg : Str → Option Value} {base : Heap} {G : Gx K} {x : Str} {j k n : Nat} {F : List D → U → Option (Oo × U)} (h : DefOkO P w mg base G x j n F) (l : j ≤ k) : DefOkO P w mg base G x k n F := by
  obtain ⟨f, fd, ps, h1, h2⟩ := h
  exact ⟨f, fd, ps, h1.mono l, h2⟩
end Dv
namespace Dv
open PySem PySem.Spec PyProof.Rows L2
end Dv
namespace Dv
open PySem PySem.Spec PyProof.Rows L2
end Dv
namespace Dv
open PySem PySem.Spec PyProof.Rows L2
end Dv
namespace Dv
open PySem PySem.Spec PyProof.Rows L2
theorem get?_off {h : Heap} {a l : Addr} (ne : a ≠ l) : ({ h with objs := h.objs.setIfInBounds a { cls := .none, data := .freed } } : Heap).get? l = h.get? l := by
  unfold Heap.get?
  simp only [Array.getElem?_setIfInBounds_ne ne]
theorem get?_off_same {h : Heap} {a : Addr} : ({ h with objs := h.objs.setIfInBounds a { cls := .none, data := .freed } } : Heap).get? a = none := by
  unfold Heap.get?
  by_cases q : a < h.objs.size
  · simp [Array.getElem?_setIfInBounds, q]
  · simp [Array.getElem?_setIfInBounds, q]
theorem dt_addr {P : Program} {w : World} {H : Hp} {h : Heap} {l : Addr} {a : Addr × Obj} {xs : List (List Key × Addr × Value)} (x : ObjOk P w H h l (DTo P w a xs)) : a.1 = l := by
  obtain ⟨ph, _, st⟩ := x
  by_cases e : a.1 = l
  · exact e
  · obtain ⟨_, _, _, _, ho, _⟩ := st h { h with objs := h.objs.setIfInBounds a.1 { cls := .none, data := .freed } } ph fun o z => by rw [get?_off e]; exact z
    rw [get?_off_same] at ho
    cases ho
theorem dt_ok {P : Program} {w : World} {H : Hp} {h : Heap} {a : Addr} {o : Obj} {xs : List (List Key × Addr × Value)} (z : xs.length ≤ sizeLine) (hs : (a == sysModules) = false)
    (x : ∃ es ep, h.get? a = some o ∧ o.ExactDict ∧ o.data = .dict es ep ∧ es.toList = xs.map (entryOfKey (tupleKind (mixKind P w))) ∧ (xs.map (·.1)).Nodup) : ObjOk P w H h a (DTo P w (a, o) xs) := by
  refine ⟨⟨z, hs, x⟩, ?_, ?_⟩
  · obtain ⟨_, _, ho, _⟩ := x
    exact ⟨o, ho⟩
  · rintro h1 h2 ⟨z, hs, es, ep, ho, r⟩ k
    exact ⟨z, hs, es, ep, k _ ho, r⟩
theorem key_tup {P : Program} {w : World} {H : Hp} {h : Heap} {b : Addr} {ks : List Key} (ok : HOk P w H h) (e : TupB H b (ks.map kV)) : (tupleKind (mixKind P w)).is h ks b := by
  obtain ⟨o, _, e⟩ := e
  obtain ⟨_, _, its, r, o', h1, h2, n, h3⟩ := ok _ _ e
  exact ⟨o', its.toArray, n, h1, h2, h3, by simpa using items_are r⟩
theorem kt_tups {H : Hp} {kvs : List (List Key × V)} {xs : List (List Key × Addr × Value)} (r : KT (tupH H) kvs xs) : ∀ x ∈ xs, TupB H x.2.1 (x.1.map kV) := by
  induction r with
  | nil => intro x hx; exact nomatch hx
  | @cons p q ps qs h t ih =>
    intro x hx
    rcases List.mem_cons.mp hx with e | hx
    · subst e
      rw [← h.1]; exact tupH_to h.2.1
    · exact ih x hx
section
variable {X : Cx} {pins : List (Addr × Obj)} {σ : L2.St} {H : Hp} {s : Shared} {l b : Addr} {a : Addr × Obj} {y v : V} {u r : Value} {o : Option V} {A : Around} {E : Value → Shared → Prop} {xs : List (List Key × Addr × Value)} {kvs : List (List Key × V)} {k : List Key}
theorem t_facts (I : Inv X pins σ H s) (e : H l = some (DTo X.prog X.w a xs)) (q : KT (tupH H) kvs xs) : a.1 = l ∧ xs.length ≤ sizeLine ∧ (l == sysModules) = false ∧ s.heap.DictOfH (tupleKind (mixKind X.prog X.w)) l xs := by
  have x := I.hok _ _ e
  have ea := dt_addr x
  subst ea
  obtain ⟨⟨z, hs, es, ep, h1, h2, h3, h4, h5⟩, _⟩ := x
  exact ⟨rfl, z, hs, a.2, es, ep, h1, h2, h3, h4, fun x hx => key_tup I.hok (kt_tups q x hx), h5⟩
theorem t_getItem {Q : Value → Shared → Prop} (hu : A.units + 1 < cLine) (I : Inv X pins σ H s) (e : H l = some (DTo X.prog X.w a xs)) (q : KT (tupH H) kvs xs) (hb : TupB H b (k.map kV)) (hv : valV kvs k = some v) (h : ∀ w' s', Inv X pins σ H s' → RelV v w' → Q w' s') :
    wpAny (model X.prog X.w) A (getItem (.ref l) (.ref b)) Q E s := by
  obtain ⟨_, z, hs, dd⟩ := t_facts I e q
  obtain ⟨w', hw, rw'⟩ := RelO.some_of (v := v) (o := (atKey xs k).map (·.2)) (by rw [← hv]; exact q.val k)
  obtain ⟨p, hp, hp2⟩ := Option.map_eq_some_iff.mp hw
  refine wpAny_getItem_heap (tupleKind_room_in1 hu) (key_tup I.hok hb) dd hp ?_
  rw [hp2]
  exact h w' _ (I.tok _) rw'
theorem t_setItem {B : Hp} {Q : Unit → Shared → Prop} (hu : A.units + 1 < cLine) (I : Inv X pins σ H s) (e : H l = some (DTo X.prog X.w a xs)) (sub : Same B H) (q : KT (tupH B) kvs xs) (hb : TupB B b (k.map kV)) (hl : kvs.length < sizeLine) (rv : RelV v r)
    (h : ∀ s' xs' od, KT (tupH B) (putK kvs k v) xs' → Inv X pins σ (upd H l (DTo X.prog X.w (l, od) xs')) s' → Q () s') : wpAny (model X.prog X.w) A (setItem (.ref l) (.ref b) r) Q E s := by
  obtain ⟨_, z, hs, dd⟩ := t_facts I e (q.keeps (tupH_mono sub))
  have hle : (putK kvs k v).length ≤ sizeLine := by have := length_putK kvs k v; omega
  refine wpAny_setItem_heap (hsz := z) (tupleKind_room_in1 hu) (key_tup I.hok (hb.mono sub)) dd fun h' dd' sb => ?_
  have q' := q.put k (tupH_of hb) rv
  obtain ⟨ob, es, ep, hq, h2, h3, h4, _, h5⟩ := dd'
  refine h _ _ ob q' (d_write I (by rw [e]; trivial) sb ⟨ob, hq⟩ (dt_ok ?_ hs ⟨es, ep, hq, h2, h3, h4, h5⟩))
  rw [← Paired.length q']; exact hle
theorem t_typeIs (I : Inv X pins σ H s) (e : H l = some (DTo X.prog X.w a xs)) (q : KT (tupH H) kvs xs) : s.TypeIs (.ref l) "dict" := by
  obtain ⟨_, z, hs, o, _, _, h1, h2, _⟩ := t_facts I e q
  exact ⟨o, h1, h2.1⟩
end
/-- the dict at l, the key y, what it holds there -/
def TGet (X : Cx) (H : Hp) (l : Addr) (y : V) (o : Option V) : Prop := ∃ a xs kvs b k, H l = some (DTo X.prog X.w a xs) ∧ KT (tupH H) kvs xs ∧ y = .ref b ∧ TupB H b (k.map kV) ∧ o = valV kvs k
section
variable {X : Cx} {o i value : Expr} {pos pos' tpos : Pos} {td ty tv : TE}
theorem pe_tget (hu : X.A.units + 1 < cLine) (ho : PE X o td) (hi : PE X i ty) (hs : NoSl i) : PE X (.Subscript o i pos) (fun σ H Q => td σ H fun x H1 => ty σ H1 fun y H2 => ∃ l v, x = .ref l ∧ TGet X H2 l y (some v) ∧ Q v H2) := by
  refine ⟨fun pins s σ H Q I h => ?_⟩
  refine subD_of PySem.F.slot_dict_getitem.lookup hs (thn (ho.run pins s σ H _ I h) fun u s1 ⟨x, H1, I1, rx, q1⟩ => thn (hi.run pins s1 σ H1 _ I1 q1) fun iv s2 ⟨y, H2, I2, ry, l, v, ex, ⟨a, xs, kvs, b, k, e, q, ey, hb, eo⟩, q2⟩ => ?_)
  subst ex ey
  obtain rfl : u = Value.ref l := rx
  obtain rfl : iv = Value.ref b := ry
  exact ⟨t_typeIs I2 e q, t_getItem hu I2 e q hb eo.symm fun w' s3 I3 rw' => ⟨v, H2, I3, rw', q2⟩⟩
theorem ps_tput (hu : X.A.units + 1 < cLine) (ho : PE X o td) (hi : PE X i ty) (hv : PE X value tv) (hs : swapsWith value (some (.Subscript o i pos')) pos.line X.env = pure false) :
    PS X (.Assign [.Subscript o i pos'] value pos) (fun D σ H => tv σ H fun v H1 => td σ H1 fun x H2 => ty σ H2 fun y H3 => ∃ l a xs kvs b k B, x = .ref l ∧ H3 l = some (DTo X.prog X.w a xs) ∧ Same B H3 ∧ KT (tupH B) kvs xs ∧ y = .ref b ∧ TupB B b (k.map kV) ∧ kvs.length < sizeLine ∧
      ∀ xs' od, KT (tupH B) (putK kvs k v) xs' → D.nx σ (upd H3 l (DTo X.prog X.w (l, od) xs'))) := by
  refine ⟨fun pins s σ H D I h => ?_⟩
  refine wpAny_Assign_Subscript (thn (hv.run pins s σ H _ I h) fun r s1 ⟨v, H1, I1, rv, q1⟩ => thn (ho.run pins s1 σ H1 _ I1 q1) fun u s2 ⟨x, H2, I2, rx, q2⟩ => thn (hi.run pins s2 σ H2 _ I2 q2) fun iv s3 ⟨y, H3, I3, ry, l, a, xs, kvs, b, k, B, ex, e, sub, q, ey, hb, hl, q3⟩ => ?_) hs
  subst ex ey
  obtain rfl : u = Value.ref l := rx
  obtain rfl : iv = Value.ref b := ry
  exact t_setItem hu I3 e sub q hb hl rv fun s4 xs' od z I4 => ⟨σ, _, I4, q3 xs' od z⟩
/-- {} -/
theorem pe_tnew : PE X (.Dict [] [] pos) (fun _ H Q => ∀ p od, H p = none → Q (.ref p) (upd H p (DTo X.prog X.w (p, od) []))) := by
  refine ⟨fun pins s σ H Q I h => ?_⟩
  refine wpAny_Dict_empty ⟨.ref s.heap.objs.size, _, I.laid (a := s.heap.objs.size) (o := DTo X.prog X.w (s.heap.objs.size, { cls := .type "dict", data := .dict #[] }) []) (t' := s.toks) (fun _ _ q => Heap.get?_push_of_some _ q) (Nat.le_refl _) (dt_ok (Nat.zero_le _) (beq_eq_false_iff_ne.mpr (Ne.symm (Nat.ne_of_lt I.big))) ⟨#[], 0, Heap.get?_push_size _ rfl, ⟨rfl, rfl, rfl⟩, rfl, rfl, List.nodup_nil⟩), rfl, h _ _ (I.hok.fresh (Nat.le_refl _))⟩
end
end Dv
namespace Dv
open PySem PySem.Spec PyProof.Rows L2
def tkeys : List D → Option (List Key)
  | [] => some []
  | d :: ds => (keyOf d).bind fun k => (tkeys ds).map fun r => k :: r
def tkeyOf : D → Option (List Key)
  | .tup ds => tkeys ds
  | _ => none
section
variable {K : PySem.W.Frag} {G : Gx K} {ua : Option Addr} {B : Hp}
theorem tkeys_rep : ∀ {ds : List D} {vs : List V} {k : List Key}, tkeys ds = some k → Reps G ua ds vs B → vs = k.map kV
  | [], vs, k, h, r => by cases h; exact r.of_nil
  | d :: ds, vs, k, h, r => by
    obtain ⟨v, t, rfl, r1, r2⟩ := r.of_cons
    unfold tkeys at h
    cases h1 : keyOf d with
    | none => rw [h1] at h; cases h
    | some j =>
      cases h2 : tkeys ds with
      | none => rw [h1, h2] at h; cases h
      | some js =>
        rw [h1, h2] at h
        cases h
        rw [List.map_cons, keyOf_rep h1 r1, tkeys_rep h2 r2]
theorem tkeyOf_rep {d : D} {v : V} {k : List Key} (h : tkeyOf d = some k) (r : Rep G ua d v B) : ∃ b, v = .ref b ∧ TupB B b (k.map kV) := by
  unfold tkeyOf at h
  split at h
  · obtain ⟨b, vs, rfl, hb, rs⟩ := r.tup
    rw [tkeys_rep h rs] at hb
    exact ⟨b, rfl, hb⟩
  · cases h
theorem tkeys_key : ∀ k : List Key, tkeys (k.map keyD) = some k
  | [] => rfl
  | j :: k => by
    rw [List.map_cons]
    unfold tkeys
    rw [tkeys_key k]
    cases j <;> rfl
theorem tkeyOf_rowD (k : List Key) : tkeyOf (rowD k) = some k := tkeys_key k
theorem reps_keys : ∀ k : List Key, Reps G ua (k.map keyD) (k.map kV) B
  | [] => .nil
  | j :: k => .cons (keyD_kV j) (reps_keys k)
theorem rep_rowD {k : List Key} {b : Addr} (h : TupB B b (k.map kV)) : Rep G ua (rowD k) (.ref b) B := by
  unfold rowD Rep
  exact ⟨b, _, rfl, h, reps_keys k⟩
end
def valT (ks : List (List Key)) (ds : List D) (k : List Key) : Option D := ((ks.zip ds).find? fun kd => decide (kd.1 = k)).map (·.2)
theorem Reps.valT {K : PySem.W.Frag} {G : Gx K} {ua : Option Addr} {B : Hp} {k : List Key} : ∀ {ks : List (List Key)} {ds : List D} {vs : List V}, Reps G ua ds vs B → ks.length = vs.length →
    (Dv.valT ks ds k = Option.none ∧ valV (ks.zip vs) k = Option.none) ∨ ∃ d v, Dv.valT ks ds k = some d ∧ valV (ks.zip vs) k = some v ∧ Rep G ua d v B
  | [], ds, vs, r, l => .inl ⟨rfl, rfl⟩
  | j :: ks, [], vs, r, l => by rw [r.of_nil] at l; cases l
  | j :: ks, d :: ds, vs, r, l => by
    obtain ⟨v, t, rfl, r1, r2⟩ := r.of_cons
    unfold Dv.valT valV
    rw [List.zip_cons_cons, List.zip_cons_cons]
    by_cases e : j = k
    · refine .inr ⟨d, v, ?_, ?_, r1⟩
      · rw [List.find?_cons_of_pos (by exact decide_eq_true e)]; rfl
      · rw [List.find?_cons_of_pos (by exact decide_eq_true e)]; rfl
    · rw [List.find?_cons_of_neg (by simpa using e), List.find?_cons_of_neg (by simpa using e)]
      exact Reps.valT r2 (Nat.succ.inj l)
def hasK (ks : List (List Key)) (j : List Key) : Bool := ks.any fun k => decide (k = j)
def putT (ks : List (List Key)) (ds : List D) (j : List Key) (x : D) : List (List Key) × List D :=
  if hasK ks j = true then (ks, (ks.zip ds).map fun kd => if kd.1 = j then x else kd.2) else (ks ++ [j], ds ++ [x])
theorem zip_any {β : Type} {j : List Key} : ∀ {ks : List (List Key)} {vs : List β}, ks.length = vs.length → ((ks.zip vs).any fun kv => decide (kv.1 = j)) = hasK ks j
  | [], vs, l => rfl
  | k :: ks, [], l => by cases l
  | k :: ks, v :: vs, l => by
    rw [List.zip_cons_cons, List.any_cons, zip_any (Nat.succ.inj l)]
    unfold hasK
    rw [List.any_cons]
theorem zip_repl {j : List Key} {w : V} : ∀ {ks : List (List Key)} {vs : List V}, ks.length = vs.length → (ks.zip vs).map (fun kv => if kv.1 = j then (kv.1, w) else kv) = ks.zip ((ks.zip vs).map fun kv => if kv.1 = j then w else kv.2)
  | [], vs, l => rfl
  | k :: ks, [], l => by cases l
  | k :: ks, v :: vs, l => by
    rw [List.zip_cons_cons, List.map_cons, List.map_cons, List.zip_cons_cons, zip_repl (Nat.succ.inj l)]
    by_cases e : k = j
    · simp [e]
    · simp [e]
theorem reps_repl {K : PySem.W.Frag} {G : Gx K} {ua : Option Addr} {B : Hp} {j : List Key} {x : D} {w : V} (rx : Rep G ua x w B) : ∀ {ks : List (List Key)} {ds : List D} {vs : List V}, ks.length = vs.length → Reps G ua ds vs B →
    Reps G ua ((ks.zip ds).map fun kd => if kd.1 = j then x else kd.2) ((ks.zip vs).map fun kv => if kv.1 = j then w else kv.2) B
  | [], ds, vs, l, r => .nil
  | k :: ks, [], vs, l, r => by rw [r.of_nil] at l; cases l
  | k :: ks, d :: ds, vs, l, r => by
    obtain ⟨v, t, rfl, r1, r2⟩ := r.of_cons
    rw [List.zip_cons_cons, List.zip_cons_cons, List.map_cons, List.map_cons]
    refine .cons ?_ (reps_repl rx (Nat.succ.inj l) r2)
    by_cases e : k = j
    · rw [if_pos e, if_pos e]; exact rx
    · rw [if_neg e, if_neg e]; exact r1
theorem putT_rep {K : PySem.W.Frag} {G : Gx K} {ua : Option Addr} {B : Hp} {j : List Key} {x : D} {w : V} (rx : Rep G ua x w B) {ks : List (List Key)} {ds : List D} {vs : List V} (l : ks.length = vs.length) (r : Reps G ua ds vs B) :
    ∃ ws, putK (ks.zip vs) j w = (putT ks ds j x).1.zip ws ∧ (putT ks ds j x).1.length = ws.length ∧ Reps G ua (putT ks ds j x).2 ws B := by
  unfold putK putT
  rw [zip_any l]
  by_cases e : hasK ks j = true
  · rw [if_pos e, if_pos e]
    exact ⟨_, zip_repl l, by rw [List.length_map, List.length_zip, ← l, Nat.min_self], reps_repl rx l r⟩
  · rw [if_neg e, if_neg e]
    refine ⟨vs ++ [w], ?_, by rw [List.length_append, List.length_append, l]; rfl, r.append (.cons rx .nil)⟩
    rw [List.zip_append l]; rfl
theorem dtb_x {X : Cx} {G : Gx X.K} (hG : G.pw = some (X.prog, X.w)) {ks : List (List Key)} {vs : List V} {o : HO} {B : Hp} (h : DtB G ks vs o B) : ∃ a xs, o = DTo X.prog X.w a xs ∧ KT (tupH B) (ks.zip vs) xs ∧ ks.length = vs.length := by
  obtain ⟨P, w, a, xs, h1, h2, h3, h4⟩ := h
  rw [hG] at h1
  cases h1
  exact ⟨a, xs, h2, h3, h4⟩
section
variable {X : Cx} {G : Gx X.K} {W : WX} {e f o : Expr} {me mf mo : M} {pos pos' p : Pos}
def vDtt : MSl := fun _ u => some (.own (.dtt [] []), u)
theorem dv_oDtt (hG : G.pw = some (X.prog, X.w)) : PE X (.Dict [] [] pos) (tSv G vDtt) := pe_tnew.imp fun σ H Q z => by
  obtain ⟨ua, u, B, env, s, u', hE, hW, hm, q⟩ := z
  cases hm
  exact fun p od hp => q _ _ ⟨B, .own1 hW hp, hW.own1 hp, p, _, rfl, hp, upd_same, hW.none_of hp, hW.ne_urn hp, [], ⟨X.prog, X.w, (p, od), [], hG, rfl, .nil, rfl⟩, .nil⟩
/-- x[k] = e -/
def sPutT (i : Nat) (mk mv : M) : MS := fun env u => match env[i]? with
  | some (.own (.dtt ks ds)) => bnd (mv env u) fun x u1 => bnd (mk env u1) fun k u2 => match tkeyOf k with
    | some key => if ks.length < sizeLine then some (.nx (env.set i (.own (.dtt (putT ks ds key x).1 (putT ks ds key x).2))), u2) else none
    | none => none
  | _ => none
theorem ds_putT (i : Nat) {x : Str} {px pos' : Pos} (hG : G.pw = some (X.prog, X.w)) (hu : X.A.units + 1 < cLine) (hk : PE X f (tEv G mf)) (he : PE X e (tEv G me)) (hN : X.N[i]? = some x := by rfl) (hv : Vis X.env.scope x := by first | exact Or.inl rfl | exact Or.inr (Or.inl rfl) | exact Or.inr (Or.inr rfl)) (hd : (x == ("__debug__" : Str)) = false := by decide) (hcd : (x == ("__classdict__" : Str)) = false := by decide)
    (hs : swapsWith e (some (.Subscript (.Name x px) f pos')) pos.line X.env = pure false := by rfl) : PS X (.Assign [.Subscript (.Name x px) f pos'] e pos) (tSt G W (sPutT i mf me)) :=
  (ps_tput hu (pe_var hN hv hd hcd) hk he hs).imp fun Dn σ H h => by
  obtain ⟨ua, u, B, env, fl, u', B0, H0, hg, hO, hE, hW, hm, q⟩ := h
  unfold sPutT at hm
  split at hm
  · rename_i ks ds hi
    obtain ⟨d, u1, c1, c2⟩ := bnd_some hm
    obtain ⟨k, u2, c3, c4⟩ := bnd_some c2
    split at c4
    · rename_i key hkey
      split at c4
      · rename_i hz
        cases c4
        obtain ⟨l, ho, s1, s2, s3, s4, s5⟩ := hE.own i _ hi
        refine ⟨ua, u, B, env, d, u1, hE, hW, c1, fun v H1 ⟨B1, g1, w1, r1⟩ => ⟨_, s1, ua, u1, B1, env, k, _, hE.grow g1, w1, c3, fun v2 H2 ⟨B2, g2, w2, r2⟩ => ?_⟩⟩
        have gg := g1.trans g2
        have e2 := hE.grow gg
        obtain ⟨l', ho', t1, t2, t3, ⟨vs, t4, t6⟩, t5⟩ := e2.own i _ hi
        rw [s1] at t1
        cases t1
        obtain ⟨a, xs, rfl, kt, hl⟩ := dtb_x hG t4
        obtain ⟨b, rfl, hb⟩ := tkeyOf_rep hkey r2
        obtain ⟨ws, a1, a2, a3⟩ := putT_rep (j := key) (r1.mono _ _ g2.pub) hl t6
        refine ⟨l, a, xs, _, b, key, B2, rfl, t2, w2.sub, kt, rfl, hb, by rw [List.length_zip, ← hl, Nat.min_self]; exact hz, fun xs' od kt' => ?_⟩
        rw [a1] at kt'
        exact q σ B2 _ ((hg.trans gg).putOwn (hO i _ l hi s1)) (hO.chg hi) (e2.chg hi s1 t3 t5 ⟨ws, ⟨X.prog, X.w, (l, od), xs', hG, rfl, kt', a2⟩, a3⟩) (w2.put t3 t5)
      · cases c4
    · cases c4
  · cases hm
end
end Dv
namespace Dv
open PySem PySem.Spec PyProof.Rows L2
theorem reads_keys_nil {h : Heap} : ∀ {k : List Key} {us : List Value} {as : List Addr}, ReadsAll h us (k.map keyPy) as → as = []
  | [], _, _, r => by cases r; rfl
  | .inl i :: k, _, _, r => by
    cases r with
    | cons r1 r2 => cases r1; exact reads_keys_nil r2
  | .inr i :: k, _, _, r => by
    cases r with
    | cons r1 r2 => cases r1; exact reads_keys_nil r2
theorem toPys_keys : ∀ k : List Key, toPys (k.map keyD) = some (k.map keyPy)
  | [] => rfl
  | .inl i :: k => by
    rw [List.map_cons, List.map_cons]; unfold toPys; rw [toPys_keys k]; rfl
  | .inr i :: k => by
    rw [List.map_cons, List.map_cons]; unfold toPys; rw [toPys_keys k]; rfl
theorem toPy_rowD (k : List Key) : toPy (rowD k) = some (.tuple (k.map keyPy)) := by
  unfold rowD toPy; rw [toPys_keys k]; rfl
theorem pyD_rowD (k : List Key) : pyD (rowD k) = .tuple (k.map keyPy) := by
  unfold pyD; rw [toPy_rowD]; rfl
def rSortedT (X : Cx) : List V → Hp → VK → Prop := fun vs H Q => ∃ (l : Addr) (a : Addr × Obj) (xs : List (List Key × Addr × Value)) (kvs : List (List Key × V)) (zs : List (V × D)), vs = [.ref l] ∧ H l = some (DTo X.prog X.w a xs) ∧ KT (tupH H) kvs xs ∧ zs.map (·.1) = xs.map (fun x => V.ref x.2.1) ∧
  (∀ z ∈ zs, Dp X.K H z.1 (pyD z.2)) ∧ (∀ z ∈ zs, ∃ k, z.2 = rowD k) ∧ okG (zs.map fun z => pyD z.2) = true ∧ ∀ (p : Addr), H p = none → Q (.ref p) (upd H p (.lst ((zs.mergeSort fun x y => leG x.2 y.2).map (·.1))))
theorem cr_sortedTD {X : Cx} (hc : X.calm = true) (hu : X.A.units + 64 < cLine) : CallR X (.builtin "sorted") (rSortedT X) := by
  intro pins s σ H vs us Q I r h
  obtain ⟨l, a, xs, kvs, zs, rfl, e, q0, hz1, hd, htk, hok, q⟩ := h
  obtain ⟨u, rfl, ru⟩ := vals1 r
  obtain rfl : u = Value.ref l := ru
  obtain ⟨_, z, hs, o, es, ep, h1, h2, h3, h4, h5, h6⟩ := t_facts I e q0
  have hh : X.A.handled = none := I.ok.hd hc
  have l1 : es.size = xs.length := size_of_entries h4
  refine Calls.call_function_entry PyProof.Rows.kind_sorted PyProof.Rows.plain_sorted PyProof.Rows.entry_sorted (PyProof.Rows.args_sorted1 _) ?_
  unfold Builtin.«sorted»
  refine wpAny_bind (m := checkCount "sorted" 1 1 _) (wpAny_pure ?_)
  refine wpAny_bind (PySem.W.kdu_collect (A := X.A.in1) (kdl_raw hs h2 h3) hh h1 (by omega) fun h' tk acc hk it => ?_)
  have ea : acc.toList = xs.map fun x => Value.ref x.2.1 := by
    refine List.ext_getElem (by rw [Array.length_toList, it.1, l1, List.length_map]) fun j p1 p2 => ?_
    have p3 : j < acc.size := by simpa using p1
    obtain ⟨en, g1, g2⟩ := it.2 j acc[j] (Array.getElem?_eq_getElem p3)
    have g3 : es.toList[j]? = some en := by rw [Array.getElem?_toList]; exact g1
    rw [h4, List.getElem?_map] at g3
    obtain ⟨b, g4, rfl⟩ := Option.map_eq_some_iff.mp g3
    rw [List.getElem_map, Array.getElem_toList, g2]
    obtain ⟨p4, g5⟩ := List.getElem?_eq_some_iff.mp g4
    rw [g5]; rfl
  have zl : zs.length = xs.length := by have := congrArg List.length hz1; rwa [List.length_map, List.length_map] at this
  have al : acc.toList.length = zs.length := by rw [ea, List.length_map, zl]
  have rv : Vals (zs.map (·.1)) acc.toList := by
    rw [hz1, ea]
    exact vals_maps (fun x : List Key × Addr × Value => V.ref x.2.1) (fun x => Value.ref x.2.1) xs fun _ _ => rfl
  refine wpAny_bind (wpAny_newList ?_ (by rw [al, zl]; exact z))
  have hob : (h'.push (seqObj "list" acc.toList.toArray 0)).get? h'.objs.size = some (seqObj "list" acc.toList.toArray 0) := Heap.get?_push_size _ rfl
  have kb : ∀ b o, s.heap.get? b = some o → (h'.push (seqObj "list" acc.toList.toArray 0)).get? b = some o := fun b o e => Heap.get?_push_of_some _ (hk b o e)
  have ne0 : ∀ b o, s.heap.get? b = some o → b ≠ h'.objs.size := fun b o e => Nat.ne_of_lt (Heap.lt_size (hk b o e))
  have I1 : Inv X pins σ H { s with heap := h', toks := tk } := I.kept hk
  have ka : ∀ b o, h'.get? b = some o → (h'.push (seqObj "list" acc.toList.toArray 0)).get? b = some o := fun b o e => Heap.get?_push_of_some _ e
  show wpAny _ _ _ _ _ { s with heap := h'.push (seqObj "list" acc.toList.toArray 0), toks := tk }
  generalize hh2 : h'.push (seqObj "list" acc.toList.toArray 0) = h2 at hob kb ka ⊢
  have e0 := each_valsD rv
  have er : W.EachIs (fun u (z : V × D) => ∃ as, Reads h2 u (pyD z.2) as ∧ h'.objs.size ∉ as) acc.toList zs := each_readsD e0 fun u z hz' ru => by
    obtain ⟨as, rr⟩ := Dp.reads I _ _ _ (hd z hz') ru
    refine ⟨as, Reads.keeps kb rr, fun hm => ?_⟩
    obtain ⟨k, hk⟩ := htk z hz'
    rw [hk, pyD_rowD] at rr
    cases rr with
    | tuple _ _ _ ra => rw [reads_keys_nil ra] at hm; cases hm
  refine wpAny_bind (wpAny_holding (W.list_sort_data (s := { s with heap := h2, toks := tk }) (enc := fun z : V × D => pyD z.2) (R := fun u z => RelV z.1 u) hob e0 er (okG_al hok) (okG_so hok) (by rw [zl]; exact z) (fun b hb => by
    have := okG_dep hok (pyD b.2) (List.mem_map.mpr ⟨b, hb, rfl⟩)
    show X.A.units + 1 + 1 + _ < cLine
    omega) fun out ho eo => ?_))
  obtain ⟨ys, hys⟩ : ∃ ys, ys = zs.mergeSort (W.dataLe false fun z : V × D => pyD z.2) := ⟨_, rfl⟩
  have hperm : ys.Perm zs := by rw [hys]; exact List.mergeSort_perm _ _
  rw [← hys] at eo
  obtain ⟨c, hc'⟩ := PyProof.Rows.sortedHeap_at (vs := acc.toList) (out := out.toArray) hob
  refine wpAny_pure ⟨_, rfl, ?_⟩
  have kF : ∀ b o, h'.get? b = some o → (sortedHeap h2 h'.objs.size acc.toList out.toArray).get? b = some o := fun b o e => (PyProof.Rows.sortedHeap_old (Nat.ne_of_lt (Heap.lt_size e)) (Heap.lt_size (ka b o e))).trans (ka b o e)
  refine ⟨.ref h'.objs.size, upd H h'.objs.size (.lst (ys.map (·.1))), I1.laid (t' := tk) kF (Nat.le_refl _) ⟨?_, out, c, vals_eachD (fun _ _ h => h) eo, hc'⟩, rfl, ?_⟩
  · rw [List.length_map, hperm.length_eq, zl]; exact z
  · have := q h'.objs.size (I1.hok.fresh (Nat.le_refl _))
    rw [hys]
    exact this
theorem kt_keys {H : Hp} : ∀ {ks : List (List Key)} {vs : List V} {xs : List (List Key × Addr × Value)}, KT H (ks.zip vs) xs → ks.length = vs.length → xs.map (·.1) = ks
  | [], vs, xs, r, l => by cases r; rfl
  | k :: ks, [], xs, r, l => by cases l
  | k :: ks, v :: vs, xs, r, l => by
    cases r with
    | cons h t => rw [List.map_cons, kt_keys t (Nat.succ.inj l), ← h.1]
end Dv
namespace Dv
open PySem PySem.Spec PyProof.Rows L2
theorem rep_dtt {K : PySem.W.Frag} {G : Gx K} {ua : Option Addr} {B : Hp} {ks : List (List Key)} {ds : List D} {v : V} (r : Rep G ua (.dtt ks ds) v B) : ∃ a vs o, v = .ref a ∧ B a = some o ∧ DtB G ks vs o B ∧ Reps G ua ds vs B := by
  unfold Rep at r; exact r
section
variable {X : Cx} {G : Gx X.K} {W : WX} {e f o : Expr} {me mf mo : M} {pos pos' p : Pos}
/-- sorted(e), e a shown dict with tuple keys -/
def mSortTP (m : M) : M := fun env u => bnd (m env u) fun d u1 => match d with
  | .dtt ks _ => lft (sortP (ks.map rowD)) u1
  | _ => none
theorem dv_sortTP (hG : G.pw = some (X.prog, X.w)) (hc : X.calm = true) (hu : X.A.units + 64 < cLine) (hg : Gl X "sorted") (hm : X.mg "sorted" = none) (he : PE X e (tEv G me))
    (hs : starEach (e :: []) X.env = (false, eval e X.env) :: starEach [] X.env := by rfl) (hpl : (backTo pos (starEach [] X.env)).any (·.1) = false := by rfl) :
    PE X (.Call (.Name "sorted" p) [e] [] pos) (tEv G (mSortTP me)) :=
  (pe_callB (cr_sortedTD hc hu) hg hm (by decide +kernel) (pa_cons he pa_nil hs) (by decide) (by decide) hs hpl).imp fun σ H Q z => by
  obtain ⟨ua, u, B, env, d, u', hE, hW, hm2, q⟩ := z
  obtain ⟨x, u1, c1, c2⟩ := bnd_some hm2
  split at c2
  · rename_i ks ds
    obtain ⟨c3, rfl⟩ := lft_some c2
    unfold sortP at c3
    cases hp : toPys (ks.map rowD) with
    | none => rw [hp] at c3; cases c3
    | some ps =>
      rw [hp] at c3
      have c3 : (if okG ps = true then some (D.lst (sortG (ks.map rowD))) else none) = some d := c3
      split at c3
      · rename_i hok
        cases c3
        obtain ⟨e1, e2⟩ := toPys_pyD hp
        refine ⟨ua, u, B, env, _, _, hE, hW, c1, fun v H1 ⟨B1, g1, w1, r1⟩ => ?_⟩
        obtain ⟨l, vs, o, rfl, s2, s4, s6⟩ := rep_dtt r1
        obtain ⟨a, xs, rfl, kt, hl⟩ := dtb_x hG s4
        have hk := kt_keys kt hl
        obtain ⟨zs, hzs⟩ : ∃ zs : List (V × D), zs = xs.map fun x => (V.ref x.2.1, rowD x.1) := ⟨_, rfl⟩
        have z2 : zs.map (·.2) = ks.map rowD := by rw [hzs, List.map_map, ← hk, List.map_map]; rfl
        have rz : ∀ z ∈ zs, Rep G ua z.2 z.1 B1 ∧ ∃ k, z.2 = rowD k := fun z hz => by
          rw [hzs] at hz
          obtain ⟨x, hx, rfl⟩ := List.mem_map.mp hz
          exact ⟨rep_rowD (kt_tups kt x hx), x.1, rfl⟩
        refine ⟨l, a, xs, _, zs, rfl, w1.sub _ _ s2, kt.keeps (tupH_mono w1.sub), by rw [hzs, List.map_map]; rfl, fun z hz => ?_, fun z hz => (rz z hz).2, ?_, fun p hn => ?_⟩
        · obtain ⟨r, k, e⟩ := rz z hz
          exact rep_dp w1.sub _ _ _ (by rw [e, pyD_rowD]; exact toPy_rowD k) r
        · rw [show (zs.map fun z => pyD z.2) = (zs.map (·.2)).map pyD from by rw [List.map_map]; rfl, z2, ← e1]; exact hok
        · have hm : (zs.mergeSort fun x y => leG x.2 y.2).map (·.2) = sortG (ks.map rowD) := by
            rw [sortG_eq, ← z2]
            exact W.sort_maps (f := fun z : V × D => z.2) fun a _ b _ => rfl
          refine q _ _ (.up g1 ?_)
          rw [← hm]
          exact (.lst w1 hn (reps_ofD fun z hz => (rz z ((List.mergeSort_perm _ _).mem_iff.mp hz)).1))
      · cases c3
  · cases c2
end
end Dv
namespace Dv
open PySem PySem.Spec PyProof.Rows L2
end Dv
namespace Dv
open PySem PySem.Spec PyProof.Rows L2
end Dv
namespace Dv
open PySem PySem.Spec PyProof.Rows L2
section
variable {X : Cx} {G : Gx X.K}
def dixT : D → D → Option D
  | .dtt ks ds, k => (tkeyOf k).bind fun key => valT ks ds key
  | _, _ => none
theorem dtt_get (hG : G.pw = some (X.prog, X.w)) {ua : Option Addr} {u : U} {B H : Hp} {ks : List (List Key)} {ds : List D} {v w : V} {d : D} {key : List Key} (r : Rep G ua (.dtt ks ds) v B) (hw : Wd ua u B H) (hk : tkeyOf d = some key) (r2 : Rep G ua d w B) :
    ∃ l vs, v = .ref l ∧ TGet X H l w (valV (ks.zip vs) key) ∧ ks.length = vs.length ∧ Reps G ua ds vs B := by
  obtain ⟨l, vs, o, rfl, s2, s4, s6⟩ := rep_dtt r
  obtain ⟨a, xs, rfl, kt, hl⟩ := dtb_x hG s4
  obtain ⟨b, rfl, hb⟩ := tkeyOf_rep hk r2
  exact ⟨l, vs, rfl, ⟨a, xs, _, b, key, hw.sub _ _ s2, kt.keeps (tupH_mono hw.sub), rfl, hb.mono hw.sub, rfl⟩, hl, s6⟩
variable {o i e : Expr} {mo me : M} {pos : Pos}
theorem dv_dixT (hG : G.pw = some (X.prog, X.w)) (hu : X.A.units + 1 < cLine) (ho : PE X o (tEv G mo)) (he : PE X i (tEv G me)) (hs : NoSl i := by exact fun _ _ => rfl) : PE X (.Subscript o i pos) (tEv G (mBin dixT mo me)) := by
  refine (pe_tget hu ho he hs).imp fun σ H Q h => ?_
  obtain ⟨ua, u, B, env, d, u', hE, hW, hm, q⟩ := h
  obtain ⟨x, u1, c1, c2⟩ := bnd_some hm
  obtain ⟨k, u2, c3, c4⟩ := bnd_some c2
  obtain ⟨l4, rfl⟩ := lft_some c4
  refine ⟨ua, u, B, env, x, u1, hE, hW, c1, fun v H1 ⟨B1, g1, w1, r1⟩ => ⟨ua, u1, B1, env, k, _, hE.grow g1, w1, c3, fun v2 H2 ⟨B2, g2, w2, r2⟩ => ?_⟩⟩
  cases x with
  | dtt ks ds =>
    have l4 : ((tkeyOf k).bind fun key => valT ks ds key) = some d := l4
    obtain ⟨key, hk, l5⟩ := Option.bind_eq_some_iff.mp l4
    obtain ⟨l, vs, rfl, hg, hl, rs⟩ := dtt_get hG (r1.mono _ _ g2.pub) w2 hk r2
    rcases rs.valT (k := key) hl with ⟨e1, e2⟩ | ⟨dv, vv, e1, e2, rr⟩
    · rw [e1] at l5; cases l5
    · rw [e1] at l5
      cases l5
      exact ⟨l, vv, rfl, by rw [← e2]; exact hg, q _ _ (.up g1 ⟨B2, g2, w2, rr⟩)⟩
  | _ => cases l4
end
end Dv
namespace Dv
open PySem PySem.Spec PyProof.Rows L2
section
variable {X : Cx}
theorem pairs_two {pins : List (Addr × Obj)} {σ : L2.St} {H : Hp} {s : Shared} (I : Inv X pins σ H s) : ∀ {ps : List Addr} {kvs : List (Key × V)}, Paired (fun p kv => SqT X.K H p [kV kv.1, kv.2]) ps kvs →
    ∃ (prs : List (Key × Value)) (pv : List (Value × Value)), KV kvs prs ∧ prs.length = ps.length ∧ pv.length = ps.length ∧ ∀ (j : Nat) (k v : Value), pv[j]? = some (k, v) → ∃ (b : Addr) (key : Key), ps[j]? = some b ∧ s.heap.IsTuple b #[k, v] ∧ prs[j]? = some (key, v) ∧ (mixKind X.prog X.w).is key k = true
  | _, _, .nil => ⟨[], [], .nil, rfl, rfl, fun j k v e => by simp at e⟩
  | _, _, .cons (a := p) (b := kv) h t => by
    obtain ⟨prs, pv, r, l1, l2, hp⟩ := pairs_two I t
    obtain ⟨its, rv, ht, _⟩ := I.tuple h
    obtain ⟨u, y, ei, ru, ry⟩ := vals2 rv
    subst ei
    refine ⟨(kv.1, y) :: prs, (u, y) :: pv, .cons ⟨rfl, ry⟩ r, by rw [List.length_cons, List.length_cons, l1], by rw [List.length_cons, List.length_cons, l2], fun j k v e => ?_⟩
    cases j with
    | zero =>
      cases (show (u, y) = (k, v) from Option.some.inj e)
      obtain ⟨o, h1, h2, n, h3⟩ := ht
      exact ⟨p, kv.1, rfl, ⟨o, h1, h2, n, h3⟩, rfl, kV_is (P := X.prog) (w := X.w) ru⟩
    | succ j =>
      obtain ⟨b, key, e1, e2, e3, e4⟩ := hp j k v (by simpa using e)
      exact ⟨b, key, by simpa using e1, e2, by simpa using e3, e4⟩
end
def pairD : D → Option (Key × D)
  | .tup [k, v] => (keyOf k).map fun j => (j, v)
  | .pr [k, v] => (keyOf k).map fun j => (j, v)
  | _ => none
def pairsD : List D → Option (List (Key × D))
  | [] => some []
  | d :: ds => (pairD d).bind fun p => (pairsD ds).map fun r => p :: r
def mergeD (ks : List Key) (ds : List D) : List (Key × D) → List Key × List D
  | [] => (ks, ds)
  | p :: r => mergeD (putD ks ds p.1 p.2).1 (putD ks ds p.1 p.2).2 r
theorem mergeD_rep {K : PySem.W.Frag} {G : Gx K} {ua : Option Addr} {B : Hp} : ∀ {ps : List (Key × D)} {kvs : List (Key × V)} {ks : List Key} {ds : List D} {vs : List V}, Paired (fun (p : Key × D) (q : Key × V) => p.1 = q.1 ∧ Rep G ua p.2 q.2 B) ps kvs → ks.Nodup → ks.length = vs.length → Reps G ua ds vs B →
    ∃ ws, mergeK (ks.zip vs) kvs = (mergeD ks ds ps).1.zip ws ∧ (mergeD ks ds ps).1.length = ws.length ∧ Reps G ua (mergeD ks ds ps).2 ws B ∧ (mergeD ks ds ps).1.Nodup
  | _, _, ks, ds, vs, .nil, hn, hl, r => ⟨vs, rfl, hl, r, hn⟩
  | _, _, ks, ds, vs, .cons (a := p) (b := q) h t, hn, hl, r => by
    obtain ⟨ws, q1, q2, q3, _, q5⟩ := putD_rep (j := p.1) h.2 hn hl r
    obtain ⟨ws', e1, e2, e3, e4⟩ := mergeD_rep t q5 q2 q3
    refine ⟨ws', ?_, e2, e3, e4⟩
    rw [← q1, h.1] at e1
    show mergeK (putK (ks.zip vs) q.1 q.2) _ = (mergeD (putD ks ds p.1 p.2).1 (putD ks ds p.1 p.2).2 _).1.zip ws'
    rw [h.1]
    exact e1
theorem pairD_rep {K : PySem.W.Frag} {G : Gx K} {ua : Option Addr} {B H : Hp} {d : D} {v : V} {p : Key × D} (s : Same B H) (h : pairD d = some p) (r : Rep G ua d v B) : ∃ b w, v = .ref b ∧ SqT K H b [kV p.1, w] ∧ Rep G ua p.2 w B := by
  unfold pairD at h
  split at h
  · rename_i k x
    obtain ⟨j, hj, rfl⟩ := map_some h
    obtain ⟨b, vs, rfl, hb, rs⟩ := r.tup
    obtain ⟨v1, t, rfl, r1, r2⟩ := rs.of_cons
    obtain ⟨v2, t, rfl, r3, r4⟩ := r2.of_cons
    rw [r4.of_nil, keyOf_rep hj r1] at hb
    exact ⟨b, v2, rfl, (hb.mono s).sq, r3⟩
  · rename_i k x
    obtain ⟨j, hj, rfl⟩ := map_some h
    obtain ⟨b, vs, rfl, hb, rs⟩ := r.pr
    obtain ⟨v1, t, rfl, r1, r2⟩ := rs.of_cons
    obtain ⟨v2, t, rfl, r3, r4⟩ := r2.of_cons
    rw [r4.of_nil, keyOf_rep hj r1] at hb
    exact ⟨b, v2, rfl, SqT.of (s _ _ hb), r3⟩
  · cases h
theorem pairsD_rep {K : PySem.W.Frag} {G : Gx K} {ua : Option Addr} {B H : Hp} (s : Same B H) : ∀ {ds : List D} {vs : List V} {ps : List (Key × D)}, pairsD ds = some ps → Reps G ua ds vs B →
    ∃ (as : List Addr) (kvs : List (Key × V)), vs = as.map V.ref ∧ Paired (fun p kv => SqT K H p [kV kv.1, kv.2]) as kvs ∧ Paired (fun (p : Key × D) (q : Key × V) => p.1 = q.1 ∧ Rep G ua p.2 q.2 B) ps kvs
  | [], vs, ps, h, r => by cases h; exact ⟨[], [], r.of_nil, .nil, .nil⟩
  | d :: ds, vs, ps, h, r => by
    obtain ⟨v, t, rfl, r1, r2⟩ := r.of_cons
    unfold pairsD at h
    obtain ⟨p, hp, h⟩ := Option.bind_eq_some_iff.mp h
    obtain ⟨rs, hr, rfl⟩ := map_some h
    obtain ⟨b, w, rfl, hb, rw'⟩ := pairD_rep s hp r1
    obtain ⟨as, kvs, rfl, q1, q2⟩ := pairsD_rep s hr r2
    exact ⟨b :: as, (p.1, w) :: kvs, rfl, .cons hb q1, .cons ⟨rfl, rw'⟩ q2⟩
end Dv
namespace Dv
open PySem PySem.Spec PyProof.Rows L2
end Dv
namespace Dv
open PySem PySem.Spec PyProof.Rows L2
abbrev TKd (P : Program) (w : World) : HeapKind P w (List Key) := tupleKind (mixKind P w)
abbrev hsT (P : Program) (w : World) (k : List Key) : Int := (TKd P w).hash k
/-- the c-th place that a search for this hash looks at -/
abbrev stpT (m : Nat) (h : Int) (c : Nat) : SetTable.Probe := nth m (runAt m (SetTable.bits h % (m + 1)) (SetTable.bits h)) c
structure TupSet (P : Program) (w : World) (h : Heap) (a : Addr) (M : List (List Key × Addr)) (es : Array (Int × Value)) (ep : Nat) (t : SetTable) : Prop where
  here : ∃ o, h.get? a = some o ∧ o.ExactSet ∧ o.data = .set es ep t
  rows : es.toList = M.map fun m => (hsT P w m.1, Value.ref m.2)
  lay : TabOk t (M.map fun m => hsT P w m.1)
  once : (M.map fun m => m.1).Nodup
  keyd : ∀ m ∈ M, (TKd P w).is h m.1 m.2
  ord : w.params.followText "set-order" = true ∨ t.led = true
  space : M.length * 5 < t.mask * 3
  le63 : M.length ≤ 63
section
variable {P : Program} {w : World} {A : Around} {E : Value → Shared → Prop} {s : Shared} {a x : Addr} {M : List (List Key × Addr)} {es : Array (Int × Value)} {ep : Nat} {t : SetTable} {k : List Key} {K : Nat}
theorem TupSet.cnt {h : Heap} (R : TupSet P w h a M es ep t) : es.size = M.length := by
  rw [← Array.length_toList, R.rows, List.length_map]
theorem TupSet.plc {h : Heap} (R : TupSet P w h a M es ep t) : t.place.toList.length = M.length := by
  have := R.lay.sz
  rw [List.length_map] at this
  rw [Array.length_toList]; exact this
theorem TupSet.fit {h : Heap} (R : TupSet P w h a M es ep t) : t.fits es.size = true := by
  have h1 : t.place.size = M.length := by rw [← Array.length_toList]; exact R.plc
  have h2 := R.cnt
  have h3 := R.space
  unfold SetTable.fits SetTable.fill
  rw [R.lay.dm, h1, h2]
  simp
  omega
theorem TupSet.get {h : Heap} (R : TupSet P w h a M es ep t) {i : Nat} {m : List Key × Addr} (e : M[i]? = some m) : es[i]? = some (hsT P w m.1, Value.ref m.2) := by
  have := congrArg (fun l : List (Int × Value) => l[i]?) R.rows
  simp only [List.getElem?_map, e] at this
  rw [← Array.getElem?_toList]; exact this
theorem stp_calm (m : Nat) (h : Int) : ∀ c, (stpT m h c).dummy = none := by
  have gen : ∀ (c : Nat) (p : SetTable.Probe), p.dummy = none → (nth m p c).dummy = none := fun c => by
    induction c with
    | zero => exact fun p h => h
    | succ c ih =>
      refine fun p h => ih _ ?_
      unfold adv
      split <;> exact h
  exact fun c => gen c _ rfl
theorem stp_add (m : Nat) (h : Int) (c d : Nat) : nth m (stpT m h c) d = stpT m h (c + d) := (nth_add m c _ d).symm
end
end Dv
namespace Dv
open PySem PySem.Spec PyProof.Rows L2
section
variable {P : Program} {w : World} {A : Around} {E : Value → Shared → Prop} {s : Shared} {a x : Addr} {M : List (List Key × Addr)} {es : Array (Int × Value)} {ep : Nat} {t : SetTable} {k : List Key}
theorem grown_perm {α : Type} (l : List α) (p : Nat) (y : α) : (l.take p ++ y :: l.drop p).Perm (y :: l) :=
  List.perm_middle.trans (by rw [List.take_append_drop])
end
end Dv
namespace Dv
open PySem PySem.Spec PyProof.Rows L2
/-- all that the set's own object holds -/
def TupS0 (P : Program) (w : World) (h : Heap) (a : Addr) (M : List (List Key × Addr)) : Prop := ∃ o es ep t, h.get? a = some o ∧ o.ExactSet ∧ o.data = .set es ep t ∧ es.toList = (M.map fun m => (hsT P w m.1, Value.ref m.2)) ∧ TabOk t (M.map fun m => hsT P w m.1) ∧ (M.map fun m => m.1).Nodup ∧
  (w.params.followText "set-order" = true ∨ t.led = true) ∧ M.length * 5 < t.mask * 3 ∧ M.length ≤ 63
theorem TupSet.s0 {P : Program} {w : World} {h : Heap} {a : Addr} {M : List (List Key × Addr)} {es : Array (Int × Value)} {ep : Nat} {t : SetTable} (R : TupSet P w h a M es ep t) : TupS0 P w h a M := by
  obtain ⟨o, h1, h2, h3⟩ := R.here
  exact ⟨o, es, ep, t, h1, h2, h3, R.rows, R.lay, R.once, R.ord, R.space, R.le63⟩
theorem TupS0.full {P : Program} {w : World} {h : Heap} {a : Addr} {M : List (List Key × Addr)} (R : TupS0 P w h a M) (kd : ∀ m ∈ M, (TKd P w).is h m.1 m.2) : ∃ es ep t, TupSet P w h a M es ep t := by
  obtain ⟨o, es, ep, t, h1, h2, h3, h4, h5, h6, h7, h8, h9⟩ := R
  exact ⟨es, ep, t, ⟨o, h1, h2, h3⟩, h4, h5, h6, kd, h7, h8, h9⟩
open Classical in
noncomputable def putM (M : List (List Key × Addr)) (k : List Key) (b : Addr) : List (List Key × Addr) := if k ∈ M.map (fun m : List Key × Addr => m.1) then M else (k, b) :: M
end Dv
namespace Dv
open PySem PySem.Spec PyProof.Rows L2
end Dv
namespace Dv
open PySem PySem.Spec PyProof.Rows L2
section
variable {X : Cx}
/-- what is put into the dict D at a turn -/
def PutAt (P : Program) (w : World) (D : Addr) (Nx : Hp → Prop) (y z : V) (H5 : Hp) : Prop := ∃ (a : Addr × Obj) (xs : List (List Key × Addr × Value)) (kvs : List (List Key × V)) (b : Addr) (k : List Key) (B : Hp), H5 D = some (DTo P w a xs) ∧ Same B H5 ∧ KT (tupH B) kvs xs ∧ y = .ref b ∧ TupB B b (k.map kV) ∧ kvs.length < sizeLine ∧
  ∀ xs' od, KT (tupH B) (putK kvs k z) xs' → Nx (upd H5 D (DTo P w (D, od) xs'))
def tDcT (P : Program) (w : World) (wi : TI) (g : TG) (tt : TT) (tk tv : TE) (vs : List Nat) : TE := fun σ H Q => wi σ H fun J H1 => ∀ D od, H1 D = none → ∃ W : Nat → Nat → Hp → Prop, (∃ m, W 0 m (upd H1 D (DTo P w (D, od) []))) ∧ ∀ i m H', W i m H' →
  (J.stop i H' ∧ Q (.ref D) H') ∨ (J.go i H' ∧ ∃ Nx : Hp → Prop, (∀ G, Nx G → ∃ m2, m2 < m ∧ W (i + 1) m2 G) ∧ ∀ x G, J.yld i H' x G → g x (wipe σ vs) G fun σ2 H2 => wipe σ2 vs = wipe σ vs ∧ tt σ2 H2 fun yes H3 =>
    if yes = true then tk σ2 H3 fun y H4 => tv σ2 H4 fun z H5 => PutAt P w D Nx y z H5 else Nx H3)
theorem t_dictSet {pins : List (Addr × Obj)} {σ : L2.St} {H B : Hp} {s : Shared} {A : Around} {E : Value → Shared → Prop} {l b : Addr} {a : Addr × Obj} {xs : List (List Key × Addr × Value)} {kvs : List (List Key × V)} {k : List Key} {v : V} {r : Value} {Q : Unit → Shared → Prop} (room : A.units < cLine) (I : Inv X pins σ H s) (e : H l = some (DTo X.prog X.w a xs)) (sub : Same B H) (q : KT (tupH B) kvs xs) (hb : TupB B b (k.map kV)) (hl : kvs.length < sizeLine) (rv : RelV v r)
    (h : ∀ s' xs' od, KT (tupH B) (putK kvs k v) xs' → Inv X pins σ (upd H l (DTo X.prog X.w (l, od) xs')) s' → Q () s') : wpAny (model X.prog X.w) A (dictSet l (.ref b) r) Q E s := by
  obtain ⟨_, z, sysm, dd⟩ := t_facts I e (q.keeps (tupH_mono sub))
  have less : (putK kvs k v).length ≤ sizeLine := by have := length_putK kvs k v; omega
  refine wpAny_dictSet_heap (hsz := z) (show (tupleKind (mixKind X.prog X.w)).room A from room) (key_tup I.hok (hb.mono sub)) dd fun h' dd' sb => ?_
  have q' := q.put k (tupH_of hb) rv
  obtain ⟨ob, es, ep, there, d2, d3, d4, _, d5⟩ := dd'
  refine h _ _ ob q' (d_write I (by rw [e]; trivial) sb ⟨ob, there⟩ (dt_ok ?_ sysm ⟨es, ep, there, d2, d3, d4, d5⟩))
  rw [← Paired.length q']; exact less
theorem pe_dcT {kx vx tg iter : Expr} {ifs : List Expr} {scope : Scope} {own : List (Str × Nat)} {pos : Pos} {wi : TI} {g : TG} {tt : TT} {tk tv : TE} (room : X.A.units < cLine) (calm : X.calm = true) (uniq : X.N.Nodup) (pi : PI X tg iter wi) (blk : BlkOk X.N X.env.scope scope own)
    (kg : ∀ (s : Shared) (H : Hp) (C : Addr) (cl : List (Str × Addr)) (fp : List Addr), PG (X.blk s H scope (compEnvC scope cl C X.env) fp) tg g)
    (kt : ∀ (s : Shared) (H : Hp) (C : Addr) (cl : List (Str × Addr)) (fp : List Addr), PTs (X.blk s H scope (compEnvC scope cl C X.env) fp) ifs tt)
    (kk : ∀ (s : Shared) (H : Hp) (C : Addr) (cl : List (Str × Addr)) (fp : List Addr), PE (X.blk s H scope (compEnvC scope cl C X.env) fp) kx tk)
    (kv : ∀ (s : Shared) (H : Hp) (C : Addr) (cl : List (Str × Addr)) (fp : List Addr), PE (X.blk s H scope (compEnvC scope cl C X.env) fp) vx tv)
    (fold : ∀ x, foldedSetIterable iter X.env x = pure x := by intro _; rfl) : PE X (.DictComp kx vx [⟨tg, iter, ifs, 0⟩] scope pos) (tDcT X.prog X.w wi g tt tk tv (own.map (·.2))) := by
  refine ⟨fun pins s σ H Q I h => ?_⟩
  rw [arm_eval_DictComp]
  have free : ∀ y ∈ scope.names, y.2 = .free → ∃ c, X.env.cells.lookup y.1 = some c := fun y hy e => (blk.free y hy e).elim (fun z => I.ok.has _ (.inl z)) (fun z => I.ok.has _ (.inr z))
  refine wpAny_comprehension_free (use := none) rfl fold (closure_ok free) blk.kind (fun y hy e => by rw [blk.uniq y hy, e]) (thn (pi.run pins s σ H _ I h) fun v0 t1 z1 => thn z1 fun v1 t2 z2 => ?_)
  obtain ⟨it, fp, tn, J, H2, rfl, I2, T, on0, out2, q⟩ := z2
  refine wpAny_newObj_type (newEnv_comp ?_)
  obtain ⟨D, hD⟩ : ∃ D, D = t2.heap.objs.size := ⟨_, rfl⟩
  rw [← hD]
  obtain ⟨W, ⟨top, w0⟩, turn⟩ := q D { cls := .type "dict", data := .dict #[] } (I2.hok.fresh (Nat.le_of_eq hD.symm))
  obtain ⟨t3, ht3⟩ : ∃ t3 : Shared, t3 = { t2 with heap := t2.heap.push { cls := .type "dict", data := .dict #[] } } := ⟨_, rfl⟩
  have old3 : ∀ b o, t2.heap.get? b = some o → t3.heap.get? b = some o := fun b o e => by rw [ht3]; exact Heap.get?_push_of_some _ e
  have size3 : t3.heap.objs.size = t2.heap.objs.size + 1 := by rw [ht3]; exact Heap.size_push ..
  obtain ⟨H3, hH3⟩ : ∃ H3, H3 = upd H2 D (DTo X.prog X.w (D, { cls := .type "dict", data := .dict #[] }) []) := ⟨_, rfl⟩
  have I3 : Inv X pins σ H3 t3 := by
    rw [hH3, ht3, hD]
    exact I2.laid (t' := t2.toks) (fun b o e => Heap.get?_push_of_some _ e) (Nat.le_refl _) (dt_ok (Nat.zero_le _) (beq_eq_false_iff_ne.mpr (Ne.symm (Nat.ne_of_lt I2.big))) ⟨_, _, Heap.get?_push_size _ rfl, ⟨rfl, rfl, rfl⟩, rfl, rfl, List.nodup_nil⟩)
  have young : ∀ b ∈ fp, b < t2.heap.objs.size := fun b hb => by
    obtain ⟨o, e, _⟩ := T.obj _ _ on0 b hb
    exact Heap.lt_size e
  have out3 : ∀ b ∈ fp, FpOk X pins H3 b ∧ b < t3.heap.objs.size := fun b hb => by
    have lt := young b hb
    refine ⟨⟨?_, (out2 b hb).2⟩, by rw [size3]; exact Nat.lt_succ_of_lt lt⟩
    rw [hH3, upd_ne (by rw [hD]; exact Nat.ne_of_lt lt)]
    exact (out2 b hb).1
  have on3 : tn 0 t3.heap := T.keep _ _ _ on0 fun b _ o e => old3 b o e
  have B3 := block_start I3 blk uniq out3
  have pg := kg t3 H3 t3.heap.objs.size (cellsFrom (t3.heap.objs.size + 1) scope.names (cloFrom X.env.cells scope.names [])) fp
  have pt := kt t3 H3 t3.heap.objs.size (cellsFrom (t3.heap.objs.size + 1) scope.names (cloFrom X.env.cells scope.names [])) fp
  have pk := kk t3 H3 t3.heap.objs.size (cellsFrom (t3.heap.objs.size + 1) scope.names (cloFrom X.env.cells scope.names [])) fp
  have pv := kv t3 H3 t3.heap.objs.size (cellsFrom (t3.heap.objs.size + 1) scope.names (cloFrom X.env.cells scope.names [])) fp
  rw [← ht3]
  show codeAny _ _ (.compStart (.DictComp kx vx [⟨tg, iter, ifs, 0⟩] scope pos) 0 (.ref it) (.ref D) (compEnvC scope (cellsFrom (t3.heap.objs.size + 1) scope.names (cloFrom X.env.cells scope.names [])) t3.heap.objs.size X.env)) (compPost (model X.prog X.w) X.A X.xe none (EP X pins σ Q) (.ref D) t3.heap.objs.size) { t3 with heap := pushCells (t3.heap.push { cls := .type "dict", data := .dict #[] }) scope.names }
  rw [← hH3] at w0
  have none3 : ∀ b ∈ fp, H3 b = none := fun b hb => (out3 b hb).1.1
  obtain ⟨ce, hce⟩ : ∃ ce, ce = compEnvC scope (cellsFrom (t3.heap.objs.size + 1) scope.names (cloFrom X.env.cells scope.names [])) t3.heap.objs.size X.env := ⟨_, rfl⟩
  rw [← hce] at B3 pg pt pk pv ⊢
  have local3 : ce.locals = t3.heap.objs.size := by rw [hce]; rfl
  obtain ⟨t4, ht4⟩ : ∃ t4 : Shared, t4 = { t3 with heap := pushCells (t3.heap.push { cls := .type "dict", data := .dict #[] }) scope.names } := ⟨_, rfl⟩
  rw [← ht4] at B3 ⊢
  have on4 : tn 0 t4.heap := T.keep _ _ _ on3 fun b _ o e => by rw [ht4]; exact pushCells_keeps _ _ _ _ (Heap.get?_push_of_some _ e)
  have apart : ∀ {τ : L2.St} {G : Hp} {t : Shared}, Inv (X.blk t3 H3 scope ce fp) [] τ G t → (∀ b ∈ fp, G b = none) → ∀ b ∈ fp, FpOk (X.blk t3 H3 scope ce fp) [] G b := fun {τ G t} J' no b hb =>
    ⟨no b hb, (J'.ok.exf b hb).1, J'.ok.exfs b hb, .inl hb, fun x c e => (J'.ok.exf b hb).2 x c e, fun p hp => by cases hp⟩
  have walk : codeAny (model X.prog X.w) X.A (.compLoop (.DictComp kx vx [⟨tg, iter, ifs, 0⟩] scope pos) 0 (.ref it) (.ref D) ce) (compPost (model X.prog X.w) X.A X.xe none (EP X pins σ Q) (.ref D) t3.heap.objs.size) t4 := by
    refine compLoop_anyD (fun n t => ∃ i G, Inv (X.blk t3 H3 scope ce fp) [] (wipe σ (own.map (·.2))) G t ∧ tn i t.heap ∧ (∀ b ∈ fp, G b = none) ∧ W i n G) ?_ top ⟨0, H3, B3, on4, none3, w0⟩
    rintro n t5 ⟨i, G5, J5, on5, no5, w5⟩
    rcases turn i n G5 w5 with ⟨stop, last⟩ | ⟨go, Nx, less, step⟩
    · refine thnF (T.done (X.blk t3 H3 scope ce fp) rfl rfl rfl calm i [] t5 _ G5 (fun _ _ => False) J5 (apart J5 no5) on5 stop) fun r t6 ⟨er, J6⟩ => ?_
      subst er
      have J7 : Inv X pins σ G5 t6 := I3.call' (ch := fp) J6.os J6.base J6.hok J6.bare fun b hb => ⟨(out3 b hb).1.2.2.2.1, (out3 b hb).1.2.1, (out3 b hb).1.2.2.2.2.1, (out3 b hb).1.2.2.2.2.2⟩
      have gone : G5 t3.heap.objs.size = none := by
        have := J6.free
        rw [show (X.blk t3 H3 scope ce fp).env.locals = t3.heap.objs.size from local3] at this
        exact this
      obtain ⟨m, hn, _⟩ := J6.loc
      have hn : t6.heap.Ns ce.locals m := hn
      rw [local3] at hn
      refine ⟨m, hn, fun h2 sb => ?_⟩
      obtain ⟨f0, f1, f2, f3, f4, f5⟩ := I3.fpOk (Nat.le_refl _) gone
      exact ⟨.ref D, G5, J7.turned (t' := t6.toks) (fun b o hb e => (sb.2 b hb).trans e) f0 f1 f3 f4 f5, rfl, last⟩
    · refine thnF (T.item (X.blk t3 H3 scope ce fp) rfl rfl rfl calm i [] t5 _ G5 (fun _ _ => False) J5 (apart J5 no5) on5 go) fun r t6 ⟨u, er, z6⟩ => ?_
      subst er
      refine thnF z6 fun _ t7 ⟨x, G7, J7, r7, y7, on7, no7⟩ => ?_
      refine thnF (pg.run _ t7 _ G7 x u _ (J7.pinned (apart J7 no7) (T.obj _ _ on7)) r7 (step x G7 y7)) fun _ t8 ⟨τ8, G8, J8, wi8, q8⟩ => ?_
      refine thnF (pt.run _ t8 τ8 G8 _ J8 q8) fun yes t9 ⟨G9, J9, q9⟩ => ?_
      have close : ∀ {t : Shared} {G : Hp}, Inv (X.blk t3 H3 scope ce fp) ([] ++ pinsAt fp t7.heap) τ8 G t → Nx G → ∃ m, m < n ∧ ∃ i G, Inv (X.blk t3 H3 scope ce fp) [] (wipe σ (own.map (·.2))) G t ∧ tn i t.heap ∧ (∀ b ∈ fp, G b = none) ∧ W i m G := fun {t G} K nx => by
        obtain ⟨m2, lt, w2⟩ := less G nx
        have held : ∀ b ∈ fp, ∀ o, t7.heap.get? b = some o → t.heap.get? b = some o ∧ G b = none := fun b hb o e => by
          have z := K.pin (b, o) (List.mem_append_right _ (List.mem_append_right _ (mem_pinsAt hb e)))
          exact ⟨z.1, z.2.1⟩
        refine ⟨m2, lt, i + 1, G, (K.unpinned (pins := [])).weak (by rw [← wi8, wipe_length]) (fun j v e => ?_), T.keep _ _ _ on7 fun b hb o e => (held b hb o e).1, fun b hb => ?_, w2⟩
        · rw [← wi8] at e
          exact (wipe_some e).1
        · obtain ⟨o, e, _⟩ := T.obj _ _ on7 b hb
          exact (held b hb o e).2
      cases yes with
      | false =>
        simp only [Bool.false_eq_true, if_false] at q9 ⊢
        exact close J9 q9
      | true =>
        simp only [if_true] at q9 ⊢
        refine thnF (pk.run _ t9 τ8 G9 _ J9 q9) fun z t10 ⟨y, G10, J10, r10, q10⟩ => ?_
        refine thnF (pv.run _ t10 τ8 G10 _ J10 q10) fun z2 t11 ⟨y2, G11, J11, r11, a, xs, kvs, b, k, B, here, sub, kt2, ey, tb, few, nx⟩ => ?_
        subst ey
        cases (show z = Value.ref b from r10)
        exact t_dictSet (X := X.blk t3 H3 scope ce fp) (A := X.A) room J11 here sub kt2 tb few r11 fun t12 xs' od kt3 J12 => close J12 (nx xs' od kt3)
  exact codeAny_compStart_dict walk (T.self X.A 0 _ _ _ on4 walk)
end
end Dv
namespace Dv
open PySem PySem.Spec PyProof.Rows L2
theorem hasK_iff {ks : List (List Key)} {k : List Key} : hasK ks k = true ↔ k ∈ ks := by
  induction ks with
  | nil => exact ⟨fun h => (nomatch h), fun h => (nomatch h)⟩
  | cons a r ih =>
    unfold hasK at ih ⊢
    rw [List.any_cons, Bool.or_eq_true, ih, List.mem_cons, decide_eq_true_iff]
    exact ⟨fun h => h.imp Eq.symm id, fun h => h.imp Eq.symm id⟩
end Dv
namespace Dv
open PySem PySem.Spec PyProof.Rows L2
/-- the pairs r are put in, one behind the other -/
def dtFold : List D → List (List Key) → List D → Option (List (List Key) × List D)
  | [], ks, ds => some (ks, ds)
  | .pr [k, v] :: r, ks, ds => (tkeyOf k).bind fun key => if ks.length < sizeLine then dtFold r (putT ks ds key v).1 (putT ks ds key v).2 else none
  | _ :: _, _, _ => none
theorem dtFold_cons {k v : D} {r : List D} {ks : List (List Key)} {ds : List D} {s : List (List Key) × List D} (h : dtFold (.pr [k, v] :: r) ks ds = some s) : ∃ key, tkeyOf k = some key ∧ ks.length < sizeLine ∧ dtFold r (putT ks ds key v).1 (putT ks ds key v).2 = some s := by
  unfold dtFold at h
  cases e : tkeyOf k with
  | none => rw [e] at h; cases h
  | some key =>
    rw [e] at h
    have h : (if ks.length < sizeLine then dtFold r (putT ks ds key v).1 (putT ks ds key v).2 else none) = some s := h
    split at h
    · exact ⟨key, rfl, ‹_›, h⟩
    · cases h
def mPair (mk mv : M) : M := fun env u => bnd (mk env u) fun k u1 => bnd (mv env u1) fun v u2 => some (.pr [k, v], u2)
theorem mPair_eq {mk mv : M} {env : List Sl} {u u1 u2 : U} {k v : D} (h : mk env u = some (k, u1)) (h2 : mv env u1 = some (v, u2)) : mPair mk mv env u = some (.pr [k, v], u2) := by
  unfold mPair; rw [h]; show bnd (mv env u1) _ = _; rw [h2]; rfl
def mDcT (t : Tgt) (own : List Nat) (mi : MI) (mc : MB) (mk mv : M) : M := fun env u => bnd (mi env u) fun ds u1 => bnd (compL (turnL t own env mc (mPair mk mv)) ds u1) fun r u2 => (dtFold r [] []).map fun s => (.dtt s.1 s.2, u2)
theorem mDcT_eq {t : Tgt} {own : List Nat} {mi : MI} {mc : MB} {mk mv : M} {env : List Sl} {u u1 u2 : U} {ds r : List D} {s : List (List Key) × List D} (h : mi env u = some (ds, u1)) (h2 : compL (turnL t own env mc (mPair mk mv)) ds u1 = some (r, u2)) (h3 : dtFold r [] [] = some s) : mDcT t own mi mc mk mv env u = some (.dtt s.1 s.2, u2) := by
  unfold mDcT; rw [h]; show bnd (compL _ ds u1) _ = _; rw [h2]; show (dtFold r [] []).map _ = _; rw [h3]; rfl
section
variable {X : Cx} {G : Gx X.K} {mi : MI} {mc : MB} {mk mv : M}
theorem dc_innerT (hG : G.pw = some (X.prog, X.w)) {t : Tgt} {own : List Nat} {σ : L2.St} {Qd : V → Hp → Prop} {ua : Option Addr} {u1 u' : U} {B1 H1 : Hp} {env : List Sl} {J : It} {ds r : List D} {res : List (List Key) × List D} (ht : ∀ i ∈ t.ids, i ∈ own) (hE1 : EnvOk G ua env σ B1 H1) (w1 : Wd ua u1 B1 H1) (wk : Wk G ua J B1 ds)
    (h3 : compL (turnL t own env mc (mPair mk mv)) ds u1 = some (r, u')) (hf : dtFold r [] [] = some res)
    (q : ∀ v H', Aft G ua B1 H1 u' (.dtt res.1 res.2) v H' → Qd v H') :
    ∀ Dp od, H1 Dp = none → ∃ W : Nat → Nat → Hp → Prop, (∃ m, W 0 m (upd H1 Dp (DTo X.prog X.w (Dp, od) []))) ∧ ∀ i m H', W i m H' →
      (J.stop i H' ∧ Qd (.ref Dp) H') ∨ (J.go i H' ∧ ∃ Nx : Hp → Prop, (∀ H2, Nx H2 → ∃ m2, m2 < m ∧ W (i + 1) m2 H2) ∧ ∀ x H2, J.yld i H' x H2 → gOf X.K t x (wipe σ own) H2 fun σ2 H3 => wipe σ2 own = wipe σ own ∧ tTst G mc σ2 H3 fun yes H4 =>
        if yes = true then tEv G mk σ2 H4 fun y H5 => tEv G mv σ2 H5 fun z H6 => PutAt X.prog X.w Dp Nx y z H6 else Nx H4) := by
  intro Dp od hD
  let St : Nat → Hp → Prop := fun i H' => ∃ B' uu rest ks es vs xs od, Grow ua B1 H1 B' H' ∧ Wd ua uu B' H' ∧ H' Dp = some (DTo X.prog X.w (Dp, od) xs) ∧ B' Dp = none ∧ KT (tupH B') (ks.zip vs) xs ∧ ks.length = vs.length ∧ Reps G ua es vs B' ∧
    compL (turnL t own env mc (mPair mk mv)) (ds.drop i) uu = some (rest, u') ∧ dtFold rest ks es = some res
  refine ⟨fun i m H' => m = ds.length - i ∧ i ≤ ds.length ∧ St i H', ⟨ds.length, by omega, by omega, B1, u1, r, [], [], [], [], od, .own1 w1 hD, w1.own1 hD, upd_same, w1.none_of hD, .nil, rfl, .nil, h3, hf⟩, ?_⟩
  rintro i m H' ⟨rfl, hi, B', uu, rest, ks, es, vs, xs, od', g2, w2, hv, hb, kt, lk, re, hc, hfr⟩
  have sB : Same B1 B' := g2.pub
  have nu : ua ≠ some Dp := w1.ne_urn hD
  have hkk := wk i B' H' uu sB w2
  by_cases hlt : i < ds.length
  · have hd : ds[i]? = some ds[i] := List.getElem?_eq_getElem hlt
    obtain ⟨hgo, hy⟩ := hkk.1 _ hd
    rw [List.drop_eq_getElem_cons hlt] at hc
    obtain ⟨o, u3, c1, c2⟩ := bnd_some (show bnd (turnL t own env mc (mPair mk mv) ds[i] uu) _ = _ from hc)
    obtain ⟨rest', u4, c3, c4⟩ := bnd_some c2
    refine .inr ⟨hgo, fun H2 => St (i + 1) H2, fun H2 h2 => ⟨ds.length - (i + 1), by omega, rfl, hlt, h2⟩, fun x H2 y => ?_⟩
    obtain ⟨B2, g3, w3, r3⟩ := hy x H2 y
    have hv2 : H2 Dp = some (DTo X.prog X.w (Dp, od') xs) := g3.keep _ _ hv nu
    have hb2 : B2 Dp = none := g3.none_of hv hb
    have hE2 : EnvOk G ua (wipeE env own) (wipe σ own) B2 H2 := ((hE1.wipe own).grow g2).grow g3
    unfold turnL at c1
    split at c1
    · cases c1
    · rename_i env' hbt
      refine bindT_ok hE2 w3 r3 hbt fun σ' hE3 hwp hback => ⟨by rw [hwp own ht, wipe_wipe], ?_⟩
      obtain ⟨b, u5, c5, c6⟩ := bnd_some c1
      refine ⟨ua, uu, B2, env', b, u5, hE3, w3, c5, fun H3 ⟨B3, g4, w4⟩ => ?_⟩
      have hv3 : H3 Dp = some (DTo X.prog X.w (Dp, od') xs) := g4.keep _ _ hv2 nu
      have hb3 : B3 Dp = none := g4.none_of hv2 hb2
      have gg := g2.trans (g3.trans g4)
      cases b with
      | true =>
        rw [if_pos rfl] at c6
        refine iteT ?_
        obtain ⟨x', u6, c7, c8⟩ := bnd_some c6
        cases c8
        cases c4
        obtain ⟨kd, u7, k1, k2⟩ := bnd_some c7
        obtain ⟨vd, u8, k3, k4⟩ := bnd_some k2
        cases k4
        obtain ⟨key, f1, f2, f3⟩ := dtFold_cons hfr
        refine ⟨ua, u5, B3, env', kd, u7, hE3.grow g4, w4, k1, fun yv H4 ⟨B4, g5, w5, r5⟩ => ⟨ua, u7, B4, env', vd, _, (hE3.grow g4).grow g5, w5, k3, fun zv H5 ⟨B5, g6, w6, r6⟩ => ?_⟩⟩
        have hv4 : H4 Dp = some (DTo X.prog X.w (Dp, od') xs) := g5.keep _ _ hv3 nu
        have hb4 : B4 Dp = none := g5.none_of hv3 hb3
        have hv5 : H5 Dp = some (DTo X.prog X.w (Dp, od') xs) := g6.keep _ _ hv4 nu
        have hb5 : B5 Dp = none := g6.none_of hv4 hb4
        obtain ⟨c, rfl, hc4⟩ := tkeyOf_rep f1 r5
        have s5 : Same B' B5 := fun a o e => g6.pub _ _ (g5.pub _ _ (g4.pub _ _ (g3.pub _ _ e)))
        have re5 : Reps G ua es vs B5 := re.mono _ _ s5
        have kt5 : KT (tupH B5) (ks.zip vs) xs := kt.keeps (tupH_mono s5)
        obtain ⟨ws, a1, a2, a3⟩ := putT_rep (j := key) r6 lk re5
        refine ⟨(Dp, od'), xs, ks.zip vs, c, key, B5, hv5, w6.sub, kt5, rfl, hc4.mono g6.pub, by rw [List.length_zip, ← lk, Nat.min_self]; exact f2, fun xs' od2 kt' => ?_⟩
        rw [a1] at kt'
        exact ⟨B5, _, rest', _, _, ws, xs', od2, ((gg.trans g5).trans g6).put hD, w6.put hb5 nu, upd_same, hb5, kt', a2, a3, c3, f3⟩
      | false =>
        rw [if_neg (by decide)] at c6
        refine iteF ?_
        cases c6
        cases c4
        have s3 : Same B' B3 := fun a o e => g4.pub _ _ (g3.pub _ _ e)
        exact ⟨B3, _, rest', ks, es, vs, xs, od', gg, w4, hv3, hb3, kt.keeps (tupH_mono s3), lk, re.mono _ _ s3, c3, hfr⟩
  · have e : i = ds.length := by omega
    subst e
    rw [List.drop_length] at hc
    cases hc
    cases hfr
    refine .inl ⟨hkk.2 (by simp), q _ _ ⟨upd B' Dp (DTo X.prog X.w (Dp, od') xs), g2.show hD hb, w2.show hv nu, ?_⟩⟩
    have sh : Same B' (upd B' Dp (DTo X.prog X.w (Dp, od') xs)) := fun a o e => by
      by_cases z : a = Dp
      · rw [z, hb] at e; cases e
      · rw [upd_ne z]; exact e
    show Rep G ua (.dtt ks es) (.ref Dp) _
    unfold Rep
    exact ⟨Dp, vs, _, rfl, upd_same, ⟨X.prog, X.w, (Dp, od'), xs, hG, rfl, kt.keeps (tupH_mono sh), lk⟩, re.mono _ _ sh⟩
theorem dv_dcT (t : Tgt) (ids : List Nat) {kx vx tg iter : Expr} {ifs : List Expr} {scope : Scope} {own : List (Str × Nat)} {pos : Pos} (hG : G.pw = some (X.prog, X.w)) (hu : X.A.units < cLine) (hc : X.calm = true) (hN : X.N.Nodup) (hi : PI X tg iter (tIt G mi)) (ok : BlkOk X.N X.env.scope scope own) (hid : own.map (·.2) = ids) (ht : ∀ i ∈ t.ids, i ∈ ids)
    (hg : ∀ (s : Shared) (H : Hp) (C : Addr) (cl : List (Str × Addr)) (fp : List Addr), PG (X.blk s H scope (compEnvC scope cl C X.env) fp) tg (gOf X.K t)) (hq : ∀ (s : Shared) (H : Hp) (C : Addr) (cl : List (Str × Addr)) (fp : List Addr), PTs (X.blk s H scope (compEnvC scope cl C X.env) fp) ifs (tTst (K := X.K) G mc))
    (hk : ∀ (s : Shared) (H : Hp) (C : Addr) (cl : List (Str × Addr)) (fp : List Addr), PE (X.blk s H scope (compEnvC scope cl C X.env) fp) kx (tEv (K := X.K) G mk))
    (hv : ∀ (s : Shared) (H : Hp) (C : Addr) (cl : List (Str × Addr)) (fp : List Addr), PE (X.blk s H scope (compEnvC scope cl C X.env) fp) vx (tEv (K := X.K) G mv)) (hs : ∀ x, foldedSetIterable iter X.env x = pure x := by intro _; rfl) :
    PE X (.DictComp kx vx [⟨tg, iter, ifs, 0⟩] scope pos) (tEv G (mDcT t ids mi mc mk mv)) := by
  subst hid
  refine (pe_dcT hu hc hN hi ok hg hq hk hv hs).imp fun σ H Q h => ?_
  obtain ⟨ua, u, B, env, d, u', hE, hW, hm, q⟩ := h
  obtain ⟨ds, u1, h1, h2⟩ := bnd_some hm
  obtain ⟨r, u2, h3, h4⟩ := bnd_some h2
  obtain ⟨res, h5, h6⟩ := map_some h4
  cases h6
  refine ⟨ua, u, B, env, ds, u1, hE, hW, h1, fun J B1 H1 g1 w1 wk => ?_⟩
  exact dc_innerT hG ht (hE.grow g1) w1 wk h3 h5 fun v H' a => q v H' (.up g1 a)
end
end Dv
namespace Dv
open PySem PySem.Spec PyProof.Rows L2
theorem hU0 {A : Around} {k : Nat} (hr : Room k A) : A.units < cLine := by have := hU64 hr; omega
section
variable {X : Cx} {G : Gx X.K} {e : Expr} {me : M} {p pos : Pos}
/-- the new dict, never to be changed -/
theorem cr_dictTF (hcalm : X.calm = true) : CallR X (.type "dict") (fun xs H Q => ∃ (a : Addr) (ps : List Addr) (kvs : List (Key × V)), xs = [.ref a] ∧ TupB H a (ps.map V.ref) ∧ Paired (fun p kv => SqT X.K H p [kV kv.1, kv.2]) ps kvs ∧
    ∀ p o, H p = none → Q (.ref p) (upd H p (.frz o (.dK (mergeK [] kvs))))) := by
  intro pins s σ H xs us Q I r q
  obtain ⟨a, ps, kvs, rfl, ⟨o, od, e⟩, hp, q⟩ := q
  obtain rfl := Vals.ref1 r
  obtain ⟨eo, z, its, rv, o', h1, h2, n, h3⟩ := I.hok _ _ e
  rw [eo] at h1
  cases h1
  have ei := refs_at rv
  subst ei
  rw [List.length_map] at z
  obtain ⟨prs, pv, rel, l1, l2, hpr⟩ := pairs_two I hp
  have items : PySem.PairItems s.heap (ps.map Value.ref).toArray (fun j => ps[j]?.getD 0) pv := by
    refine ⟨by simp [l2], fun j k v hj => ?_⟩
    obtain ⟨b, key, e1, e2, _⟩ := hpr j k v hj
    have eb : ps[j]?.getD 0 = b := by rw [e1]; rfl
    exact ⟨by simp [e1], by show PySem.PairAt s.heap (ps[j]?.getD 0) k v; rw [eb]; exact .inl e2⟩
  refine PySem.call_dict_pairs (knd := mixKind X.prog X.w) (kvs := prs) (PySem.PairArg.tuple a _ _ pv) (I.ok.hd hcalm) ⟨⟨o, n, eo, h2, od, h3⟩, items⟩ ⟨by rw [l1, l2], fun i key v hr => ?_⟩ (by rw [l2]; exact z) fun h' tk hd' k => ?_
  · obtain ⟨b, ky, _, _, e3, e4⟩ := hpr i key v hr
    exact ⟨ky, e3, e4⟩
  · have hm : (s.heap.objs.size == sysModules) = false := beq_eq_false_iff_ne.mpr (Nat.ne_of_gt I.big)
    have hlen : (mergeK [] kvs).length ≤ sizeLine := by
      have := length_mergeK kvs []
      have lk := rel.length
      simp only [List.length_nil] at this
      omega
    obtain ⟨ob, hob⟩ : ∃ ob, h'.get? s.heap.objs.size = some ob := by obtain ⟨q, _, _, hq, _⟩ := hd'; exact ⟨q, hq⟩
    exact ⟨.ref s.heap.objs.size, upd H s.heap.objs.size (.frz ob (.dK (mergeK [] kvs))), I.laid (t' := tk) (fun b o e => k b o (by simp) e) (Nat.le_refl _) (show ObjOk X.prog X.w _ _ _ (.frz ob (.dK (mergeK [] kvs))) from ⟨hob, hlen, hm, _, KV.merge rel .nil, hd'⟩), rfl, q _ ob (I.hok.fresh (Nat.le_refl _))⟩
/-- dict(e) of a tuple of pairs, new -/
def mDictP (m : M) : M := fun env u => bnd (m env u) fun d u1 => match d with
  | .tup ds => (match pairsD ds with
    | some ps => some (.dct (mergeD [] [] ps).1 (mergeD [] [] ps).2, u1)
    | none => none)
  | _ => none
theorem mDictP_eq {m : M} {env : List Sl} {u u1 : U} {ds : List D} {ps : List (Key × D)} (h : m env u = some (.tup ds, u1)) (h2 : pairsD ds = some ps) : mDictP m env u = some (.dct (mergeD [] [] ps).1 (mergeD [] [] ps).2, u1) := by
  unfold mDictP; rw [h]; show (match pairsD ds with | some ps => _ | none => none) = _; rw [h2]
theorem dv_dictP (hc : X.calm = true) (hg : Gl X "dict") (hm : X.mg "dict" = none) (ha : PE X e (tEv G me)) (he : starEach (e :: []) X.env = (false, eval e X.env) :: starEach [] X.env := by rfl) (hpl : (backTo pos (starEach [] X.env)).any (·.1) = false := by rfl) :
    PE X (.Call (.Name "dict" p) [e] [] pos) (tEv G (mDictP me)) :=
  (pe_callTy (cr_dictTF hc) hg hm (by decide +kernel) (pa_cons ha pa_nil he) (by decide) (by decide) he hpl).imp fun σ H Q z => by
  obtain ⟨ua, u, B, env, s, u', hE, hW, hm, q⟩ := z
  obtain ⟨d, u1, c1, c2⟩ := bnd_some hm
  refine ⟨ua, u, B, env, d, u1, hE, hW, c1, fun v H1 ⟨B1, g1, w1, r1⟩ => ?_⟩
  split at c2
  · rename_i ds
    split at c2
    · rename_i ps hps
      cases c2
      obtain ⟨a, ys, rfl, h, r3⟩ := r1.tup
      obtain ⟨as, kvs, rfl, q1, q2⟩ := pairsD_rep w1.sub hps r3
      obtain ⟨ws, m1, m2, m3, m4⟩ := mergeD_rep (ks := []) (ds := []) (vs := []) q2 List.nodup_nil rfl .nil
      refine ⟨a, as, kvs, rfl, h.mono w1.sub, q1, fun l ob hl => q _ _ ⟨upd B1 l (.frz ob (.dK (mergeK [] kvs))), g1.trans (.new1 w1 hl), w1.new1 hl, ?_⟩⟩
      have sh : Same B1 (upd B1 l (.frz ob (.dK (mergeK [] kvs)))) := fun b o e => by
        by_cases z : b = l
        · rw [z, w1.none_of hl] at e; cases e
        · rw [upd_ne z]; exact e
      unfold Rep
      exact ⟨l, ws, rfl, ⟨ob, by rw [upd_same]; exact congrArg (fun z => some (HO.frz ob (HO.dK z))) m1⟩, m2, m3.mono _ _ sh⟩
    · cases c2
  · cases c2
theorem reps_keysT {ua : Option Addr} {B : Hp} {vs : List V} : ∀ {ks : List (List Key)} {vs : List V} {xs : List (List Key × Addr × Value)}, KT (tupH B) (ks.zip vs) xs → ks.length = vs.length → Reps G ua (ks.map rowD) (xs.map fun x => V.ref x.2.1) B
  | [], [], _, r, _ => by cases r; exact .nil
  | k :: ks, v :: vs, _, .cons (b := x) h t, l => by
    have hk : TupB B x.2.1 (k.map kV) := by
      have := kt_tups (.cons h t) x List.mem_cons_self
      rw [← h.1] at this
      exact this
    exact .cons (rep_rowD hk) (reps_keysT (vs := vs) t (Nat.succ.inj l))
  | [], v :: vs, _, _, l => by cases l
  | k :: ks, [], _, _, l => by cases l
end
end Dv
namespace Dv
open PySem PySem.Spec PyProof.Rows L2
end Dv
namespace Dv
open PySem PySem.Spec PyProof.Rows L2
def cLtP (a b : D) : Option D := (toPy a).bind fun x => (toPy b).bind fun y => if okG [x, y] = true then some (.bl (W.dataLt x y)) else none
end Dv
namespace Dv
open PySem PySem.Spec PyProof.Rows L2
end Dv
namespace Dv
open PySem PySem.Spec PyProof.Rows L2
end Dv
namespace Dv
open PySem PySem.Spec PyProof.Rows L2
end Dv
namespace Dv
open PySem PySem.Spec PyProof.Rows L2 PySem.W PySem.Calls
end Dv
namespace Dv
open PySem PySem.Spec PyProof.Rows L2
mutual
/-- the key that a datum is -/
def nkeyOf : D → Option NestedKey
  | .non => some .none
  | .bl _ => none
  | .int i => some (.num i)
  | .str x => some (.text x)
  | .tup ds => (nkeysOf ds).map .tup
  | .pr _ => none
  | .lst _ => none
  | .ins _ _ _ => none
  | .exc _ _ _ => none
  | .fn _ => none
  | .dct _ _ => none
  | .dtt _ _ => none
  | .dtn _ _ => none
  | .urn => none
def nkeysOf : List D → Option (List NestedKey)
  | [] => some []
  | d :: ds => (nkeyOf d).bind fun k => (nkeysOf ds).map fun ks => k :: ks
end
section
variable {P : Program} {w : World} {K : PySem.W.Frag} {G : Gx K} {ua : Option Addr} {B H : Hp} {h : Heap}
mutual
theorem nkey_rep : ∀ (d : D) (k : NestedKey) (v : V), nkeyOf d = some k → Rep G ua d v B → NKey B k v
  | .non, k, v, e, r => by
    unfold nkeyOf at e
    cases e
    unfold Rep at r
    unfold NKey
    exact r
  | .int i, k, v, e, r => by
    unfold nkeyOf at e
    cases e
    cases r.int
    unfold NKey
    rfl
  | .str x, k, v, e, r => by
    unfold nkeyOf at e
    cases e
    cases r.str
    unfold NKey
    rfl
  | .tup ds, k, v, e, r => by
    unfold nkeyOf at e
    obtain ⟨ks, e1, rfl⟩ := map_some e
    obtain ⟨a, vs, rfl, hb, rs⟩ := r.tup
    unfold NKey
    exact ⟨a, vs, rfl, hb, nkeys_rep ds ks vs e1 rs⟩
  | .bl _, k, v, e, r => by unfold nkeyOf at e; cases e
  | .pr _, k, v, e, r => by unfold nkeyOf at e; cases e
  | .lst _, k, v, e, r => by unfold nkeyOf at e; cases e
  | .ins _ _ _, k, v, e, r => by unfold nkeyOf at e; cases e
  | .exc _ _ _, k, v, e, r => by unfold nkeyOf at e; cases e
  | .fn _, k, v, e, r => by unfold nkeyOf at e; cases e
  | .dct _ _, k, v, e, r => by unfold nkeyOf at e; cases e
  | .dtt _ _, k, v, e, r => by unfold nkeyOf at e; cases e
  | .dtn _ _, k, v, e, r => by unfold nkeyOf at e; cases e
  | .urn, k, v, e, r => by unfold nkeyOf at e; cases e
theorem nkeys_rep : ∀ (ds : List D) (ks : List NestedKey) (vs : List V), nkeysOf ds = some ks → Reps G ua ds vs B → NKeys B ks vs
  | [], ks, vs, e, rs => by
    unfold nkeysOf at e
    cases e
    unfold NKeys
    exact rs.of_nil
  | d :: ds, ks, vs, e, rs => by
    unfold nkeysOf at e
    obtain ⟨k, e1, e2⟩ := Option.bind_eq_some_iff.mp e
    obtain ⟨ks', e3, rfl⟩ := map_some e2
    obtain ⟨v, t, rfl, r1, r2⟩ := rs.of_cons
    unfold NKeys
    exact ⟨v, t, rfl, nkey_rep d k v e1 r1, nkeys_rep ds ks' t e3 r2⟩
end
mutual
/-- the datum that a key is -/
def nkD : NestedKey → D
  | .none => .non
  | .num i => .int i
  | .text x => .str x
  | .tup ks => .tup (nkDs ks)
def nkDs : List NestedKey → List D
  | [] => []
  | k :: ks => nkD k :: nkDs ks
end
mutual
theorem rep_nkD : ∀ (k : NestedKey) (v : V), NKey B k v → Rep G ua (nkD k) v B
  | .none, v, e => by
    unfold NKey at e
    unfold nkD Rep
    exact e
  | .num i, v, e => by
    unfold NKey at e
    unfold nkD Rep
    exact e
  | .text x, v, e => by
    unfold NKey at e
    unfold nkD Rep
    exact e
  | .tup ks, v, e => by
    unfold NKey at e
    obtain ⟨a, vs, rfl, hb, t⟩ := e
    unfold nkD Rep
    exact ⟨a, vs, rfl, hb, reps_nkDs ks vs t⟩
theorem reps_nkDs : ∀ (ks : List NestedKey) (vs : List V), NKeys B ks vs → Reps G ua (nkDs ks) vs B
  | [], vs, e => by
    unfold NKeys at e
    subst e
    unfold nkDs
    exact .nil
  | k :: ks, vs, e => by
    unfold NKeys at e
    obtain ⟨v, r, rfl, q, t⟩ := e
    unfold nkDs
    exact .cons (rep_nkD k v q) (reps_nkDs ks r t)
end
end
end Dv
namespace Dv
open PySem PySem.Spec PyProof.Rows L2
section
variable {P : Program} {w : World} {B H : Hp} {h : Heap}
mutual
theorem nk_is (ok : HOk P w H h) : ∀ (k : NestedKey) (v : V) (u : Value), NKey H k v → RelV v u → NestedIs h k u
  | .none, v, u, e, rv => by
    unfold NKey at e
    subst e
    cases (show u = Value.none from rv)
    exact .none
  | .num i, v, u, e, rv => by
    unfold NKey at e
    subst e
    obtain ⟨t, rfl⟩ : ∃ t, u = Value.int i t := rv
    exact .int i t
  | .text x, v, u, e, rv => by
    unfold NKey at e
    subst e
    obtain ⟨t, rfl⟩ : ∃ t, u = Value.str x t := rv
    exact .text x t
  | .tup ks, v, u, e, rv => by
    unfold NKey at e
    obtain ⟨a, vs, rfl, hb, rs⟩ := e
    cases (show u = Value.ref a from rv)
    obtain ⟨o, _, hB⟩ := hb
    obtain ⟨_, _, its, ru, o', h1, h2, n, h3⟩ := ok _ _ hB
    exact .tup h1 h2 h3 (by simpa using nks_are ok ks vs its rs ru)
theorem nks_are (ok : HOk P w H h) : ∀ (ks : List NestedKey) (vs : List V) (us : List Value), NKeys H ks vs → Vals vs us → NestedAll h ks us
  | [], vs, us, e, rv => by
    unfold NKeys at e
    subst e
    cases rv
    exact .nil
  | k :: ks, vs, us, e, rv => by
    unfold NKeys at e
    obtain ⟨v, r, rfl, q, t⟩ := e
    cases rv with
    | cons h1 h2 => exact .cons (nk_is ok k v _ q h1) (nks_are ok ks r _ t h2)
end
theorem key_nest (ok : HOk P w H h) {b : Addr} {k : NestedKey} (e : NKey H k (.ref b)) (dp : k.depth ≤ 8) : (nestedKind P w).is h k b := ⟨nk_is ok k _ (Value.ref b) e rfl, dp⟩
theorem KN.val {kvs : List (NestedKey × V)} {xs : List (NestedKey × Addr × Value)} (r : KN H kvs xs) (k : NestedKey) : RelO (valV kvs k) ((atKey xs k).map (·.2)) := by
  induction r with
  | nil => exact True.intro
  | @cons p q ps qs h t ih =>
    obtain ⟨h1, _, h2⟩ := h
    by_cases e : p.1 = k
    · have e' : q.1 = k := h1.symm.trans e
      have b : atKey (q :: qs) k = some q.2 := by simp [atKey, List.find?_cons, e']
      rw [valV_pos e, b]; exact h2
    · have e' : ¬ q.1 = k := fun z => e (h1.trans z)
      have b : atKey (q :: qs) k = atKey qs k := by simp [atKey, List.find?_cons, e']
      rw [valV_neg e, b]; exact ih
theorem KN.repl {kvs : List (NestedKey × V)} {xs : List (NestedKey × Addr × Value)} (r : KN H kvs xs) (k : NestedKey) {y : V} {u : Value} (ry : RelV y u) :
    KN H (kvs.map fun kv => if kv.1 = k then (kv.1, y) else kv) (xs.map (putAt k u)) := by
  induction r with
  | nil => exact .nil
  | @cons p q ps qs h t ih =>
    rw [List.map_cons, List.map_cons]
    refine .cons ?_ ih
    obtain ⟨h1, h2, h3⟩ := h
    unfold putAt
    by_cases e : p.1 = k
    · rw [if_pos e, if_pos (h1.symm.trans e)]; exact ⟨h1, h2, ry⟩
    · rw [if_neg e, if_neg (fun z => e (h1.trans z))]; exact ⟨h1, h2, h3⟩
theorem KN.put {kvs : List (NestedKey × V)} {xs : List (NestedKey × Addr × Value)} (r : KN H kvs xs) (k : NestedKey) {b : Addr} {y : V} {u : Value} (hb : NKey H k (.ref b)) (dp : k.depth ≤ 8) (ry : RelV y u) :
    KN H (putK kvs k y) (storedH xs k b u) := by
  have e : (kvs.any fun kv => decide (kv.1 = k)) = (atKey xs k).isSome := by
    rw [valV_any, (r.val k).isSome_eq, Option.isSome_map]
  unfold putK storedH
  rw [e]
  by_cases q : (atKey xs k).isSome = true
  · rw [if_pos q, if_pos q]; exact r.repl k ry
  · rw [if_neg q, if_neg q]; exact Paired.snoc r ⟨rfl, ⟨hb, dp⟩, ry⟩
end
end Dv
namespace Dv
open PySem PySem.Spec PyProof.Rows L2 RZ
end Dv
namespace Dv
open PySem PySem.Spec PyProof.Rows L2 RZ
end Dv
namespace Dv
open PySem PySem.Spec PyProof.Rows L2 RZ
end Dv
namespace Dv
open PySem PySem.Spec PyProof.Rows L2 RZ
end Dv
namespace PySem
open PyProof PyProof.Rows PySem.W
end PySem
namespace Dv
open PySem PySem.Spec PyProof.Rows L2
section
variable {P : Program} {w : World} {K : PySem.W.Frag} {d : Addr} {o : Obj} {es : Array DictEntry} {ep : Nat}
def ItSt (h : Heap) (it d : Addr) (i n ep : Nat) : Prop := (∃ ok ov, IsItemIter h it d i n ep ok ov) ∨ ∃ ok ov a f, PySem.W.KdxIt h it d i n ep ok ov a f
theorem ItSt.there {h : Heap} {it d : Addr} {i n ep : Nat} (x : ItSt h it d i n ep) : ∃ ob, h.get? it = some ob ∧ ob.cls = .type "dict_itemiterator" ∧ (∀ v, ob.data ≠ .cell v) := by
  rcases x with ⟨_, _, e⟩ | ⟨_, _, _, _, e⟩
  · exact ⟨_, e, rfl, fun v z => nomatch z⟩
  · exact ⟨_, e, rfl, fun v z => nomatch z⟩
end
end Dv
namespace Dv
open PySem PySem.Spec PyProof.Rows L2
end Dv
namespace Dv
open PySem PySem.Spec PyProof.Rows L2
/-- the key that a tuple is, at most eight deep -/
def nkT : D → Option NestedKey
  | .tup ds => (nkeysOf ds).bind fun ks => if (NestedKey.tup ks).depth ≤ 8 then some (.tup ks) else none
  | _ => none
theorem nkT_rep {K : PySem.W.Frag} {G : Gx K} {ua : Option Addr} {B : Hp} {d : D} {v : V} {k : NestedKey} (h : nkT d = some k) (r : Rep G ua d v B) : ∃ b, v = .ref b ∧ NKey B k (.ref b) ∧ k.depth ≤ 8 := by
  unfold nkT at h
  split at h
  · rename_i ds
    obtain ⟨ks, h1, h2⟩ := Option.bind_eq_some_iff.mp h
    split at h2
    · rename_i dp
      cases h2
      have e : nkeyOf (.tup ds) = some (.tup ks) := by unfold nkeyOf; rw [h1]; rfl
      obtain ⟨b, vs, rfl, _⟩ := r.tup
      exact ⟨b, rfl, nkey_rep _ _ _ e r, dp⟩
    · cases h2
  · cases h
def hasN (ks : List NestedKey) (j : NestedKey) : Bool := ks.any fun k => decide (k = j)
end Dv
namespace Dv
open PySem PySem.Spec PyProof.Rows L2
/-- the keys of the dict -/
def ItkR (P : Program) (w : World) (a : Addr × Obj) (xs : List (List Key × Addr × Value)) : It :=
  ⟨fun i H => H a.1 = some (DTo P w a xs) ∧ i < xs.length, fun i H x H' => H' = H ∧ ∃ k b v, xs[i]? = some (k, b, v) ∧ x = .ref b, fun i H => H a.1 = some (DTo P w a xs) ∧ xs.length ≤ i⟩
theorem dt_raw {P : Program} {w : World} {H : Hp} {h : Heap} {l : Addr} {a : Addr × Obj} {xs : List (List Key × Addr × Value)} (x : ObjOk P w H h l (DTo P w a xs)) : (a.1 == sysModules) = false ∧ h.get? a.1 = some a.2 ∧ a.2.ExactDict ∧ ∃ es ep, a.2.data = .dict es ep ∧ es.size = xs.length ∧ ∀ (i : Nat) k b v, xs[i]? = some (k, b, v) → ∃ en, es[i]? = some en ∧ en.key = .ref b := by
  obtain ⟨⟨z, hs, es, ep, h1, h2, h3, h4, h5⟩, _⟩ := x
  refine ⟨hs, h1, h2, es, ep, h3, size_of_entries h4, fun i k b v hi => ?_⟩
  have e := entry_at h4 i
  rw [hi] at e
  exact ⟨_, e, rfl⟩
section
variable {P : Program} {w : World} {K : PySem.W.Frag} {tg : Expr} {es : Array DictEntry} {ep : Nat}
theorem turn_keysR {a : Addr × Obj} {xs : List (List Key × Addr × Value)} (it : Addr) (hod : a.2.data = .dict es ep) : Turn P w K tg (ItkR P w a xs) [it] it (fun i h => h.IsKeyIter it a.1 i xs.length ep) where
  mem := by simp
  obj := fun i h st b hb => by
    have e : b = it := by simpa using hb
    subst e
    obtain ⟨oi, e, c, dd⟩ := st
    exact ⟨oi, e, fun v z => by rw [dd] at z; cases z⟩
  keep := fun i h h' st k => st.at fun oi e => k it (by simp) oi e
  item := by
    intro X hP hw hK hc i pins s σ H E I hf st hg
    subst hP hw hK
    obtain ⟨hd, hi⟩ := hg
    obtain ⟨f0, f1, f2, f3, f4, f5⟩ := hf it (by simp)
    obtain ⟨hs, hgd, hx, es', ep', hdt, hsz, ent⟩ := dt_raw (I.hok _ _ hd)
    obtain ⟨rfl, rfl⟩ := dict_ep hod hdt
    obtain ⟨⟨k, b, v⟩, hkv⟩ : ∃ p, xs[i]? = some p := ⟨xs[i], List.getElem?_eq_getElem hi⟩
    obtain ⟨en, hen, hkey⟩ := ent i k b v hkv
    refine next_key_item st hgd hdt hsz hen fun h' st' sb => ?_
    have I1 : Inv X pins σ H { s with heap := h' } := I.turned (t' := s.toks) (fun b ob hb e => (sb.2 b hb).trans e) f0 f1 f3 f4 f5
    obtain ⟨oi, e, c, dd⟩ := id st'
    exact ⟨en.key, rfl, go_of (s := { s with heap := h' }) e c dd (by decide) ⟨.ref b, H, I1, hkey, ⟨rfl, k, b, v, hkv, rfl⟩, st', fun b hb => (hf b hb).1⟩⟩
  done := by
    intro X hP hw hK hc i pins s σ H E I hf st hg
    subst hP hw hK
    obtain ⟨hd, hi⟩ := hg
    obtain ⟨f0, f1, f2, f3, f4, f5⟩ := hf it (by simp)
    obtain ⟨hs, hgd, hx, es', ep', hdt, hsz, ent⟩ := dt_raw (I.hok _ _ hd)
    obtain ⟨rfl, rfl⟩ := dict_ep hod hdt
    exact next_key_end (I.ok.hd hc) st hgd hdt hsz hi fun h' eb => ⟨rfl, I.turned (t' := s.toks) (fun b ob hb e => eb b ob hb e) f0 f1 f3 f4 f5⟩
  self := fun A i s Q E st h => by
    refine wpAny_pyIter_slot st.typeIs F.slot_dict_keyiterator_iter (wpAny_call_entry F.slot_dict_keyiterator_iter st.typeIs F.entry_dict_keyiterator_iter ?_ (F.args_dict_keyiterator_iter_1 _))
    show wpAny _ _ (ret (.ref it)) _ _ s
    exact wpAny_pure ⟨_, rfl, "dict_keyiterator", _, st.typeIs, F.slot_dict_keyiterator_next.lookup, h⟩
end
section
variable {X : Cx} {G : Gx X.K} {tg e : Expr} {td : TE} {m : M}
def iKeysR (X : Cx) (td : TE) : TI := fun σ H R => td σ H fun x H1 => ∃ (l : Addr) (a : Addr × Obj) (xs : List (List Key × Addr × Value)), x = .ref l ∧ H1 l = some (DTo X.prog X.w a xs) ∧ (a.1 = l → R (ItkR X.prog X.w a xs) H1)
theorem pi_keysR (he : PE X e td) : PI X tg e (iKeysR X td) := by
  refine ⟨fun pins s σ H R I h => ?_⟩
  refine thn (he.run pins s σ H _ I h) fun u s1 ⟨x, H1, I1, rx, l, a, xs, ex, hd, q⟩ => ?_
  subst ex
  have ea := dt_addr (I1.hok _ _ hd)
  subst ea
  have q := q rfl
  obtain rfl : u = Value.ref a.1 := rx
  obtain ⟨hs, hgd, hx, es, ep, hdt, hsz, ent⟩ := dt_raw (I1.hok _ _ hd)
  refine iter_keys hs hgd hx hdt (pi_one (tk := s1.toks) I1 _ (turn_keysR _ hdt) ⟨_, Heap.get?_push_size _ rfl, rfl, ?_⟩ q)
  rw [hsz] <;> rfl
/-- going through a shown dict with tuple keys -/
def mItemsT (m : M) : MI := fun env u => bnd (m env u) fun d u1 => match d with
  | .dtt ks _ => some (ks.map rowD, u1)
  | _ => none
theorem mItemsT_eq {env : List Sl} {u u1 : U} {ks : List (List Key)} {ds : List D} (h : m env u = some (.dtt ks ds, u1)) : mItemsT m env u = some (ks.map rowD, u1) := by
  unfold mItemsT; rw [h]; rfl
theorem wk_keysR {ua : Option Addr} {B : Hp} {a : Addr × Obj} {xs : List (List Key × Addr × Value)} {ks : List (List Key)} (h : B a.1 = some (DTo X.prog X.w a xs)) (r : Reps G ua (ks.map rowD) (xs.map fun x => V.ref x.2.1) B) : Wk G ua (ItkR X.prog X.w a xs) B (ks.map rowD) := fun i B' H' u s w => by
  have hq : H' a.1 = some (DTo X.prog X.w a xs) := w.sub _ _ (s _ _ h)
  have hlen : (ks.map rowD).length = xs.length := by rw [r.len, List.length_map]
  refine ⟨fun d hd => ?_, fun hn => ⟨hq, by rw [← hlen]; exact List.getElem?_eq_none_iff.mp hn⟩⟩
  obtain ⟨v, hv, rv⟩ := r.get hd
  rw [List.getElem?_map] at hv
  obtain ⟨x, hx, rfl⟩ := map_some hv
  refine ⟨⟨hq, (List.getElem?_eq_some_iff.mp hx).1⟩, fun y H2 z => ?_⟩
  obtain ⟨rfl, k, b, v, h1, rfl⟩ := z
  rw [hx] at h1
  cases h1
  exact .here w (rv.mono _ _ s)
theorem di_keysT (hG : G.pw = some (X.prog, X.w)) (he : PE X e (tEv G m)) : PI X tg e (tIt G (mItemsT m)) := (pi_keysR he).imp fun σ H R h => by
  obtain ⟨ua, u, B, env, ds, u', hE, hW, hm, q⟩ := h
  obtain ⟨d, u1, h1, h2⟩ := bnd_some hm
  split at h2
  · cases h2
    refine ⟨ua, u, B, env, _, u', hE, hW, h1, fun v H1 ⟨B1, g1, w1, r1⟩ => ?_⟩
    obtain ⟨l, vs, o, rfl, hl, hdt, rs⟩ := rep_dtt r1
    obtain ⟨a, xs, rfl, kt, hlen⟩ := dtb_x hG hdt
    exact ⟨l, a, xs, rfl, w1.sub _ _ hl, fun ea => by subst ea; exact q _ _ _ g1 w1 (wk_keysR hl (@reps_keysT X G ua B1 [] _ vs xs kt hlen))⟩
  · cases h2
end
end Dv
namespace Dv
open PySem PySem.Spec PyProof.Rows L2
end Dv
namespace Dv
open PySem PySem.Spec PyProof.Rows L2
end Dv
namespace Dv
open PySem PySem.Spec PyProof.Rows L2
section
variable {P : Program} {w : World}
theorem key_at {h h' : Heap} {b : Addr} {kk : List Key} (k : ∀ o, h.get? b = some o → h'.get? b = some o) (hk : (TKd P w).is h kk b) : (TKd P w).is h' kk b := by
  obtain ⟨o, its, n, ho, hc, hd, hi⟩ := hk
  exact ⟨o, its, n, k o ho, hc, hd, hi⟩
theorem TupSet.at {h h' : Heap} {a : Addr} {M : List (List Key × Addr)} {es : Array (Int × Value)} {ep : Nat} {t : SetTable} (R : TupSet P w h a M es ep t) (k : ∀ o, h.get? a = some o → h'.get? a = some o) (kb : ∀ m ∈ M, ∀ o, h.get? m.2 = some o → h'.get? m.2 = some o) : TupSet P w h' a M es ep t := by
  obtain ⟨⟨o, h1, h2⟩, h3, h4, h5, h6, h7, h8, h9⟩ := R
  exact ⟨⟨o, k o h1, h2⟩, h3, h4, h5, fun m hm => key_at (kb m hm) (h6 m hm), h7, h8, h9⟩
end
end Dv
namespace Dv
open PySem PySem.Spec PyProof.Rows L2
theorem has_mem {xs : Array Nat} {j : Nat} (h : SetTable.has xs j = true) : j ∈ xs.toList := by
  unfold SetTable.has at h
  exact List.mem_of_getElem? (by rw [Array.getElem?_toList]; exact beq_iff_eq.mp h)
theorem mem_has {xs : Array Nat} (r : Ris xs.toList) {j : Nat} (h : j ∈ xs.toList) : SetTable.has xs j = true := by
  obtain ⟨i, hi⟩ := List.mem_iff_getElem?.mp h
  obtain ⟨c1, c2, c3⟩ := below_cut r j
  have hb : SetTable.below xs j = i := by
    generalize SetTable.below xs j = p at c1 c2 c3 ⊢
    rcases Nat.lt_trichotomy i p with k | k | k
    · exact absurd (c2 i j hi k) (Nat.lt_irrefl _)
    · exact k.symm
    · have hl : i < xs.toList.length := (List.getElem?_eq_some_iff.mp hi).1
      have e := List.getElem?_eq_getElem (Nat.lt_trans k hl)
      exact absurd (Nat.lt_of_lt_of_le (ris_lt r e hi k) (c3 p _ e (Nat.le_refl _))) (Nat.lt_irrefl _)
  unfold SetTable.has
  rw [hb, ← Array.getElem?_toList, hi]
  exact beq_iff_eq.mpr rfl
def UsedS (t : SetTable) (j : Nat) : Prop := j ∈ t.place.toList ∨ SetTable.has t.dummies j = true
def core (p : SetTable.Probe) : SetTable.Probe := { p with dummy := none }
def MaskE (m : Nat) : Prop := MaskOk m ∨ m = 15 ∨ m = 63
theorem cyc_meets {m : Nat} (h0 : ∀ j, j ≤ m → ∃ b, b ≤ m ∧ lcgN m b = j) (r : lcgN m (m + 1) = 0) {i j : Nat} (hi : i ≤ m) (hj : j ≤ m) : ∃ k, k ≤ m ∧ lcgI m i k = j := by
  have md : ∀ k, lcgN m (m + 1 + k) = lcgN m k := fun k => by
    induction k with
    | zero => exact r
    | succ k ih => show (lcgN m (m + 1 + k) * 5 + 1) % (m + 1) = (lcgN m k * 5 + 1) % (m + 1); rw [ih]
  obtain ⟨a, ha, ea⟩ := h0 i hi
  obtain ⟨b, hb, eb⟩ := h0 j hj
  subst ea
  by_cases c : a ≤ b
  · exact ⟨b - a, by omega, by rw [lcgN_add, Nat.add_sub_cancel' c]; exact eb⟩
  · exact ⟨b + (m + 1) - a, by omega, by rw [lcgN_add, show a + (b + (m + 1) - a) = m + 1 + b by omega, md]; exact eb⟩
theorem all_of {m : Nat} (h : ((List.range (m + 1)).all fun j => (List.range (m + 1)).any fun b => lcgN m b == j) = true) : ∀ j, j ≤ m → ∃ b, b ≤ m ∧ lcgN m b = j := fun j hj => by
  obtain ⟨b, hb, e⟩ := List.any_eq_true.mp (List.all_eq_true.mp h j (List.mem_range.mpr (Nat.lt_succ_of_le hj)))
  exact ⟨b, Nat.le_of_lt_succ (List.mem_range.mp hb), beq_iff_eq.mp e⟩
theorem maskE_meets {m : Nat} (hm : MaskE m) {i j : Nat} (hi : i ≤ m) (hj : j ≤ m) : ∃ k, k ≤ m ∧ lcgI m i k = j := by
  rcases hm with h | h | h
  · exact lcgI_all h hi hj
  · subst h; exact cyc_meets (all_of (by decide +kernel)) (by decide +kernel) hi hj
  · subst h; exact cyc_meets (all_of (by decide +kernel)) (by decide +kernel) hi hj
theorem runE {m : Nat} (hm : MaskE m) (h : Int) {j : Nat} (hj : j ≤ m) : ∃ n, n ≤ m + 12 ∧ runI m (SetTable.bits h) n = j := by
  obtain ⟨k, hk, e⟩ := maskE_meets hm (runI_le m (SetTable.bits h) 12) hj
  exact ⟨12 + k, by omega, by rw [runI_tail (bits_lt h)]; exact e⟩
theorem nthE {m : Nat} (hm : MaskE m) (h : Int) {j : Nat} (hj : j ≤ m) : ∃ k, k < 10 * SetTable.turns m ∧ way m h k = j := by
  obtain ⟨n, hn, e⟩ := runE hm h hj
  obtain ⟨k, hk, e2⟩ := run_nth m (SetTable.bits h) n
  exact ⟨k, by unfold SetTable.turns; omega, by show (nth m _ k).j = j; rw [e2]; exact e⟩
structure TabD (t : SetTable) (hs : List Int) : Prop where
  ris : Ris t.place.toList
  rid : Ris t.dummies.toList
  sz : t.place.size = hs.length
  mok : MaskE t.mask
  room : t.place.size + t.dummies.size ≤ t.mask
  reach : ∀ (i : Nat) (h : Int) (j : Nat), hs[i]? = some h → t.place.toList[i]? = some j → ∃ k, way t.mask h k = j ∧ ∀ k', k' < k → UsedS t (way t.mask h k')
theorem TabD.first {t : SetTable} {hs : List Int} (T : TabD t hs) (h : Int) : ∃ K, K < 10 * SetTable.turns t.mask ∧ ¬ UsedS t (way t.mask h K) ∧ ∀ k, k < K → UsedS t (way t.mask h k) := by
  have hlen : (t.place.toList ++ t.dummies.toList).length < t.mask + 1 := by
    rw [List.length_append, Array.length_toList, Array.length_toList]
    have := T.room
    omega
  obtain ⟨j, hj, hn⟩ := st_missing _ (t.mask + 1) hlen
  obtain ⟨k, hk, e⟩ := nthE T.mok h (Nat.le_of_lt_succ hj)
  have nu : ¬ UsedS t (way t.mask h k) := by
    rw [show way t.mask h k = j from e]
    exact fun z => hn (List.mem_append.mpr (z.elim .inl fun z => .inr (has_mem z)))
  obtain ⟨K, h1, h2, h3⟩ := st_least (p := fun k => ¬ UsedS t (way t.mask h k)) k nu
  exact ⟨K, Nat.lt_of_le_of_lt h1 hk, h2, fun k' hk' => Classical.byContradiction fun z => h3 k' hk' z⟩
theorem TabD.before {t : SetTable} {hs : List Int} (T : TabD t hs) {h : Int} {K i j : Nat} (hK : ¬ UsedS t (way t.mask h K)) (hi : hs[i]? = some h) (hj : t.place.toList[i]? = some j) : ∃ k, k < K ∧ way t.mask h k = j := by
  obtain ⟨k, e, hb⟩ := T.reach i h j hi hj
  refine ⟨k, ?_, e⟩
  rcases Nat.lt_trichotomy k K with c | c | c
  · exact c
  · rw [← c, e] at hK
    exact absurd (.inl (List.mem_of_getElem? hj)) hK
  · exact absurd (hb K c) hK
end Dv
namespace Dv
open PySem PySem.Spec PyProof.Rows L2
structure TupD (P : Program) (w : World) (h : Heap) (a : Addr) (M : List (List Key × Addr)) (es : Array (Int × Value)) (ep : Nat) (t : SetTable) : Prop where
  here : ∃ o, h.get? a = some o ∧ o.ExactSet ∧ o.data = .set es ep t
  rows : es.toList = M.map fun m => (hsT P w m.1, Value.ref m.2)
  lay : TabD t (M.map fun m => hsT P w m.1)
  once : (M.map fun m => m.1).Nodup
  keyd : ∀ m ∈ M, (TKd P w).is h m.1 m.2
  ord : w.params.followText "set-order" = true ∨ t.led = true
  le63 : M.length ≤ 63
section
variable {P : Program} {w : World} {A : Around} {E : Value → Shared → Prop} {s : Shared} {a x : Addr} {M : List (List Key × Addr)} {es : Array (Int × Value)} {ep : Nat} {t : SetTable} {k : List Key} {K : Nat}
theorem TupD.cnt {h : Heap} (R : TupD P w h a M es ep t) : es.size = M.length := by
  rw [← Array.length_toList, R.rows, List.length_map]
theorem TupD.plc {h : Heap} (R : TupD P w h a M es ep t) : t.place.toList.length = M.length := by
  have := R.lay.sz
  rw [List.length_map] at this
  rw [Array.length_toList]; exact this
theorem TupD.fit {h : Heap} (R : TupD P w h a M es ep t) : t.fits es.size = true := by
  have h1 : t.place.size = M.length := by rw [← Array.length_toList]; exact R.plc
  have h2 := R.cnt
  have h3 := R.lay.room
  unfold SetTable.fits SetTable.fill
  rw [h1, h2]
  rw [h1] at h3
  simp
  omega
theorem TupD.get {h : Heap} (R : TupD P w h a M es ep t) {i : Nat} {m : List Key × Addr} (e : M[i]? = some m) : es[i]? = some (hsT P w m.1, Value.ref m.2) := by
  have := congrArg (fun l : List (Int × Value) => l[i]?) R.rows
  simp only [List.getElem?_map, e, Array.getElem?_toList] at this
  exact this
end
end Dv
namespace Dv
open PySem PySem.Spec PyProof.Rows L2
theorem toList_eraseAt {α : Type} (xs : Array α) (i : Nat) : (SetTable.eraseAt xs i).toList = xs.toList.eraseIdx i := by
  unfold SetTable.eraseAt
  rw [List.eraseIdx_eq_take_drop_succ]
  simp [List.take_of_length_le]
theorem erase_get {α : Type} (l : List α) (i i' : Nat) : (l.eraseIdx i)[i']? = if i' < i then l[i']? else l[i' + 1]? := by
  rw [List.getElem?_eraseIdx]
theorem ris_erase_mem {l : List Nat} (r : Ris l) {i j : Nat} (hi : l[i]? = some j) {y : Nat} : y ∈ l.eraseIdx i ↔ y ∈ l ∧ y ≠ j := by
  constructor
  · intro h
    refine ⟨List.mem_of_mem_eraseIdx h, fun z => ?_⟩
    obtain ⟨i', hi'⟩ := List.mem_iff_getElem?.mp h
    rw [erase_get] at hi'
    subst z
    split at hi'
    · exact absurd (ris_lt r hi' hi ‹_›) (Nat.lt_irrefl _)
    · exact absurd (ris_lt r hi hi' (by omega)) (Nat.lt_irrefl _)
  · rintro ⟨h, ne⟩
    obtain ⟨i', hi'⟩ := List.mem_iff_getElem?.mp h
    rcases Nat.lt_trichotomy i' i with z | z | z
    · exact List.mem_of_getElem? (i := i') (by rw [erase_get, if_pos z]; exact hi')
    · subst z; rw [hi] at hi'; exact absurd (Option.some.inj hi').symm ne
    · exact List.mem_of_getElem? (i := i' - 1) (by rw [erase_get, if_neg (by omega), show i' - 1 + 1 = i' by omega]; exact hi')
theorem TabD.drop {t : SetTable} {hs : List Int} (T : TabD t hs) (dis : ∀ y ∈ t.place.toList, y ∉ t.dummies.toList) {i j : Nat} (hj : t.place.toList[i]? = some j) :
    TabD (t.drop i) (hs.eraseIdx i) ∧ (∀ y ∈ (t.drop i).place.toList, y ∉ (t.drop i).dummies.toList) ∧ (t.drop i).led = t.led ∧ (t.drop i).mask = t.mask ∧ (t.drop i).dummies.size = t.dummies.size + 1 := by
  have hj' : t.place[i]? = some j := by rw [← Array.getElem?_toList]; exact hj
  have e : t.drop i = { t with place := SetTable.eraseAt t.place i, dummies := SetTable.insertAt t.dummies (SetTable.below t.dummies j) j } := by
    unfold SetTable.drop
    rw [hj']
  have jd : j ∉ t.dummies.toList := dis j (List.mem_of_getElem? hj)
  have jn : t.dummies[SetTable.below t.dummies j]? ≠ some j := fun z => jd (List.mem_of_getElem? (by rw [Array.getElem?_toList]; exact z))
  have rid := ris_insert T.rid jn
  have dmem : ∀ y, y ∈ (SetTable.insertAt t.dummies (SetTable.below t.dummies j) j).toList ↔ y ∈ t.dummies.toList ∨ y = j := fun y => by
    rw [SetTable.toList_insertAt, List.mem_append, List.mem_cons]
    have : y ∈ t.dummies.toList ↔ y ∈ t.dummies.toList.take (SetTable.below t.dummies j) ∨ y ∈ t.dummies.toList.drop (SetTable.below t.dummies j) := by
      rw [← List.mem_append, List.take_append_drop]
    rw [this]
    constructor
    · rintro (h | h | h)
      · exact .inl (.inl h)
      · exact .inr h
      · exact .inl (.inr h)
    · rintro ((h | h) | h)
      · exact .inl h
      · exact .inr (.inr h)
      · exact .inr (.inl h)
  have pl : (SetTable.eraseAt t.place i).toList = t.place.toList.eraseIdx i := toList_eraseAt _ _
  have il : i < t.place.toList.length := (List.getElem?_eq_some_iff.mp hj).1
  have psz : (SetTable.eraseAt t.place i).size + 1 = t.place.size := by
    rw [← Array.length_toList, pl, List.length_eraseIdx, if_pos il, ← Array.length_toList]
    omega
  have dsz : (SetTable.insertAt t.dummies (SetTable.below t.dummies j) j).size = t.dummies.size + 1 := by
    rw [← Array.length_toList, SetTable.toList_insertAt, List.length_append, List.length_cons, List.length_take, List.length_drop, Array.length_toList]
    have := (below_cut T.rid j).1
    omega
  have use : ∀ y, UsedS t y → UsedS (t.drop i) y := fun y h => by
    rw [e]
    rcases h with h | h
    · by_cases z : y = j
      · exact .inr (mem_has rid ((dmem y).mpr (.inr z)))
      · refine .inl ?_
        show y ∈ (SetTable.eraseAt t.place i).toList
        rw [pl]
        exact (ris_erase_mem T.ris hj).mpr ⟨h, z⟩
    · exact .inr (mem_has rid ((dmem y).mpr (.inl (has_mem h))))
  refine ⟨⟨?_, ?_, ?_, ?_, ?_, fun i' h' j' a b => ?_⟩, fun y hy z => ?_, by rw [e], by rw [e], by rw [e]; exact dsz⟩
  · rw [e]
    show Ris (SetTable.eraseAt t.place i).toList
    rw [pl]
    exact List.Pairwise.sublist (List.eraseIdx_sublist _ _) T.ris
  · rw [e]; exact rid
  · rw [e]
    show (SetTable.eraseAt t.place i).size = _
    rw [List.length_eraseIdx, if_pos (by rw [← T.sz, ← Array.length_toList]; exact il)]
    have := T.sz
    omega
  · rw [e]; exact T.mok
  · rw [e]
    show (SetTable.eraseAt t.place i).size + (SetTable.insertAt t.dummies (SetTable.below t.dummies j) j).size ≤ t.mask
    have := T.room
    omega
  · have b' : (t.place.toList.eraseIdx i)[i']? = some j' := by
      rw [e] at b
      rw [← pl]; exact b
    have mk : (t.drop i).mask = t.mask := by rw [e]
    rw [mk]
    have both : ∃ i0 : Nat, hs[i0]? = some h' ∧ t.place.toList[i0]? = some j' := by
      rw [erase_get] at a b'
      by_cases z : i' < i
      · rw [if_pos z] at a b'; exact ⟨_, a, b'⟩
      · rw [if_neg z] at a b'; exact ⟨_, a, b'⟩
    obtain ⟨i0, a0, b0⟩ := both
    obtain ⟨k, k1, k2⟩ := T.reach i0 h' j' a0 b0
    exact ⟨k, k1, fun k' hk' => use _ (k2 k' hk')⟩
  · have hy' : y ∈ t.place.toList.eraseIdx i := by
      rw [e] at hy
      rw [← pl]; exact hy
    have z' : y ∈ (SetTable.insertAt t.dummies (SetTable.below t.dummies j) j).toList := by rw [e] at z; exact z
    obtain ⟨h1, h2⟩ := (ris_erase_mem T.ris hj).mp hy'
    rcases (dmem y).mp z' with z | z
    · exact dis y h1 z
    · exact h2 z
end Dv
namespace Dv
open PySem PySem.Spec PyProof.Rows L2
end Dv
namespace Dv
open PySem PySem.Spec PyProof.Rows L2
theorem TupD.at {P : Program} {w : World} {h h' : Heap} {a : Addr} {M : List (List Key × Addr)} {es : Array (Int × Value)} {ep : Nat} {t : SetTable} (R : TupD P w h a M es ep t) (k : ∀ c o, (c = a ∨ ∃ m ∈ M, c = m.2) → h.get? c = some o → h'.get? c = some o) : TupD P w h' a M es ep t := by
  obtain ⟨⟨o, h1, h2⟩, h3, h4, h5, h6, h7, h8⟩ := R
  exact ⟨⟨o, k a o (.inl rfl) h1, h2⟩, h3, h4, h5, fun m hm => key_at (fun o e => k m.2 o (.inr ⟨m, hm, rfl⟩) e) (h6 m hm), h7, h8⟩
end Dv
namespace Dv
open PySem PySem.Spec PyProof.Rows L2
end Dv
namespace Dv
open PySem PySem.Spec PyProof.Rows L2
section
variable {P : Program} {w : World} {A : Around} {E : Value → Shared → Prop} {s : Shared} {a : Addr} {MA : List (List Key × Addr)} {esA : Array (Int × Value)} {epA : Nat} {tA : SetTable}
/-- an empty set, its table as it is -/
structure Emp (w : World) (h : Heap) (r : Addr) (ep : Nat) (t : SetTable) : Prop where
  here : ∃ o, h.get? r = some o ∧ o.ExactSet ∧ o.data = .set #[] ep t
  pl : t.place.size = 0
  dm : t.dummies = #[]
  mok : MaskE t.mask
  led : t.led = !w.params.followText "set-order"
theorem Emp.fit {h : Heap} {r : Addr} {ep : Nat} {t : SetTable} (R : Emp w h r ep t) : t.fits (#[] : Array (Int × Value)).size = true := by
  unfold SetTable.fits SetTable.fill
  rw [R.pl, R.dm]
  simp
end
end Dv
namespace Dv
open PySem PySem.Spec PyProof.Rows L2
end Dv
namespace Dv
open PySem PySem.Spec PyProof.Rows L2
theorem perm_lift {α β : Type} {f : β → α} : ∀ {vs : List α} {bs : List β}, vs.Perm (bs.map f) → ∃ bs2 : List β, bs2.Perm bs ∧ vs = bs2.map f
  | [], bs, h => ⟨[], by
      have : bs = [] := List.map_eq_nil_iff.mp h.symm.eq_nil
      rw [this], rfl⟩
  | v :: vs, bs, h => by
    obtain ⟨b, hb, e⟩ := List.mem_map.mp (h.mem_iff.mp List.mem_cons_self)
    obtain ⟨l1, l2, rfl⟩ := List.append_of_mem hb
    have p1 : (v :: vs).Perm (v :: (l1 ++ l2).map f) := by
      refine h.trans ?_
      rw [List.map_append, List.map_cons, List.map_append, e]
      exact List.perm_middle
    obtain ⟨bs2, h1, h2⟩ := perm_lift (vs := vs) (bs := l1 ++ l2) p1.cons_inv
    exact ⟨b :: bs2, (h1.cons b).trans List.perm_middle.symm, by rw [List.map_cons, e, h2]⟩
theorem each_map_of {β : Type} {R : Value → β → Prop} {f : β → Value} : ∀ (l : List β), (∀ z ∈ l, R (f z) z) → W.EachIs R (l.map f) l
  | [], _ => .nil
  | z :: l, h => .cons (h z List.mem_cons_self) (each_map_of l fun y hy => h y (List.mem_cons_of_mem _ hy))
theorem out_map {β : Type} {f : β → Value} : ∀ {out : List Value} {l : List β}, W.EachIs (fun v z => v = f z) out l → out = l.map f
  | _, _, .nil => rfl
  | _, _, .cons h t => by rw [List.map_cons, h, out_map t]
end Dv
namespace Dv
open PySem PySem.Spec PyProof.Rows L2
end Dv
namespace Dv
open PySem PySem.Spec PyProof.Rows L2
def TupD0 (P : Program) (w : World) (h : Heap) (a : Addr) (M : List (List Key × Addr)) : Prop := ∃ o es ep t, h.get? a = some o ∧ o.ExactSet ∧ o.data = .set es ep t ∧ es.toList = (M.map fun m => (hsT P w m.1, Value.ref m.2)) ∧ TabD t (M.map fun m => hsT P w m.1) ∧ (M.map fun m => m.1).Nodup ∧
  (w.params.followText "set-order" = true ∨ t.led = true) ∧ M.length ≤ 63
theorem TupD0.full {P : Program} {w : World} {h : Heap} {a : Addr} {M : List (List Key × Addr)} (R : TupD0 P w h a M) (kd : ∀ m ∈ M, (TKd P w).is h m.1 m.2) : ∃ es ep t, TupD P w h a M es ep t := by
  obtain ⟨o, es, ep, t, h1, h2, h3, h4, h5, h6, h7, h8⟩ := R
  exact ⟨es, ep, t, ⟨o, h1, h2, h3⟩, h4, h5, h6, kd, h7, h8⟩
end Dv
namespace Dv
open PySem PySem.Spec PyProof.Rows L2
end Dv
namespace Dv
open PySem PySem.Spec PyProof.Rows L2
section
variable {X : Cx} {G : Gx X.K} {ua : Option Addr} {B : Hp}
theorem okG_sub {ps qs : List PyData} (h : okG ps = true) (sub : ∀ p ∈ qs, p ∈ ps) : okG qs = true := by
  unfold okG alikeB sortableB at h ⊢
  rw [Bool.and_eq_true, Bool.and_eq_true, Bool.or_eq_true] at h ⊢
  obtain ⟨⟨h1, h2⟩, h3⟩ := h
  have al : ∀ {f : PyData → Bool}, ps.all f = true → qs.all f = true := fun hf => List.all_eq_true.mpr fun p hp => List.all_eq_true.mp hf p (sub p hp)
  refine ⟨⟨List.all_eq_true.mpr fun p hp => List.all_eq_true.mpr fun q hq => List.all_eq_true.mp (List.all_eq_true.mp h1 p (sub p hp)) q (sub q hq), h2.imp (fun z => al z) fun z => al z⟩, al h3⟩
end
end Dv
namespace Dv
open PySem PySem.Spec PyProof.Rows L2
/-- the members of a set that holds the keys of done, once each -/
structure SetI (B : Hp) (Mm : List (List Key × Addr)) (done : List (List Key)) : Prop where
  keys : ∀ m ∈ Mm, TupB B m.2 (m.1.map kV)
  nd : (Mm.map fun m => m.1).Nodup
  mem : ∀ k, k ∈ Mm.map (fun m => m.1) ↔ k ∈ done
  le : Mm.length ≤ done.length
theorem SetI.mono {B B' : Hp} {Mm : List (List Key × Addr)} {done : List (List Key)} (h : SetI B Mm done) (s : Same B B') : SetI B' Mm done := ⟨fun m hm => (h.keys m hm).mono s, h.nd, h.mem, h.le⟩
theorem SetI.put {B : Hp} {Mm M2 : List (List Key × Addr)} {done : List (List Key)} {key : List Key} {c : Addr} (h : SetI B Mm done) (hc : TupB B c (key.map kV)) (pm : M2.Perm (putM Mm key c)) : SetI B M2 (done ++ [key]) := by
  have pm1 : (M2.map fun m => m.1).Perm ((putM Mm key c).map fun m => m.1) := pm.map _
  refine ⟨fun m hm => ?_, pm1.nodup_iff.mpr ?_, fun k => (pm1.mem_iff).trans ?_, ?_⟩
  · have hm := pm.mem_iff.mp hm
    unfold putM at hm
    split at hm
    · exact h.keys m hm
    · rcases List.mem_cons.mp hm with e | hm
      · rw [e]; exact hc
      · exact h.keys m hm
  · unfold putM
    split
    · exact h.nd
    · rename_i z
      exact List.nodup_cons.mpr ⟨z, h.nd⟩
  · unfold putM
    split
    · rename_i z
      rw [h.mem k, List.mem_append, List.mem_singleton]
      exact ⟨.inl, fun e => e.elim id fun e => by rw [e]; exact (h.mem key).mp z⟩
    · rw [List.map_cons, List.mem_cons, h.mem k, List.mem_append, List.mem_singleton]
      exact Or.comm
  · rw [pm.length_eq, List.length_append, List.length_singleton]
    have := h.le
    unfold putM
    split
    · omega
    · rw [List.length_cons]; omega
end Dv
namespace Dv
open PySem PySem.Spec PyProof.Rows L2
end Dv
namespace Dv
open PySem PySem.Spec PyProof.Rows L2
end Dv
namespace Dv
open PySem PySem.Spec PyProof.Rows L2
end Dv
namespace Dv
open PySem PySem.Spec PyProof.Rows L2
end Dv
namespace Dv
open PySem PySem.Spec PyProof.Rows L2
end Dv
namespace Dv
open PySem PySem.Spec PyProof.Rows L2
end Dv
namespace Dv
open PySem PySem.Spec PyProof.Rows L2
end Dv
namespace Dv
open PySem PySem.Spec PyProof.Rows L2
end Dv
namespace Dv
open PySem PySem.Spec PyProof.Rows L2
end Dv
namespace Dv
open PySem PySem.Spec PyProof.Rows L2
end Dv
namespace Dv
open PySem PySem.Spec PyProof.Rows L2
end Dv
namespace Dv
open PySem PySem.Spec PyProof.Rows L2
/-- called by place, n and more things: what is left over as a tuple behind the n -/
def spXV {K : PySem.W.Frag} (G : Gx K) (F : List D → U → Option (R × U)) (n : Nat) : Sp := fun vs H Q E => ∃ ua u B ds r u', Reps G ua ds vs B ∧ n ≤ ds.length ∧ ds.length ≤ 1000 ∧ Wd ua u B H ∧ F (ds.take n ++ [.tup (ds.drop n)]) u = some (r, u') ∧ OutR G ua B H u' Q E r
def DefOkXV (P : Program) (w : World) {K : PySem.W.Frag} (mg : Str → Option Value) (base : Heap) (G : Gx K) (x : Str) (k n : Nat) (F : List D → U → Option (R × U)) : Prop :=
  ∃ f, FnR P w K mg base (L2.CX P w) k f (spXV G F n) ∧ mg x = some (.ref f) ∧ PySem.W.keepIn K (.ref f) = true
theorem DefOkXV.mono {P : Program} {w : World} {K : PySem.W.Frag} {mg : Str → Option Value} {base : Heap} {G : Gx K} {x : Str} {j k n : Nat} {F : List D → U → Option (R × U)} (h : DefOkXV P w mg base G x j n F) (l : j ≤ k) : DefOkXV P w mg base G x k n F := by
  obtain ⟨f, h1, h2⟩ := h
  exact ⟨f, h1.mono l, h2⟩
end Dv
namespace Dv
open PySem PySem.Spec PyProof.Rows L2
end Dv
namespace Dv
open PySem PySem.Spec PyProof.Rows L2
abbrev NKd (P : Program) (w : World) : HeapKind P w NestedKey := nestedKind P w
abbrev hsN (P : Program) (w : World) (k : NestedKey) : Int := (NKd P w).hash k
structure NesSet (P : Program) (w : World) (h : Heap) (a : Addr) (M : List (NestedKey × Addr)) (es : Array (Int × Value)) (ep : Nat) (t : SetTable) : Prop where
  here : ∃ o, h.get? a = some o ∧ o.ExactSet ∧ o.data = .set es ep t
  rows : es.toList = M.map fun m => (hsN P w m.1, Value.ref m.2)
  lay : TabOk t (M.map fun m => hsN P w m.1)
  once : (M.map fun m => m.1).Nodup
  keyd : ∀ m ∈ M, (NKd P w).is h m.1 m.2
  ord : w.params.followText "set-order" = true ∨ t.led = true
  space : M.length * 5 < t.mask * 3
  le63 : M.length ≤ 63
section
variable {P : Program} {w : World} {A : Around} {E : Value → Shared → Prop} {s : Shared} {a x : Addr} {M : List (NestedKey × Addr)} {es : Array (Int × Value)} {ep : Nat} {t : SetTable} {k : NestedKey} {K : Nat}
theorem NesSet.cnt {h : Heap} (R : NesSet P w h a M es ep t) : es.size = M.length := by
  rw [← Array.length_toList, R.rows, List.length_map]
theorem NesSet.plc {h : Heap} (R : NesSet P w h a M es ep t) : t.place.toList.length = M.length := by
  have := R.lay.sz
  rw [List.length_map] at this
  rw [Array.length_toList]; exact this
theorem NesSet.fit {h : Heap} (R : NesSet P w h a M es ep t) : t.fits es.size = true := by
  have h1 : t.place.size = M.length := by rw [← Array.length_toList]; exact R.plc
  have h2 := R.cnt
  have h3 := R.space
  unfold SetTable.fits SetTable.fill
  rw [R.lay.dm, h1, h2]
  simp
  omega
theorem NesSet.get {h : Heap} (R : NesSet P w h a M es ep t) {i : Nat} {m : NestedKey × Addr} (e : M[i]? = some m) : es[i]? = some (hsN P w m.1, Value.ref m.2) := by
  have := congrArg (fun l : List (Int × Value) => l[i]?) R.rows
  simp only [List.getElem?_map, e] at this
  rw [← Array.getElem?_toList]; exact this
theorem nest_mem {h : Heap} : ∀ (ks : List NestedKey) (vs : List Value), NestedAll h ks vs → ∀ v ∈ vs, ∃ k, NestedIs h k v ∧ k.depth ≤ NestedKey.depthAll ks
  | _, _, .nil => fun v hv => nomatch hv
  | _, _, .cons (k := k) (ks := ks) h t => fun v hv => by
    unfold NestedKey.depthAll
    rcases List.mem_cons.mp hv with rfl | hv
    · exact ⟨k, h, Nat.le_max_left ..⟩
    · obtain ⟨k', h1, h2⟩ := nest_mem _ _ t v hv
      exact ⟨k', h1, Nat.le_trans h2 (Nat.le_max_right ..)⟩
theorem nes_classT {n : Nat} (ih : ∀ (k : NestedKey) (v : Value) (A : Around) {Q : Bool → Shared → Prop}, NestedIs s.heap k v → k.depth ≤ n → Q false s → wpAny (model P w) A (ofAClassStatement n v) Q E s) {ks : List NestedKey} {x : Addr} {o : Obj} {vs : Array Value} {m : Nat} {Q : Bool → Shared → Prop} (ho : s.heap.get? x = some o) (hc : o.cls = .type "tuple") (hd : o.data = .seq vs m) (hi : NestedAll s.heap ks vs.toList) (dp : NestedKey.depthAll ks ≤ n) (q : Q false s) : wpAny (model P w) A (ofAClassStatement (n + 1) (.ref x)) Q E s := by
    have all := nest_mem _ _ hi
    unfold ofAClassStatement
    refine wpAny_bind (wpAny_typeOf ⟨_, ho, hc⟩ ?_)
    dsimp only
    rw [if_pos (show (("tuple" : String) == "tuple") = true by decide)]
    refine wpAny_bind (wpAny_pure ?_)
    rw [if_neg (by decide)]
    refine wpAny_bind (wpAny_seqItems ho hd ?_)
    dsimp only
    refine wpAny_bind ?_
    rw [← Array.forIn_toList]
    refine wpAny_forIn_list (E := E) _ (fun left r s1 => r.1 = none ∧ s1 = s ∧ ∀ v ∈ left, ∃ k, NestedIs s.heap k v ∧ k.depth ≤ NestedKey.depthAll ks) _ (fun v left r s1 h => ?_) (fun r s1 h => ?_) _ _ ⟨rfl, rfl, all⟩
    · obtain ⟨h1, h2, h3⟩ := h
      obtain ⟨kv, hv, dv⟩ := h3 v (.head _)
      subst h2
      refine wpAny_bind (ih kv v _ hv (by omega) ?_)
      rw [if_neg Bool.false_ne_true]
      exact wpAny_pure ⟨rfl, rfl, fun u hu => h3 u (.tail _ hu)⟩
    · obtain ⟨h1, h2, _⟩ := h
      obtain ⟨r1, r2⟩ := r
      cases h1
      subst h2
      exact wpAny_pure q
theorem nes_classV : ∀ (n : Nat) (k : NestedKey) (v : Value) (A : Around) {Q : Bool → Shared → Prop}, NestedIs s.heap k v → k.depth ≤ n → Q false s → wpAny (model P w) A (ofAClassStatement n v) Q E s := by
  intro n
  induction n with
  | zero =>
    intro k v A Q h dp q
    cases h with
    | tup ho hc hd hi => unfold NestedKey.depth at dp; omega
    | none => exact wpAny_pure q
    | _ => exact wpAny_pure q
  | succ n ih =>
    intro k v A Q h dp q
    cases h with
    | tup ho hc hd hi =>
      rename_i ks _ _ _ _
      exact nes_classT ih ho hc hd hi (by unfold NestedKey.depth at dp; omega) q
    | none => exact wpAny_pure q
    | _ => exact wpAny_pure q
theorem nes_byT {n : Nat} (ih : ∀ (k : NestedKey) (v : Value) (A : Around) {Q : Bool → Shared → Prop}, NestedIs s.heap k v → k.depth ≤ n → (∀ b, Q b s) → wpAny (model P w) A (hashByValue n v) Q E s) {ks : List NestedKey} {x : Addr} {o : Obj} {vs : Array Value} {m : Nat} {Q : Bool → Shared → Prop} (ho : s.heap.get? x = some o) (hc : o.cls = .type "tuple") (hd : o.data = .seq vs m) (hi : NestedAll s.heap ks vs.toList) (dp : NestedKey.depthAll ks ≤ n) (q : ∀ b, Q b s) : wpAny (model P w) A (hashByValue (n + 1) (.ref x)) Q E s := by
    have ty : s.TypeIs (.ref x) "tuple" := ⟨_, ho, hc⟩
    have all := nest_mem _ _ hi
    unfold hashByValue
    refine wpAny_bind (wpAny_specialOf ty F.slot_tuple_hash.lookup ?_)
    show wpAny _ _ (seqItems? (.ref x) >>= _) _ _ s
    refine wpAny_bind (wpAny_seqItems ho hd (wpAny_bind ?_))
    show wpAny _ _ (forIn _ _ _) _ _ s
    rw [← Array.forIn_toList]
    refine wpAny_forIn_list (E := E) _ (fun left r s1 => r.1 = none ∧ s1 = s ∧ ∀ v ∈ left, ∃ k, NestedIs s.heap k v ∧ k.depth ≤ NestedKey.depthAll ks) _ (fun v left r s1 h => ?_) (fun r s1 h => ?_) _ _ ⟨rfl, rfl, all⟩
    · obtain ⟨h1, h2, h3⟩ := h
      obtain ⟨kv, hv, dv⟩ := h3 v (.head _)
      subst h2
      refine wpAny_bind (ih kv v _ hv (by omega) fun b => ?_)
      cases b with
      | true =>
        rw [if_neg (by decide)]
        exact wpAny_pure ⟨rfl, rfl, fun u hu => h3 u (.tail _ hu)⟩
      | false =>
        rw [if_pos (by decide)]
        exact wpAny_pure (wpAny_pure (q false))
    · obtain ⟨h1, h2, _⟩ := h
      obtain ⟨r1, r2⟩ := r
      cases h1
      subst h2
      exact wpAny_pure (q true)
theorem nes_byV : ∀ (n : Nat) (k : NestedKey) (v : Value) (A : Around) {Q : Bool → Shared → Prop}, NestedIs s.heap k v → k.depth ≤ n → (∀ b, Q b s) → wpAny (model P w) A (hashByValue n v) Q E s := by
  have sc : ∀ {n : Nat} {v : Value} {A : Around} {Q : Bool → Shared → Prop}, (∃ b, hashByValue n v = pure b) → (∀ b, Q b s) → wpAny (model P w) A (hashByValue n v) Q E s := fun ⟨b, hb⟩ q => by rw [hb]; exact wpAny_pure (q b)
  intro n
  induction n with
  | zero =>
    intro k v A Q h dp q
    cases h with
    | tup ho hc hd hi => unfold NestedKey.depth at dp; omega
    | none => exact sc ⟨_, rfl⟩ q
    | _ => exact sc ⟨_, rfl⟩ q
  | succ n ih =>
    intro k v A Q h dp q
    cases h with
    | tup ho hc hd hi =>
      rename_i ks _ _ _ _
      exact nes_byT ih ho hc hd hi (by unfold NestedKey.depth at dp; omega) q
    | none => exact sc ⟨_, rfl⟩ q
    | _ => exact sc ⟨_, rfl⟩ q
theorem nes_class {Q : Bool → Shared → Prop} (hk : (NKd P w).is s.heap k x) (q : Q false s) : wpAny (model P w) A (ofAClassStatement 8 (.ref x)) Q E s := nes_classV 8 k _ A hk.1 hk.2 q
theorem nes_by {Q : Bool → Shared → Prop} (hk : (NKd P w).is s.heap k x) (q : ∀ b, Q b s) : wpAny (model P w) A (hashByValue 8 (.ref x)) Q E s := nes_byV 8 k _ A hk.1 hk.2 q
/-- what a look from the c-th place on finds -/
theorem nes_probe (R : NesSet P w s.heap a M es ep t) (h : Int) {c : Nat} (le : c ≤ K) (far : K < 10 * SetTable.turns t.mask) (out : way t.mask h K ∉ t.place.toList) (inn : ∀ d, d < K → way t.mask h d ∈ t.place.toList) :
    (∃ (d i : Nat) (m : NestedKey × Addr), c ≤ d ∧ d < K ∧ t.place.toList[i]? = some (way t.mask h d) ∧ M[i]? = some m ∧ (∀ (d' i' : Nat) (m' : NestedKey × Addr), c ≤ d' → d' < d → t.place.toList[i']? = some (way t.mask h d') → M[i']? = some m' → hsN P w m'.1 ≠ h) ∧
      t.probe (fun i => (es[i]?.map (·.1)).getD 0) h (stpT t.mask h c) = some (.candidate (way t.mask h d) i (stpT t.mask h (d + 1)))) ∨
    ((∀ (d' i' : Nat) (m' : NestedKey × Addr), c ≤ d' → d' < K → t.place.toList[i']? = some (way t.mask h d') → M[i']? = some m' → hsN P w m'.1 ≠ h) ∧
      t.probe (fun i => (es[i]?.map (·.1)).getD 0) h (stpT t.mask h c) = some (.empty (way t.mask h K) none)) := by
  have js : ∀ d, (nth t.mask (stpT t.mask h c) d).j = way t.mask h (c + d) := fun d => by rw [stp_add]
  have ofM : ∀ (i : Nat) (m : NestedKey × Addr), M[i]? = some m → (fun i => (es[i]?.map (·.1)).getD 0) i = hsN P w m.1 := fun i m e => by
    show (es[i]?.map (·.1)).getD 0 = _
    rw [R.get e]; rfl
  have low : ∀ {d' : Nat}, c ≤ d' → c + (d' - c) = d' := fun z => by omega
  rcases go_spec t R.lay.ris R.lay.dm (fun i => (es[i]?.map (·.1)).getD 0) h (10 * SetTable.turns t.mask) (K - c) (stpT t.mask h c) (stp_calm _ _ c) (by omega) (fun d hd => by rw [js]; exact inn _ (by omega)) (by rw [js, low le]; exact out) with ⟨d, i, b1, b2, _, b4, b5⟩ | ⟨b1, b2⟩
  · rw [js] at b2
    have il : i < M.length := by rw [← R.plc]; exact (List.getElem?_eq_some_iff.mp b2).1
    refine .inl ⟨c + d, i, M[i], by omega, by omega, b2, List.getElem?_eq_getElem il, fun d' i' m' g1 g2 g3 g4 => ?_, ?_⟩
    · rw [← ofM i' m' g4]
      exact b4 (d' - c) i' (by omega) (by rw [js, low g1]; exact g3)
    · have e1 : nth t.mask (stpT t.mask h c) (d + 1) = stpT t.mask h (c + d + 1) := stp_add _ _ _ _
      rw [js, e1] at b5
      exact b5
  · refine .inr ⟨fun d' i' m' g1 g2 g3 g4 => ?_, ?_⟩
    · rw [← ofM i' m' g4]
      exact b1 (d' - c) i' (by omega) (by rw [js, low g1]; exact g3)
    · rw [js, low le] at b2
      exact b2
theorem nes_unseen {ys : List Value} {Q : Bool → Shared → Prop} (hk : (NKd P w).is s.heap k x) (all : ∀ y ∈ ys, ∃ k' b, y = Value.ref b ∧ (NKd P w).is s.heap k' b) (q : Q false s) : wpAny (model P w) A (searchCouldBeSeen (.ref x) ys) Q E s := by
  unfold searchCouldBeSeen
  refine wpAny_bind (wpAny_forIn_list (E := E) _ (fun left r s1 => r.1 = none ∧ s1 = s ∧ ∀ y ∈ left, ∃ k' b, y = Value.ref b ∧ (NKd P w).is s.heap k' b) _ (fun y left r s1 h => ?_) (fun r s1 h => ?_) _ _ ⟨rfl, rfl, all⟩)
  · obtain ⟨_, h2, h3⟩ := h
    subst h2
    obtain ⟨k', b, rfl, hb⟩ := h3 y (.head _)
    have more : ∀ z ∈ left, ∃ k' b, z = Value.ref b ∧ (NKd P w).is s1.heap k' b := fun z hz => h3 z (.tail _ hz)
    dsimp only
    by_cases same : (x == b || (carriedByValue (.ref x) && carriedByValue (.ref b))) = true
    · exact wp_if_pos same (wpAny_pure ⟨rfl, rfl, more⟩)
    · refine wp_if_neg same (wpAny_bind ((NKd P w).quiet hk ?_))
      rw [if_neg (by decide)]
      refine wpAny_bind ((NKd P w).quiet hb ?_)
      rw [if_neg (by decide)]
      refine wpAny_bind (nes_class hk ?_)
      rw [if_neg (by decide)]
      refine wpAny_bind (nes_class hb ?_)
      rw [if_neg (by decide)]
      exact wpAny_pure ⟨rfl, rfl, more⟩
  · obtain ⟨h1, h2, _⟩ := h
    obtain ⟨r1, r2⟩ := r
    cases h1
    subst h2
    exact wpAny_pure q
theorem nes_seek (R : NesSet P w s.heap a M es ep t) (hx : (NKd P w).is s.heap k x) (hu : A.units + 8 < cLine) (far : K < 10 * SetTable.turns t.mask) (out : way t.mask (hsN P w k) K ∉ t.place.toList) (inn : ∀ d, d < K → way t.mask (hsN P w k) d ∈ t.place.toList) {Q : SetFound → Shared → Prop}
    (yes : k ∈ M.map (fun m => m.1) → Q (.there none) s) (no : k ∉ M.map (fun m => m.1) → Q (.free (way t.mask (hsN P w k) K) false) s) : ∀ (left c : Nat) (stand : Option SetTable.Probe), K - c < left → c ≤ K → stand.getD (t.probeStart (hsN P w k)) = stpT t.mask (hsN P w k) c →
      (∀ (i : Nat) (m : NestedKey × Addr), M[i]? = some m → m.1 = k → ∃ d, c ≤ d ∧ d < K ∧ t.place.toList[i]? = some (way t.mask (hsN P w k) d)) → wpAny (model P w) A (setSearchFrom a (.ref x) (hsN P w k) true left stand) Q E s := by
  intro left
  induction left with
  | zero => intro c stand lt; exact (Nat.not_lt_zero _ lt).elim
  | succ left ih =>
    intro c stand lt le st own
    obtain ⟨o, ho, _, hd⟩ := R.here
    have calm : ¬ t.gaveWay = true := by
      unfold SetTable.gaveWay
      rw [mask_odd R.lay.mok]
      decide
    rw [setSearchFrom_succ]
    refine wpAny_bind (wpAny_setState_of ho hd R.fit (wp_if_neg calm ?_))
    rw [st]
    rcases nes_probe R (hsN P w k) le far out inn with ⟨d, i, m, d1, d2, pl, hm, before, pr⟩ | ⟨before, pr⟩
    · rw [pr]
      dsimp only
      have mM : m ∈ M := List.mem_of_getElem? hm
      have live : t.slot (way t.mask (hsN P w k) d) = .live i := slot_live R.lay.ris pl
      have go : wpAny (model P w) A (searchRest a (.ref x) (hsN P w k) true left es t (way t.mask (hsN P w k) d) i (stpT t.mask (hsN P w k) (d + 1))) Q E s := by
        unfold searchRest
        rw [R.get hm]
        refine wpAny_bind (wpAny_holding ((NKd P w).eqBool (x := m.1) (y := k) hu (R.keyd m mM) hx (wpAny_bind (wpAny_setState_of ho hd R.fit ?_))))
        dsimp only
        by_cases q : m.1 = k
        · refine wp_if_pos (by rw [decide_eq_true q]; rfl) (wpAny_pure (yes (List.mem_map.mpr ⟨m, mM, q⟩)))
        · rw [decide_eq_false q]
          refine wp_if_neg (by decide) ?_
          rw [sameMem]
          simp only [if_true, live, R.get hm]
          refine wpAny_bind (wpAny_isSame_ref_self (wpAny_bind (wpAny_pure ?_)))
          simp only [if_true]
          refine wp_if_neg (by decide) (ih (d + 1) _ (by omega) (by omega) rfl fun i' m' g1 g2 => ?_)
          obtain ⟨d', e1, e2, e3⟩ := own i' m' g1 g2
          refine ⟨d', ?_, e2, e3⟩
          rcases Nat.lt_trichotomy d' d with z | z | z
          · exact absurd (by rw [g2]) (before d' i' m' e1 z e3 g1)
          · subst z
            have : t.slot (way t.mask (hsN P w k) d') = .live i' := slot_live R.lay.ris e3
            rw [live] at this
            injection this with this
            subst this
            rw [hm] at g1
            exact absurd ((congrArg (fun m => m.1) (Option.some.inj g1)).trans g2) q
          · exact z
      by_cases ld : t.led = true
      · exact wp_if_neg (by rw [ld]; decide) go
      · refine wp_if_pos (by simp [ld]) (wpAny_bind (nes_unseen hx (fun y hy => ?_) (wp_if_neg Bool.false_ne_true go)))
        obtain ⟨e, he, rfl⟩ := List.mem_map.mp hy
        have he : e ∈ es.toList := by
          rw [Array.toList_filter] at he
          exact (List.mem_filter.mp he).1
        rw [R.rows] at he
        obtain ⟨m', hm', rfl⟩ := List.mem_map.mp he
        exact ⟨m'.1, m'.2, rfl, R.keyd m' hm'⟩
    · rw [pr]
      refine wpAny_pure (no fun z => ?_)
      obtain ⟨m', hm', rfl⟩ := List.mem_map.mp z
      obtain ⟨i', hi'⟩ := List.mem_iff_getElem?.mp hm'
      obtain ⟨d', e1, e2, e3⟩ := own i' m' hi' rfl
      exact before d' i' m' e1 e2 e3 hi' rfl
end
section
variable {P : Program} {w : World} {A : Around} {E : Value → Shared → Prop} {s : Shared} {a x : Addr} {M : List (NestedKey × Addr)} {es : Array (Int × Value)} {ep : Nat} {t : SetTable} {k : NestedKey}
theorem nes_stay {h h2 : Heap} {b : Addr} {o : Obj} (hb : (NKd P w).is h k b) (ho : h.get? a = some o) (hd : o.data = .set es ep t) (sb : Heap.SameBut a h h2) : (NKd P w).is h2 k b := ⟨NestedIs.at (fun b' ob vs n e c => by
  have ne : b' ≠ a := fun z => by
    subst z
    rw [e] at ho
    cases ho
    rw [c] at hd
    cases hd
  rw [sb.2 b' ne]; exact e) k _ hb.1, hb.2⟩
/-- the entries in another order -/
theorem nes_pick (f : NestedKey × Addr → Int × Value) (g : Int × Value → Int) (ho : ∀ m, g (f m) = hsN P w m.1) (es1 : Array (Int × Value)) (rows1 : es1.toList = M.map f) : ∀ l : List Nat, (∀ i ∈ l, i < M.length) →
    l.filterMap (fun i => es1[i]?) = (l.filterMap fun i => M[i]?).map f ∧ ((l.filterMap fun i => M[i]?).map fun m => hsN P w m.1) = l.map fun i => (es1.map g).getD i 0
  | [], _ => ⟨rfl, rfl⟩
  | i :: l, h => by
    obtain ⟨h1, h2⟩ := nes_pick f g ho es1 rows1 l fun j hj => h j (.tail _ hj)
    have lt := h i (.head _)
    have e1 : M[i]? = some M[i] := List.getElem?_eq_getElem lt
    have e2 : es1[i]? = some (f M[i]) := by rw [← Array.getElem?_toList, rows1, List.getElem?_map, e1]; rfl
    have e3 : (es1.map g).getD i 0 = hsN P w M[i].1 := by
      rw [Array.getD_eq_getD_getElem?, Array.getElem?_map, e2]
      exact ho _
    rw [List.filterMap_cons_some e2, List.filterMap_cons_some e1, h1, List.map_cons, List.map_cons, List.map_cons, h2, e3]
    exact ⟨rfl, rfl⟩
theorem pick_allN : ∀ (l : List (NestedKey × Addr)), (List.range l.length).filterMap (fun i => l[i]?) = l := fun l => by
  have := List.filterMap_getElem?_range_length l
  exact this
theorem nes_relay {o : Obj} {es1 : Array (Int × Value)} {t1 : SetTable} {M1 : List (NestedKey × Addr)} {ep1 : Nat} (ho : s.heap.get? a = some o) (hex : o.ExactSet) (hd : o.data = .set es1 ep1 t1) (rows1 : es1.toList = M1.map fun m => (hsN P w m.1, Value.ref m.2)) (dm : t1.dummies = #[]) (sz : t1.place.size = M1.length) (fl : M1.length ≤ t1.mask)
    (nd : (M1.map fun m => m.1).Nodup) (kd : ∀ m ∈ M1, (NKd P w).is s.heap m.1 m.2) (ld : w.params.followText "set-order" = true ∨ t1.led = true) (lt : M1.length ≤ 63) {wanted N : Nat} (hN : SetTable.sizeAbove wanted - 1 = N) (mN : MaskOk N) (room : SetTable.sizeAbove wanted ≤ 128) (sp : M1.length * 5 < N * 3) {Q : Unit → Shared → Prop}
    (fin : ∀ h2 M2 es2 ep2 t2, Heap.SameBut a s.heap h2 → NesSet P w h2 a M2 es2 ep2 t2 → M2.Perm M1 → Q () { s with heap := h2 }) : wpAny (model P w) A (setRelay a wanted) Q E s := by
  have n1 : es1.size = M1.length := by rw [← Array.length_toList, rows1, List.length_map]
  have ft : t1.fits es1.size = true := by
    unfold SetTable.fits SetTable.fill
    rw [dm, sz, n1]
    simp
    omega
  obtain ⟨t2, order, r1, r2, r3, r4, r5, r6, r7⟩ := relaid_ok t1 (hs := es1.map (·.1)) (wanted := wanted) hN mN (by rw [Array.size_map, n1]; omega)
  rw [Array.size_map, n1] at r2
  obtain ⟨p1, p2⟩ := nes_pick (P := P) (w := w) (M := M1) (fun m => (hsN P w m.1, Value.ref m.2)) (fun e => e.1) (fun _ => rfl) es1 rows1 order.toList fun i hi => List.mem_range.mp (r2.mem_iff.mp hi)
  obtain ⟨M2, hM2⟩ : ∃ M2, M2 = order.toList.filterMap fun i => M1[i]? := ⟨_, rfl⟩
  rw [← hM2] at p1 p2
  have pm : M2.Perm M1 := by
    rw [hM2]
    refine (r2.filterMap _).trans ?_
    rw [pick_allN]
  rw [← p2] at r3
  have rows2 : (order.filterMap fun i => es1[i]?).toList = M2.map fun m => (hsN P w m.1, Value.ref m.2) := by rw [Array.toList_filterMap]; exact p1
  have n2 : (order.filterMap fun i => es1[i]?).size = es1.size := by rw [← Array.length_toList, rows2, List.length_map, pm.length_eq, n1]
  rw [setRelay_eq]
  refine wpAny_bind (wpAny_setState_of ho hd ft (wp_if_neg (by rw [sizeLine_eq]; omega) ?_))
  rw [r1]
  refine wpAny_bind (wp_if_neg (by rw [n2]; simp) (wpAny_pure ?_))
  dsimp only
  refine wpAny_storeSet_of ho hd ?_ (by rw [n2, n1, sizeLine_eq]; omega)
  have sb : Heap.SameBut a s.heap (s.heap.update a (Obj.putSet (order.filterMap fun i => es1[i]?) t2)) := Heap.SameBut.update ..
  exact fin _ M2 _ (ep1 + 1) t2 sb ⟨⟨{ cls := o.cls, dict := o.dict, data := .set (order.filterMap fun i => es1[i]?) (ep1 + 1) t2, slots := o.slots }, store_at (es' := order.filterMap fun i => es1[i]?) (t' := t2) ho hd, hex, rfl⟩, rows2, r3, (pm.map _).nodup_iff.mpr nd, fun m hm => nes_stay (kd m (pm.mem_iff.mp hm)) ho hd sb, by rw [r5]; exact ld, by rw [r4, pm.length_eq]; exact sp, by rw [pm.length_eq]; exact lt⟩ pm
theorem nes_put (R : NesSet P w s.heap a M es ep t) (hx : (NKd P w).is s.heap k x) (hu : A.units + 8 < cLine) (few : M.length ≤ 62) {Q : Bool → Shared → Prop}
    (old : k ∈ M.map (fun m => m.1) → Q false s)
    (new : k ∉ M.map (fun m => m.1) → ∀ h2 M2 es2 ep2 t2, Heap.SameBut a s.heap h2 → NesSet P w h2 a M2 es2 ep2 t2 → M2.Perm ((k, x) :: M) → Q true { s with heap := h2 }) : wpAny (model P w) A (setAddHashed a (.ref x) (hsN P w k)) Q E s := by
  obtain ⟨o, ho, hex, hd⟩ := R.here
  obtain ⟨K, far, out, inn⟩ := R.lay.first (by rw [List.length_map]; have := R.space; omega) (hsN P w k)
  have small : K < 100000 := by
    have : 10 * SetTable.turns t.mask ≤ 5000 := by rcases R.lay.mok with e | e | e <;> rw [e] <;> decide
    omega
  unfold setAddHashed
  refine wpAny_holding ?_
  show wpAny _ _ (setAddHashedIn a (.ref x) (hsN P w k) (99999 + 1)) _ _ _
  rw [setAddHashedIn_succ]
  refine wpAny_bind (wpAny_setState_of ho hd R.fit (wp_if_neg (by simp [byScan, Value.scannable]) ?_))
  unfold setSearch
  refine wpAny_bind (nes_seek R hx hu far out inn (fun z => ?_) (fun z => ?_) 100000 0 none (by omega) (Nat.zero_le _) rfl fun i m hi hm => ?_)
  · exact wpAny_pure (old z)
  · dsimp only
    refine wpAny_bind (wpAny_setState_of ho hd R.fit ?_)
    dsimp only
    obtain ⟨q1, q2, q3, q4, q5, q6, q7, q8, q9⟩ := R.lay.put out inn
    generalize way t.mask (hsN P w k) K = j at *
    generalize SetTable.below t.place j = p at *
    obtain ⟨t1, e1⟩ : ∃ t1, t1 = (t.put j).1 := ⟨_, rfl⟩
    rw [← e1] at q3 q4 q5 q9
    have pe : t.put j = (t1, p) := by rw [e1, ← q1]
    rw [pe]
    dsimp only
    have pm : (M.take p ++ (k, x) :: M.drop p).Perm ((k, x) :: M) := grown_perm M p (k, x)
    have len := pm.length_eq
    rw [List.length_cons] at len
    obtain ⟨es1, e2⟩ : ∃ es1, es1 = SetTable.insertAt es p (hsN P w k, Value.ref x) := ⟨_, rfl⟩
    have rows1 : es1.toList = (M.take p ++ (k, x) :: M.drop p).map fun m => (hsN P w m.1, Value.ref m.2) := by
      rw [e2, SetTable.toList_insertAt, R.rows, List.map_append, List.map_cons, List.map_take, List.map_drop]
    have hs1 : (M.take p ++ (k, x) :: M.drop p).map (fun m => hsN P w m.1) = (M.map fun m => hsN P w m.1).take p ++ hsN P w k :: (M.map fun m => hsN P w m.1).drop p := by
      rw [List.map_append, List.map_cons, List.map_take, List.map_drop]
    rw [← hs1] at q3
    have n1 : es1.size = M.length + 1 := by rw [← Array.length_toList, rows1, List.length_map, len]
    have nd1 : ((M.take p ++ (k, x) :: M.drop p).map fun m => m.1).Nodup := (pm.map _).nodup_iff.mpr (List.nodup_cons.mpr ⟨z, R.once⟩)
    rw [← e2]
    obtain ⟨M1, hM1⟩ : ∃ M1, M1 = M.take p ++ (k, x) :: M.drop p := ⟨_, rfl⟩
    rw [← hM1] at pm len rows1 q3 nd1
    have sp := R.space
    have keyd : ∀ h2, Heap.SameBut a s.heap h2 → ∀ m ∈ M1, (NKd P w).is h2 m.1 m.2 := fun h2 sb m hm => by
      rcases List.mem_cons.mp (pm.mem_iff.mp hm) with e | hm
      · rw [e]; exact nes_stay hx ho hd sb
      · exact nes_stay (R.keyd m hm) ho hd sb
    have tail : ∀ t2 : SetTable, TabOk t2 (M1.map fun m => hsN P w m.1) → t2.led = t.led → t2.mask = t.mask → wpAny (model P w) A (do
        storeSet a es1 t2
        if (!false && t2.tooFull) = true then setRelay a (SetTable.grown (es.size + 1))
        return true) Q E s := fun t2 l2 d2 m2 => by
      refine wpAny_bind (wpAny_storeSet_of ho hd ?_ (by rw [n1, sizeLine_eq]; omega))
      have sb : Heap.SameBut a s.heap (s.heap.update a (Obj.putSet es1 t2)) := Heap.SameBut.update ..
      have h1 := store_at (es' := es1) (t' := t2) ho hd
      have sz2 : t2.place.size = M.length + 1 := by
        have := l2.sz
        rw [List.length_map] at this
        omega
      have fill : t2.fill = M.length + 1 := by
        unfold SetTable.fill
        rw [l2.dm, sz2]; rfl
      by_cases fl : t2.tooFull = true
      · have full : (M.length + 1) * 5 ≥ t2.mask * 3 := by
          unfold SetTable.tooFull at fl
          rw [decide_eq_true_eq, fill] at fl
          exact fl
        rw [fl]
        have go : ∀ N, SetTable.sizeAbove (SetTable.grown (M.length + 1)) - 1 = N → MaskOk N → SetTable.sizeAbove (SetTable.grown (M.length + 1)) ≤ 128 → (M.length + 1) * 5 < N * 3 →
            wpAny (model P w) A (do
              if (!false && true) = true then setRelay a (SetTable.grown (es.size + 1))
              return true) Q E { s with heap := s.heap.update a (Obj.putSet es1 t2) } := fun N g1 g2 g3 g4 => by
          rw [R.cnt]
          refine wp_if_pos rfl (wpAny_bind (nes_relay (s := { s with heap := s.heap.update a (Obj.putSet es1 t2) }) h1 hex rfl rows1 l2.dm (by omega) (by omega) nd1 (keyd _ sb) (by rw [d2]; exact R.ord) (by omega) g1 g2 g3 (by omega) fun h2 M2 es2 ep2 t3 sb2 T2 p2 => ?_))
          exact wpAny_pure (new z h2 M2 es2 ep2 t3 (sb.trans sb2) T2 (p2.trans pm))
        rcases R.lay.mok with e | e | e
        · have e4 : M.length = 4 := by omega
          exact go 31 (by rw [e4, size_20]) (.inr (.inl rfl)) (by rw [e4, size_20]; decide) (by omega)
        · have e18 : M.length = 18 := by omega
          exact go 127 (by rw [e18, size_76]) (.inr (.inr rfl)) (by rw [e18, size_76]; decide) (by omega)
        · exfalso; omega
      · rw [Bool.not_eq_true] at fl
        have room : (M.length + 1) * 5 < t2.mask * 3 := by
          unfold SetTable.tooFull at fl
          rw [decide_eq_false_iff_not, fill] at fl
          omega
        rw [fl]
        refine wp_if_neg (by decide) (wpAny_pure (new z _ M1 es1 (ep + 1) t2 sb ⟨⟨_, h1, hex, rfl⟩, rows1, l2, nd1, keyd _ sb, by rw [d2]; exact R.ord, by omega, by omega⟩ pm))
    have off : TabOk { t1 with plain := false } (M1.map fun m => hsN P w m.1) := ⟨q3.ris, q3.dm, q3.sz, q3.mok, q3.bd, q3.reach⟩
    by_cases pl : t1.plain = true
    · rw [pl]
      refine wpAny_bind (nes_by hx fun b => ?_)
      cases b with
      | true => exact tail t1 q3 q5 q4
      | false => exact tail { t1 with plain := false } off q5 q4
    · rw [Bool.not_eq_true] at pl
      rw [pl]
      refine wpAny_bind (wpAny_pure ?_)
      exact tail t1 q3 q5 q4
  · have hi2 : (M.map fun m => hsN P w m.1)[i]? = some (hsN P w k) := by rw [List.getElem?_map, hi, ← hm]; rfl
    have il : i < t.place.toList.length := by rw [R.plc]; exact (List.getElem?_eq_some_iff.mp hi).1
    obtain ⟨d, hd1, hd2⟩ := R.lay.before out hi2 (List.getElem?_eq_getElem il)
    exact ⟨d, Nat.zero_le _, hd1, by rw [List.getElem?_eq_getElem il, hd2]⟩
end
end Dv
namespace Dv
open PySem PySem.Spec PyProof.Rows L2
/-- all that the set's own object holds -/
def NesS0 (P : Program) (w : World) (h : Heap) (a : Addr) (M : List (NestedKey × Addr)) : Prop := ∃ o es ep t, h.get? a = some o ∧ o.ExactSet ∧ o.data = .set es ep t ∧ es.toList = (M.map fun m => (hsN P w m.1, Value.ref m.2)) ∧ TabOk t (M.map fun m => hsN P w m.1) ∧ (M.map fun m => m.1).Nodup ∧
  (w.params.followText "set-order" = true ∨ t.led = true) ∧ M.length * 5 < t.mask * 3 ∧ M.length ≤ 63
def NSO (P : Program) (w : World) (a : Addr) (M : List (NestedKey × Addr)) : HO := .ext fun h => NesS0 P w h a M
theorem NesSet.s0 {P : Program} {w : World} {h : Heap} {a : Addr} {M : List (NestedKey × Addr)} {es : Array (Int × Value)} {ep : Nat} {t : SetTable} (R : NesSet P w h a M es ep t) : NesS0 P w h a M := by
  obtain ⟨o, h1, h2, h3⟩ := R.here
  exact ⟨o, es, ep, t, h1, h2, h3, R.rows, R.lay, R.once, R.ord, R.space, R.le63⟩
theorem NesS0.full {P : Program} {w : World} {h : Heap} {a : Addr} {M : List (NestedKey × Addr)} (R : NesS0 P w h a M) (kd : ∀ m ∈ M, (NKd P w).is h m.1 m.2) : ∃ es ep t, NesSet P w h a M es ep t := by
  obtain ⟨o, es, ep, t, h1, h2, h3, h4, h5, h6, h7, h8, h9⟩ := R
  exact ⟨es, ep, t, ⟨o, h1, h2, h3⟩, h4, h5, h6, kd, h7, h8, h9⟩
theorem nso_ok {P : Program} {w : World} {H : Hp} {h : Heap} {a : Addr} {M : List (NestedKey × Addr)} (R : NesS0 P w h a M) : ObjOk P w H h a (NSO P w a M) := by
  obtain ⟨o, es, ep, t, h1, r⟩ := R
  exact ⟨⟨o, es, ep, t, h1, r⟩, ⟨o, h1⟩, fun g1 g2 ⟨o', es', ep', t', q1, q⟩ k => ⟨o', es', ep', t', k o' q1, q⟩⟩
theorem nes_fresh {P : Program} {w : World} {h : Heap} {a : Addr} (e : h.get? a = some { cls := .type "set", dict := none, data := .set #[] 0 (.fresh 0 0 (!w.params.followText "set-order")) }) : NesS0 P w h a [] := by
  refine ⟨_, #[], 0, _, e, ⟨rfl, rfl, rfl⟩, rfl, rfl, ⟨.nil, rfl, rfl, .inl rfl, fun x hx => (nomatch hx), fun i h j hi => by simp at hi⟩, .nil, ?_, by show 0 * 5 < 7 * 3; decide, by decide⟩
  show _ ∨ (!w.params.followText "set-order") = true
  cases w.params.followText "set-order" <;> simp
section
variable {P : Program} {w : World}
theorem key_atN {h h' : Heap} {b : Addr} {kk : NestedKey} (k : ∀ a o, h.get? a = some o → (∃ vs n, o.data = .seq vs n) → h'.get? a = some o) (hk : (NKd P w).is h kk b) : (NKd P w).is h' kk b := ⟨NestedIs.at (fun a o vs n e c => k a o e ⟨vs, n, c⟩) kk _ hk.1, hk.2⟩
theorem keyN {h h' : Heap} {b : Addr} {kk : NestedKey} (k : ∀ a o, h.get? a = some o → h'.get? a = some o) (hk : (NKd P w).is h kk b) : (NKd P w).is h' kk b := key_atN (fun a o e _ => k a o e) hk
theorem NesSet.at {h h' : Heap} {a : Addr} {M : List (NestedKey × Addr)} {es : Array (Int × Value)} {ep : Nat} {t : SetTable} (R : NesSet P w h a M es ep t) (k : ∀ o, h.get? a = some o → h'.get? a = some o) (kd : ∀ m ∈ M, (NKd P w).is h' m.1 m.2) : NesSet P w h' a M es ep t := by
  obtain ⟨⟨o, h1, h2⟩, h3, h4, h5, h6, h7, h8, h9⟩ := R
  exact ⟨⟨o, k o h1, h2⟩, h3, h4, h5, kd, h7, h8, h9⟩
def NesAll (P : Program) (w : World) (h : Heap) (a : Addr) (l : List (NestedKey × Addr)) : Prop := ∃ M es ep t, NesSet P w h a M es ep t ∧ (∀ k, k ∈ M.map (fun m => m.1) ↔ k ∈ l.map (fun m => m.1)) ∧ (∀ m ∈ M, m ∈ l) ∧ M.length ≤ l.length
end
section
variable {P : Program} {w : World} {A : Around} {E : Value → Shared → Prop} {s : Shared}
theorem nes_fill {I S : Addr} {fp wr : List Addr} {G : Array GenState → Array GenState → Prop} {n : Nat} {Pv : Nat → Value → Prop} {St : Nat → Shared → Prop} {R : Result → Shared → Prop} (W : WalksS P w A.in1 I fp wr G n Pv St) (far : S ∉ fp) (l : List (NestedKey × Addr)) (hn : n = l.length) (few : l.length ≤ 62) (hu : A.in1.units + 8 < cLine) (h0 : Heap) (kd0 : ∀ m ∈ l, (NKd P w).is h0 m.1 m.2) (far0 : ∀ b o, h0.get? b = some o → b ∉ S :: wr)
    (val : ∀ i v, Pv i v → ∃ m, l[i]? = some m ∧ v = .ref m.2) (out : ∀ m ∈ l, m.2 ∉ fp ∧ m.2 ≠ S) : ∀ (k i : Nat) (s : Shared), n - i = k → i ≤ n → St i s → NesAll P w s.heap S (l.take i) → (∀ b o, h0.get? b = some o → s.heap.get? b = some o) →
      (∀ s', Moved (S :: wr) G s s' → NesAll P w s'.heap S l → R (.ok (.ret .none)) s') → codeAny (model P w) A (.builtin "set.update.loop" ⟨[.ref S, .ref I], []⟩) R s := by
  have nw : S ∉ wr := fun h => far (W.sub _ h)
  have up : ∀ b ∈ wr, b ∈ S :: wr := fun b hb => List.mem_cons_of_mem _ hb
  intro k
  induction k with
  | zero =>
    intro i s hk hi st ⟨M, es, ep, t, R0, mem, sub, le⟩ kd fin
    obtain rfl : i = n := by omega
    refine codeAny_builtin F.entry_set_update_loop ?_
    rw [Around.under_plainId F.plain_set_update_loop _]
    show wpAny _ A.in1 (pyNext (.ref I) >>= _) _ _ s
    refine wpAny_bind (W.done s _ _ st fun s' hm => ?_)
    show wpAny _ A.in1 (ret Value.none) _ _ s'
    rw [List.take_of_length_le (by omega)] at mem sub le
    exact wpAny_pure (fin s' (hm.mono up) ⟨M, es, ep, t, R0.at (fun o e => hm.heap S o nw e) (fun m hm2 => keyN (fun b o e => hm.heap b o (fun z => far0 b o e (List.mem_cons_of_mem _ z)) (kd b o e)) (kd0 m (sub m hm2))), mem, sub, le⟩)
  | succ k ih =>
    intro i s hk hi st ⟨M, es, ep, t, R0, mem, sub, le⟩ kd fin
    have lt : i < n := by omega
    refine codeAny_builtin F.entry_set_update_loop ?_
    rw [Around.under_plainId F.plain_set_update_loop _]
    show wpAny _ A.in1 (pyNext (.ref I) >>= _) _ _ s
    refine wpAny_bind (W.item i s _ _ lt st fun v s' hP st' hm => ?_)
    obtain ⟨m, hx, rfl⟩ := val i v hP
    have ml : m ∈ l := List.mem_of_getElem? hx
    have subl : ∀ q ∈ M, q ∈ l := fun q hq => List.mem_of_mem_take (sub q hq)
    have kd2 : ∀ b o, h0.get? b = some o → s'.heap.get? b = some o := fun b o e => hm.heap b o (fun z => far0 b o e (List.mem_cons_of_mem _ z)) (kd b o e)
    have kd1 : ∀ q ∈ l, (NKd P w).is s'.heap q.1 q.2 := fun q hq => keyN kd2 (kd0 q hq)
    have R1 : NesSet P w s'.heap S M es ep t := R0.at (fun o e => hm.heap S o nw e) fun q hq => kd1 q (subl q hq)
    show wpAny _ A.in1 (holding [Value.ref m.2] (setAdd S (.ref m.2)) >>= _) _ _ s'
    refine wpAny_bind (wpAny_holding ?_)
    unfold setAdd
    refine wpAny_holding (wpAny_bind ((NKd P w).pyHash (by exact hu) (kd1 m ml) ?_))
    have le2 : M.length ≤ i := by rw [List.length_take] at le; omega
    have go : ∀ (h2 : Heap) (M2 : List (NestedKey × Addr)) (es2 : Array (Int × Value)) (ep2 : Nat) (t2 : SetTable), Heap.SameBut S s'.heap h2 → NesSet P w h2 S M2 es2 ep2 t2 → (∀ k, k ∈ M2.map (fun m => m.1) ↔ k ∈ (l.take (i + 1)).map (fun m => m.1)) → (∀ q ∈ M2, q ∈ l.take (i + 1)) → M2.length ≤ (l.take (i + 1)).length →
        codeAny (model P w) A (.builtin "set.update.loop" ⟨[.ref S, .ref I], []⟩) R { s' with heap := h2, toks := s'.toks + (NKd P w).draws m.1 } := fun h2 M2 es2 ep2 t2 sb R2 mm ss ll => by
      refine ih (i + 1) _ (by omega) lt (W.frame _ s' _ _ st' (Nat.le_add_right _ _) fun b hb o e => ?_) ⟨M2, es2, ep2, t2, R2, mm, ss, ll⟩ (fun b o e => by rw [sb.2 b (fun z => far0 b o e (by rw [z]; exact List.mem_cons_self))]; exact kd2 b o e) fun s'' hm2 hS => fin s'' (Moved.trans W.gtrans ((hm.mono up).then_heap (Nat.le_add_right _ _) fun b o hb e => ?_) hm2) hS
      · rw [sb.2 b (fun z => far (by rw [← z]; exact hb))]; exact e
      · rw [sb.2 b (fun z => hb (by rw [z]; exact List.mem_cons_self))]; exact e
    have tk : l.take (i + 1) = l.take i ++ [m] := by rw [List.take_add_one, hx]; rfl
    refine nes_put (s := { s' with toks := s'.toks + (NKd P w).draws m.1 }) R1 (kd1 m ml) (by exact hu) (by omega) (fun z => ?_) (fun z h2 M2 es2 ep2 t2 sb R2 pm => ?_)
    · refine wpAny_pure ⟨plainId_quiet F.plain_set_update_loop _, go s'.heap M es ep t (Heap.SameBut.refl S s'.heap) R1 (fun q => ?_) (fun q hq => ?_) ?_⟩
      · rw [tk, List.map_append, List.mem_append, ← mem q]
        refine ⟨.inl, fun y => y.elim id fun y => ?_⟩
        rw [List.mem_singleton.mp (show q ∈ [m.1] from y)]; exact z
      · rw [tk]; exact List.mem_append_left _ (sub q hq)
      · rw [tk, List.length_append]; omega
    · refine wpAny_pure ⟨plainId_quiet F.plain_set_update_loop _, go h2 M2 es2 ep2 t2 sb R2 (fun q => ?_) (fun q hq => ?_) ?_⟩
      · rw [(pm.map _).mem_iff, tk, List.map_append, List.mem_append, ← mem q, List.map_cons, List.mem_cons]
        show q = m.1 ∨ _ ↔ _ ∨ q ∈ [m.1]
        rw [List.mem_singleton]; exact Or.comm
      · rw [tk]
        rcases List.mem_cons.mp (pm.mem_iff.mp hq) with e | e
        · rw [e]; exact List.mem_append_right _ (List.mem_singleton_self _)
        · exact List.mem_append_left _ (sub q e)
      · rw [pm.length_eq, List.length_cons, tk, List.length_append, List.length_singleton]; omega
end
section
variable {P : Program} {w : World} {A : Around} {E : Value → Shared → Prop} {s : Shared}
theorem nes_lives {h : Heap} {k : NestedKey} {b : Addr} (hk : (NKd P w).is h k b) : ∃ o, h.get? b = some o := by
  obtain ⟨h1, _⟩ := hk
  cases h1 with
  | tup ho _ _ _ => exact ⟨_, ho⟩
theorem nes_set_tuple {l : Addr} {items : Array Value} (xs : List (NestedKey × Addr)) {Q : Value → Shared → Prop} (hh : A.handled = none) (hl : s.heap.IsTuple l items) (hit : items.toList = xs.map fun m => Value.ref m.2) (few : xs.length ≤ 62) (kd : ∀ m ∈ xs, (NKd P w).is s.heap m.1 m.2) (ne : ∀ m ∈ xs, m.2 ≠ l) (hu : A.units + 18 < cLine)
    (fin : ∀ (h2 : Heap) (tk : Nat), NesAll P w h2 s.heap.objs.size xs → (∀ b o, s.heap.get? b = some o → h2.get? b = some o) → Q (.ref s.heap.objs.size) { s with heap := h2, toks := tk }) :
    wpAny (model P w) A (call (.type "set") [.ref l]) Q E s := by
  have count : items.size = xs.length := by
    have q := congrArg List.length hit
    rw [Array.length_toList, List.length_map] at q
    exact q
  obtain ⟨c, tl, hmro⟩ := F.called_set.mro
  have f1 := F.called_set.made
  have f2 := F.called_set.sub
  have f3 := F.called_set.notType
  have f4 := F.called_set.canCreate
  have f5 := F.typeCall_set_1 (.ref l)
  let o0 : Obj := { cls := .type "set", dict := none, data := .set #[] 0 (.fresh 0 0 (!w.params.followText "set-order")) }
  refine wpAny_call (codeAny_of_tree ?_)
  show wpAny _ _ (callAny (.type "set") _) _ _ _
  refine wpAny_pure ⟨Code.quiet_builtin _ (by decide +kernel), codeAny_builtin F.entry_type_call ?_⟩
  rw [Around.under_plain (weight_type_call_type "set" [.ref l] []) rfl]
  repeat (any_goals (first | assumption | wp_step))
  refine codeAny_mono (code_set_led1 (.ref l) (E := E) (Q₁ := fun obj s1 => obj = .ref s.heap.objs.size ∧ s1 = { s with heap := s.heap.push o0 }) ⟨rfl, rfl⟩) fun r s1 hr => ?_
  cases r with
  | error e => exact hr
  | ok fl =>
    cases fl with
    | ret obj =>
      obtain ⟨rfl, rfl⟩ := hr
      have at0 : (s.heap.push o0).get? s.heap.objs.size = some o0 := Heap.get?_push_size _ rfl
      have ty0 : Shared.TypeIs { s with heap := s.heap.push o0 } (.ref s.heap.objs.size) "set" := ⟨_, at0, rfl⟩
      have f6 := F.called_set.init.lookup
      have f7 := F.called_set.init.bind (.ref s.heap.objs.size)
      repeat (any_goals (first | assumption | wp_step))
      refine codeAny_mono (codeAny_call_builtin (R := wants (fun r s2 => r = .none ∧ ∃ h2 tk, s2 = { s with heap := h2, toks := tk } ∧ NesAll P w h2 s.heap.objs.size xs ∧ (∀ b o, s.heap.get? b = some o → h2.get? b = some o)) E) F.called_set.init.plain F.entry_set_init (check_set_init_1 ty0 ?_)) fun r2 s2 hr2 => ?_
      · obtain ⟨ol, hol, hcl, nl, hdl⟩ := hl
        obtain ⟨oc, od, oda, osl⟩ := ol
        dsimp only at hcl hdl
        subst hcl
        subst hdl
        have at_l : (s.heap.push o0).get? l = some { cls := .type "tuple", dict := od, data := .seq items nl, slots := osl } := Heap.get?_push_of_some _ hol
        have g1 := F.sub_tuple_set
        have g2 := F.sub_tuple_frozenset
        have g3 : (Value.type "tuple" == Value.type "dict") = false := by decide
        have seq1 : (s.heap.push o0).IsTuple l items := ⟨_, at_l, rfl, nl, rfl⟩
        unfold Builtin.«set.__init__» noKeywords Builtin.Frozenset.updateFrom
        generalize hPI : pyIter = PI
        wp_walk
        subst hPI
        refine wpAny_pyIter_tuple seq1 (wpAny_bind (wpAny_runValue ?_))
        have lt : l < s.heap.objs.size := Heap.lt_size hol
        have calm3 : A.in1.in1.in1.handled = none := by simp [hh]
        have apart : l ≠ (s.heap.push o0).objs.size := by rw [Heap.size_push]; exact Nat.ne_of_lt (Nat.lt_succ_of_lt lt)
        have far : s.heap.objs.size ∉ [(s.heap.push o0).objs.size, l] := by
          rw [Heap.size_push]
          simp only [List.mem_cons, List.mem_singleton, List.not_mem_nil, or_false, not_or]
          exact ⟨Nat.ne_of_lt (Nat.lt_succ_self _), Nat.ne_of_gt lt⟩
        have val : ∀ (i : Nat) (v : Value), items[i]? = some v → ∃ m, xs[i]? = some m ∧ v = .ref m.2 := fun i v hv => by
          rw [← Array.getElem?_toList, hit, List.getElem?_map] at hv
          cases q : xs[i]? with
          | none => rw [q] at hv; cases hv
          | some m => rw [q] at hv; exact ⟨m, rfl, (Option.some.inj hv).symm⟩
        have old : ∀ m ∈ xs, m.2 < s.heap.objs.size := fun m hm => by
          obtain ⟨o, e⟩ := nes_lives (kd m hm)
          exact Heap.lt_size e
        have out : ∀ m ∈ xs, m.2 ∉ [(s.heap.push o0).objs.size, l] ∧ m.2 ≠ s.heap.objs.size := fun m hm => by
          have b0 := old m hm
          refine ⟨?_, Nat.ne_of_lt b0⟩
          rw [Heap.size_push]
          simp only [List.mem_cons, List.mem_singleton, List.not_mem_nil, or_false, not_or]
          exact ⟨Nat.ne_of_lt (Nat.lt_succ_of_lt b0), ne m hm⟩
        refine nes_fill ((Walks.tuple calm3 _ l apart items).toS) far xs count few (by have e : A.in1.in1.in1.units = A.units + 3 := rfl; omega) s.heap kd (fun b o e => ?_) val out (items.size - 0) 0 _ (by omega) (Nat.zero_le _) ⟨⟨_, Heap.get?_push_size _ rfl, rfl, rfl⟩, seq1.push _⟩
          (by obtain ⟨es0, ep0, t0, R0⟩ := (nes_fresh (P := P) (w := w) (Heap.get?_push_of_some _ at0)).full (fun m hm => (nomatch hm)); exact ⟨[], es0, ep0, t0, R0, fun z => by simp, fun m hm => (nomatch hm), Nat.zero_le _⟩) (fun b o e => Heap.get?_push_of_some _ (Heap.get?_push_of_some _ e)) fun s' hm all => ?_
        · have b0 : b < s.heap.objs.size := Heap.lt_size e
          rw [Heap.size_push]
          simp only [List.mem_cons, List.mem_singleton, List.not_mem_nil, or_false, not_or]
          exact ⟨Nat.ne_of_lt b0, Nat.ne_of_lt (Nat.lt_succ_of_lt b0)⟩
        obtain ⟨h2, g2', d', tk', os'⟩ := s'
        obtain rfl : g2' = s.gens := hm.gens
        obtain rfl : d' = s.drawn := hm.drawn
        obtain rfl : os' = s.os := hm.os
        show wpAny _ _ _ _ _ _
        refine wpAny_pure ?_
        show wpAny _ _ (ret Value.none) _ _ _
        refine wpAny_pure ⟨rfl, h2, tk', rfl, all, fun b o e => ?_⟩
        have b0 : b < s.heap.objs.size := Heap.lt_size e
        refine hm.heap b o ?_ (Heap.get?_push_of_some _ (Heap.get?_push_of_some _ e))
        rw [Heap.size_push]
        simp only [List.mem_cons, List.mem_singleton, List.not_mem_nil, or_false, not_or]
        exact ⟨Nat.ne_of_lt b0, Nat.ne_of_lt (Nat.lt_succ_of_lt b0)⟩
      · cases r2 with
        | error e => exact hr2
        | ok fl2 =>
          cases fl2 with
          | ret r =>
            obtain ⟨rfl, h2, tk, rfl, all, keep⟩ := hr2
            repeat (any_goals (first | assumption | wp_step))
            exact fin _ _ all keep
          | _ => exact hr2.elim
    | _ => exact hr.elim
theorem nes_set_list {l : Addr} {items : Array Value} (xs : List (NestedKey × Addr)) {Q : Value → Shared → Prop} (hh : A.handled = none) (hl : s.heap.IsList l items) (hit : items.toList = xs.map fun m => Value.ref m.2) (few : xs.length ≤ 62) (kd : ∀ m ∈ xs, (NKd P w).is s.heap m.1 m.2) (ne : ∀ m ∈ xs, m.2 ≠ l) (hu : A.units + 18 < cLine)
    (fin : ∀ (h2 : Heap) (tk : Nat), NesAll P w h2 s.heap.objs.size xs → (∀ b o, s.heap.get? b = some o → h2.get? b = some o) → Q (.ref s.heap.objs.size) { s with heap := h2, toks := tk }) :
    wpAny (model P w) A (call (.type "set") [.ref l]) Q E s := by
  have count : items.size = xs.length := by
    have q := congrArg List.length hit
    rw [Array.length_toList, List.length_map] at q
    exact q
  obtain ⟨c, tl, hmro⟩ := F.called_set.mro
  have f1 := F.called_set.made
  have f2 := F.called_set.sub
  have f3 := F.called_set.notType
  have f4 := F.called_set.canCreate
  have f5 := F.typeCall_set_1 (.ref l)
  let o0 : Obj := { cls := .type "set", dict := none, data := .set #[] 0 (.fresh 0 0 (!w.params.followText "set-order")) }
  refine wpAny_call (codeAny_of_tree ?_)
  show wpAny _ _ (callAny (.type "set") _) _ _ _
  refine wpAny_pure ⟨Code.quiet_builtin _ (by decide +kernel), codeAny_builtin F.entry_type_call ?_⟩
  rw [Around.under_plain (weight_type_call_type "set" [.ref l] []) rfl]
  repeat (any_goals (first | assumption | wp_step))
  refine codeAny_mono (code_set_led1 (.ref l) (E := E) (Q₁ := fun obj s1 => obj = .ref s.heap.objs.size ∧ s1 = { s with heap := s.heap.push o0 }) ⟨rfl, rfl⟩) fun r s1 hr => ?_
  cases r with
  | error e => exact hr
  | ok fl =>
    cases fl with
    | ret obj =>
      obtain ⟨rfl, rfl⟩ := hr
      have at0 : (s.heap.push o0).get? s.heap.objs.size = some o0 := Heap.get?_push_size _ rfl
      have ty0 : Shared.TypeIs { s with heap := s.heap.push o0 } (.ref s.heap.objs.size) "set" := ⟨_, at0, rfl⟩
      have f6 := F.called_set.init.lookup
      have f7 := F.called_set.init.bind (.ref s.heap.objs.size)
      repeat (any_goals (first | assumption | wp_step))
      refine codeAny_mono (codeAny_call_builtin (R := wants (fun r s2 => r = .none ∧ ∃ h2 tk, s2 = { s with heap := h2, toks := tk } ∧ NesAll P w h2 s.heap.objs.size xs ∧ (∀ b o, s.heap.get? b = some o → h2.get? b = some o)) E) F.called_set.init.plain F.entry_set_init (check_set_init_1 ty0 ?_)) fun r2 s2 hr2 => ?_
      · obtain ⟨ol, hol, hcl, nl, hdl⟩ := hl
        obtain ⟨oc, od, oda, osl⟩ := ol
        dsimp only at hcl hdl
        subst hcl
        subst hdl
        have at_l : (s.heap.push o0).get? l = some { cls := .type "list", dict := od, data := .seq items nl, slots := osl } := Heap.get?_push_of_some _ hol
        have g1 := F.sub_list_set
        have g2 := F.sub_list_frozenset
        have g3 : (Value.type "list" == Value.type "dict") = false := by decide
        have seq1 : (s.heap.push o0).IsList l items := ⟨_, at_l, rfl, nl, rfl⟩
        unfold Builtin.«set.__init__» noKeywords Builtin.Frozenset.updateFrom
        generalize hPI : pyIter = PI
        wp_walk
        subst hPI
        refine wpAny_pyIter_list seq1 (wpAny_bind (wpAny_runValue ?_))
        have lt : l < s.heap.objs.size := Heap.lt_size hol
        have calm3 : A.in1.in1.in1.handled = none := by simp [hh]
        have apart : l ≠ (s.heap.push o0).objs.size := by rw [Heap.size_push]; exact Nat.ne_of_lt (Nat.lt_succ_of_lt lt)
        have far : s.heap.objs.size ∉ [(s.heap.push o0).objs.size, l] := by
          rw [Heap.size_push]
          simp only [List.mem_cons, List.mem_singleton, List.not_mem_nil, or_false, not_or]
          exact ⟨Nat.ne_of_lt (Nat.lt_succ_self _), Nat.ne_of_gt lt⟩
        have val : ∀ (i : Nat) (v : Value), items[i]? = some v → ∃ m, xs[i]? = some m ∧ v = .ref m.2 := fun i v hv => by
          rw [← Array.getElem?_toList, hit, List.getElem?_map] at hv
          cases q : xs[i]? with
          | none => rw [q] at hv; cases hv
          | some m => rw [q] at hv; exact ⟨m, rfl, (Option.some.inj hv).symm⟩
        have old : ∀ m ∈ xs, m.2 < s.heap.objs.size := fun m hm => by
          obtain ⟨o, e⟩ := nes_lives (kd m hm)
          exact Heap.lt_size e
        have out : ∀ m ∈ xs, m.2 ∉ [(s.heap.push o0).objs.size, l] ∧ m.2 ≠ s.heap.objs.size := fun m hm => by
          have b0 := old m hm
          refine ⟨?_, Nat.ne_of_lt b0⟩
          rw [Heap.size_push]
          simp only [List.mem_cons, List.mem_singleton, List.not_mem_nil, or_false, not_or]
          exact ⟨Nat.ne_of_lt (Nat.lt_succ_of_lt b0), ne m hm⟩
        refine nes_fill ((Walks.list calm3 _ l apart items).toS) far xs count few (by have e : A.in1.in1.in1.units = A.units + 3 := rfl; omega) s.heap kd (fun b o e => ?_) val out (items.size - 0) 0 _ (by omega) (Nat.zero_le _) ⟨⟨_, Heap.get?_push_size _ rfl, rfl, rfl⟩, seq1.push _⟩
          (by obtain ⟨es0, ep0, t0, R0⟩ := (nes_fresh (P := P) (w := w) (Heap.get?_push_of_some _ at0)).full (fun m hm => (nomatch hm)); exact ⟨[], es0, ep0, t0, R0, fun z => by simp, fun m hm => (nomatch hm), Nat.zero_le _⟩) (fun b o e => Heap.get?_push_of_some _ (Heap.get?_push_of_some _ e)) fun s' hm all => ?_
        · have b0 : b < s.heap.objs.size := Heap.lt_size e
          rw [Heap.size_push]
          simp only [List.mem_cons, List.mem_singleton, List.not_mem_nil, or_false, not_or]
          exact ⟨Nat.ne_of_lt b0, Nat.ne_of_lt (Nat.lt_succ_of_lt b0)⟩
        obtain ⟨h2, g2', d', tk', os'⟩ := s'
        obtain rfl : g2' = s.gens := hm.gens
        obtain rfl : d' = s.drawn := hm.drawn
        obtain rfl : os' = s.os := hm.os
        show wpAny _ _ _ _ _ _
        refine wpAny_pure ?_
        show wpAny _ _ (ret Value.none) _ _ _
        refine wpAny_pure ⟨rfl, h2, tk', rfl, all, fun b o e => ?_⟩
        have b0 : b < s.heap.objs.size := Heap.lt_size e
        refine hm.heap b o ?_ (Heap.get?_push_of_some _ (Heap.get?_push_of_some _ e))
        rw [Heap.size_push]
        simp only [List.mem_cons, List.mem_singleton, List.not_mem_nil, or_false, not_or]
        exact ⟨Nat.ne_of_lt b0, Nat.ne_of_lt (Nat.lt_succ_of_lt b0)⟩
      · cases r2 with
        | error e => exact hr2
        | ok fl2 =>
          cases fl2 with
          | ret r =>
            obtain ⟨rfl, h2, tk, rfl, all, keep⟩ := hr2
            repeat (any_goals (first | assumption | wp_step))
            exact fin _ _ all keep
          | _ => exact hr2.elim
    | _ => exact hr.elim
end
end Dv
namespace Dv
open PySem PySem.Spec PyProof.Rows L2
mutual
theorem toPy_nkD : ∀ k : NestedKey, toPy (nkD k) = some k.data
  | .none => by unfold nkD toPy NestedKey.data; rfl
  | .num i => by unfold nkD toPy NestedKey.data; rfl
  | .text x => by unfold nkD toPy NestedKey.data; rfl
  | .tup ks => by unfold nkD toPy NestedKey.data; rw [toPys_nkDs ks]; rfl
theorem toPys_nkDs : ∀ ks : List NestedKey, toPys (nkDs ks) = some (NestedKey.datas ks)
  | [] => by unfold nkDs toPys NestedKey.datas; rfl
  | k :: ks => by unfold nkDs toPys NestedKey.datas; rw [toPy_nkD k, toPys_nkDs ks]; rfl
end
theorem pyD_nkD (k : NestedKey) : pyD (nkD k) = k.data := by unfold pyD; rw [toPy_nkD k]; rfl
mutual
theorem eqv_data : ∀ a b : NestedKey, PyData.eqv a.data b.data = true → a = b
  | .none, .none, _ => rfl
  | .none, .num _, h => by simp [NestedKey.data, PyData.eqv] at h
  | .none, .text _, h => by simp [NestedKey.data, PyData.eqv] at h
  | .none, .tup _, h => by simp [NestedKey.data, PyData.eqv] at h
  | .num _, .none, h => by simp [NestedKey.data, PyData.eqv] at h
  | .num a, .num b, h => by
    simp [NestedKey.data, PyData.eqv] at h
    rw [h]
  | .num _, .text _, h => by simp [NestedKey.data, PyData.eqv] at h
  | .num _, .tup _, h => by simp [NestedKey.data, PyData.eqv] at h
  | .text _, .none, h => by simp [NestedKey.data, PyData.eqv] at h
  | .text _, .num _, h => by simp [NestedKey.data, PyData.eqv] at h
  | .text a, .text b, h => by
    simp [NestedKey.data, PyData.eqv] at h
    rw [h]
  | .text _, .tup _, h => by simp [NestedKey.data, PyData.eqv] at h
  | .tup _, .none, h => by simp [NestedKey.data, PyData.eqv] at h
  | .tup _, .num _, h => by simp [NestedKey.data, PyData.eqv] at h
  | .tup _, .text _, h => by simp [NestedKey.data, PyData.eqv] at h
  | .tup a, .tup b, h => by
    simp only [NestedKey.data, PyData.eqv] at h
    rw [eqv_datas a b h]
theorem eqv_datas : ∀ a b : List NestedKey, PyData.eqvAll (NestedKey.datas a) (NestedKey.datas b) = true → a = b
  | [], [], _ => rfl
  | [], _ :: _, h => by simp [NestedKey.datas, PyData.eqvAll] at h
  | _ :: _, [], h => by simp [NestedKey.datas, PyData.eqvAll] at h
  | a :: as, b :: bs, h => by
    simp only [NestedKey.datas, PyData.eqvAll, Bool.and_eq_true] at h
    rw [eqv_data a b h.1, eqv_datas as bs h.2]
end
/-- neither before the other: the same -/
theorem leG_anti {a b : NestedKey} (al : W.alike a.data b.data = true) (h1 : leG (nkD a) (nkD b) = true) (h2 : leG (nkD b) (nkD a) = true) : a = b := by
  have h1 : (!W.dataLt (pyD (nkD b)) (pyD (nkD a))) = true := h1
  have h2 : (!W.dataLt (pyD (nkD a)) (pyD (nkD b))) = true := h2
  rw [pyD_nkD, pyD_nkD, Bool.not_eq_true'] at h1 h2
  have e : W.keyToks a.data = W.keyToks b.data := PyProof.Rows.lex_total (O := PyProof.Rows.itemOrd) _ _ h2 h1
  cases q : PyData.eqv a.data b.data with
  | true => exact eqv_data a b q
  | false =>
    exfalso
    have t := (W.toks_eqv a.data b.data al).2 q
    have t1 := t [] [.inl 0]
    rw [← e, List.append_nil, PyProof.Rows.lex_irrefl] at t1
    have t2 : PyProof.Rows.lexLt PyProof.Rows.itemOrd (W.keyToks a.data ++ []) (W.keyToks a.data ++ [.inl 0]) = PyProof.Rows.lexLt PyProof.Rows.itemOrd [] [.inl 0] := W.lex_pre _ _ _
    rw [List.append_nil, t1] at t2
    revert t2
    decide
theorem sortG_nest {l m : List NestedKey} (h : l.Perm m) (ok : okG (l.map NestedKey.data) = true) : sortG (l.map nkD) = sortG (m.map nkD) := by
  refine List.Perm.eq_of_pairwise (le := LeG) (fun x y hx hy h1 h2 => ?_) (sortG_sorted _) (sortG_sorted _) ((sortG_perm _).trans ((h.map nkD).trans (sortG_perm _).symm))
  obtain ⟨a, ha, rfl⟩ := List.mem_map.mp ((sortG_perm _).subset hx)
  obtain ⟨b, hb, rfl⟩ := List.mem_map.mp ((sortG_perm _).subset hy)
  have hb' := h.mem_iff.mpr hb
  rw [leG_anti (okG_al ok _ (List.mem_map.mpr ⟨a, ha, rfl⟩) _ (List.mem_map.mpr ⟨b, hb', rfl⟩)) h1 h2]
mutual
theorem nk_reads {P : Program} {w : World} {H : Hp} {h : Heap} (ok : HOk P w H h) : ∀ (k : NestedKey) (v : V) (u : Value), NKey H k v → RelV v u → Reads h u k.data []
  | .none, v, u, e, rv => by
    unfold NKey at e
    subst e
    cases (show u = Value.none from rv)
    exact .none
  | .num i, v, u, e, rv => by
    unfold NKey at e
    subst e
    obtain ⟨t, rfl⟩ : ∃ t, u = Value.int i t := rv
    exact .int i t
  | .text x, v, u, e, rv => by
    unfold NKey at e
    subst e
    obtain ⟨t, rfl⟩ : ∃ t, u = Value.str x t := rv
    exact .str x t
  | .tup ks, v, u, e, rv => by
    unfold NKey at e
    obtain ⟨a, vs, rfl, hb, rs⟩ := e
    cases (show u = Value.ref a from rv)
    obtain ⟨o, _, hB⟩ := hb
    obtain ⟨_, _, its, ru, o', h1, h2, n, h3⟩ := ok _ _ hB
    exact .tuple h1 h2 h3 (by simpa using nks_reads ok ks vs its rs ru)
theorem nks_reads {P : Program} {w : World} {H : Hp} {h : Heap} (ok : HOk P w H h) : ∀ (ks : List NestedKey) (vs : List V) (us : List Value), NKeys H ks vs → Vals vs us → ReadsAll h us (NestedKey.datas ks) []
  | [], vs, us, e, rv => by
    unfold NKeys at e
    subst e
    cases rv
    exact .nil
  | k :: ks, vs, us, e, rv => by
    unfold NKeys at e
    obtain ⟨v, r, rfl, q, t⟩ := e
    cases rv with
    | cons h1 h2 => exact ReadsAll.cons (as := []) (bs := []) (nk_reads ok k v _ q h1) (nks_reads ok ks r _ t h2)
end
def KeysN (H : Hp) (M : List (NestedKey × Addr)) : Prop := ∀ m ∈ M, NKey H m.1 (.ref m.2) ∧ m.1.depth ≤ 8
section
variable {X : Cx} {pins : List (Addr × Obj)} {σ : L2.St} {H : Hp} {s : Shared}
theorem nso_get {D : Addr} {M : List (NestedKey × Addr)} (I : Inv X pins σ H s) (hD : H D = some (NSO X.prog X.w D M)) (ks : KeysN H M) : ∃ es ep t, NesSet X.prog X.w s.heap D M es ep t := by
  have R : NesS0 X.prog X.w s.heap D M := (I.hok D _ hD).1
  exact R.full fun m hm => key_nest I.hok (ks m hm).1 (ks m hm).2
def rSetN (X : Cx) : List V → Hp → VK → Prop := fun xs H Q => ∃ (l : Addr) (LA : List (NestedKey × Addr)), xs = [.ref l] ∧ (SqL X.K H l (LA.map fun m => V.ref m.2) ∨ SqT X.K H l (LA.map fun m => V.ref m.2)) ∧ KeysN H LA ∧ LA.length ≤ 62 ∧ (∀ m ∈ LA, m.2 ≠ l) ∧
  ∀ r M, H r = none → (M.map fun m : NestedKey × Addr => m.1).Nodup → (∀ k, k ∈ M.map (fun m => m.1) ↔ k ∈ LA.map (fun m => m.1)) → (∀ m ∈ M, m ∈ LA) → M.length ≤ LA.length → Q (.ref r) (upd H r (NSO X.prog X.w r M))
theorem vals_refsN : ∀ {LA : List (NestedKey × Addr)} {us : List Value}, Vals (LA.map fun m => V.ref m.2) us → us = LA.map fun m => Value.ref m.2
  | [], us, h => by cases h; rfl
  | m :: LA, us, h => by
    cases h with
    | cons h t =>
      cases h
      rw [List.map_cons, vals_refsN t]
theorem call_setN (hc : X.calm = true) (hu : X.A.units + 65 < cLine) : CallR X (.type "set") (rSetN X) := by
  intro pins s σ H xs us Q I r h
  obtain ⟨l, LA, rfl, hq, ks, few, ne, q⟩ := h
  obtain ⟨u, rfl, ru⟩ := vals1 r
  cases ru
  have kd : ∀ m ∈ LA, (NKd X.prog X.w).is s.heap m.1 m.2 := fun m hm => key_nest I.hok (ks m hm).1 (ks m hm).2
  have fin : ∀ (h2 : Heap) (tk : Nat), NesAll X.prog X.w h2 s.heap.objs.size LA → (∀ b o, s.heap.get? b = some o → h2.get? b = some o) → (EP X pins σ Q) (.ref s.heap.objs.size) { s with heap := h2, toks := tk } := fun h2 tk all keep => by
    obtain ⟨M, es, ep, t, R, mem, sub, le⟩ := all
    have fresh : H s.heap.objs.size = none := I.hok.fresh (Nat.le_refl _)
    exact ⟨.ref s.heap.objs.size, _, I.laid (t' := tk) keep (Nat.le_refl _) (nso_ok R.s0), rfl, q _ M fresh R.once mem sub le⟩
  rcases hq with hq | hq
  · obtain ⟨its, r, pl, hz⟩ := I.list hq
    exact nes_set_list LA (I.ok.hd hc) pl.isList (by simpa using vals_refsN r) few kd ne (by omega) fin
  · obtain ⟨its, r, pl, hz⟩ := I.tuple hq
    exact nes_set_tuple LA (I.ok.hd hc) pl (by simpa using vals_refsN r) few kd ne (by omega) fin
end
section
variable {P : Program} {w : World} {A : Around} {E : Value → Shared → Prop} {s : Shared} {a : Addr}
/-- sorted of such a set; the members read as the data enc -/
theorem sortNs {β : Type} {bs : List β} {ad : β → Addr} {kf : β → NestedKey} {M : List (NestedKey × Addr)} {es : Array (Int × Value)} {ep : Nat} {t : SetTable} {enc : β → PyData} (R : NesSet P w s.heap a M es ep t) (hh : A.handled = none)
    (hM : M = bs.map fun z => (kf z, ad z)) (rd : ∀ (h' : Heap), (∀ c o, s.heap.get? c = some o → h'.get? c = some o) → ∀ z ∈ bs, ∃ as, Reads h' (.ref (ad z)) (enc z) as ∧ ∀ c ∈ as, c < s.heap.objs.size) (ok : okG (bs.map enc) = true) (hu : A.units + 64 < cLine) {Q : Value → Shared → Prop}
    (fin : ∀ s' p (bs2 : List β) (c : Nat) (out : Array Value), (∀ c o, s.heap.get? c = some o → s'.heap.get? c = some o) → s'.gens = s.gens → s'.os = s.os → s.heap.objs.size ≤ p → s'.heap.get? p = some (seqObj "list" out c) → bs2.Perm bs → out.toList = (bs2.mergeSort (W.dataLe false enc)).map (fun z => Value.ref (ad z)) → Q (.ref p) s') :
    wpAny (model P w) A (call (.builtin "sorted") [.ref a]) Q E s := by
  obtain ⟨o, ho, hex, hd⟩ := R.here
  refine Calls.call_function_entry kind_sorted plain_sorted entry_sorted (args_sorted1 _) ?_
  unfold Builtin.«sorted»
  refine wpAny_bind (m := checkCount "sorted" 1 1 _) (wpAny_pure (wpAny_bind (collect_set (A := A.in1) hh ⟨o, ho, hex.1, hd⟩ R.fit (by rw [R.cnt]; have := R.le63; have : scanBound = 4096 := rfl; omega) R.lay.ris R.ord fun s1 vs k1 hz g1 o1 pm1 => ?_)))
  rw [R.rows, List.map_map] at pm1
  have pm2 : vs.Perm (bs.map fun z => Value.ref (ad z)) := by
    rw [hM, List.map_map] at pm1
    exact pm1
  obtain ⟨bs2, hb2, hv⟩ : ∃ bs2 : List β, bs2.Perm bs ∧ vs = bs2.map fun z => Value.ref (ad z) := perm_lift pm2
  have lv : vs.length ≤ 63 := by
    rw [pm1.length_eq, List.length_map]; exact R.le63
  refine wpAny_bind (wpAny_newList ?_ (by rw [sizeLine_eq]; omega))
  have at_l : (s1.heap.push (seqObj "list" vs.toArray 0)).get? s1.heap.objs.size = some (seqObj "list" vs.toArray 0) := Heap.get?_push_size _ rfl
  have old : ∀ c o, s.heap.get? c = some o → (s1.heap.push (seqObj "list" vs.toArray 0)).get? c = some o := fun c o z => Heap.get?_push_of_some _ (k1 c o z)
  have mm : ∀ {d : PyData}, d ∈ bs2.map enc → d ∈ bs.map enc := fun h => (hb2.map enc).mem_iff.mp h
  refine wpAny_bind (wpAny_holding (W.list_sort_data (s := { s1 with heap := s1.heap.push (seqObj "list" vs.toArray 0) }) (enc := enc) (bs := bs2) (R := fun v z => v = Value.ref (ad z)) at_l (by rw [hv]; exact each_map_of bs2 fun z _ => rfl) (by
    rw [hv]
    refine each_map_of bs2 fun z hz' => ?_
    obtain ⟨as, r1, r2⟩ := rd _ old z (hb2.mem_iff.mp hz')
    exact ⟨as, by rw [← hv]; exact r1, fun y => absurd (r2 _ y) (Nat.not_lt.mpr hz)⟩) (fun d h d' h' => okG_al ok d (mm h) d' (mm h')) (by
    rcases okG_so ok with q | q
    · exact .inl fun d h => q d (mm h)
    · exact .inr fun d h => q d (mm h)) (by
    have : bs2.length = vs.length := by rw [hv, List.length_map]
    rw [sizeLine_eq]; omega) (fun z hz' => by
    have := okG_dep ok (enc z) (List.mem_map.mpr ⟨z, hb2.mem_iff.mp hz', rfl⟩)
    have e : A.in1.units = A.units + 1 := rfl
    omega) fun out ho2 eo => ?_))
  obtain ⟨c, hc⟩ := sortedHeap_at (vs := vs) (out := out.toArray) at_l
  show wpAny _ _ (ret (Value.ref s1.heap.objs.size)) _ _ _
  refine wpAny_pure ⟨_, rfl, fin _ s1.heap.objs.size bs2 c out.toArray (fun b u e => ?_) g1 o1 hz hc hb2 (out_map eo)⟩
  have q := k1 b u e
  have lt := Heap.lt_size q
  show (sortedHeap (s1.heap.push (seqObj "list" vs.toArray 0)) s1.heap.objs.size vs out.toArray).get? b = some u
  rw [sortedHeap_old (Nat.ne_of_lt lt) (by rw [Heap.size_push]; exact Nat.lt_succ_of_lt lt)]
  exact Heap.get?_push_of_some _ q
end
section
variable {X : Cx}
/-- sorted of a set of tuples -/
def rSortNS (X : Cx) : List V → Hp → VK → Prop := fun xs H Q => ∃ (a : Addr) (M : List (NestedKey × Addr)), xs = [.ref a] ∧ H a = some (NSO X.prog X.w a M) ∧ KeysN H M ∧ okG (M.map fun m => m.1.data) = true ∧
  ∀ (p : Addr) (M2 : List (NestedKey × Addr)), H p = none → M2.Perm M → Q (.ref p) (upd H p (.lst ((M2.mergeSort (W.dataLe false fun m : NestedKey × Addr => m.1.data)).map fun m => V.ref m.2)))
theorem cr_sortNS (hc : X.calm = true) (hu : X.A.units + 65 < cLine) : CallR X (.builtin "sorted") (rSortNS X) := by
  intro pins s σ H xs us Q I r h
  obtain ⟨a, M, rfl, hA, ks, ok, q⟩ := h
  obtain ⟨u, rfl, ru⟩ := vals1 r
  cases ru
  obtain ⟨es, ep, t, R⟩ := nso_get I hA ks
  refine sortNs (bs := M) (ad := fun m => m.2) (kf := fun m => m.1) (enc := fun m => m.1.data) R (I.ok.hd hc) (by simp) (fun h' keep z hz => ⟨[], nk_reads (I.kept (t' := s.toks) (h' := h') keep).hok z.1 _ _ (ks z hz).1 rfl, fun c hc => (nomatch hc)⟩) ok (by omega) fun s' p M2 c out k gn os hp hat pm ho => ?_
  obtain ⟨L, hL⟩ : ∃ L : List (NestedKey × Addr), L = M2.mergeSort (W.dataLe false fun m : NestedKey × Addr => m.1.data) := ⟨_, rfl⟩
  rw [← hL] at ho
  have fresh : H p = none := I.hok.fresh hp
  have hv : Vals (L.map fun m => V.ref m.2) out.toList := by
    rw [ho]
    generalize L = L
    induction L with
    | nil => exact .nil
    | cons m L ih => exact .cons rfl ih
  have hlen : (L.map fun m => V.ref m.2).length ≤ sizeLine := by
    rw [List.length_map, hL, (List.mergeSort_perm _ _).length_eq, pm.length_eq, sizeLine_eq]
    have := R.le63
    omega
  have J : Inv X pins σ (upd H p (.lst (L.map fun m => V.ref m.2))) ⟨s'.heap, s'.gens, s'.drawn, s'.toks, s.os⟩ :=
    Inv.call (s := s) (h' := s'.heap) (g' := s'.gens) (d' := s'.drawn) (t' := s'.toks) I (ch := []) (Un.laid k hp fresh) (I.hok.laid k hp ⟨hlen, out.toList, c, hv, hat⟩) (by rw [gn]; exact I.bare) (fun _ z => nomatch z)
  have e : s' = ⟨s'.heap, s'.gens, s'.drawn, s'.toks, s.os⟩ := by
    cases s'
    cases s
    cases os
    rfl
  rw [e]
  have qq := q p M2 fresh pm
  rw [← hL] at qq
  exact ⟨.ref p, _, J, rfl, qq⟩
end
end Dv
namespace Dv
open PySem PySem.Spec PyProof.Rows L2
def nubN : List NestedKey → List NestedKey
  | [] => []
  | k :: ks => if hasN ks k = true then nubN ks else k :: nubN ks
theorem hasN_iff {ks : List NestedKey} {k : NestedKey} : hasN ks k = true ↔ k ∈ ks := by
  unfold hasN
  rw [List.any_eq_true]
  exact ⟨fun ⟨j, hj, e⟩ => by rw [← of_decide_eq_true e]; exact hj, fun h => ⟨k, h, decide_eq_true rfl⟩⟩
theorem mem_nubN {z : NestedKey} : ∀ {l : List NestedKey}, z ∈ nubN l ↔ z ∈ l
  | [] => Iff.rfl
  | k :: ks => by
    unfold nubN
    split
    · rename_i h
      rw [mem_nubN, List.mem_cons]
      exact ⟨.inr, fun q => q.elim (fun e => by rw [e]; exact hasN_iff.mp h) id⟩
    · rw [List.mem_cons, List.mem_cons, mem_nubN]
theorem nodup_nubN : ∀ l : List NestedKey, (nubN l).Nodup
  | [] => List.Pairwise.nil
  | k :: ks => by
    unfold nubN
    split
    · exact nodup_nubN ks
    · rename_i h
      exact List.nodup_cons.mpr ⟨fun z => h (hasN_iff.mpr (mem_nubN.mp z)), nodup_nubN ks⟩
def keysN : List D → Option (List NestedKey)
  | [] => some []
  | d :: r => (nkT d).bind fun k => (keysN r).map fun ks => k :: ks
def srtND (ds : List D) : Option D := (keysN ds).bind fun ks => if ds.length ≤ 62 ∧ okG (ks.map NestedKey.data) = true then some (.lst (sortG ((nubN ks).map nkD))) else none
def srtSetND : D → Option D
  | .lst ds => srtND ds
  | .tup ds => srtND ds
  | _ => none
def mSortSetN (m : M) : M := fun env u => bnd (m env u) fun d u1 => lft (srtSetND d) u1
theorem mSortSetN_eq {m : M} {env : List Sl} {u u1 : U} {d e : D} (h : m env u = some (d, u1)) (h2 : srtSetND d = some e) : mSortSetN m env u = some (e, u1) := by
  unfold mSortSetN; rw [h]; show lft (srtSetND d) u1 = _; rw [h2]; rfl
section
variable {X : Cx} {G : Gx X.K} {ua : Option Addr} {B : Hp}
theorem keysN_rep : ∀ {ds : List D} {ks : List NestedKey} {vs : List V}, keysN ds = some ks → Reps G ua ds vs B → ∃ LA : List (NestedKey × Addr), vs = (LA.map fun m => V.ref m.2) ∧ LA.map (fun m => m.1) = ks ∧ KeysN B LA
  | [], ks, vs, h, r => by
    have h : some ([] : List NestedKey) = some ks := h
    cases h
    exact ⟨[], by rw [r.of_nil]; rfl, rfl, fun m hm => (nomatch hm)⟩
  | d :: ds, ks, vs, h, r => by
    obtain ⟨k, h1, h2⟩ := Option.bind_eq_some_iff.mp h
    obtain ⟨ks2, h3, rfl⟩ := map_some h2
    obtain ⟨v, r', rfl, r1, r2⟩ := r.of_cons
    obtain ⟨b, rfl, hb, dp⟩ := nkT_rep h1 r1
    obtain ⟨LA, e1, e2, e3⟩ := keysN_rep h3 r2
    exact ⟨(k, b) :: LA, by rw [e1]; rfl, by rw [List.map_cons, e2], fun m hm => (List.mem_cons.mp hm).elim (fun z => by rw [z]; exact ⟨hb, dp⟩) (e3 m)⟩
mutual
theorem NKey.one : ∀ (j k : NestedKey) (v : V), NKey B j v → NKey B k v → j = k
  | .none, k, v, h, g => by
    unfold NKey at h
    subst h
    cases k with
    | none => rfl
    | num i => unfold NKey at g; cases g
    | text x => unfold NKey at g; cases g
    | tup ks => unfold NKey at g; obtain ⟨_, _, e, _⟩ := g; cases e
  | .num i, k, v, h, g => by
    unfold NKey at h
    subst h
    cases k with
    | none => unfold NKey at g; cases g
    | num i => unfold NKey at g; cases g; rfl
    | text x => unfold NKey at g; cases g
    | tup ks => unfold NKey at g; obtain ⟨_, _, e, _⟩ := g; cases e
  | .text x, k, v, h, g => by
    unfold NKey at h
    subst h
    cases k with
    | none => unfold NKey at g; cases g
    | num i => unfold NKey at g; cases g
    | text x => unfold NKey at g; cases g; rfl
    | tup ks => unfold NKey at g; obtain ⟨_, _, e, _⟩ := g; cases e
  | .tup js, k, v, h, g => by
    unfold NKey at h
    obtain ⟨a, vs, rfl, hb, hs⟩ := h
    cases k with
    | none => unfold NKey at g; cases g
    | num i => unfold NKey at g; cases g
    | text x => unfold NKey at g; cases g
    | tup ks =>
      unfold NKey at g
      obtain ⟨a2, vs2, e, gb, gs⟩ := g
      cases e
      have : vs = vs2 := by
        have h1 := tupH_of hb
        rw [tupH_of gb] at h1
        injection h1 with h1
        injection h1 with h1
        exact h1.symm
      subst this
      rw [NKeys.one js ks vs hs gs]
theorem NKeys.one : ∀ (js ks : List NestedKey) (vs : List V), NKeys B js vs → NKeys B ks vs → js = ks
  | [], ks, vs, h, g => by
    unfold NKeys at h
    subst h
    cases ks with
    | nil => rfl
    | cons k ks => unfold NKeys at g; obtain ⟨_, _, e, _⟩ := g; cases e
  | j :: js, ks, vs, h, g => by
    unfold NKeys at h
    obtain ⟨v, r, rfl, h1, h2⟩ := h
    cases ks with
    | nil => unfold NKeys at g; cases g
    | cons k ks =>
      unfold NKeys at g
      obtain ⟨v2, r2, e, g1, g2⟩ := g
      cases e
      rw [NKey.one j k v h1 g1, NKeys.one js ks r h2 g2]
end
theorem nkeys_mem : ∀ {ks : List NestedKey} {vs : List V} {v : V}, NKeys B ks vs → v ∈ vs → ∃ k ∈ ks, NKey B k v
  | [], vs, v, h, hv => by unfold NKeys at h; rw [h] at hv; cases hv
  | k :: ks, vs, v, h, hv => by
    unfold NKeys at h
    obtain ⟨v2, r, rfl, h1, h2⟩ := h
    rcases List.mem_cons.mp hv with rfl | hv
    · exact ⟨k, List.mem_cons_self, h1⟩
    · obtain ⟨j, hj, e⟩ := nkeys_mem h2 hv
      exact ⟨j, List.mem_cons_of_mem _ hj, e⟩
/-- the row itself is none of its members -/
theorem nrow_apart {l : Addr} {LA : List (NestedKey × Addr)} (hl : TupB B l (LA.map fun m => V.ref m.2)) (hm : KeysN B LA) : ∀ m ∈ LA, m.2 ≠ l := fun m h e => by
  have hk := (hm m h).1
  rw [e] at hk
  obtain ⟨k, hke⟩ : ∃ k, k = m.1 := ⟨_, rfl⟩
  rw [← hke] at hk
  cases k with
  | none => unfold NKey at hk; cases hk
  | num i => unfold NKey at hk; cases hk
  | text x => unfold NKey at hk; cases hk
  | tup ks =>
    have hk0 := hk
    unfold NKey at hk
    obtain ⟨a, vs, ea, hb, hs⟩ := hk
    cases ea
    have ev : vs = LA.map fun m => V.ref m.2 := by
      have h1 := tupH_of hb
      rw [tupH_of hl] at h1
      injection h1 with h1
      injection h1 with h1
      exact h1.symm
    have mv : V.ref l ∈ vs := by
      rw [ev]
      exact List.mem_map.mpr ⟨m, h, by rw [e]⟩
    obtain ⟨j, hj, g⟩ := nkeys_mem hs mv
    have := NKey.one _ _ _ g hk0
    have s := List.sizeOf_lt_of_mem hj
    rw [this] at s
    simp at s
    omega
theorem nrow_lst {l : Addr} {vs : List V} {LA : List (NestedKey × Addr)} (hl : B l = some (.lst vs)) (hm : KeysN B LA) : ∀ m ∈ LA, m.2 ≠ l := fun m h e => by
  have hk := (hm m h).1
  rw [e] at hk
  cases q : m.1 with
  | none => rw [q] at hk; unfold NKey at hk; cases hk
  | num i => rw [q] at hk; unfold NKey at hk; cases hk
  | text x => rw [q] at hk; unfold NKey at hk; cases hk
  | tup ks =>
    rw [q] at hk
    unfold NKey at hk
    obtain ⟨a, vs2, ea, ⟨o, _, hb⟩, _⟩ := hk
    cases ea
    rw [hl] at hb
    cases hb
theorem KeysN.mono {B' : Hp} {M : List (NestedKey × Addr)} (h : KeysN B M) (s : Same B B') : KeysN B' M := fun m hm => ⟨NKey.mono s _ _ (h m hm).1, (h m hm).2⟩
theorem reps_nests : ∀ {L : List (NestedKey × Addr)}, KeysN B L → Reps G ua (L.map fun m => nkD m.1) (L.map fun m => V.ref m.2) B
  | [], _ => .nil
  | m :: L, h => .cons (rep_nkD m.1 _ (h m List.mem_cons_self).1) (reps_nests fun z hz => h z (List.mem_cons_of_mem _ hz))
theorem dv_sortSetN {a : Expr} {ma : M} {p p2 pos q1 : Pos} (hc : X.calm = true) (hu : X.A.units + 65 < cLine) (hg : Gl X "sorted") (hm : X.mg "sorted" = none) (hg2 : Gl X "set") (hm2 : X.mg "set" = none) (ha : PE X a (tEv G ma))
    (na : starEach [a] X.env = (false, eval a X.env) :: starEach [] X.env := by rfl)
    (ns : starEach [Expr.Call (.Name "set" p2) [a] [] q1] X.env = (false, eval (.Call (.Name "set" p2) [a] [] q1) X.env) :: starEach [] X.env := by rfl) :
    PE X (.Call (.Name "sorted" p) [.Call (.Name "set" p2) [a] [] q1] [] pos) (tEv G (mSortSetN ma)) := by
  have bset : bootBuiltins "set" = some (.type "set") := by decide +kernel
  have pA := pe_callTy (p := p2) (pos := q1) (call_setN hc hu) hg2 hm2 bset (pa_cons ha pa_nil na) (he := na)
  refine (pe_callB (p := p) (pos := pos) (cr_sortNS hc hu) hg hm (by decide +kernel) (pa_cons pA pa_nil ns) (he := ns)).imp fun σ H Q h => ?_
  obtain ⟨ua, u, B, env, d, u', hE, hW, hmm, q⟩ := h
  obtain ⟨d0, u1, h1, h2⟩ := bnd_some hmm
  obtain ⟨h5, rfl⟩ := lft_some h2
  refine ⟨ua, u, B, env, d0, _, hE, hW, h1, fun v H1 ⟨B1, g1, w1, r1⟩ => ?_⟩
  have core : ∀ (ds : List D) (l : Addr) (vs : List V), srtND ds = some d → Reps G ua ds vs B1 → (SqL X.K H1 l vs ∨ SqT X.K H1 l vs) → (∀ LA : List (NestedKey × Addr), (vs = LA.map fun m => V.ref m.2) → KeysN B1 LA → ∀ m ∈ LA, m.2 ≠ l) → rSetN X [.ref l] H1 (fun x H2 => rSortNS X [x] H2 Q) := fun ds l vs hd rs hq ap => by
    unfold srtND at hd
    obtain ⟨ks, hk, h6⟩ := Option.bind_eq_some_iff.mp hd
    split at h6
    · rename_i fw
      cases h6
      obtain ⟨f1, f2⟩ := fw
      obtain ⟨LA, rfl, eA, kA⟩ := keysN_rep hk rs
      have lA : LA.length = ds.length := by rw [rs.len, List.length_map]
      refine ⟨l, LA, rfl, hq, kA.mono w1.sub, by omega, ap LA rfl kA, fun r M hr nM mM sM leM => ?_⟩
      have go1 : Grow ua B1 H1 B1 (upd H1 r (NSO X.prog X.w r M)) := .own1 w1 hr
      have wo1 : Wd ua u' B1 (upd H1 r (NSO X.prog X.w r M)) := w1.own1 hr
      have kM : KeysN B1 M := fun m hm => kA m (sM m hm)
      have ok : okG (M.map fun m => m.1.data) = true := okG_sub f2 fun p hp => by
        obtain ⟨m, hm, rfl⟩ := List.mem_map.mp hp
        rw [← eA]
        exact List.mem_map.mpr ⟨m.1, List.mem_map.mpr ⟨m, sM m hm, rfl⟩, rfl⟩
      refine ⟨r, M, rfl, upd_same, kM.mono wo1.sub, ok, fun p M2 hp pm => ?_⟩
      have pk : (M2.map fun m => m.1).Perm (nubN ks) := (pm.map _).trans ((List.perm_ext_iff_of_nodup nM (nodup_nubN ks)).mpr fun k => by rw [mM, eA, mem_nubN])
      have ok2 : okG ((M2.map fun m => m.1).map NestedKey.data) = true := by
        refine okG_sub f2 fun p hp => ?_
        obtain ⟨k, hk2, rfl⟩ := List.mem_map.mp hp
        exact List.mem_map.mpr ⟨k, mem_nubN.mp (pk.subset hk2), rfl⟩
      have e1 : sortG ((nubN ks).map nkD) = (M2.mergeSort (W.dataLe false fun m : NestedKey × Addr => m.1.data)).map fun m => nkD m.1 := by
        rw [← sortG_nest pk ok2, sortG_eq, List.map_map]
        refine (W.sort_maps (f := fun m : NestedKey × Addr => nkD m.1) fun a _ b _ => ?_).symm
        show (!W.dataLt _ _) = (!W.dataLt (pyD (nkD b.1)) (pyD (nkD a.1)))
        rw [pyD_nkD, pyD_nkD]
      rw [e1] at q
      exact q _ _ (.up (g1.trans go1) (.lst wo1 hp (reps_nests fun m hm => kM m (pm.mem_iff.mp ((List.mergeSort_perm _ _).mem_iff.mp hm)))))
    · cases h6
  unfold srtSetND at h5
  split at h5
  · obtain ⟨l, vs, rfl, hl, rs⟩ := r1.lst
    exact core _ l vs h5 rs (.inl (.of (w1.sub _ _ hl))) fun LA e k => nrow_lst hl k
  · obtain ⟨l, vs, rfl, hl, rs⟩ := r1.tup
    exact core _ l vs h5 rs (.inr (hl.mono w1.sub).sq) fun LA e k => nrow_apart (by rw [← e]; exact hl) k
  · cases h5
end
end Dv
namespace Dv
open PySem PySem.Spec PyProof.Rows L2
def bStrI : List D → Option D
  | [.int i] => if i.natAbs.log2 < 1920 then some (.str (toString i)) else none
  | _ => none
section
variable {X : Cx} {G : Gx X.K}
theorem ok_strI : BiOk G (.type "str") bStrI := by
  intro ua u B H ds d vs e rs w
  unfold bStrI at e
  split at e
  · split at e
    · rename_i hz
      cases e
      obtain ⟨v, t, rfl, r1, r2⟩ := rs.of_cons
      rw [r2.of_nil]
      cases r1.int
      exact ⟨_, call_str_int, _, rfl, hz, .here w rep_str⟩
    · cases e
  · cases e
end
end Dv
namespace Lw65
open PySem PySem.Spec PyProof.Rows L2 Dv
def topS (i : Nat) : Stmt := PySem.Challenge.pw_lateshown_k65_wishes_or_none_kept_or_not.main.body.getD i (.Pass ⟨0, 0, 0, 0⟩)
structure Tx (mg : Str → Option Value) : Prop where
  n_abs : mg ("abs" : Str) = none
  n_all : mg ("all" : Str) = none
  n_bool : mg ("bool" : Str) = none
  n_dict : mg ("dict" : Str) = none
  n_enumerate : mg ("enumerate" : Str) = none
  n_int : mg ("int" : Str) = none
  n_isinstance : mg ("isinstance" : Str) = none
  n_len : mg ("len" : Str) = none
  n_list : mg ("list" : Str) = none
  n_range : mg ("range" : Str) = none
  n_set : mg ("set" : Str) = none
  n_sorted : mg ("sorted" : Str) = none
  n_str : mg ("str" : Str) = none
  n_tuple : mg ("tuple" : Str) = none
  n_zip : mg ("zip" : Str) = none
  c_FLUSH : ∃ t, mg ("FLUSH" : Str) = some (.str ("flush" : Str) t)
  c_LETTERS : ∃ t, mg ("LETTERS" : Str) = some (.str ("abcdefghijklmnopqrstuvwxyz" : Str) t)
  c_WRITE : ∃ t, mg ("WRITE" : Str) = some (.str ("write" : Str) t)
abbrev s_is_number : Stmt := topS 1
theorem sc_is_number : FnScope [("thing" : Str)] [("thing" : Str)] (defScope s_is_number) := ⟨rfl, rfl, rfl, by decide +kernel, rfl, by decide +kernel, by decide +kernel⟩
def m_is_number : MS := (sCons (sRet (mAnd (mIsi ["int"] (mVar 0)) (mNot (mIsi ["bool"] (mVar 0)))))
    sNil)
def F_is_number : List D → U → Option (D × U) := runB m_is_number 1
theorem ok_is_number {P : Program} {w : World} {K : PySem.W.Frag} {mg : Str → Option Value} {base : Heap} {G : Gx K} (T : Tx mg) {f : Addr} {fd : FuncData} (F : Fun K ("is_number" : Str) ("is_number" : Str) s_is_number f fd)  : FnOk P w K mg base CX0 1 f fd [("thing" : Str)] (spF G F_is_number 1) :=
  have nd := sc_is_number.nd
  def_ok F sc_is_number rfl fun cdv A outer s H E hr => (dss_cons (ds_ret (dv_and (dv_isi rfl T.n_isinstance (dv_var 0) rfl T.n_int (by decide +kernel)) (dv_one _ (dv_not (dv_isi rfl T.n_isinstance (dv_var 0) rfl T.n_bool (by decide +kernel))))))
    dss_nil)
abbrev s_is_pair : Stmt := topS 2
theorem sc_is_pair : FnScope [("thing" : Str)] [("thing" : Str)] (defScope s_is_pair) := ⟨rfl, rfl, rfl, by decide +kernel, rfl, by decide +kernel, by decide +kernel⟩
def m_is_pair : MS := (sCons (sRet (mAnd (mIsi ["tuple"] (mVar 0)) (mBin cEq (mBi bLen (mCons (mVar 0) mNil)) (mC (.int (2))))))
    sNil)
def F_is_pair : List D → U → Option (D × U) := runB m_is_pair 1
theorem ok_is_pair {P : Program} {w : World} {K : PySem.W.Frag} {mg : Str → Option Value} {base : Heap} {G : Gx K} (T : Tx mg) {f : Addr} {fd : FuncData} (F : Fun K ("is_pair" : Str) ("is_pair" : Str) s_is_pair f fd)  : FnOk P w K mg base CX0 1 f fd [("thing" : Str)] (spF G F_is_pair 1) :=
  have nd := sc_is_pair.nd
  def_ok F sc_is_pair rfl fun cdv A outer s H E hr => (dss_cons (ds_ret (dv_and (dv_isi rfl T.n_isinstance (dv_var 0) rfl T.n_tuple (by decide +kernel)) (dv_one _ (dv_cmp (ok_eq (hU64 hr)) (dv_bi ok_len rfl T.n_len (by decide +kernel) (dvs_cons (dv_var 0) dvs_nil)) dv_int))))
    dss_nil)
abbrev s_is_name : Stmt := topS 13
theorem sc_is_name : FnScope [("thing" : Str), ("letter" : Str)] [("thing" : Str)] (defScope s_is_name) := ⟨rfl, rfl, rfl, by decide +kernel, rfl, by decide +kernel, by decide +kernel⟩
def m_is_name : MS := (sCons (sIf (mOrB (mNotB (mTru (mIsi ["str"] (mVar 0)))) (mNotB (mTru (mChain cLe cLe (mC (.int (1))) (mBi bLen (mCons (mVar 0) mNil)) (mC (.int (8))))))) (sCons (sRet (mC (.bl false)))
    sNil) sNil)
    (sCons (sRet (mBi bAll (mCons (mLc (.one 1) [1] (mItems (mVar 0)) mYes (mBin cIn (mVar 1) (mC (.str ("abcdefghijklmnopqrstuvwxyz" : Str))))) mNil)))
    sNil))
def F_is_name : List D → U → Option (D × U) := runB m_is_name 2
theorem ok_is_name {P : Program} {w : World} {K : PySem.W.Frag} {mg : Str → Option Value} {base : Heap} {G : Gx K} (T : Tx mg) {f : Addr} {fd : FuncData} (F : Fun K ("is_name" : Str) ("is_name" : Str) s_is_name f fd)  : FnOk P w K mg base CX0 1 f fd [("thing" : Str)] (spF G F_is_name 1) :=
  have nd := sc_is_name.nd
  def_ok F sc_is_name rfl fun cdv A outer s H E hr => (dss_cons (ds_if (PW.pt (dw_or (dt_not (dt_val (dv_isi rfl T.n_isinstance (dv_var 0) rfl T.n_str (by decide +kernel)))) (dw_or1 (dt_not (dt_chain ok_le ok_le bf_le dv_int (dv_bi ok_len rfl T.n_len (by decide +kernel) (dvs_cons (dv_var 0) dvs_nil)) dv_int))))) (dss_cons (ds_ret dv_bl)
    dss_nil) dss_nil)
    (dss_cons (ds_ret (dv_bi (ok_all (by rfl)) rfl T.n_all (by decide +kernel) (dvs_cons (dv_lc (.one 1) [1] rfl nd (di_items (dv_var 0)) (blkOk_by (own := [(("letter" : Str), 1)]) (N := [("thing" : Str), ("letter" : Str)]) (sc := defScope s_is_name) (by decide +kernel)) rfl (by decide) (fun _ _ _ _ _ => (pg_name (i := 1) nd rfl (by first | exact Or.inl rfl | exact Or.inr rfl))) (fun _ _ _ _ _ => dts_no) (fun _ _ _ _ _ => (dv_cmp (ok_in (hU65 hr)) (dv_var 1) (dv_gS rfl T.c_LETTERS)))) dvs_nil)))
    dss_nil))
abbrev s_is_line : Stmt := topS 14
theorem sc_is_line : FnScope [("thing" : Str)] [("thing" : Str)] (defScope s_is_line) := ⟨rfl, rfl, rfl, by decide +kernel, rfl, by decide +kernel, by decide +kernel⟩
def m_is_line : MS := (sCons (sRet (mAnd (mCall 1 F_is_pair (mCons (mVar 0) mNil)) (mAnd (mCall 1 F_is_name (mCons (mBin ixD (mVar 0) (mC (.int (0)))) mNil)) (mAnd (mCall 1 F_is_number (mCons (mBin ixD (mVar 0) (mC (.int (1)))) mNil)) (mBin cGe (mBin ixD (mVar 0) (mC (.int (1)))) (mC (.int (1))))))))
    sNil)
def F_is_line : List D → U → Option (D × U) := runB m_is_line 1
theorem ok_is_line {P : Program} {w : World} {K : PySem.W.Frag} {mg : Str → Option Value} {base : Heap} {G : Gx K} (T : Tx mg) {f : Addr} {fd : FuncData} (F : Fun K ("is_line" : Str) ("is_line" : Str) s_is_line f fd) (D_is_name : DefOk P w mg base G ("is_name" : Str) 1 1 F_is_name) (D_is_number : DefOk P w mg base G ("is_number" : Str) 1 1 F_is_number) (D_is_pair : DefOk P w mg base G ("is_pair" : Str) 1 1 F_is_pair) : FnOk P w K mg base CX0 2 f fd [("thing" : Str)] (spF G F_is_line 1) :=
  have nd := sc_is_line.nd
  def_ok F sc_is_line rfl fun cdv A outer s H E hr => (dss_cons (ds_ret (dv_and (dv_call (D_is_pair.mono (by decide)) hr rfl (dvs_cons (dv_var 0) dvs_nil)) (dv_and (dv_call (D_is_name.mono (by decide)) hr rfl (dvs_cons (dv_ix (dv_var 0) dv_int) dvs_nil)) (dv_and (dv_call (D_is_number.mono (by decide)) hr rfl (dvs_cons (dv_ix (dv_var 0) dv_int) dvs_nil)) (dv_one _ (dv_cmp ok_ge (dv_ix (dv_var 0) dv_int) dv_int))))))
    dss_nil)
abbrev s_tupled : Stmt := topS 3
theorem sc_tupled : FnScope [("worth" : Str), ("part" : Str)] [("worth" : Str)] (defScope s_tupled) := ⟨rfl, rfl, rfl, by decide +kernel, rfl, by decide +kernel, by decide +kernel⟩
def m_tupled (F_tupled_ : List D → U → Option (D × U)) : MS := (sCons (sIf (mTru (mIsi ["list", "tuple"] (mVar 0))) (sCons (sRet (mBi bTuple (mCons (mLc (.one 1) [1] (mItems (mVar 0)) mYes (mCall 1 F_tupled_ (mCons (mVar 1) mNil))) mNil)))
    sNil) sNil)
    (sCons (sRet (mVar 0))
    sNil))
def FR_tupled : Nat → List D → U → Option (D × U)
  | 0 => fun _ _ => none
  | n + 1 => runB (m_tupled (FR_tupled n)) 2
theorem okR_tupled {P : Program} {w : World} {K : PySem.W.Frag} {mg : Str → Option Value} {base : Heap} {G : Gx K} (T : Tx mg) {f : Addr} {fd : FuncData} (F : Fun K ("tupled" : Str) ("tupled" : Str) s_tupled f fd) (hm : mg ("tupled" : Str) = some (.ref f)) (hb : Binds K fd [("worth" : Str)] [])  : ∀ n : Nat, FnOk P w K mg base CX0 (0 + n) f fd [("worth" : Str)] (spF G (FR_tupled n) 1)
  | 0 => ⟨fun _ _ _ _ h => (by obtain ⟨_, _, _, _, _, _, _, _, _, h, _⟩ := h; cases h), fun _ _ _ _ _ _ _ _ _ _ _ _ _ h => (by obtain ⟨_, _, _, _, _, _, _, _, _, h, _⟩ := h; cases h)⟩
  | n + 1 =>
    have nd := sc_tupled.nd
    have D_tupled : DefOk P w mg base G ("tupled" : Str) (0 + n) 1 (FR_tupled n) := ⟨f, fd, _, okR_tupled T F hm hb  n, hm, F.kp, hb⟩
    def_ok (k := 0 + n) F sc_tupled rfl fun cdv A outer s H E hr => (dss_cons (ds_if (dt_val (dv_isi2 rfl T.n_isinstance (dv_var 0) rfl T.n_list (by decide +kernel) rfl T.n_tuple (by decide +kernel))) (dss_cons (ds_ret (dv_ty ok_tuple rfl T.n_tuple (by decide +kernel) (dvs_cons (dv_lc (.one 1) [1] rfl nd (di_items (dv_var 0)) (blkOk_by (own := [(("part" : Str), 1)]) (N := [("worth" : Str), ("part" : Str)]) (sc := defScope s_tupled) (by decide +kernel)) rfl (by decide) (fun _ _ _ _ _ => (pg_name (i := 1) nd rfl (by first | exact Or.inl rfl | exact Or.inr rfl))) (fun _ _ _ _ _ => dts_no) (fun _ _ _ _ _ => (dv_call (D_tupled) hr rfl (dvs_cons (dv_var 1) dvs_nil)))) dvs_nil)))
    dss_nil) dss_nil)
    (dss_cons (ds_ret (dv_var 0))
    dss_nil))
abbrev s_NoLine___init__ : Stmt := inClass (topS 5) 0
theorem sc_NoLine___init__ : FnScope [("self" : Str), ("line" : Str)] [("self" : Str), ("line" : Str)] (defScope s_NoLine___init__) := ⟨rfl, rfl, rfl, by decide +kernel, rfl, by decide +kernel, by decide +kernel⟩
def F_NoLine : List D → U → Option (D × U) := fun ds u => (mCall 1 (FR_tupled 6) (mCons (mVar 1) mNil)) (Sl.no :: ds.map Sl.pub) u
theorem ok_NoLine___init__ {P : Program} {w : World} {K : PySem.W.Frag} {mg : Str → Option Value} {base : Heap} {G : Gx K} (T : Tx mg) {C f : Addr} {fd : FuncData} {B newId initId : String} {bmB : List Value} (T0 : OxC K C B newId initId bmB) (hno : PySem.W.findIn K (.ref C) ("line" : Str) = some none) (F : Fun K "__init__" ("NoLine.__init__" : Str) s_NoLine___init__ f fd) (D_tupled : DefOk P w mg base G ("tupled" : Str) 6 1 (FR_tupled 6)) : FnOk P w K mg base CX0 7 f fd [("self" : Str), ("line" : Str)] (spEr G C ("line" : Str) F_NoLine) :=
  erInit_ok T0 hno F sc_NoLine___init__ rfl (fun cdv A outer s H E hr => (dv_call (D_tupled.mono (by decide)) hr rfl (dvs_cons (dv_var 1) dvs_nil))) (fun _ _ _ _ _ _ => by first | exact Or.inl rfl | exact Or.inr (Or.inl rfl)) (fun _ _ _ _ _ _ => rfl) (by decide) (by decide)
abbrev s_NoPlace___init__ : Stmt := inClass (topS 6) 0
theorem sc_NoPlace___init__ : FnScope [("self" : Str), ("place" : Str)] [("self" : Str), ("place" : Str)] (defScope s_NoPlace___init__) := ⟨rfl, rfl, rfl, by decide +kernel, rfl, by decide +kernel, by decide +kernel⟩
def F_NoPlace : List D → U → Option (D × U) := fun ds u => (mVar 1) (Sl.no :: ds.map Sl.pub) u
theorem ok_NoPlace___init__ {P : Program} {w : World} {K : PySem.W.Frag} {mg : Str → Option Value} {base : Heap} {G : Gx K} (T : Tx mg) {C f : Addr} {fd : FuncData} {B newId initId : String} {bmB : List Value} (T0 : OxC K C B newId initId bmB) (hno : PySem.W.findIn K (.ref C) ("place" : Str) = some none) (F : Fun K "__init__" ("NoPlace.__init__" : Str) s_NoPlace___init__ f fd)  : FnOk P w K mg base CX0 1 f fd [("self" : Str), ("place" : Str)] (spEr G C ("place" : Str) F_NoPlace) :=
  erInit_ok T0 hno F sc_NoPlace___init__ rfl (fun cdv A outer s H E hr => (dv_var 1)) (fun _ _ _ _ _ _ => by first | exact Or.inl rfl | exact Or.inr (Or.inl rfl)) (fun _ _ _ _ _ _ => rfl) (by decide) (by decide)
abbrev s_NoWish___init__ : Stmt := inClass (topS 8) 0
theorem sc_NoWish___init__ : FnScope [("self" : Str), ("wish" : Str)] [("self" : Str), ("wish" : Str)] (defScope s_NoWish___init__) := ⟨rfl, rfl, rfl, by decide +kernel, rfl, by decide +kernel, by decide +kernel⟩
def F_NoWish : List D → U → Option (D × U) := fun ds u => (mCall 1 (FR_tupled 6) (mCons (mVar 1) mNil)) (Sl.no :: ds.map Sl.pub) u
theorem ok_NoWish___init__ {P : Program} {w : World} {K : PySem.W.Frag} {mg : Str → Option Value} {base : Heap} {G : Gx K} (T : Tx mg) {C f : Addr} {fd : FuncData} {B newId initId : String} {bmB : List Value} (T0 : OxC K C B newId initId bmB) (hno : PySem.W.findIn K (.ref C) ("wish" : Str) = some none) (F : Fun K "__init__" ("NoWish.__init__" : Str) s_NoWish___init__ f fd) (D_tupled : DefOk P w mg base G ("tupled" : Str) 6 1 (FR_tupled 6)) : FnOk P w K mg base CX0 7 f fd [("self" : Str), ("wish" : Str)] (spEr G C ("wish" : Str) F_NoWish) :=
  erInit_ok T0 hno F sc_NoWish___init__ rfl (fun cdv A outer s H E hr => (dv_call (D_tupled.mono (by decide)) hr rfl (dvs_cons (dv_var 1) dvs_nil))) (fun _ _ _ _ _ _ => by first | exact Or.inl rfl | exact Or.inr (Or.inl rfl)) (fun _ _ _ _ _ _ => rfl) (by decide) (by decide)
def F_numbered : List D → U → Option (D × U) := numF
def writesL (ts : List D) (u : U) : Option (List D × U) := compL (turnL (.many [2, 3]) [2, 3] [.no, .no, .no, .no] (mTru (mBin cEq (mVar 2) (mC (.str ("write" : Str))))) (mVar 3)) ts u
def F_Program : List D → U → Option (D × U) := fun as u => match as with
  | [d] => bnd (FR_tupled 6 [d] u) fun t u1 => match t with
    | .tup ts => bnd (writesL ts u1) fun ws u2 => if ws.length ≤ sizeLine then bnd (F_numbered [.tup ws] u2) fun ls u3 => some (.ins "Program" ["_deeds", "_writes", "_lines"] [.tup ts, .tup ws, ls], u3) else none
    | _ => none
  | _ => none
def F_Program0 : List D → U → Option (D × U) := fun as u => match as with
  | [] => F_Program [.tup []] u
  | _ => none
abbrev s_deed_in : Stmt := topS 17
theorem sc_deed_in : FnScope [("text" : Str), ("stream" : Str)] [("text" : Str)] (defScope s_deed_in) := ⟨rfl, rfl, rfl, by decide +kernel, rfl, by decide +kernel, by decide +kernel⟩
def m_deed_in : MS := (sCons (sSet 1 (mBin rmpD (mVar 0) (mC (.str ("!" : Str)))))
    (sCons (sIf (mNotB (mTru (mCall 1 F_is_name (mCons (mVar 1) mNil)))) (sCons sNone
    sNil) sNil)
    (sCons (sRet (mTup (mCons (mIte (mTru (mBin stwD (mVar 0) (mC (.str ("!" : Str))))) (mC (.str ("flush" : Str))) (mC (.str ("write" : Str)))) (mCons (mVar 1) mNil))))
    sNil)))
def F_deed_in : List D → U → Option (D × U) := runB m_deed_in 2
theorem ok_deed_in {P : Program} {w : World} {K : PySem.W.Frag} {mg : Str → Option Value} {base : Heap} {G : Gx K} (T : Tx mg) {f : Addr} {fd : FuncData} (F : Fun K ("deed_in" : Str) ("deed_in" : Str) s_deed_in f fd) (D_is_name : DefOk P w mg base G ("is_name" : Str) 1 1 F_is_name) : FnOk P w K mg base CX0 2 f fd [("text" : Str)] (spF G F_deed_in 1) :=
  have nd := sc_deed_in.nd
  def_ok F sc_deed_in rfl fun cdv A outer s H E hr => (dss_cons (ds_set 1 nd (dv_rmp (dv_var 0) dv_str))
    (dss_cons (ds_if (dt_not (dt_val (dv_call (D_is_name.mono (by decide)) hr rfl (dvs_cons (dv_var 1) dvs_nil)))) (dss_cons ds_never
    dss_nil) dss_nil)
    (dss_cons (ds_ret (dv_tup (dvs_cons (dv_ite (dt_val (dv_stw (dv_var 0) dv_str)) (dv_gS rfl T.c_FLUSH) (dv_gS rfl T.c_WRITE)) (dvs_cons (dv_var 1) dvs_nil))))
    dss_nil)))
abbrev s_Program_deeds : Stmt := inClass (topS 18) 1
theorem sc_Program_deeds : FnScope [("self" : Str)] [("self" : Str)] (defScope s_Program_deeds) := ⟨rfl, rfl, rfl, by decide +kernel, rfl, by decide +kernel, by decide +kernel⟩
def m_Program_deeds : MS := (sCons (sRet (mFld ("Program" : Str) ("_deeds" : Str) (mVar 0)))
    sNil)
def F_Program_deeds : List D → U → Option (D × U) := runB m_Program_deeds 1
theorem ok_Program_deeds {P : Program} {w : World} {K : PySem.W.Frag} {mg : Str → Option Value} {base : Heap} {G : Gx K} (T : Tx mg) {f : Addr} {fd : FuncData} (F : Fun K ("deeds" : Str) ("Program.deeds" : Str) s_Program_deeds f fd) (FO__deeds : FldOk G ("Program" : Str) ("_deeds" : Str)) : FnOk P w K mg base CX0 1 f fd [("self" : Str)] (spF G F_Program_deeds 1) :=
  have nd := sc_Program_deeds.nd
  def_ok F sc_Program_deeds rfl fun cdv A outer s H E hr => (dss_cons (ds_ret (dv_fld FO__deeds (dv_var 0)))
    dss_nil)
abbrev s_Program_lines : Stmt := inClass (topS 18) 2
theorem sc_Program_lines : FnScope [("self" : Str)] [("self" : Str)] (defScope s_Program_lines) := ⟨rfl, rfl, rfl, by decide +kernel, rfl, by decide +kernel, by decide +kernel⟩
def m_Program_lines : MS := (sCons (sRet (mFld ("Program" : Str) ("_lines" : Str) (mVar 0)))
    sNil)
def F_Program_lines : List D → U → Option (D × U) := runB m_Program_lines 1
theorem ok_Program_lines {P : Program} {w : World} {K : PySem.W.Frag} {mg : Str → Option Value} {base : Heap} {G : Gx K} (T : Tx mg) {f : Addr} {fd : FuncData} (F : Fun K ("lines" : Str) ("Program.lines" : Str) s_Program_lines f fd) (FO__lines : FldOk G ("Program" : Str) ("_lines" : Str)) : FnOk P w K mg base CX0 1 f fd [("self" : Str)] (spF G F_Program_lines 1) :=
  have nd := sc_Program_lines.nd
  def_ok F sc_Program_lines rfl fun cdv A outer s H E hr => (dss_cons (ds_ret (dv_fld FO__lines (dv_var 0)))
    dss_nil)
abbrev s_Program_of : Stmt := inClass (topS 18) 6
theorem sc_Program_of : FnScope [("text" : Str), ("word" : Str)] [("text" : Str)] (defScope s_Program_of) := ⟨rfl, rfl, rfl, by decide +kernel, rfl, by decide +kernel, by decide +kernel⟩
def m_Program_of : MS := (sCons (sIf (mTru (mBin cEq (mVar 0) (mC (.str ("-" : Str))))) (sCons (sRet (mCall 0 F_Program0 mNil))
    sNil) sNil)
    (sCons (sRet (mCall 1 F_Program (mCons (mLc (.one 1) [1] (mItems (mBin splD (mVar 0) (mC (.str (" " : Str))))) mYes (mCall 1 F_deed_in (mCons (mVar 1) mNil))) mNil)))
    sNil))
def F_Program_of : List D → U → Option (D × U) := runB m_Program_of 2
theorem ok_Program_of {P : Program} {w : World} {K : PySem.W.Frag} {mg : Str → Option Value} {base : Heap} {G : Gx K} (T : Tx mg) {f : Addr} {fd : FuncData} (F : Fun K ("of" : Str) ("Program.of" : Str) s_Program_of f fd) (D_Program : MakeOk P w mg base G ("Program" : Str) 7 1 F_Program) (M0_Program : MakeOk P w mg base G ("Program" : Str) 7 0 F_Program0) (D_deed_in : DefOk P w mg base G ("deed_in" : Str) 2 1 F_deed_in) : FnOk P w K mg base CX0 9 f fd [("text" : Str)] (spF G F_Program_of 1) :=
  have nd := sc_Program_of.nd
  def_ok F sc_Program_of rfl fun cdv A outer s H E hr => (dss_cons (ds_if (dt_cmp (ok_eq (hU64 hr)) bf_eq (dv_var 0) dv_str) (dss_cons (ds_ret (dv_make0 (M0_Program.mono (by decide)) hr rfl))
    dss_nil) dss_nil)
    (dss_cons (ds_ret (dv_make (D_Program.mono (by decide)) hr rfl (dvs_cons (dv_lc (.one 1) [1] rfl nd (di_items (dv_split (dv_var 0) dv_str)) (blkOk_by (own := [(("word" : Str), 1)]) (N := [("text" : Str), ("word" : Str)]) (sc := defScope s_Program_of) (by decide +kernel)) rfl (by decide) (fun _ _ _ _ _ => (pg_name (i := 1) nd rfl (by first | exact Or.inl rfl | exact Or.inr rfl))) (fun _ _ _ _ _ => dts_no) (fun _ _ _ _ _ => (dv_call (D_deed_in.mono (by decide)) hr rfl (dvs_cons (dv_var 1) dvs_nil)))) dvs_nil)))
    dss_nil))
abbrev s_Program___contains__ : Stmt := inClass (topS 18) 10
theorem sc_Program___contains__ : FnScope [("self" : Str), ("line" : Str), ("asked" : Str)] [("self" : Str), ("line" : Str)] (defScope s_Program___contains__) := ⟨rfl, rfl, rfl, by decide +kernel, rfl, by decide +kernel, by decide +kernel⟩
def m_Program___contains__ : MS := (sCons (sSet 2 (mCall 1 (FR_tupled 6) (mCons (mVar 1) mNil)))
    (sCons (sRet (mAnd (mCall 1 F_is_line (mCons (mVar 2) mNil)) (mBin cIn (mVar 2) (mFld ("Program" : Str) ("_lines" : Str) (mVar 0)))))
    sNil))
def F_Program___contains__ : List D → U → Option (D × U) := runB m_Program___contains__ 3
theorem ok_Program___contains__ {P : Program} {w : World} {K : PySem.W.Frag} {mg : Str → Option Value} {base : Heap} {G : Gx K} (T : Tx mg) {f : Addr} {fd : FuncData} (F : Fun K ("__contains__" : Str) ("Program.__contains__" : Str) s_Program___contains__ f fd) (FO__lines : FldOk G ("Program" : Str) ("_lines" : Str)) (D_is_line : DefOk P w mg base G ("is_line" : Str) 2 1 F_is_line) (D_tupled : DefOk P w mg base G ("tupled" : Str) 6 1 (FR_tupled 6)) : FnOk P w K mg base CX0 7 f fd [("self" : Str), ("line" : Str)] (spF G F_Program___contains__ 2) :=
  have nd := sc_Program___contains__.nd
  def_ok F sc_Program___contains__ rfl fun cdv A outer s H E hr => (dss_cons (ds_set 2 nd (dv_call (D_tupled.mono (by decide)) hr rfl (dvs_cons (dv_var 1) dvs_nil)))
    (dss_cons (ds_ret (dv_and (dv_call (D_is_line.mono (by decide)) hr rfl (dvs_cons (dv_var 2) dvs_nil)) (dv_one _ (dv_cmp (ok_in (hU65 hr)) (dv_var 2) (dv_fld FO__lines (dv_var 0))))))
    dss_nil))
abbrev s_written_at : Stmt := topS 19
theorem sc_written_at : FnScope [("program" : Str), ("line" : Str), ("stream" : Str), ("number" : Str), ("places" : Str), ("place" : Str), ("deed" : Str)] [("program" : Str), ("line" : Str)] (defScope s_written_at) := ⟨rfl, rfl, rfl, by decide +kernel, rfl, by decide +kernel, by decide +kernel⟩
def m_written_at : MS := (sCons (sIf (mTru (mBinU (inO ("Program" : Str) F_Program___contains__ cNotIn true) (mVar 1) (mVar 0))) (sCons (sRaise ("NoLine" : Str) ("line" : Str) F_NoLine (mVar 1))
    sNil) sNil)
    (sCons (sTgt (.many [2, 3]) (mVar 1))
    (sCons (sSet 4 (mLc (.many [5, 6]) [5, 6] (mEnumA (mPrp ("Program" : Str) F_Program_deeds (mVar 0))) (mTru (mBin cEq (mVar 6) (mTup (mCons (mC (.str ("write" : Str))) (mCons (mVar 2) mNil))))) (mVar 5)))
    (sCons (sRet (mBin ixD (mVar 4) (mBin fSub (mVar 3) (mC (.int (1))))))
    sNil))))
def F_written_at : List D → U → Option (R × U) := runBX m_written_at 7
theorem ok_written_at {P : Program} {w : World} {K : PySem.W.Frag} {mg : Str → Option Value} {base : Heap} {G : Gx K} (T : Tx mg) {f : Addr} {fd : FuncData} (F : Fun K ("written_at" : Str) ("written_at" : Str) s_written_at f fd) (E_NoLine : ErMk P w mg base G ("NoLine" : Str) ("line" : Str) 7 F_NoLine) (P_deeds : PrpOk P w mg base G ("Program" : Str) ("deeds" : Str) 1 F_Program_deeds) (S___contains__ : SpcOk P w mg base G ("Program" : Str) ("__contains__" : Str) 7 2 F_Program___contains__) : FnOk P w K mg base (L2.CX P w) 9 f fd [("program" : Str), ("line" : Str)] (spX G F_written_at 2) :=
  have nd := sc_written_at.nd
  def_okX F sc_written_at rfl fun cdv A outer s H E hr tk hp => (dss_cons (ds_if (dt_cmpU (ok_notinU (S___contains__.mono (by decide)) hr (ok_notin (hU65 hr))) (bu_in bf_notin) (dv_var 1) (dv_var 0)) (dss_cons (ds_raise (E_NoLine.mono (by decide)) rfl tk hr rfl (dv_var 1))
    dss_nil) dss_nil)
    (dss_cons (ds_tgt (.many [2, 3]) (dv_var 1) (pg_tup rfl (pgs_cons (pg_name (i := 2) nd rfl (by first | exact Or.inl rfl | exact Or.inr rfl)) (pgs_cons (pg_name (i := 3) nd rfl (by first | exact Or.inl rfl | exact Or.inr rfl)) pgs_nil))))
    (dss_cons (ds_setLc 4 (.many [5, 6]) [5, 6] rfl nd (sw_true rfl rfl rfl (by decide +kernel)) (di_enumA rfl T.n_enumerate (dv_prp (P_deeds.mono (by decide)) hr (dv_var 0))) (blkOk_by (own := [(("place" : Str), 5), (("deed" : Str), 6)]) (N := [("program" : Str), ("line" : Str), ("stream" : Str), ("number" : Str), ("places" : Str), ("place" : Str), ("deed" : Str)]) (sc := defScope s_written_at) (by decide +kernel)) rfl (by decide) (fun _ _ _ _ _ => (pg_tup rfl (pgs_cons (pg_name (i := 5) nd rfl (by first | exact Or.inl rfl | exact Or.inr rfl)) (pgs_cons (pg_name (i := 6) nd rfl (by first | exact Or.inl rfl | exact Or.inr rfl)) pgs_nil)))) (fun _ _ _ _ _ => dts_one (dt_cmp (ok_eq (hU64 hr)) bf_eq (dv_var 6) (dv_tup (dvs_cons (dv_gS rfl T.c_WRITE) (dvs_cons (dv_var 2) dvs_nil))))) (fun _ _ _ _ _ => (dv_var 5)))
    (dss_cons (ds_ret (dv_ix (dv_var 4) (dv_bin ok_sub (dv_var 3) dv_int)))
    dss_nil))))
abbrev s_counted : Stmt := topS 20
theorem sc_counted : FnScope [("many" : Str), ("stream" : Str), ("number" : Str)] [("many" : Str)] (defScope s_counted) := ⟨rfl, rfl, rfl, by decide +kernel, rfl, by decide +kernel, by decide +kernel⟩
def m_counted : MS := (sCons (sRet (mBi bTuple (mCons (mBi bSortB (mCons (mLc (.many [1, 2]) [1, 2] (mDItems (mVar 0)) (mTru (mBin cGt (mVar 2) (mC (.int (0))))) (mTup (mCons (mVar 1) (mCons (mVar 2) mNil)))) mNil)) mNil)))
    sNil)
def F_counted : List D → U → Option (D × U) := runB m_counted 3
theorem ok_counted {P : Program} {w : World} {K : PySem.W.Frag} {mg : Str → Option Value} {base : Heap} {G : Gx K} (T : Tx mg) {f : Addr} {fd : FuncData} (F : Fun K ("counted" : Str) ("counted" : Str) s_counted f fd)  : FnOk P w K mg base CX0 1 f fd [("many" : Str)] (spF G F_counted 1) :=
  have nd := sc_counted.nd
  def_ok F sc_counted rfl fun cdv A outer s H E hr => (dss_cons (ds_ret (dv_ty ok_tuple rfl T.n_tuple (by decide +kernel) (dvs_cons (dv_bi (ok_sortB (hU64 hr)) rfl T.n_sorted (by decide +kernel) (dvs_cons (dv_lc (.many [1, 2]) [1, 2] rfl nd (di_ditems (dv_var 0)) (blkOk_by (own := [(("stream" : Str), 1), (("number" : Str), 2)]) (N := [("many" : Str), ("stream" : Str), ("number" : Str)]) (sc := defScope s_counted) (by decide +kernel)) rfl (by decide) (fun _ _ _ _ _ => (pg_tup rfl (pgs_cons (pg_name (i := 1) nd rfl (by first | exact Or.inl rfl | exact Or.inr rfl)) (pgs_cons (pg_name (i := 2) nd rfl (by first | exact Or.inl rfl | exact Or.inr rfl)) pgs_nil)))) (fun _ _ _ _ _ => dts_one (dt_cmp ok_gt bf_gt (dv_var 2) dv_int)) (fun _ _ _ _ _ => (dv_tup (dvs_cons (dv_var 1) (dvs_cons (dv_var 2) dvs_nil))))) dvs_nil)) dvs_nil)))
    dss_nil)
abbrev s_told_by : Stmt := topS 22
theorem sc_told_by : FnScope [("rows" : Str), ("line" : Str), ("ahead" : Str)] [("rows" : Str)] (defScope s_told_by) := ⟨rfl, rfl, rfl, by decide +kernel, rfl, by decide +kernel, by decide +kernel⟩
def m_told_by : MS := (sCons (sRet (mDcT (.many [1, 2]) [1, 2] (mItems (mCall 1 (FR_tupled 6) (mCons (mVar 0) mNil))) mYes (mVar 1) (mDictP (mVar 2))))
    sNil)
def F_told_by : List D → U → Option (D × U) := runB m_told_by 3
theorem ok_told_by {P : Program} {w : World} {K : PySem.W.Frag} {mg : Str → Option Value} {base : Heap} {G : Gx K} (T : Tx mg) {f : Addr} {fd : FuncData} (F : Fun K ("told_by" : Str) ("told_by" : Str) s_told_by f fd) (D_tupled : DefOk P w mg base G ("tupled" : Str) 6 1 (FR_tupled 6)) (hG : G.pw = some (P, w)) : FnOk P w K mg base CX0 7 f fd [("rows" : Str)] (spF G F_told_by 1) :=
  have nd := sc_told_by.nd
  def_ok F sc_told_by rfl fun cdv A outer s H E hr => (dss_cons (ds_ret (dv_dcT (.many [1, 2]) [1, 2] hG (hU0 hr) rfl nd (di_items (dv_call (D_tupled.mono (by decide)) hr rfl (dvs_cons (dv_var 0) dvs_nil))) (blkOk_by (own := [(("line" : Str), 1), (("ahead" : Str), 2)]) (N := [("rows" : Str), ("line" : Str), ("ahead" : Str)]) (sc := defScope s_told_by) (by decide +kernel)) rfl (by decide) (fun _ _ _ _ _ => (pg_tup rfl (pgs_cons (pg_name (i := 1) nd rfl (by first | exact Or.inl rfl | exact Or.inr rfl)) (pgs_cons (pg_name (i := 2) nd rfl (by first | exact Or.inl rfl | exact Or.inr rfl)) pgs_nil)))) (fun _ _ _ _ _ => dts_no) (fun _ _ _ _ _ => (dv_var 1)) (fun _ _ _ _ _ => (dv_dictP rfl rfl T.n_dict (dv_var 2)))))
    dss_nil)
abbrev s_surely_before : Stmt := topS 23
theorem sc_surely_before : FnScope [("told" : Str), ("one" : Str), ("other" : Str)] [("told" : Str), ("one" : Str), ("other" : Str)] (defScope s_surely_before) := ⟨rfl, rfl, rfl, by decide +kernel, rfl, by decide +kernel, by decide +kernel⟩
def m_surely_before : MS := (sCons (sIf (mTru (mBin cEq (mBin ixD (mVar 1) (mC (.int (0)))) (mBin ixD (mVar 2) (mC (.int (0)))))) (sCons (sRet (mBin cLt (mBin ixD (mVar 1) (mC (.int (1)))) (mBin ixD (mVar 2) (mC (.int (1))))))
    sNil) sNil)
    (sCons (sRet (mBin cGe (mGet2 (mBin dixT (mVar 0) (mVar 2)) (mBin ixD (mVar 1) (mC (.int (0)))) (mC (.int (0)))) (mBin ixD (mVar 1) (mC (.int (1))))))
    sNil))
def F_surely_before : List D → U → Option (D × U) := runB m_surely_before 3
theorem ok_surely_before {P : Program} {w : World} {K : PySem.W.Frag} {mg : Str → Option Value} {base : Heap} {G : Gx K} (T : Tx mg) {f : Addr} {fd : FuncData} (F : Fun K ("surely_before" : Str) ("surely_before" : Str) s_surely_before f fd) (hG : G.pw = some (P, w)) : FnOk P w K mg base CX0 1 f fd [("told" : Str), ("one" : Str), ("other" : Str)] (spF G F_surely_before 3) :=
  have nd := sc_surely_before.nd
  def_ok F sc_surely_before rfl fun cdv A outer s H E hr => (dss_cons (ds_if (dt_cmp (ok_eq (hU64 hr)) bf_eq (dv_ix (dv_var 1) dv_int) (dv_ix (dv_var 2) dv_int)) (dss_cons (ds_ret (dv_cmp ok_lt (dv_ix (dv_var 1) dv_int) (dv_ix (dv_var 2) dv_int)))
    dss_nil) dss_nil)
    (dss_cons (ds_ret (dv_cmp ok_ge (dv_get2 (hU1 hr) ⟨rfl, rfl, rfl, rfl⟩ (dv_dixT hG (hU1 hr) (dv_var 0) (dv_var 2)) (dv_ix (dv_var 1) dv_int) dv_int) (dv_ix (dv_var 1) dv_int)))
    dss_nil))
abbrev s_table_of : Stmt := topS 24
theorem sc_table_of : FnScope [("program" : Str), ("written" : Str), ("out" : Str), ("rows" : Str), ("word" : Str), ("stream" : Str), ("others" : Str), ("name" : Str)] [("program" : Str)] (defScope s_table_of) := ⟨rfl, rfl, rfl, by decide +kernel, rfl, by decide +kernel, by decide +kernel⟩
def m_table_of : MS := (sCons (sSv 1 vDct)
    (sCons (sSv 2 vDct)
    (sCons (sSv 3 (vLst mNil))
    (sCons (sFor (.many [4, 5]) (mItems (mPrp ("Program" : Str) F_Program_deeds (mVar 0))) (sCons (sIf (mTru (mBin cEq (mVar 4) (mC (.str ("flush" : Str))))) (sCons (sPutD 2 (mVar 5) (mPeek 1 (mGet2 (mVar 1) (mVar 5) (mC (.int (0))))))
    sNil) (sCons (sPutD 1 (mVar 5) (mBin fAdd (mPeek 1 (mGet2 (mVar 1) (mVar 5) (mC (.int (0))))) (mC (.int (1)))))
    (sCons (sSv 6 (vPeek 2 (vDC (.one 7) [7] (mItemsK (mVar 2)) (mTru (mBin cNe (mVar 7) (mVar 5))) (mVar 7) (mBin dixD (mVar 2) (mVar 7)))))
    (sPub 6
    (sCons (sApp 3 (mTup (mCons (mTup (mCons (mVar 5) (mCons (mPeek 1 (mBin dixD (mVar 1) (mVar 5))) mNil))) (mCons (mCall 1 F_counted (mCons (mVar 6) mNil)) mNil))))
    sNil)))))
    sNil))
    (sPub 3
    (sCons (sRet (mBi bTuple (mCons (mBi bSortB (mCons (mVar 3) mNil)) mNil)))
    sNil))))))
def F_table_of : List D → U → Option (D × U) := runB m_table_of 8
theorem ok_table_of {P : Program} {w : World} {K : PySem.W.Frag} {mg : Str → Option Value} {base : Heap} {G : Gx K} (T : Tx mg) {f : Addr} {fd : FuncData} (F : Fun K ("table_of" : Str) ("table_of" : Str) s_table_of f fd) (P_deeds : PrpOk P w mg base G ("Program" : Str) ("deeds" : Str) 1 F_Program_deeds) (D_counted : DefOk P w mg base G ("counted" : Str) 1 1 F_counted) : FnOk P w K mg base CX0 3 f fd [("program" : Str)] (spF G F_table_of 1) :=
  have nd := sc_table_of.nd
  def_ok F sc_table_of rfl fun cdv A outer s H E hr => (dss_cons (ds_setv 1 nd dv_oDct)
    (dss_cons (ds_setv 2 nd dv_oDct)
    (dss_cons (ds_setv 3 nd (dv_oLst dvs_nil))
    (dss_cons (ds_for (.many [4, 5]) PassesOwn.never rfl (di_items (dv_prp (P_deeds.mono (by decide)) hr (dv_var 0))) (pg_tup rfl (pgs_cons (pg_name (i := 4) nd rfl (by first | exact Or.inl rfl | exact Or.inr rfl)) (pgs_cons (pg_name (i := 5) nd rfl (by first | exact Or.inl rfl | exact Or.inr rfl)) pgs_nil))) (dss_cons (ds_if (dt_cmp (ok_eq (hU64 hr)) bf_eq (dv_var 4) (dv_gS rfl T.c_FLUSH)) (dss_cons (ds_putD 2 (hU1 hr) (dv_var 5) (dv_peek 1 (dv_get2 (hU1 hr) ⟨rfl, rfl, rfl, rfl⟩ (dv_var 1) (dv_var 5) dv_int)))
    dss_nil) (dss_cons (ds_putD 1 (hU1 hr) (dv_var 5) (dv_bin ok_add (dv_peek 1 (dv_get2 (hU1 hr) ⟨rfl, rfl, rfl, rfl⟩ (dv_var 1) (dv_var 5) dv_int)) dv_int))
    (dss_cons (ds_ofAsg 6 (asg_peek 6 2 (pa_dc 6 (.one 7) [7] rfl nd (sw_trueD rfl rfl rfl (by decide +kernel)) (di_itemsK (dv_var 2)) (blkOk_by (own := [(("name" : Str), 7)]) (N := [("program" : Str), ("written" : Str), ("out" : Str), ("rows" : Str), ("word" : Str), ("stream" : Str), ("others" : Str), ("name" : Str)]) (sc := defScope s_table_of) (by decide +kernel)) rfl (by decide) (fun _ _ _ _ _ => (pg_name (i := 7) nd rfl (by first | exact Or.inl rfl | exact Or.inr rfl))) (fun _ _ _ _ _ => dts_one (dt_cmp (ok_ne (hU64 hr)) bf_ne (dv_var 7) (dv_var 5))) (fun _ _ _ _ _ => (dv_var 7)) (fun _ _ _ _ _ => (dv_dix (hU1 hr) (dv_var 2) (dv_var 7))))))
    (dss_pub 6
    (dss_cons (ds_app 3 (dv_tup (dvs_cons (dv_tup (dvs_cons (dv_var 5) (dvs_cons (dv_peek 1 (dv_dix (hU1 hr) (dv_var 1) (dv_var 5))) dvs_nil))) (dvs_cons (dv_call (D_counted.mono (by decide)) hr rfl (dvs_cons (dv_var 6) dvs_nil)) dvs_nil))))
    dss_nil)))))
    dss_nil))
    (dss_pub 3
    (dss_cons (ds_ret (dv_ty ok_tuple rfl T.n_tuple (by decide +kernel) (dvs_cons (dv_bi (ok_sortB (hU64 hr)) rfl T.n_sorted (by decide +kernel) (dvs_cons (dv_var 3) dvs_nil)) dvs_nil)))
    dss_nil))))))
abbrev s_told_in : Stmt := topS 25
theorem sc_told_in : FnScope [("program" : Str)] [("program" : Str)] (defScope s_told_in) := ⟨rfl, rfl, rfl, by decide +kernel, rfl, by decide +kernel, by decide +kernel⟩
def m_told_in : MS := (sCons (sRet (mCall 1 F_told_by (mCons (mCall 1 F_table_of (mCons (mVar 0) mNil)) mNil)))
    sNil)
def F_told_in : List D → U → Option (D × U) := runB m_told_in 1
theorem ok_told_in {P : Program} {w : World} {K : PySem.W.Frag} {mg : Str → Option Value} {base : Heap} {G : Gx K} (T : Tx mg) {f : Addr} {fd : FuncData} (F : Fun K ("told_in" : Str) ("told_in" : Str) s_told_in f fd) (D_table_of : DefOk P w mg base G ("table_of" : Str) 3 1 F_table_of) (D_told_by : DefOk P w mg base G ("told_by" : Str) 7 1 F_told_by) : FnOk P w K mg base CX0 8 f fd [("program" : Str)] (spF G F_told_in 1) :=
  have nd := sc_told_in.nd
  def_ok F sc_told_in rfl fun cdv A outer s H E hr => (dss_cons (ds_ret (dv_call (D_told_by.mono (by decide)) hr rfl (dvs_cons (dv_call (D_table_of.mono (by decide)) hr rfl (dvs_cons (dv_var 0) dvs_nil)) dvs_nil)))
    dss_nil)
abbrev s_is_wish : Stmt := topS 27
theorem sc_is_wish : FnScope [("program" : Str), ("thing" : Str), ("one" : Str), ("other" : Str), ("part" : Str)] [("program" : Str), ("thing" : Str)] (defScope s_is_wish) := ⟨rfl, rfl, rfl, by decide +kernel, rfl, by decide +kernel, by decide +kernel⟩
def m_is_wish : MS := (sCons (sIf (mOrB (mNotB (mTru (mCall 1 F_is_pair (mCons (mVar 1) mNil)))) (mNotB (mTru (mBi bAll (mCons (mLc (.one 4) [4] (mItems (mVar 1)) mYes (mAnd (mCall 1 F_is_line (mCons (mVar 4) mNil)) (mBinU (inO ("Program" : Str) F_Program___contains__ cIn false) (mVar 4) (mVar 0)))) mNil))))) (sCons (sRet (mC (.bl false)))
    sNil) sNil)
    (sCons (sTgt (.many [2, 3]) (mVar 1))
    (sCons (sRet (mAnd (mBin cNe (mBin ixD (mVar 2) (mC (.int (0)))) (mBin ixD (mVar 3) (mC (.int (0))))) (mBin cLt (mCall 2 (okF F_written_at) (mCons (mVar 0) (mCons (mVar 2) mNil))) (mCall 2 (okF F_written_at) (mCons (mVar 0) (mCons (mVar 3) mNil))))))
    sNil)))
def F_is_wish : List D → U → Option (D × U) := runB m_is_wish 5
theorem ok_is_wish {P : Program} {w : World} {K : PySem.W.Frag} {mg : Str → Option Value} {base : Heap} {G : Gx K} (T : Tx mg) {f : Addr} {fd : FuncData} (F : Fun K ("is_wish" : Str) ("is_wish" : Str) s_is_wish f fd) (S___contains__ : SpcOk P w mg base G ("Program" : Str) ("__contains__" : Str) 7 2 F_Program___contains__) (DX_written_at : DefOkX P w mg base G ("written_at" : Str) 9 2 F_written_at) (D_is_line : DefOk P w mg base G ("is_line" : Str) 2 1 F_is_line) (D_is_pair : DefOk P w mg base G ("is_pair" : Str) 1 1 F_is_pair) : FnOk P w K mg base CX0 10 f fd [("program" : Str), ("thing" : Str)] (spF G F_is_wish 2) :=
  have nd := sc_is_wish.nd
  def_ok F sc_is_wish rfl fun cdv A outer s H E hr => (dss_cons (ds_if (PW.pt (dw_or (dt_not (dt_val (dv_call (D_is_pair.mono (by decide)) hr rfl (dvs_cons (dv_var 1) dvs_nil)))) (dw_or1 (dt_not (dt_val (dv_bi (ok_all (by rfl)) rfl T.n_all (by decide +kernel) (dvs_cons (dv_lc (.one 4) [4] rfl nd (di_items (dv_var 1)) (blkOk_by (own := [(("part" : Str), 4)]) (N := [("program" : Str), ("thing" : Str), ("one" : Str), ("other" : Str), ("part" : Str)]) (sc := defScope s_is_wish) (by decide +kernel)) rfl (by decide) (fun _ _ _ _ _ => (pg_name (i := 4) nd rfl (by first | exact Or.inl rfl | exact Or.inr rfl))) (fun _ _ _ _ _ => dts_no) (fun _ _ _ _ _ => (dv_and (dv_call (D_is_line.mono (by decide)) hr rfl (dvs_cons (dv_var 4) dvs_nil)) (dv_one _ (dv_cmpU (ok_inU (S___contains__.mono (by decide)) hr (ok_in (hU65 hr))) (dv_var 4) (dv_var 0)))))) dvs_nil))))))) (dss_cons (ds_ret dv_bl)
    dss_nil) dss_nil)
    (dss_cons (ds_tgt (.many [2, 3]) (dv_var 1) (pg_tup rfl (pgs_cons (pg_name (i := 2) nd rfl (by first | exact Or.inl rfl | exact Or.inr rfl)) (pgs_cons (pg_name (i := 3) nd rfl (by first | exact Or.inl rfl | exact Or.inr rfl)) pgs_nil))))
    (dss_cons (ds_ret (dv_and (dv_cmp (ok_ne (hU64 hr)) (dv_ix (dv_var 2) dv_int) (dv_ix (dv_var 3) dv_int)) (dv_one _ (dv_cmp ok_lt (dv_call (DX_written_at.calm.mono (by decide)) hr rfl (dvs_cons (dv_var 0) (dvs_cons (dv_var 2) dvs_nil))) (dv_call (DX_written_at.calm.mono (by decide)) hr rfl (dvs_cons (dv_var 0) (dvs_cons (dv_var 3) dvs_nil)))))))
    dss_nil)))
abbrev s_check_wishes : Stmt := topS 28
theorem sc_check_wishes : FnScope [("program" : Str), ("wishes" : Str), ("wish" : Str)] [("program" : Str), ("wishes" : Str)] (defScope s_check_wishes) := ⟨rfl, rfl, rfl, by decide +kernel, rfl, by decide +kernel, by decide +kernel⟩
def m_check_wishes : MS := (sCons (sFor (.one 2) (mItems (mCall 1 (FR_tupled 6) (mCons (mVar 1) mNil))) (sCons (sIf (mNotB (mTru (mCall 2 F_is_wish (mCons (mVar 0) (mCons (mVar 2) mNil))))) (sCons (sRaise ("NoWish" : Str) ("wish" : Str) F_NoWish (mVar 2))
    sNil) sNil)
    sNil))
    sNil)
def F_check_wishes : List D → U → Option (R × U) := runBX m_check_wishes 3
theorem ok_check_wishes {P : Program} {w : World} {K : PySem.W.Frag} {mg : Str → Option Value} {base : Heap} {G : Gx K} (T : Tx mg) {f : Addr} {fd : FuncData} (F : Fun K ("check_wishes" : Str) ("check_wishes" : Str) s_check_wishes f fd) (E_NoWish : ErMk P w mg base G ("NoWish" : Str) ("wish" : Str) 7 F_NoWish) (D_is_wish : DefOk P w mg base G ("is_wish" : Str) 10 2 F_is_wish) (D_tupled : DefOk P w mg base G ("tupled" : Str) 6 1 (FR_tupled 6)) : FnOk P w K mg base (L2.CX P w) 11 f fd [("program" : Str), ("wishes" : Str)] (spX G F_check_wishes 2) :=
  have nd := sc_check_wishes.nd
  def_okX F sc_check_wishes rfl fun cdv A outer s H E hr tk hp => (dss_cons (ds_for (.one 2) hp rfl (di_items (dv_call (D_tupled.mono (by decide)) hr rfl (dvs_cons (dv_var 1) dvs_nil))) (pg_name (i := 2) nd rfl (by first | exact Or.inl rfl | exact Or.inr rfl)) (dss_cons (ds_if (dt_not (dt_val (dv_call (D_is_wish.mono (by decide)) hr rfl (dvs_cons (dv_var 0) (dvs_cons (dv_var 2) dvs_nil))))) (dss_cons (ds_raise (E_NoWish.mono (by decide)) rfl tk hr rfl (dv_var 2))
    dss_nil) dss_nil)
    dss_nil))
    dss_nil)
abbrev s_all_wishes : Stmt := topS 29
theorem sc_all_wishes : FnScope [("program" : Str), ("lines" : Str), ("pairs" : Str), ("place" : Str), ("one" : Str), ("other" : Str)] [("program" : Str)] (defScope s_all_wishes) := ⟨rfl, rfl, rfl, by decide +kernel, rfl, by decide +kernel, by decide +kernel⟩
def m_all_wishes : MS := (sCons (sSet 1 (mPrp ("Program" : Str) F_Program_lines (mVar 0)))
    (sCons (sSet 2 (mLc2 (.many [3, 4]) [3, 4, 5] (mEnumA (mVar 1)) mYes (.one 5) [5] (mItems (mSl (mVar 1) (moAt (mBin fAdd (mVar 3) (mC (.int (1))))) moNo)) mYes (mTup (mCons (mVar 4) (mCons (mVar 5) mNil)))))
    (sCons (sRet (mBi bTuple (mCons (mBi bSortB (mCons (mLc (.many [4, 5]) [4, 5] (mItems (mVar 2)) (mTru (mBin cNe (mBin ixD (mVar 4) (mC (.int (0)))) (mBin ixD (mVar 5) (mC (.int (0)))))) (mTup (mCons (mVar 4) (mCons (mVar 5) mNil)))) mNil)) mNil)))
    sNil)))
def F_all_wishes : List D → U → Option (D × U) := runB m_all_wishes 6
theorem ok_all_wishes {P : Program} {w : World} {K : PySem.W.Frag} {mg : Str → Option Value} {base : Heap} {G : Gx K} (T : Tx mg) {f : Addr} {fd : FuncData} (F : Fun K ("all_wishes" : Str) ("all_wishes" : Str) s_all_wishes f fd) (P_lines : PrpOk P w mg base G ("Program" : Str) ("lines" : Str) 1 F_Program_lines) : FnOk P w K mg base CX0 3 f fd [("program" : Str)] (spF G F_all_wishes 1) :=
  have nd := sc_all_wishes.nd
  def_ok F sc_all_wishes rfl fun cdv A outer s H E hr => (dss_cons (ds_set 1 nd (dv_prp (P_lines.mono (by decide)) hr (dv_var 0)))
    (dss_cons (ds_setLc2 2 (.many [3, 4]) [3, 4, 5] (.one 5) [5] rfl nd (sw_true rfl rfl rfl (by decide +kernel)) (di_enumA rfl T.n_enumerate (dv_var 1)) (blkOk_by (own := [(("place" : Str), 3), (("one" : Str), 4), (("other" : Str), 5)]) (N := [("program" : Str), ("lines" : Str), ("pairs" : Str), ("place" : Str), ("one" : Str), ("other" : Str)]) (sc := defScope s_all_wishes) (by decide +kernel)) rfl (by decide) (by decide) (by decide) (fun _ _ _ _ _ => (pg_tup rfl (pgs_cons (pg_name (i := 3) nd rfl (by first | exact Or.inl rfl | exact Or.inr rfl)) (pgs_cons (pg_name (i := 4) nd rfl (by first | exact Or.inl rfl | exact Or.inr rfl)) pgs_nil)))) (fun _ _ _ _ _ => dts_no) (fun _ _ _ _ _ => (di_items (dv_sl (dv_var 1) (do_at (dv_bin ok_add (dv_var 3) dv_int)) do_no))) (fun _ _ _ _ _ => (pg_name (i := 5) nd rfl (by first | exact Or.inl rfl | exact Or.inr rfl))) (fun _ _ _ _ _ => dts_no) (fun _ _ _ _ _ => (dv_tup (dvs_cons (dv_var 4) (dvs_cons (dv_var 5) dvs_nil)))))
    (dss_cons (ds_ret (dv_ty ok_tuple rfl T.n_tuple (by decide +kernel) (dvs_cons (dv_bi (ok_sortB (hU64 hr)) rfl T.n_sorted (by decide +kernel) (dvs_cons (dv_lc (.many [4, 5]) [4, 5] rfl nd (di_items (dv_var 2)) (blkOk_by (own := [(("one" : Str), 4), (("other" : Str), 5)]) (N := [("program" : Str), ("lines" : Str), ("pairs" : Str), ("place" : Str), ("one" : Str), ("other" : Str)]) (sc := defScope s_all_wishes) (by decide +kernel)) rfl (by decide) (fun _ _ _ _ _ => (pg_tup rfl (pgs_cons (pg_name (i := 4) nd rfl (by first | exact Or.inl rfl | exact Or.inr rfl)) (pgs_cons (pg_name (i := 5) nd rfl (by first | exact Or.inl rfl | exact Or.inr rfl)) pgs_nil)))) (fun _ _ _ _ _ => dts_one (dt_cmp (ok_ne (hU64 hr)) bf_ne (dv_ix (dv_var 4) dv_int) (dv_ix (dv_var 5) dv_int))) (fun _ _ _ _ _ => (dv_tup (dvs_cons (dv_var 4) (dvs_cons (dv_var 5) dvs_nil))))) dvs_nil)) dvs_nil)))
    dss_nil)))
abbrev s_kept : Stmt := topS 30
theorem sc_kept : FnScope [("program" : Str), ("wishes" : Str), ("told" : Str), ("one" : Str), ("other" : Str)] [("program" : Str), ("wishes" : Str)] (defScope s_kept) := ⟨rfl, rfl, rfl, by decide +kernel, rfl, by decide +kernel, by decide +kernel⟩
def m_kept : MS := (sCons (sDropX (xCall 2 F_check_wishes (mCons (mVar 0) (mCons (mVar 1) mNil))))
    (sCons (sSet 2 (mCall 1 F_told_in (mCons (mVar 0) mNil)))
    (sCons (sRet (mBi bTuple (mCons (mLc (.many [3, 4]) [3, 4] (mItems (mSortSetN (mCall 1 (FR_tupled 6) (mCons (mVar 1) mNil)))) (mTru (mCall 3 F_surely_before (mCons (mVar 2) (mCons (mVar 3) (mCons (mVar 4) mNil))))) (mTup (mCons (mVar 3) (mCons (mVar 4) mNil)))) mNil)))
    sNil)))
def F_kept : List D → U → Option (R × U) := runBX m_kept 5
theorem ok_kept {P : Program} {w : World} {K : PySem.W.Frag} {mg : Str → Option Value} {base : Heap} {G : Gx K} (T : Tx mg) {f : Addr} {fd : FuncData} (F : Fun K ("kept" : Str) ("kept" : Str) s_kept f fd) (DX_check_wishes : DefOkX P w mg base G ("check_wishes" : Str) 11 2 F_check_wishes) (D_surely_before : DefOk P w mg base G ("surely_before" : Str) 1 3 F_surely_before) (D_told_in : DefOk P w mg base G ("told_in" : Str) 8 1 F_told_in) (D_tupled : DefOk P w mg base G ("tupled" : Str) 6 1 (FR_tupled 6)) : FnOk P w K mg base (L2.CX P w) 12 f fd [("program" : Str), ("wishes" : Str)] (spX G F_kept 2) :=
  have nd := sc_kept.nd
  def_okX F sc_kept rfl fun cdv A outer s H E hr tk hp => (dss_cons (dsx_drop (dx_call (DX_check_wishes.mono (by decide)) tk hr rfl (dvs_cons (dv_var 0) (dvs_cons (dv_var 1) dvs_nil))))
    (dss_cons (ds_set 2 nd (dv_call (D_told_in.mono (by decide)) hr rfl (dvs_cons (dv_var 0) dvs_nil)))
    (dss_cons (ds_ret (dv_ty ok_tuple rfl T.n_tuple (by decide +kernel) (dvs_cons (dv_lc (.many [3, 4]) [3, 4] rfl nd (di_items (dv_sortSetN rfl (hU65 hr) rfl T.n_sorted rfl T.n_set (dv_call (D_tupled.mono (by decide)) hr rfl (dvs_cons (dv_var 1) dvs_nil)))) (blkOk_by (own := [(("one" : Str), 3), (("other" : Str), 4)]) (N := [("program" : Str), ("wishes" : Str), ("told" : Str), ("one" : Str), ("other" : Str)]) (sc := defScope s_kept) (by decide +kernel)) rfl (by decide) (fun _ _ _ _ _ => (pg_tup rfl (pgs_cons (pg_name (i := 3) nd rfl (by first | exact Or.inl rfl | exact Or.inr rfl)) (pgs_cons (pg_name (i := 4) nd rfl (by first | exact Or.inl rfl | exact Or.inr rfl)) pgs_nil)))) (fun _ _ _ _ _ => dts_one (dt_val (dv_call (D_surely_before.mono (by decide)) hr rfl (dvs_cons (dv_var 2) (dvs_cons (dv_var 3) (dvs_cons (dv_var 4) dvs_nil)))))) (fun _ _ _ _ _ => (dv_tup (dvs_cons (dv_var 3) (dvs_cons (dv_var 4) dvs_nil))))) dvs_nil)))
    dss_nil)))
abbrev s__law_box : Stmt := topS 32
theorem sc__law_box : FnScope [("_law_script" : Str), ("_law_k" : Str), ("_law_cell" : Str)] [("_law_script" : Str), ("_law_k" : Str)] (defScope s__law_box) := ⟨rfl, rfl, rfl, by decide +kernel, rfl, by decide +kernel, by decide +kernel⟩
def m__law_box : MS := (sCons (sSet 2 (mIte (mTru (mBin cLt (mVar 1) (mBi bLen (mCons (mVar 0) mNil)))) (mBin ixD (mVar 0) (mVar 1)) (mC (.int (0)))))
    (sCons (sRet (mLst (mCons (mBin fMul (mBi bAbs (mCons (mVar 2) mNil)) (mBi bInt (mCons (mBin cGe (mBi bAbs (mCons (mVar 2) mNil)) (mBin fPow (mC (.int (10))) (mC (.int (18))))) mNil))) (mCons (mBin fAdd (mBin fAdd (mBin fMod (mBi bInt (mCons (mVar 2) mNil)) (mC (.int (2305843009213693951)))) (mBin fMul (mC (.int (39373))) (mVar 1))) (mC (.int (824165)))) (mCons (mC (.int (0))) mNil)))))
    sNil))
def F__law_box : List D → U → Option (D × U) := runB m__law_box 3
theorem ok__law_box {P : Program} {w : World} {K : PySem.W.Frag} {mg : Str → Option Value} {base : Heap} {G : Gx K} (T : Tx mg) {f : Addr} {fd : FuncData} (F : Fun K ("_law_box" : Str) ("_law_box" : Str) s__law_box f fd)  : FnOk P w K mg base CX0 1 f fd [("_law_script" : Str), ("_law_k" : Str)] (spF G F__law_box 2) :=
  have nd := sc__law_box.nd
  def_ok F sc__law_box rfl fun cdv A outer s H E hr => (dss_cons (ds_set 2 nd (dv_ite (dt_cmp ok_lt bf_lt (dv_var 1) (dv_bi ok_len rfl T.n_len (by decide +kernel) (dvs_cons (dv_var 0) dvs_nil))) (dv_ix (dv_var 0) (dv_var 1)) dv_int))
    (dss_cons (ds_ret (dv_lst (dvs_cons (dv_bin ok_mul (dv_bi ok_abs rfl T.n_abs (by decide +kernel) (dvs_cons (dv_var 2) dvs_nil)) (dv_ty ok_int rfl T.n_int (by decide +kernel) (dvs_cons (dv_cmp ok_ge (dv_bi ok_abs rfl T.n_abs (by decide +kernel) (dvs_cons (dv_var 2) dvs_nil)) (dv_bin ok_pow dv_int dv_int)) dvs_nil))) (dvs_cons (dv_bin ok_add (dv_bin ok_add (dv_bin ok_mod (dv_ty ok_int rfl T.n_int (by decide +kernel) (dvs_cons (dv_var 2) dvs_nil)) dv_int) (dv_bin ok_mul dv_int (dv_var 1))) dv_int) (dvs_cons dv_int dvs_nil)))))
    dss_nil))
abbrev s__law_take : Stmt := topS 33
theorem sc__law_take : FnScope [("_law_urn" : Str), ("_law_low_so" : Str), ("_law_drawn" : Str), ("_law_once" : Str), ("_law_far" : Str), ("_law_twice" : Str)] [("_law_urn" : Str), ("_law_low_so" : Str)] (defScope s__law_take) := ⟨rfl, rfl, rfl, by decide +kernel, rfl, by decide +kernel, by decide +kernel⟩
def m__law_take : MS := (sCons (sIf (mTru (mBin cGt (mUrn0 0) (mC (.int (0))))) (sCons (sSet 2 (mBin fMod (mBi bInt (mCons (mUrn0 0) mNil)) (mVar 1)))
    (sCons (sUrn0 0 (mBin fDiv (mUrn0 0) (mVar 1)))
    (sCons (sRet (mVar 2))
    sNil))) sNil)
    (sCons (sUrn2 0 (mBin fAdd (mUrn2 0) (mC (.int (1)))))
    (sCons (sSet 3 (mBin fMod (mBi bInt (mCons (mBin fMul (mBin fAdd (mUrn1 0) (mBin fMul (mC (.int (48271))) (mUrn2 0))) (mBin fAdd (mC (.int (39373))) (mUrn2 0))) mNil)) (mC (.int (2147483647)))))
    (sCons (sSet 4 (mBin fAdd (mBin fMod (mBi bInt (mCons (mVar 3) mNil)) (mC (.int (40009)))) (mC (.int (7)))))
    (sCons (sSet 5 (mBin fMod (mBi bInt (mCons (mBin fMul (mBin fAdd (mBin fAdd (mVar 3) (mUrn2 0)) (mBin fDiv (mUrn1 0) (mC (.int (1000003))))) (mVar 4)) mNil)) (mC (.int (2147483629)))))
    (sCons (sRet (mBin fMod (mBi bInt (mCons (mBin fDiv (mBin fMod (mBi bInt (mCons (mBin fAdd (mBin fMul (mVar 5) (mC (.int (48271)))) (mVar 3)) mNil)) (mC (.int (2147483587)))) (mC (.int (64)))) mNil)) (mVar 1)))
    sNil))))))
def F__law_take : List D → U → Option (D × U) := runB m__law_take 6
theorem ok__law_take {P : Program} {w : World} {K : PySem.W.Frag} {mg : Str → Option Value} {base : Heap} {G : Gx K} (T : Tx mg) {f : Addr} {fd : FuncData} (F : Fun K ("_law_take" : Str) ("_law_take" : Str) s__law_take f fd)  : FnOk P w K mg base CX0 1 f fd [("_law_urn" : Str), ("_law_low_so" : Str)] (spF G F__law_take 2) :=
  have nd := sc__law_take.nd
  def_ok F sc__law_take rfl fun cdv A outer s H E hr => (dss_cons (ds_if (dt_cmp ok_gt bf_gt (dv_urn0 0) dv_int) (dss_cons (ds_set 2 nd (dv_bin ok_mod (dv_ty ok_int rfl T.n_int (by decide +kernel) (dvs_cons (dv_urn0 0) dvs_nil)) (dv_var 1)))
    (dss_cons (ds_urn0 0 (dv_bin ok_div (dv_urn0 0) (dv_var 1)))
    (dss_cons (ds_ret (dv_var 2))
    dss_nil))) dss_nil)
    (dss_cons (ds_urn2 0 (dv_bin ok_add (dv_urn2 0) dv_int))
    (dss_cons (ds_set 3 nd (dv_bin ok_mod (dv_ty ok_int rfl T.n_int (by decide +kernel) (dvs_cons (dv_bin ok_mul (dv_bin ok_add (dv_urn1 0) (dv_bin ok_mul dv_int (dv_urn2 0))) (dv_bin ok_add dv_int (dv_urn2 0))) dvs_nil)) dv_int))
    (dss_cons (ds_set 4 nd (dv_bin ok_add (dv_bin ok_mod (dv_ty ok_int rfl T.n_int (by decide +kernel) (dvs_cons (dv_var 3) dvs_nil)) dv_int) dv_int))
    (dss_cons (ds_set 5 nd (dv_bin ok_mod (dv_ty ok_int rfl T.n_int (by decide +kernel) (dvs_cons (dv_bin ok_mul (dv_bin ok_add (dv_bin ok_add (dv_var 3) (dv_urn2 0)) (dv_bin ok_div (dv_urn1 0) dv_int)) (dv_var 4)) dvs_nil)) dv_int))
    (dss_cons (ds_ret (dv_bin ok_mod (dv_ty ok_int rfl T.n_int (by decide +kernel) (dvs_cons (dv_bin ok_div (dv_bin ok_mod (dv_ty ok_int rfl T.n_int (by decide +kernel) (dvs_cons (dv_bin ok_add (dv_bin ok_mul (dv_var 5) dv_int) (dv_var 3)) dvs_nil)) dv_int) dv_int) dvs_nil)) (dv_var 1)))
    dss_nil))))))
abbrev s__law_of : Stmt := topS 35
theorem sc__law_of : FnScope [("_law_urn" : Str), ("_law_some_so" : Str)] [("_law_urn" : Str), ("_law_some_so" : Str)] (defScope s__law_of) := ⟨rfl, rfl, rfl, by decide +kernel, rfl, by decide +kernel, by decide +kernel⟩
def m__law_of : MS := (sCons (sRet (mBin ixD (mVar 1) (mCall 2 F__law_take (mCons (mVar 0) (mCons (mBi bLen (mCons (mVar 1) mNil)) mNil)))))
    sNil)
def F__law_of : List D → U → Option (D × U) := runB m__law_of 2
theorem ok__law_of {P : Program} {w : World} {K : PySem.W.Frag} {mg : Str → Option Value} {base : Heap} {G : Gx K} (T : Tx mg) {f : Addr} {fd : FuncData} (F : Fun K ("_law_of" : Str) ("_law_of" : Str) s__law_of f fd) (D__law_take : DefOk P w mg base G ("_law_take" : Str) 1 2 F__law_take) : FnOk P w K mg base CX0 2 f fd [("_law_urn" : Str), ("_law_some_so" : Str)] (spF G F__law_of 2) :=
  have nd := sc__law_of.nd
  def_ok F sc__law_of rfl fun cdv A outer s H E hr => (dss_cons (ds_ret (dv_ix (dv_var 1) (dv_call (D__law_take.mono (by decide)) hr rfl (dvs_cons (dv_var 0) (dvs_cons (dv_bi ok_len rfl T.n_len (by decide +kernel) (dvs_cons (dv_var 1) dvs_nil)) dvs_nil)))))
    dss_nil)
abbrev s__law_same : Stmt := topS 36
theorem sc__law_same : FnScope [("_law_got" : Str), ("_law_goal" : Str), ("_law_mine_so" : Str), ("_law_own" : Str)] [("_law_got" : Str), ("_law_goal" : Str)] (defScope s__law_same) := ⟨rfl, rfl, rfl, by decide +kernel, rfl, by decide +kernel, by decide +kernel⟩
def m__law_same (F__law_same_ : List D → U → Option (D × U)) : MS := (sCons (sIf (mTru (mIsi ["list", "tuple"] (mVar 1))) (sCons (sIf (mOrB (mTru (mBin cNe (mIsi ["list"] (mVar 0)) (mIsi ["list"] (mVar 1)))) (mTru (mBin cNe (mIsi ["tuple"] (mVar 0)) (mIsi ["tuple"] (mVar 1))))) (sCons (sRet (mC (.bl false)))
    sNil) sNil)
    (sCons (sRet (mAnd (mBin cEq (mBi bLen (mCons (mVar 0) mNil)) (mBi bLen (mCons (mVar 1) mNil))) (mBi bAll (mCons (mLc (.many [2, 3]) [2, 3] (mZip (mVar 0) (mVar 1)) mYes (mCall 2 F__law_same_ (mCons (mVar 2) (mCons (mVar 3) mNil)))) mNil))))
    sNil)) sNil)
    (sCons (sIf (mOrB (mTru (mBin cIs (mVar 1) (mC .non))) (mTru (mIsi ["bool", "str"] (mVar 1)))) (sCons (sRet (mAnd (mBin cEq (mVar 0) (mVar 1)) (mAnd (mBin cEq (mIsi ["bool"] (mVar 0)) (mIsi ["bool"] (mVar 1))) (mBin cEq (mBin cIs (mVar 0) (mC .non)) (mBin cIs (mVar 1) (mC .non))))))
    sNil) sNil)
    (sCons (sRet (mAnd (mIsi ["int"] (mVar 0)) (mAnd (mNot (mIsi ["bool"] (mVar 0))) (mBin cEq (mVar 0) (mVar 1)))))
    sNil)))
def FR__law_same : Nat → List D → U → Option (D × U)
  | 0 => fun _ _ => none
  | n + 1 => runB (m__law_same (FR__law_same n)) 4
theorem okR__law_same {P : Program} {w : World} {K : PySem.W.Frag} {mg : Str → Option Value} {base : Heap} {G : Gx K} (T : Tx mg) {f : Addr} {fd : FuncData} (F : Fun K ("_law_same" : Str) ("_law_same" : Str) s__law_same f fd) (hm : mg ("_law_same" : Str) = some (.ref f)) (hb : Binds K fd [("_law_got" : Str), ("_law_goal" : Str)] [])  : ∀ n : Nat, FnOk P w K mg base CX0 (0 + n) f fd [("_law_got" : Str), ("_law_goal" : Str)] (spF G (FR__law_same n) 2)
  | 0 => ⟨fun _ _ _ _ h => (by obtain ⟨_, _, _, _, _, _, _, _, _, h, _⟩ := h; cases h), fun _ _ _ _ _ _ _ _ _ _ _ _ _ h => (by obtain ⟨_, _, _, _, _, _, _, _, _, h, _⟩ := h; cases h)⟩
  | n + 1 =>
    have nd := sc__law_same.nd
    have D__law_same : DefOk P w mg base G ("_law_same" : Str) (0 + n) 2 (FR__law_same n) := ⟨f, fd, _, okR__law_same T F hm hb  n, hm, F.kp, hb⟩
    def_ok (k := 0 + n) F sc__law_same rfl fun cdv A outer s H E hr => (dss_cons (ds_if (dt_val (dv_isi2 rfl T.n_isinstance (dv_var 1) rfl T.n_list (by decide +kernel) rfl T.n_tuple (by decide +kernel))) (dss_cons (ds_if (PW.pt (dw_or (dt_cmp (ok_ne (hU64 hr)) bf_ne (dv_isi rfl T.n_isinstance (dv_var 0) rfl T.n_list (by decide +kernel)) (dv_isi rfl T.n_isinstance (dv_var 1) rfl T.n_list (by decide +kernel))) (dw_or1 (dt_cmp (ok_ne (hU64 hr)) bf_ne (dv_isi rfl T.n_isinstance (dv_var 0) rfl T.n_tuple (by decide +kernel)) (dv_isi rfl T.n_isinstance (dv_var 1) rfl T.n_tuple (by decide +kernel)))))) (dss_cons (ds_ret dv_bl)
    dss_nil) dss_nil)
    (dss_cons (ds_ret (dv_and (dv_cmp (ok_eq (hU64 hr)) (dv_bi ok_len rfl T.n_len (by decide +kernel) (dvs_cons (dv_var 0) dvs_nil)) (dv_bi ok_len rfl T.n_len (by decide +kernel) (dvs_cons (dv_var 1) dvs_nil))) (dv_one _ (dv_bi (ok_all (by rfl)) rfl T.n_all (by decide +kernel) (dvs_cons (dv_lc (.many [2, 3]) [2, 3] rfl nd (di_zip rfl T.n_zip (dv_var 0) (dv_var 1)) (blkOk_by (own := [(("_law_mine_so" : Str), 2), (("_law_own" : Str), 3)]) (N := [("_law_got" : Str), ("_law_goal" : Str), ("_law_mine_so" : Str), ("_law_own" : Str)]) (sc := defScope s__law_same) (by decide +kernel)) rfl (by decide) (fun _ _ _ _ _ => (pg_tup rfl (pgs_cons (pg_name (i := 2) nd rfl (by first | exact Or.inl rfl | exact Or.inr rfl)) (pgs_cons (pg_name (i := 3) nd rfl (by first | exact Or.inl rfl | exact Or.inr rfl)) pgs_nil)))) (fun _ _ _ _ _ => dts_no) (fun _ _ _ _ _ => (dv_call (D__law_same) hr rfl (dvs_cons (dv_var 2) (dvs_cons (dv_var 3) dvs_nil))))) dvs_nil)))))
    dss_nil)) dss_nil)
    (dss_cons (ds_if (PW.pt (dw_or (dt_cmp ok_is bf_is (dv_var 1) dv_non) (dw_or1 (dt_val (dv_isi2 rfl T.n_isinstance (dv_var 1) rfl T.n_bool (by decide +kernel) rfl T.n_str (by decide +kernel)))))) (dss_cons (ds_ret (dv_and (dv_cmp (ok_eq (hU64 hr)) (dv_var 0) (dv_var 1)) (dv_and (dv_cmp (ok_eq (hU64 hr)) (dv_isi rfl T.n_isinstance (dv_var 0) rfl T.n_bool (by decide +kernel)) (dv_isi rfl T.n_isinstance (dv_var 1) rfl T.n_bool (by decide +kernel))) (dv_one _ (dv_cmp (ok_eq (hU64 hr)) (dv_cmp ok_is (dv_var 0) dv_non) (dv_cmp ok_is (dv_var 1) dv_non))))))
    dss_nil) dss_nil)
    (dss_cons (ds_ret (dv_and (dv_isi rfl T.n_isinstance (dv_var 0) rfl T.n_int (by decide +kernel)) (dv_and (dv_not (dv_isi rfl T.n_isinstance (dv_var 0) rfl T.n_bool (by decide +kernel))) (dv_one _ (dv_cmp (ok_eq (hU64 hr)) (dv_var 0) (dv_var 1))))))
    dss_nil)))
abbrev s__law_lists : Stmt := topS 37
theorem sc__law_lists : FnScope [("_law_matter" : Str), ("_law_own" : Str)] [("_law_matter" : Str)] (defScope s__law_lists) := ⟨rfl, rfl, rfl, by decide +kernel, rfl, by decide +kernel, by decide +kernel⟩
def m__law_lists (F__law_lists_ : List D → U → Option (D × U)) : MS := (sCons (sRet (mIte (mTru (mIsi ["list", "tuple"] (mVar 0))) (mLc (.one 1) [1] (mItems (mVar 0)) mYes (mCall 1 F__law_lists_ (mCons (mVar 1) mNil))) (mVar 0)))
    sNil)
def FR__law_lists : Nat → List D → U → Option (D × U)
  | 0 => fun _ _ => none
  | n + 1 => runB (m__law_lists (FR__law_lists n)) 2
theorem okR__law_lists {P : Program} {w : World} {K : PySem.W.Frag} {mg : Str → Option Value} {base : Heap} {G : Gx K} (T : Tx mg) {f : Addr} {fd : FuncData} (F : Fun K ("_law_lists" : Str) ("_law_lists" : Str) s__law_lists f fd) (hm : mg ("_law_lists" : Str) = some (.ref f)) (hb : Binds K fd [("_law_matter" : Str)] [])  : ∀ n : Nat, FnOk P w K mg base CX0 (0 + n) f fd [("_law_matter" : Str)] (spF G (FR__law_lists n) 1)
  | 0 => ⟨fun _ _ _ _ h => (by obtain ⟨_, _, _, _, _, _, _, _, _, h, _⟩ := h; cases h), fun _ _ _ _ _ _ _ _ _ _ _ _ _ h => (by obtain ⟨_, _, _, _, _, _, _, _, _, h, _⟩ := h; cases h)⟩
  | n + 1 =>
    have nd := sc__law_lists.nd
    have D__law_lists : DefOk P w mg base G ("_law_lists" : Str) (0 + n) 1 (FR__law_lists n) := ⟨f, fd, _, okR__law_lists T F hm hb  n, hm, F.kp, hb⟩
    def_ok (k := 0 + n) F sc__law_lists rfl fun cdv A outer s H E hr => (dss_cons (ds_ret (dv_ite (dt_val (dv_isi2 rfl T.n_isinstance (dv_var 0) rfl T.n_list (by decide +kernel) rfl T.n_tuple (by decide +kernel))) (dv_lc (.one 1) [1] rfl nd (di_items (dv_var 0)) (blkOk_by (own := [(("_law_own" : Str), 1)]) (N := [("_law_matter" : Str), ("_law_own" : Str)]) (sc := defScope s__law_lists) (by decide +kernel)) rfl (by decide) (fun _ _ _ _ _ => (pg_name (i := 1) nd rfl (by first | exact Or.inl rfl | exact Or.inr rfl))) (fun _ _ _ _ _ => dts_no) (fun _ _ _ _ _ => (dv_call (D__law_lists) hr rfl (dvs_cons (dv_var 1) dvs_nil)))) (dv_var 0)))
    dss_nil)
abbrev s__law_pick : Stmt := topS 38
theorem sc__law_pick : FnScope [("_law_urn" : Str), ("_law_goods_so" : Str), ("_law_many_so" : Str), ("_law_left_so" : Str), ("_law_found" : Str), ("_law_turn" : Str)] [("_law_urn" : Str), ("_law_goods_so" : Str), ("_law_many_so" : Str)] (defScope s__law_pick) := ⟨rfl, rfl, rfl, by decide +kernel, rfl, by decide +kernel, by decide +kernel⟩
def m__law_pick : MS := (sCons (sParv 3 4 (vList (mVar 1)) (vLst mNil))
    (sCons (sFor (.one 5) (mRange1 (mVar 2)) (sCons (sAppPop 4 3 (mCall 2 F__law_take (mCons (mVar 0) (mCons (mPeek 3 (mBi bLen (mCons (mVar 3) mNil))) mNil))))
    sNil))
    (sPub 4
    (sCons (sRet (mVar 4))
    sNil))))
def F__law_pick : List D → U → Option (D × U) := runB m__law_pick 6
theorem ok__law_pick {P : Program} {w : World} {K : PySem.W.Frag} {mg : Str → Option Value} {base : Heap} {G : Gx K} (T : Tx mg) {f : Addr} {fd : FuncData} (F : Fun K ("_law_pick" : Str) ("_law_pick" : Str) s__law_pick f fd) (D__law_take : DefOk P w mg base G ("_law_take" : Str) 1 2 F__law_take) : FnOk P w K mg base CX0 2 f fd [("_law_urn" : Str), ("_law_goods_so" : Str), ("_law_many_so" : Str)] (spF G F__law_pick 3) :=
  have nd := sc__law_pick.nd
  def_ok F sc__law_pick rfl fun cdv A outer s H E hr => (dss_cons (ds_parv 3 4 (dv_oList rfl T.n_list (dv_var 1)) (dv_oLst dvs_nil) (fun h => ps_par (i := 3) (j := 4) rfl nd rfl rfl (by decide) rfl rfl h (by rfl)))
    (dss_cons (ds_for (.one 5) PassesOwn.never rfl (di_range1 rfl T.n_range (dv_var 2)) (pg_name (i := 5) nd rfl (by first | exact Or.inl rfl | exact Or.inr rfl)) (dss_cons (ds_appPop 4 3 (dv_call (D__law_take.mono (by decide)) hr rfl (dvs_cons (dv_var 0) (dvs_cons (dv_peek 3 (dv_bi ok_len rfl T.n_len (by decide +kernel) (dvs_cons (dv_var 3) dvs_nil))) dvs_nil))))
    dss_nil))
    (dss_pub 4
    (dss_cons (ds_ret (dv_var 4))
    dss_nil))))
abbrev s__law_tags : Stmt := topS 39
theorem sc__law_tags : FnScope [("_law_urn" : Str), ("_law_many_so" : Str)] [("_law_urn" : Str), ("_law_many_so" : Str)] (defScope s__law_tags) := ⟨rfl, rfl, rfl, by decide +kernel, rfl, by decide +kernel, by decide +kernel⟩
def m__law_tags : MS := (sCons (sRet (mBi bTuple (mCons (mBi bSortB (mCons (mCall 3 F__law_pick (mCons (mVar 0) (mCons (mLst (mCons (mC (.str ("a" : Str))) (mCons (mC (.str ("b" : Str))) (mCons (mC (.str ("c" : Str))) (mCons (mC (.str ("ab" : Str))) (mCons (mC (.str ("err" : Str))) (mCons (mC (.str ("out" : Str))) (mCons (mC (.str ("log" : Str))) (mCons (mC (.str ("x" : Str))) (mCons (mC (.str ("zzzzzzzz" : Str))) mNil)))))))))) (mCons (mVar 1) mNil)))) mNil)) mNil)))
    sNil)
def F__law_tags : List D → U → Option (D × U) := runB m__law_tags 2
theorem ok__law_tags {P : Program} {w : World} {K : PySem.W.Frag} {mg : Str → Option Value} {base : Heap} {G : Gx K} (T : Tx mg) {f : Addr} {fd : FuncData} (F : Fun K ("_law_tags" : Str) ("_law_tags" : Str) s__law_tags f fd) (D__law_pick : DefOk P w mg base G ("_law_pick" : Str) 2 3 F__law_pick) : FnOk P w K mg base CX0 3 f fd [("_law_urn" : Str), ("_law_many_so" : Str)] (spF G F__law_tags 2) :=
  have nd := sc__law_tags.nd
  def_ok F sc__law_tags rfl fun cdv A outer s H E hr => (dss_cons (ds_ret (dv_ty ok_tuple rfl T.n_tuple (by decide +kernel) (dvs_cons (dv_bi (ok_sortB (hU64 hr)) rfl T.n_sorted (by decide +kernel) (dvs_cons (dv_call (D__law_pick.mono (by decide)) hr rfl (dvs_cons (dv_var 0) (dvs_cons (dv_lst (dvs_cons dv_str (dvs_cons dv_str (dvs_cons dv_str (dvs_cons dv_str (dvs_cons dv_str (dvs_cons dv_str (dvs_cons dv_str (dvs_cons dv_str (dvs_cons dv_str dvs_nil)))))))))) (dvs_cons (dv_var 1) dvs_nil)))) dvs_nil)) dvs_nil)))
    dss_nil)
abbrev s__law_deeds : Stmt := topS 40
theorem sc__law_deeds : FnScope [("_law_urn" : Str), ("_law_tags_here" : Str), ("_law_size_so" : Str), ("_law_found" : Str), ("_law_turn" : Str), ("_law_word_so" : Str)] [("_law_urn" : Str), ("_law_tags_here" : Str), ("_law_size_so" : Str)] (defScope s__law_deeds) := ⟨rfl, rfl, rfl, by decide +kernel, rfl, by decide +kernel, by decide +kernel⟩
def m__law_deeds : MS := (sCons (sSv 3 (vLst mNil))
    (sCons (sFor (.one 4) (mRange1 (mVar 2)) (sCons (sSet 5 (mIte (mTru (mBin cEq (mCall 2 F__law_take (mCons (mVar 0) (mCons (mC (.int (4))) mNil))) (mC (.int (0))))) (mC (.str ("flush" : Str))) (mC (.str ("write" : Str)))))
    (sCons (sApp 3 (mTup (mCons (mVar 5) (mCons (mCall 2 F__law_of (mCons (mVar 0) (mCons (mVar 1) mNil))) mNil))))
    sNil)))
    (sPub 3
    (sCons (sRet (mBi bTuple (mCons (mVar 3) mNil)))
    sNil))))
def F__law_deeds : List D → U → Option (D × U) := runB m__law_deeds 6
theorem ok__law_deeds {P : Program} {w : World} {K : PySem.W.Frag} {mg : Str → Option Value} {base : Heap} {G : Gx K} (T : Tx mg) {f : Addr} {fd : FuncData} (F : Fun K ("_law_deeds" : Str) ("_law_deeds" : Str) s__law_deeds f fd) (D__law_of : DefOk P w mg base G ("_law_of" : Str) 2 2 F__law_of) (D__law_take : DefOk P w mg base G ("_law_take" : Str) 1 2 F__law_take) : FnOk P w K mg base CX0 3 f fd [("_law_urn" : Str), ("_law_tags_here" : Str), ("_law_size_so" : Str)] (spF G F__law_deeds 3) :=
  have nd := sc__law_deeds.nd
  def_ok F sc__law_deeds rfl fun cdv A outer s H E hr => (dss_cons (ds_setv 3 nd (dv_oLst dvs_nil))
    (dss_cons (ds_for (.one 4) PassesOwn.never rfl (di_range1 rfl T.n_range (dv_var 2)) (pg_name (i := 4) nd rfl (by first | exact Or.inl rfl | exact Or.inr rfl)) (dss_cons (ds_set 5 nd (dv_ite (dt_cmp (ok_eq (hU64 hr)) bf_eq (dv_call (D__law_take.mono (by decide)) hr rfl (dvs_cons (dv_var 0) (dvs_cons dv_int dvs_nil))) dv_int) dv_str dv_str))
    (dss_cons (ds_app 3 (dv_tup (dvs_cons (dv_var 5) (dvs_cons (dv_call (D__law_of.mono (by decide)) hr rfl (dvs_cons (dv_var 0) (dvs_cons (dv_var 1) dvs_nil))) dvs_nil))))
    dss_nil)))
    (dss_pub 3
    (dss_cons (ds_ret (dv_ty ok_tuple rfl T.n_tuple (by decide +kernel) (dvs_cons (dv_var 3) dvs_nil)))
    dss_nil))))
abbrev s__law_born : Stmt := topS 41
theorem sc__law_born : FnScope [("_law_deeds_so" : Str), ("_law_found" : Str), ("_law_many_so" : Str), ("_law_k" : Str), ("_law_word_so" : Str), ("_law_tag" : Str)] [("_law_deeds_so" : Str)] (defScope s__law_born) := ⟨rfl, rfl, rfl, by decide +kernel, rfl, by decide +kernel, by decide +kernel⟩
def m__law_born : MS := (sCons (sParv 1 2 vDtt vDct)
    (sCons (sFor (.tree [.inl 3, .inr [4, 5]]) (mEnumA (mVar 0)) (sCons (sIf (mTru (mBin cEq (mVar 4) (mC (.str ("write" : Str))))) (sCons (sPutD 2 (mVar 5) (mBin fAdd (mPeek 2 (mGet2 (mVar 2) (mVar 5) (mC (.int (0))))) (mC (.int (1)))))
    (sCons (sPutT 1 (mTup (mCons (mVar 5) (mCons (mPeek 2 (mBin dixD (mVar 2) (mVar 5))) mNil))) (mVar 3))
    sNil)) sNil)
    sNil))
    (sPub 1
    (sCons (sRet (mVar 1))
    sNil))))
def F__law_born : List D → U → Option (D × U) := runB m__law_born 6
theorem ok__law_born {P : Program} {w : World} {K : PySem.W.Frag} {mg : Str → Option Value} {base : Heap} {G : Gx K} (T : Tx mg) {f : Addr} {fd : FuncData} (F : Fun K ("_law_born" : Str) ("_law_born" : Str) s__law_born f fd) (hG : G.pw = some (P, w)) : FnOk P w K mg base CX0 1 f fd [("_law_deeds_so" : Str)] (spF G F__law_born 1) :=
  have nd := sc__law_born.nd
  def_ok F sc__law_born rfl fun cdv A outer s H E hr => (dss_cons (ds_parv 1 2 (dv_oDtt hG) dv_oDct (fun h => ps_par (i := 1) (j := 2) rfl nd rfl rfl (by decide) rfl rfl h (by rfl)))
    (dss_cons (ds_for (.tree [.inl 3, .inr [4, 5]]) PassesOwn.never rfl (di_enumA rfl T.n_enumerate (dv_var 0)) (pg_tup rfl (pgs_cons (pg_name (i := 3) nd rfl (by first | exact Or.inl rfl | exact Or.inr rfl)) (pgs_cons (pg_tup rfl (pgs_cons (pg_name (i := 4) nd rfl (by first | exact Or.inl rfl | exact Or.inr rfl)) (pgs_cons (pg_name (i := 5) nd rfl (by first | exact Or.inl rfl | exact Or.inr rfl)) pgs_nil))) pgs_nil))) (dss_cons (ds_if (dt_cmp (ok_eq (hU64 hr)) bf_eq (dv_var 4) dv_str) (dss_cons (ds_putD 2 (hU1 hr) (dv_var 5) (dv_bin ok_add (dv_peek 2 (dv_get2 (hU1 hr) ⟨rfl, rfl, rfl, rfl⟩ (dv_var 2) (dv_var 5) dv_int)) dv_int))
    (dss_cons (ds_putT 1 hG (hU1 hr) (dv_tup (dvs_cons (dv_var 5) (dvs_cons (dv_peek 2 (dv_dix (hU1 hr) (dv_var 2) (dv_var 5))) dvs_nil))) (dv_var 3))
    dss_nil)) dss_nil)
    dss_nil))
    (dss_pub 1
    (dss_cons (ds_ret (dv_var 1))
    dss_nil))))
abbrev s__law_wished : Stmt := topS 42
theorem sc__law_wished : FnScope [("_law_deeds_so" : Str), ("_law_born_so" : Str), ("_law_found" : Str), ("_law_one" : Str), ("_law_own" : Str)] [("_law_deeds_so" : Str)] (defScope s__law_wished) := ⟨rfl, rfl, rfl, by decide +kernel, rfl, by decide +kernel, by decide +kernel⟩
def m__law_wished : MS := (sCons (sParv 1 2 (vP (mCall 1 F__law_born (mCons (mVar 0) mNil))) (vP (mLst mNil)))
    (sCons (sFor (.one 3) (mItemsT (mVar 1)) (sCons (sSet 2 (mBin fAdd (mVar 2) (mLc (.one 4) [4] (mItemsT (mVar 1)) (mAndB (mTru (mBin cNe (mBin ixD (mVar 4) (mC (.int (0)))) (mBin ixD (mVar 3) (mC (.int (0)))))) (mTru (mBin cLt (mBin dixT (mVar 1) (mVar 3)) (mBin dixT (mVar 1) (mVar 4))))) (mTup (mCons (mVar 3) (mCons (mVar 4) mNil))))))
    sNil))
    (sCons (sRet (mBi bSortB (mCons (mVar 2) mNil)))
    sNil)))
def F__law_wished : List D → U → Option (D × U) := runB m__law_wished 5
theorem ok__law_wished {P : Program} {w : World} {K : PySem.W.Frag} {mg : Str → Option Value} {base : Heap} {G : Gx K} (T : Tx mg) {f : Addr} {fd : FuncData} (F : Fun K ("_law_wished" : Str) ("_law_wished" : Str) s__law_wished f fd) (D__law_born : DefOk P w mg base G ("_law_born" : Str) 1 1 F__law_born) (hG : G.pw = some (P, w)) : FnOk P w K mg base CX0 2 f fd [("_law_deeds_so" : Str)] (spF G F__law_wished 1) :=
  have nd := sc__law_wished.nd
  def_ok F sc__law_wished rfl fun cdv A outer s H E hr => (dss_cons (ds_parvC 1 2 rfl nd (dv_P (dv_call (D__law_born.mono (by decide)) hr rfl (dvs_cons (dv_var 0) dvs_nil))) (dv_P (dv_lst dvs_nil)))
    (dss_cons (ds_for (.one 3) PassesOwn.never rfl (di_keysT hG (dv_var 1)) (pg_name (i := 3) nd rfl (by first | exact Or.inl rfl | exact Or.inr rfl)) (dss_cons (ds_set 2 nd (dv_bin ok_add (dv_var 2) (dv_lc (.one 4) [4] rfl nd (di_keysT hG (dv_var 1)) (blkOk_by (own := [(("_law_own" : Str), 4)]) (N := [("_law_deeds_so" : Str), ("_law_born_so" : Str), ("_law_found" : Str), ("_law_one" : Str), ("_law_own" : Str)]) (sc := defScope s__law_wished) (by decide +kernel)) rfl (by decide) (fun _ _ _ _ _ => (pg_name (i := 4) nd rfl (by first | exact Or.inl rfl | exact Or.inr rfl))) (fun _ _ _ _ _ => dts_one (PW.pt (dw_and (dt_cmp (ok_ne (hU64 hr)) bf_ne (dv_ix (dv_var 4) dv_int) (dv_ix (dv_var 3) dv_int)) (dw_and1 (dt_cmp ok_lt bf_lt (dv_dixT hG (hU1 hr) (dv_var 1) (dv_var 3)) (dv_dixT hG (hU1 hr) (dv_var 1) (dv_var 4))))))) (fun _ _ _ _ _ => (dv_tup (dvs_cons (dv_var 3) (dvs_cons (dv_var 4) dvs_nil)))))))
    dss_nil))
    (dss_cons (ds_ret (dv_bi (ok_sortB (hU64 hr)) rfl T.n_sorted (by decide +kernel) (dvs_cons (dv_var 2) dvs_nil)))
    dss_nil)))
abbrev s__law_held : Stmt := topS 43
theorem sc__law_held : FnScope [("_law_deeds_so" : Str), ("_law_wish_so" : Str), ("_law_born_so" : Str)] [("_law_deeds_so" : Str), ("_law_wish_so" : Str)] (defScope s__law_held) := ⟨rfl, rfl, rfl, by decide +kernel, rfl, by decide +kernel, by decide +kernel⟩
def m__law_held : MS := (sCons (sSet 2 (mCall 1 F__law_born (mCons (mVar 0) mNil)))
    (sCons (sRet (mBin cIn (mTup (mCons (mC (.str ("flush" : Str))) (mCons (mBin ixD (mBin ixD (mVar 1) (mC (.int (0)))) (mC (.int (0)))) mNil))) (mSl (mVar 0) (moAt (mBin dixT (mVar 2) (mBin ixD (mVar 1) (mC (.int (0)))))) (moAt (mBin dixT (mVar 2) (mBin ixD (mVar 1) (mC (.int (1)))))))))
    sNil))
def F__law_held : List D → U → Option (D × U) := runB m__law_held 3
theorem ok__law_held {P : Program} {w : World} {K : PySem.W.Frag} {mg : Str → Option Value} {base : Heap} {G : Gx K} (T : Tx mg) {f : Addr} {fd : FuncData} (F : Fun K ("_law_held" : Str) ("_law_held" : Str) s__law_held f fd) (D__law_born : DefOk P w mg base G ("_law_born" : Str) 1 1 F__law_born) (hG : G.pw = some (P, w)) : FnOk P w K mg base CX0 2 f fd [("_law_deeds_so" : Str), ("_law_wish_so" : Str)] (spF G F__law_held 2) :=
  have nd := sc__law_held.nd
  def_ok F sc__law_held rfl fun cdv A outer s H E hr => (dss_cons (ds_set 2 nd (dv_call (D__law_born.mono (by decide)) hr rfl (dvs_cons (dv_var 0) dvs_nil)))
    (dss_cons (ds_ret (dv_cmp (ok_in (hU65 hr)) (dv_tup (dvs_cons dv_str (dvs_cons (dv_ix (dv_ix (dv_var 1) dv_int) dv_int) dvs_nil))) (dv_sl (dv_var 0) (do_at (dv_dixT hG (hU1 hr) (dv_var 2) (dv_ix (dv_var 1) dv_int))) (do_at (dv_dixT hG (hU1 hr) (dv_var 2) (dv_ix (dv_var 1) dv_int))))))
    dss_nil))
abbrev s__law_odd : Stmt := topS 44
theorem sc__law_odd : FnScope [("_law_one" : Str), ("_law_own" : Str), ("_law_found" : Str)] [("_law_one" : Str), ("_law_own" : Str)] (defScope s__law_odd) := ⟨rfl, rfl, rfl, by decide +kernel, rfl, by decide +kernel, by decide +kernel⟩
def m__law_odd : MS := (sCons (sSet 2 (mLst (mCons (mLst (mCons (mVar 0) (mCons (mVar 1) mNil))) (mCons (mTup (mCons (mBi bList (mCons (mVar 0) mNil)) (mCons (mVar 1) mNil))) (mCons (mTup (mCons (mVar 0) (mCons (mBi bList (mCons (mVar 1) mNil)) mNil))) (mCons (mTup (mCons (mVar 0) mNil)) (mCons (mTup (mCons (mVar 0) (mCons (mVar 1) (mCons (mVar 1) mNil)))) (mCons (mTup (mCons (mBin ixD (mVar 0) (mC (.int (0)))) (mCons (mVar 1) mNil))) (mCons (mTup (mCons (mVar 0) (mCons (mC .non) mNil))) (mCons (mC .non) (mCons (mC (.bl true)) (mCons (mC (.int (0))) (mCons (mC (.str ("" : Str))) mNil)))))))))))))
    (sCons (sSet 2 (mBin fAdd (mVar 2) (mLst (mCons (mTup (mCons (mTup (mCons (mBin ixD (mVar 0) (mC (.int (0)))) (mCons (mC .non) mNil))) (mCons (mVar 1) mNil))) (mCons (mTup (mCons (mTup (mCons (mBin ixD (mVar 0) (mC (.int (0)))) (mCons (mC (.bl true)) mNil))) (mCons (mVar 1) mNil))) (mCons (mTup (mCons (mVar 0) (mCons (mTup (mCons (mBin ixD (mVar 1) (mC (.int (0)))) (mCons (mC (.bl true)) mNil))) mNil))) (mCons (mTup (mCons (mTup (mCons (mBin ixD (mVar 0) (mC (.int (0)))) (mCons (mBi bStrI (mCons (mBin ixD (mVar 0) (mC (.int (1)))) mNil)) mNil))) (mCons (mVar 1) mNil))) (mCons (mTup (mCons (mTup mNil) (mCons (mVar 1) mNil))) mNil))))))))
    (sCons (sRet (mBin fAdd (mVar 2) (mLst (mCons (mTup (mCons (mTup (mCons (mBin ixD (mVar 0) (mC (.int (0)))) (mCons (mBin ixD (mVar 0) (mC (.int (1)))) (mCons (mC (.int (1))) mNil)))) (mCons (mVar 1) mNil))) (mCons (mTup (mCons (mVar 0) (mCons (mTup (mCons (mC (.str ("nobody" : Str))) (mCons (mC (.int (1))) mNil))) mNil))) (mCons (mTup (mCons (mTup (mCons (mBin fMulS (mC (.str ("q" : Str))) (mC (.int (9)))) (mCons (mC (.int (1))) mNil))) (mCons (mVar 1) mNil))) (mCons (mTup (mCons (mTup (mCons (mBin ixD (mVar 0) (mC (.int (0)))) (mCons (mC (.int (0))) mNil))) (mCons (mVar 1) mNil))) (mCons (mTup (mCons (mVar 0) (mCons (mTup (mCons (mBin ixD (mVar 1) (mC (.int (0)))) (mCons (mC (.int (60))) mNil))) mNil))) mNil))))))))
    sNil)))
def F__law_odd : List D → U → Option (D × U) := runB m__law_odd 3
theorem ok__law_odd {P : Program} {w : World} {K : PySem.W.Frag} {mg : Str → Option Value} {base : Heap} {G : Gx K} (T : Tx mg) {f : Addr} {fd : FuncData} (F : Fun K ("_law_odd" : Str) ("_law_odd" : Str) s__law_odd f fd)  : FnOk P w K mg base CX0 1 f fd [("_law_one" : Str), ("_law_own" : Str)] (spF G F__law_odd 2) :=
  have nd := sc__law_odd.nd
  def_ok F sc__law_odd rfl fun cdv A outer s H E hr => (dss_cons (ds_set 2 nd (dv_lst (dvs_cons (dv_lst (dvs_cons (dv_var 0) (dvs_cons (dv_var 1) dvs_nil))) (dvs_cons (dv_tup (dvs_cons (dv_ty ok_list rfl T.n_list (by decide +kernel) (dvs_cons (dv_var 0) dvs_nil)) (dvs_cons (dv_var 1) dvs_nil))) (dvs_cons (dv_tup (dvs_cons (dv_var 0) (dvs_cons (dv_ty ok_list rfl T.n_list (by decide +kernel) (dvs_cons (dv_var 1) dvs_nil)) dvs_nil))) (dvs_cons (dv_tup (dvs_cons (dv_var 0) dvs_nil)) (dvs_cons (dv_tup (dvs_cons (dv_var 0) (dvs_cons (dv_var 1) (dvs_cons (dv_var 1) dvs_nil)))) (dvs_cons (dv_tup (dvs_cons (dv_ix (dv_var 0) dv_int) (dvs_cons (dv_var 1) dvs_nil))) (dvs_cons (dv_tup (dvs_cons (dv_var 0) (dvs_cons dv_non dvs_nil))) (dvs_cons dv_non (dvs_cons dv_bl (dvs_cons dv_int (dvs_cons dv_str dvs_nil)))))))))))))
    (dss_cons (ds_set 2 nd (dv_bin ok_add (dv_var 2) (dv_lst (dvs_cons (dv_tup (dvs_cons (dv_tup (dvs_cons (dv_ix (dv_var 0) dv_int) (dvs_cons dv_non dvs_nil))) (dvs_cons (dv_var 1) dvs_nil))) (dvs_cons (dv_tup (dvs_cons (dv_tup (dvs_cons (dv_ix (dv_var 0) dv_int) (dvs_cons dv_bl dvs_nil))) (dvs_cons (dv_var 1) dvs_nil))) (dvs_cons (dv_tup (dvs_cons (dv_var 0) (dvs_cons (dv_tup (dvs_cons (dv_ix (dv_var 1) dv_int) (dvs_cons dv_bl dvs_nil))) dvs_nil))) (dvs_cons (dv_tup (dvs_cons (dv_tup (dvs_cons (dv_ix (dv_var 0) dv_int) (dvs_cons (dv_ty ok_strI rfl T.n_str (by decide +kernel) (dvs_cons (dv_ix (dv_var 0) dv_int) dvs_nil)) dvs_nil))) (dvs_cons (dv_var 1) dvs_nil))) (dvs_cons (dv_tup (dvs_cons (dv_tup dvs_nil) (dvs_cons (dv_var 1) dvs_nil))) dvs_nil))))))))
    (dss_cons (ds_ret (dv_bin ok_add (dv_var 2) (dv_lst (dvs_cons (dv_tup (dvs_cons (dv_tup (dvs_cons (dv_ix (dv_var 0) dv_int) (dvs_cons (dv_ix (dv_var 0) dv_int) (dvs_cons dv_int dvs_nil)))) (dvs_cons (dv_var 1) dvs_nil))) (dvs_cons (dv_tup (dvs_cons (dv_var 0) (dvs_cons (dv_tup (dvs_cons dv_str (dvs_cons dv_int dvs_nil))) dvs_nil))) (dvs_cons (dv_tup (dvs_cons (dv_tup (dvs_cons (dv_bin ok_mulS dv_str dv_int) (dvs_cons dv_int dvs_nil))) (dvs_cons (dv_var 1) dvs_nil))) (dvs_cons (dv_tup (dvs_cons (dv_tup (dvs_cons (dv_ix (dv_var 0) dv_int) (dvs_cons dv_int dvs_nil))) (dvs_cons (dv_var 1) dvs_nil))) (dvs_cons (dv_tup (dvs_cons (dv_var 0) (dvs_cons (dv_tup (dvs_cons (dv_ix (dv_var 1) dv_int) (dvs_cons dv_int dvs_nil))) dvs_nil))) dvs_nil))))))))
    dss_nil)))
abbrev s__law_case_right : Stmt := topS 45
theorem sc__law_case_right : FnScope [("_law_urn" : Str), ("_law_deeds_so" : Str), ("_law_host" : Str), ("_law_goal" : Str), ("_law_lines_so" : Str), ("_law_one" : Str), ("_law_own" : Str), ("_law_got" : Str), ("_law_odd_so" : Str), ("_law_some" : Str), ("_law_soft" : Str), ("_law_due" : Str), ("_law_turn" : Str), ("_law_far" : Str)] [("_law_urn" : Str), ("_law_deeds_so" : Str)] (defScope s__law_case_right) := ⟨rfl, rfl, rfl, by decide +kernel, rfl, by decide +kernel, by decide +kernel⟩
def m__law_case_right : MS := (sCons (sTgt (.many [2, 3]) (mTup (mCons (mCall 1 F_Program (mCons (mVar 1) mNil)) (mCons (mCall 1 F__law_wished (mCons (mVar 1) mNil)) mNil))))
    (sCons (sSet 4 (mSortTP (mCall 1 F__law_born (mCons (mVar 1) mNil))))
    (sCons (sIf (mNotB (mTru (mCall 2 (FR__law_same 6) (mCons (mCall 1 F_all_wishes (mCons (mVar 2) mNil)) (mCons (mBi bTuple (mCons (mVar 3) mNil)) mNil))))) (sCons (sRet (mC (.bl false)))
    sNil) sNil)
    (sCons (sFor (.one 5) (mItems (mVar 4)) (sCons (sSet 7 (mLc (.one 6) [6] (mItems (mVar 4)) mYes (mCall 2 F_is_wish (mCons (mVar 2) (mCons (mTup (mCons (mVar 5) (mCons (mVar 6) mNil))) mNil)))))
    (sCons (sIf (mNotB (mTru (mCall 2 (FR__law_same 6) (mCons (mVar 7) (mCons (mLc (.one 6) [6] (mItems (mVar 4)) mYes (mBin cIn (mTup (mCons (mVar 5) (mCons (mVar 6) mNil))) (mVar 3))) mNil))))) (sCons (sRet (mC (.bl false)))
    sNil) sNil)
    sNil)))
    (sCons (sIf (mTru (mBin cEq (mVar 3) (mLst mNil))) (sCons (sRet (mCall 2 (FR__law_same 6) (mCons (mCall 2 (okF F_kept) (mCons (mVar 2) (mCons (mTup mNil) mNil))) (mCons (mTup mNil) mNil))))
    sNil) sNil)
    (sCons (sTgt (.many [5, 6]) (mCall 2 F__law_of (mCons (mVar 0) (mCons (mVar 3) mNil))))
    (sCons (sSet 8 (mCall 2 F__law_odd (mCons (mVar 5) (mCons (mVar 6) mNil))))
    (sCons (sIf (mNotB (mTru (mCall 2 (FR__law_same 6) (mCons (mBin fAdd (mLc (.one 13) [13] (mItems (mVar 8)) mYes (mCall 2 F_is_wish (mCons (mVar 2) (mCons (mVar 13) mNil)))) (mLst (mCons (mCallP 2 [1, 0] F_is_wish (mCons (mTup (mCons (mVar 5) (mCons (mVar 6) mNil))) (mCons (mVar 2) mNil))) mNil))) (mCons (mBin fAdd (mBin fMul (mLst (mCons (mC (.bl false)) mNil)) (mBi bLen (mCons (mVar 8) mNil))) (mLst (mCons (mC (.bl true)) mNil))) mNil))))) (sCons (sRet (mC (.bl false)))
    sNil) sNil)
    (sCons (sSet 9 (mLc (.one 12) [12] (mRange1 (mCall 2 F__law_take (mCons (mVar 0) (mCons (mC (.int (7))) mNil)))) mYes (mCall 2 F__law_of (mCons (mVar 0) (mCons (mVar 3) mNil)))))
    (sCons (sSet 10 (mCall 1 (FR__law_lists 6) (mCons (mVar 9) mNil)))
    (sCons (sSet 11 (mBi bTuple (mCons (mSortSetN (mLc (.one 13) [13] (mItems (mVar 9)) (mTru (mCall 2 F__law_held (mCons (mVar 1) (mCons (mVar 13) mNil)))) (mVar 13))) mNil)))
    (sCons (sSet 7 (mLst (mCons (mCall 2 (okF F_kept) (mCons (mVar 2) (mCons (mBi bTuple (mCons (mVar 9) mNil)) mNil))) (mCons (mCall 2 (okF F_kept) (mCons (mVar 2) (mCons (mVar 10) mNil))) (mCons (mCallP 2 [1, 0] (okF F_kept) (mCons (mVar 9) (mCons (mVar 2) mNil))) mNil)))))
    (sCons (sRet (mAnd (mCall 2 (FR__law_same 6) (mCons (mVar 7) (mCons (mBin fMul (mLst (mCons (mVar 11) mNil)) (mC (.int (3)))) mNil))) (mAnd (mBin cEq (mVar 10) (mCall 1 (FR__law_lists 6) (mCons (mVar 9) mNil))) (mBin cEq (mPrp ("Program" : Str) F_Program_deeds (mVar 2)) (mVar 1)))))
    sNil)))))))))))))
def F__law_case_right : List D → U → Option (D × U) := runB m__law_case_right 14
theorem ok__law_case_right {P : Program} {w : World} {K : PySem.W.Frag} {mg : Str → Option Value} {base : Heap} {G : Gx K} (T : Tx mg) {f : Addr} {fd : FuncData} (F : Fun K ("_law_case_right" : Str) ("_law_case_right" : Str) s__law_case_right f fd) (P_deeds : PrpOk P w mg base G ("Program" : Str) ("deeds" : Str) 1 F_Program_deeds) (D_Program : MakeOk P w mg base G ("Program" : Str) 7 1 F_Program) (DX_kept : DefOkX P w mg base G ("kept" : Str) 12 2 F_kept) (D__law_born : DefOk P w mg base G ("_law_born" : Str) 1 1 F__law_born) (D__law_held : DefOk P w mg base G ("_law_held" : Str) 2 2 F__law_held) (D__law_lists : DefOk P w mg base G ("_law_lists" : Str) 6 1 (FR__law_lists 6)) (D__law_odd : DefOk P w mg base G ("_law_odd" : Str) 1 2 F__law_odd) (D__law_of : DefOk P w mg base G ("_law_of" : Str) 2 2 F__law_of) (D__law_same : DefOk P w mg base G ("_law_same" : Str) 6 2 (FR__law_same 6)) (D__law_take : DefOk P w mg base G ("_law_take" : Str) 1 2 F__law_take) (D__law_wished : DefOk P w mg base G ("_law_wished" : Str) 2 1 F__law_wished) (D_all_wishes : DefOk P w mg base G ("all_wishes" : Str) 3 1 F_all_wishes) (D_is_wish : DefOk P w mg base G ("is_wish" : Str) 10 2 F_is_wish) (KP_is_wish_1_0 : DefKp P w mg base G ("is_wish" : Str) [("thing" : Str), ("program" : Str)] [1, 0] 10 F_is_wish) (KP_kept_1_0 : DefKp P w mg base G ("kept" : Str) [("wishes" : Str), ("program" : Str)] [1, 0] 12 (okF F_kept)) (hG : G.pw = some (P, w)) : FnOk P w K mg base CX0 13 f fd [("_law_urn" : Str), ("_law_deeds_so" : Str)] (spF G F__law_case_right 2) :=
  have nd := sc__law_case_right.nd
  def_ok F sc__law_case_right rfl fun cdv A outer s H E hr => (dss_cons (ds_tgt (.many [2, 3]) (dv_tup (dvs_cons (dv_make (D_Program.mono (by decide)) hr rfl (dvs_cons (dv_var 1) dvs_nil)) (dvs_cons (dv_call (D__law_wished.mono (by decide)) hr rfl (dvs_cons (dv_var 1) dvs_nil)) dvs_nil))) (pg_tup rfl (pgs_cons (pg_name (i := 2) nd rfl (by first | exact Or.inl rfl | exact Or.inr rfl)) (pgs_cons (pg_name (i := 3) nd rfl (by first | exact Or.inl rfl | exact Or.inr rfl)) pgs_nil))))
    (dss_cons (ds_set 4 nd (dv_sortTP hG rfl (hU64 hr) rfl T.n_sorted (dv_call (D__law_born.mono (by decide)) hr rfl (dvs_cons (dv_var 1) dvs_nil))))
    (dss_cons (ds_if (dt_not (dt_val (dv_call (D__law_same.mono (by decide)) hr rfl (dvs_cons (dv_call (D_all_wishes.mono (by decide)) hr rfl (dvs_cons (dv_var 2) dvs_nil)) (dvs_cons (dv_ty ok_tuple rfl T.n_tuple (by decide +kernel) (dvs_cons (dv_var 3) dvs_nil)) dvs_nil))))) (dss_cons (ds_ret dv_bl)
    dss_nil) dss_nil)
    (dss_cons (ds_for (.one 5) PassesOwn.never rfl (di_items (dv_var 4)) (pg_name (i := 5) nd rfl (by first | exact Or.inl rfl | exact Or.inr rfl)) (dss_cons (ds_setLc 7 (.one 6) [6] rfl nd (sw_true rfl rfl rfl (by decide +kernel)) (di_items (dv_var 4)) (blkOk_by (own := [(("_law_own" : Str), 6)]) (N := [("_law_urn" : Str), ("_law_deeds_so" : Str), ("_law_host" : Str), ("_law_goal" : Str), ("_law_lines_so" : Str), ("_law_one" : Str), ("_law_own" : Str), ("_law_got" : Str), ("_law_odd_so" : Str), ("_law_some" : Str), ("_law_soft" : Str), ("_law_due" : Str), ("_law_turn" : Str), ("_law_far" : Str)]) (sc := defScope s__law_case_right) (by decide +kernel)) rfl (by decide) (fun _ _ _ _ _ => (pg_name (i := 6) nd rfl (by first | exact Or.inl rfl | exact Or.inr rfl))) (fun _ _ _ _ _ => dts_no) (fun _ _ _ _ _ => (dv_call (D_is_wish.mono (by decide)) hr rfl (dvs_cons (dv_var 2) (dvs_cons (dv_tup (dvs_cons (dv_var 5) (dvs_cons (dv_var 6) dvs_nil))) dvs_nil)))))
    (dss_cons (ds_if (dt_not (dt_val (dv_call (D__law_same.mono (by decide)) hr rfl (dvs_cons (dv_var 7) (dvs_cons (dv_lc (.one 6) [6] rfl nd (di_items (dv_var 4)) (blkOk_by (own := [(("_law_own" : Str), 6)]) (N := [("_law_urn" : Str), ("_law_deeds_so" : Str), ("_law_host" : Str), ("_law_goal" : Str), ("_law_lines_so" : Str), ("_law_one" : Str), ("_law_own" : Str), ("_law_got" : Str), ("_law_odd_so" : Str), ("_law_some" : Str), ("_law_soft" : Str), ("_law_due" : Str), ("_law_turn" : Str), ("_law_far" : Str)]) (sc := defScope s__law_case_right) (by decide +kernel)) rfl (by decide) (fun _ _ _ _ _ => (pg_name (i := 6) nd rfl (by first | exact Or.inl rfl | exact Or.inr rfl))) (fun _ _ _ _ _ => dts_no) (fun _ _ _ _ _ => (dv_cmp (ok_in (hU65 hr)) (dv_tup (dvs_cons (dv_var 5) (dvs_cons (dv_var 6) dvs_nil))) (dv_var 3)))) dvs_nil))))) (dss_cons (ds_ret dv_bl)
    dss_nil) dss_nil)
    dss_nil)))
    (dss_cons (ds_if (dt_cmp (ok_eq (hU64 hr)) bf_eq (dv_var 3) (dv_lst dvs_nil)) (dss_cons (ds_ret (dv_call (D__law_same.mono (by decide)) hr rfl (dvs_cons (dv_call (DX_kept.calm.mono (by decide)) hr rfl (dvs_cons (dv_var 2) (dvs_cons (dv_tup dvs_nil) dvs_nil))) (dvs_cons (dv_tup dvs_nil) dvs_nil))))
    dss_nil) dss_nil)
    (dss_cons (ds_tgt (.many [5, 6]) (dv_call (D__law_of.mono (by decide)) hr rfl (dvs_cons (dv_var 0) (dvs_cons (dv_var 3) dvs_nil))) (pg_tup rfl (pgs_cons (pg_name (i := 5) nd rfl (by first | exact Or.inl rfl | exact Or.inr rfl)) (pgs_cons (pg_name (i := 6) nd rfl (by first | exact Or.inl rfl | exact Or.inr rfl)) pgs_nil))))
    (dss_cons (ds_set 8 nd (dv_call (D__law_odd.mono (by decide)) hr rfl (dvs_cons (dv_var 5) (dvs_cons (dv_var 6) dvs_nil))))
    (dss_cons (ds_if (dt_not (dt_val (dv_call (D__law_same.mono (by decide)) hr rfl (dvs_cons (dv_bin ok_add (dv_lc (.one 13) [13] rfl nd (di_items (dv_var 8)) (blkOk_by (own := [(("_law_far" : Str), 13)]) (N := [("_law_urn" : Str), ("_law_deeds_so" : Str), ("_law_host" : Str), ("_law_goal" : Str), ("_law_lines_so" : Str), ("_law_one" : Str), ("_law_own" : Str), ("_law_got" : Str), ("_law_odd_so" : Str), ("_law_some" : Str), ("_law_soft" : Str), ("_law_due" : Str), ("_law_turn" : Str), ("_law_far" : Str)]) (sc := defScope s__law_case_right) (by decide +kernel)) rfl (by decide) (fun _ _ _ _ _ => (pg_name (i := 13) nd rfl (by first | exact Or.inl rfl | exact Or.inr rfl))) (fun _ _ _ _ _ => dts_no) (fun _ _ _ _ _ => (dv_call (D_is_wish.mono (by decide)) hr rfl (dvs_cons (dv_var 2) (dvs_cons (dv_var 13) dvs_nil))))) (dv_lst (dvs_cons (dv_callKp (KP_is_wish_1_0.mono (by decide)) hr rfl rfl (dks_cons (dv_tup (dvs_cons (dv_var 5) (dvs_cons (dv_var 6) dvs_nil))) (dks_cons (dv_var 2) dks_nil))) dvs_nil))) (dvs_cons (dv_bin ok_add (dv_bin ok_mul (dv_lst (dvs_cons dv_bl dvs_nil)) (dv_bi ok_len rfl T.n_len (by decide +kernel) (dvs_cons (dv_var 8) dvs_nil))) (dv_lst (dvs_cons dv_bl dvs_nil))) dvs_nil))))) (dss_cons (ds_ret dv_bl)
    dss_nil) dss_nil)
    (dss_cons (ds_setLc 9 (.one 12) [12] rfl nd (sw_true rfl rfl rfl (by decide +kernel)) (di_range1 rfl T.n_range (dv_call (D__law_take.mono (by decide)) hr rfl (dvs_cons (dv_var 0) (dvs_cons dv_int dvs_nil)))) (blkOk_by (own := [(("_law_turn" : Str), 12)]) (N := [("_law_urn" : Str), ("_law_deeds_so" : Str), ("_law_host" : Str), ("_law_goal" : Str), ("_law_lines_so" : Str), ("_law_one" : Str), ("_law_own" : Str), ("_law_got" : Str), ("_law_odd_so" : Str), ("_law_some" : Str), ("_law_soft" : Str), ("_law_due" : Str), ("_law_turn" : Str), ("_law_far" : Str)]) (sc := defScope s__law_case_right) (by decide +kernel)) rfl (by decide) (fun _ _ _ _ _ => (pg_name (i := 12) nd rfl (by first | exact Or.inl rfl | exact Or.inr rfl))) (fun _ _ _ _ _ => dts_no) (fun _ _ _ _ _ => (dv_call (D__law_of.mono (by decide)) hr rfl (dvs_cons (dv_var 0) (dvs_cons (dv_var 3) dvs_nil)))))
    (dss_cons (ds_set 10 nd (dv_call (D__law_lists.mono (by decide)) hr rfl (dvs_cons (dv_var 9) dvs_nil)))
    (dss_cons (ds_set 11 nd (dv_ty ok_tuple rfl T.n_tuple (by decide +kernel) (dvs_cons (dv_sortSetN rfl (hU65 hr) rfl T.n_sorted rfl T.n_set (dv_lc (.one 13) [13] rfl nd (di_items (dv_var 9)) (blkOk_by (own := [(("_law_far" : Str), 13)]) (N := [("_law_urn" : Str), ("_law_deeds_so" : Str), ("_law_host" : Str), ("_law_goal" : Str), ("_law_lines_so" : Str), ("_law_one" : Str), ("_law_own" : Str), ("_law_got" : Str), ("_law_odd_so" : Str), ("_law_some" : Str), ("_law_soft" : Str), ("_law_due" : Str), ("_law_turn" : Str), ("_law_far" : Str)]) (sc := defScope s__law_case_right) (by decide +kernel)) rfl (by decide) (fun _ _ _ _ _ => (pg_name (i := 13) nd rfl (by first | exact Or.inl rfl | exact Or.inr rfl))) (fun _ _ _ _ _ => dts_one (dt_val (dv_call (D__law_held.mono (by decide)) hr rfl (dvs_cons (dv_var 1) (dvs_cons (dv_var 13) dvs_nil))))) (fun _ _ _ _ _ => (dv_var 13)))) dvs_nil)))
    (dss_cons (ds_set 7 nd (dv_lst (dvs_cons (dv_call (DX_kept.calm.mono (by decide)) hr rfl (dvs_cons (dv_var 2) (dvs_cons (dv_ty ok_tuple rfl T.n_tuple (by decide +kernel) (dvs_cons (dv_var 9) dvs_nil)) dvs_nil))) (dvs_cons (dv_call (DX_kept.calm.mono (by decide)) hr rfl (dvs_cons (dv_var 2) (dvs_cons (dv_var 10) dvs_nil))) (dvs_cons (dv_callKp (KP_kept_1_0.mono (by decide)) hr rfl rfl (dks_cons (dv_var 9) (dks_cons (dv_var 2) dks_nil))) dvs_nil)))))
    (dss_cons (ds_ret (dv_and (dv_call (D__law_same.mono (by decide)) hr rfl (dvs_cons (dv_var 7) (dvs_cons (dv_bin ok_mul (dv_lst (dvs_cons (dv_var 11) dvs_nil)) dv_int) dvs_nil))) (dv_and (dv_cmp (ok_eq (hU64 hr)) (dv_var 10) (dv_call (D__law_lists.mono (by decide)) hr rfl (dvs_cons (dv_var 9) dvs_nil))) (dv_one _ (dv_cmp (ok_eq (hU64 hr)) (dv_prp (P_deeds.mono (by decide)) hr (dv_var 2)) (dv_var 1))))))
    dss_nil)))))))))))))
abbrev s__law_deep_right : Stmt := topS 47
theorem sc__law_deep_right : FnScope [("_law_host" : Str), ("_law_deep" : Str), ("_law_turn" : Str), ("_law_some" : Str), ("_law_own" : Str)] [] (defScope s__law_deep_right) := ⟨rfl, rfl, rfl, by decide +kernel, rfl, by decide +kernel, by decide +kernel⟩
def m__law_deep_right : MS := (sCons (sTgt (.many [0, 1]) (mTup (mCons (mCall 1 F_Program_of (mCons (mC (.str ("a b" : Str))) mNil)) (mCons (mTup (mCons (mTup (mCons (mC (.str ("a" : Str))) (mCons (mC (.int (1))) mNil))) (mCons (mTup (mCons (mC (.str ("b" : Str))) (mCons (mC (.int (1))) mNil))) mNil))) mNil))))
    (sCons (sFor (.one 2) (mRange1 (mC (.int (9)))) (sCons (sSet 1 (mTup (mCons (mVar 1) mNil)))
    sNil))
    (sCons (sSet 3 (mLst (mCons (mVar 1) (mCons (mTup (mCons (mVar 1) (mCons (mTup (mCons (mC (.str ("b" : Str))) (mCons (mC (.int (1))) mNil))) mNil))) (mCons (mTup (mCons (mTup (mCons (mC (.str ("a" : Str))) (mCons (mC (.bl true)) mNil))) (mCons (mTup (mCons (mC (.str ("b" : Str))) (mCons (mC (.int (1))) mNil))) mNil))) (mCons (mTup (mCons (mTup (mCons (mC (.str ("a" : Str))) (mCons (mC (.int (1))) mNil))) (mCons (mTup (mCons (mC (.str ("b" : Str))) (mCons (mC (.bl true)) mNil))) mNil))) (mCons (mTup (mCons (mTup (mCons (mC (.str ("a" : Str))) (mCons (mBin fPow (mC (.int (10))) (mC (.int (40)))) mNil))) (mCons (mTup (mCons (mC (.str ("b" : Str))) (mCons (mC (.int (1))) mNil))) mNil))) (mCons (mTup (mCons (mTup (mCons (mC (.str ("a" : Str))) (mCons (mNeg (mC (.int (1)))) mNil))) (mCons (mTup (mCons (mC (.str ("b" : Str))) (mCons (mC (.int (1))) mNil))) mNil))) mNil))))))))
    (sCons (sRet (mCall 2 (FR__law_same 6) (mCons (mBin fAdd (mLc (.one 4) [4] (mItems (mVar 3)) mYes (mCall 2 F_is_wish (mCons (mVar 0) (mCons (mVar 4) mNil)))) (mLst (mCons (mCall 2 F_is_wish (mCons (mVar 0) (mCons (mTup (mCons (mTup (mCons (mC (.str ("a" : Str))) (mCons (mC (.int (1))) mNil))) (mCons (mTup (mCons (mC (.str ("b" : Str))) (mCons (mC (.int (1))) mNil))) mNil))) mNil))) mNil))) (mCons (mBin fAdd (mBin fMul (mLst (mCons (mC (.bl false)) mNil)) (mC (.int (6)))) (mLst (mCons (mC (.bl true)) mNil))) mNil))))
    sNil))))
def F__law_deep_right : List D → U → Option (D × U) := runB m__law_deep_right 5
theorem ok__law_deep_right {P : Program} {w : World} {K : PySem.W.Frag} {mg : Str → Option Value} {base : Heap} {G : Gx K} (T : Tx mg) {f : Addr} {fd : FuncData} (F : Fun K ("_law_deep_right" : Str) ("_law_deep_right" : Str) s__law_deep_right f fd) (D__law_same : DefOk P w mg base G ("_law_same" : Str) 6 2 (FR__law_same 6)) (D_is_wish : DefOk P w mg base G ("is_wish" : Str) 10 2 F_is_wish) (ST_of : StOk P w mg base G ("Program" : Str) ("of" : Str) 9 1 F_Program_of) : FnOk P w K mg base CX0 11 f fd [] (spF G F__law_deep_right 0) :=
  have nd := sc__law_deep_right.nd
  def_ok F sc__law_deep_right rfl fun cdv A outer s H E hr => (dss_cons (ds_tgt (.many [0, 1]) (dv_tup (dvs_cons (dv_sm (ST_of.mono (by decide)) hr rfl (dvs_cons dv_str dvs_nil)) (dvs_cons (dv_tup (dvs_cons (dv_tup (dvs_cons dv_str (dvs_cons dv_int dvs_nil))) (dvs_cons (dv_tup (dvs_cons dv_str (dvs_cons dv_int dvs_nil))) dvs_nil))) dvs_nil))) (pg_tup rfl (pgs_cons (pg_name (i := 0) nd rfl (by first | exact Or.inl rfl | exact Or.inr rfl)) (pgs_cons (pg_name (i := 1) nd rfl (by first | exact Or.inl rfl | exact Or.inr rfl)) pgs_nil))))
    (dss_cons (ds_for (.one 2) PassesOwn.never rfl (di_range1 rfl T.n_range dv_int) (pg_name (i := 2) nd rfl (by first | exact Or.inl rfl | exact Or.inr rfl)) (dss_cons (ds_set 1 nd (dv_tup (dvs_cons (dv_var 1) dvs_nil)))
    dss_nil))
    (dss_cons (ds_set 3 nd (dv_lst (dvs_cons (dv_var 1) (dvs_cons (dv_tup (dvs_cons (dv_var 1) (dvs_cons (dv_tup (dvs_cons dv_str (dvs_cons dv_int dvs_nil))) dvs_nil))) (dvs_cons (dv_tup (dvs_cons (dv_tup (dvs_cons dv_str (dvs_cons dv_bl dvs_nil))) (dvs_cons (dv_tup (dvs_cons dv_str (dvs_cons dv_int dvs_nil))) dvs_nil))) (dvs_cons (dv_tup (dvs_cons (dv_tup (dvs_cons dv_str (dvs_cons dv_int dvs_nil))) (dvs_cons (dv_tup (dvs_cons dv_str (dvs_cons dv_bl dvs_nil))) dvs_nil))) (dvs_cons (dv_tup (dvs_cons (dv_tup (dvs_cons dv_str (dvs_cons (dv_bin ok_pow dv_int dv_int) dvs_nil))) (dvs_cons (dv_tup (dvs_cons dv_str (dvs_cons dv_int dvs_nil))) dvs_nil))) (dvs_cons (dv_tup (dvs_cons (dv_tup (dvs_cons dv_str (dvs_cons (dv_neg dv_int) dvs_nil))) (dvs_cons (dv_tup (dvs_cons dv_str (dvs_cons dv_int dvs_nil))) dvs_nil))) dvs_nil))))))))
    (dss_cons (ds_ret (dv_call (D__law_same.mono (by decide)) hr rfl (dvs_cons (dv_bin ok_add (dv_lc (.one 4) [4] rfl nd (di_items (dv_var 3)) (blkOk_by (own := [(("_law_own" : Str), 4)]) (N := [("_law_host" : Str), ("_law_deep" : Str), ("_law_turn" : Str), ("_law_some" : Str), ("_law_own" : Str)]) (sc := defScope s__law_deep_right) (by decide +kernel)) rfl (by decide) (fun _ _ _ _ _ => (pg_name (i := 4) nd rfl (by first | exact Or.inl rfl | exact Or.inr rfl))) (fun _ _ _ _ _ => dts_no) (fun _ _ _ _ _ => (dv_call (D_is_wish.mono (by decide)) hr rfl (dvs_cons (dv_var 0) (dvs_cons (dv_var 4) dvs_nil))))) (dv_lst (dvs_cons (dv_call (D_is_wish.mono (by decide)) hr rfl (dvs_cons (dv_var 0) (dvs_cons (dv_tup (dvs_cons (dv_tup (dvs_cons dv_str (dvs_cons dv_int dvs_nil))) (dvs_cons (dv_tup (dvs_cons dv_str (dvs_cons dv_int dvs_nil))) dvs_nil))) dvs_nil))) dvs_nil))) (dvs_cons (dv_bin ok_add (dv_bin ok_mul (dv_lst (dvs_cons dv_bl dvs_nil)) dv_int) (dv_lst (dvs_cons dv_bl dvs_nil))) dvs_nil))))
    dss_nil))))
abbrev s__law_by_hand_right : Stmt := topS 46
theorem sc__law_by_hand_right : FnScope [("_law_host" : Str), ("_law_bare_in" : Str), ("_law_one" : Str), ("_law_two" : Str), ("_law_three" : Str), ("_law_four" : Str), ("_law_five" : Str), ("_law_six" : Str), ("_law_got" : Str), ("_law_due" : Str), ("_law_far" : Str), ("_law_told" : Str), ("_law_own" : Str)] [] (defScope s__law_by_hand_right) := ⟨rfl, rfl, rfl, by decide +kernel, rfl, by decide +kernel, by decide +kernel⟩
def m__law_by_hand_right : MS := (sCons (sTgt (.many [0, 1]) (mTup (mCons (mCall 1 F_Program_of (mCons (mC (.str ("a b !a a b !b c !a c" : Str))) mNil)) (mCons (mCall 1 F_Program_of (mCons (mC (.str ("-" : Str))) mNil)) mNil))))
    (sCons (sTgt (.many [2, 3, 4, 5]) (mTup (mCons (mTup (mCons (mTup (mCons (mC (.str ("a" : Str))) (mCons (mC (.int (1))) mNil))) (mCons (mTup (mCons (mC (.str ("b" : Str))) (mCons (mC (.int (2))) mNil))) mNil))) (mCons (mTup (mCons (mTup (mCons (mC (.str ("b" : Str))) (mCons (mC (.int (1))) mNil))) (mCons (mTup (mCons (mC (.str ("a" : Str))) (mCons (mC (.int (2))) mNil))) mNil))) (mCons (mTup (mCons (mTup (mCons (mC (.str ("b" : Str))) (mCons (mC (.int (2))) mNil))) (mCons (mTup (mCons (mC (.str ("c" : Str))) (mCons (mC (.int (1))) mNil))) mNil))) (mCons (mTup (mCons (mTup (mCons (mC (.str ("a" : Str))) (mCons (mC (.int (2))) mNil))) (mCons (mTup (mCons (mC (.str ("c" : Str))) (mCons (mC (.int (2))) mNil))) mNil))) mNil))))))
    (sCons (sTgt (.many [6, 7]) (mTup (mCons (mTup (mCons (mTup (mCons (mC (.str ("a" : Str))) (mCons (mC (.int (1))) mNil))) (mCons (mTup (mCons (mC (.str ("b" : Str))) (mCons (mC (.int (1))) mNil))) mNil))) (mCons (mTup (mCons (mTup (mCons (mC (.str ("a" : Str))) (mCons (mC (.int (2))) mNil))) (mCons (mTup (mCons (mC (.str ("c" : Str))) (mCons (mC (.int (1))) mNil))) mNil))) mNil))))
    (sCons (sSet 8 (mLst (mCons (mCall 2 (okF F_kept) (mCons (mVar 0) (mCons (mTup (mCons (mVar 2) (mCons (mVar 3) (mCons (mVar 4) (mCons (mVar 5) (mCons (mVar 6) (mCons (mVar 7) mNil))))))) mNil))) (mCons (mCall 2 (okF F_kept) (mCons (mVar 0) (mCons (mTup (mCons (mVar 4) (mCons (mVar 2) (mCons (mVar 4) mNil)))) mNil))) (mCons (mCall 2 (okF F_kept) (mCons (mVar 0) (mCons (mTup mNil) mNil))) (mCons (mCall 2 (okF F_kept) (mCons (mVar 1) (mCons (mTup mNil) mNil))) mNil))))))
    (sCons (sSet 9 (mLst (mCons (mTup (mCons (mVar 2) (mCons (mVar 5) (mCons (mVar 4) mNil)))) (mCons (mTup (mCons (mVar 2) (mCons (mVar 4) mNil))) (mCons (mTup mNil) (mCons (mTup mNil) mNil))))))
    (sCons (sSet 8 (mBin fAdd (mVar 8) (mLc (.one 12) [12] (mItems (mTup (mCons (mVar 2) (mCons (mVar 3) (mCons (mVar 4) (mCons (mTup (mCons (mBin ixD (mVar 3) (mC (.int (1)))) (mCons (mBin ixD (mVar 3) (mC (.int (0)))) mNil))) (mCons (mTup (mCons (mTup (mCons (mC (.str ("a" : Str))) (mCons (mC (.int (1))) mNil))) (mCons (mTup (mCons (mC (.str ("a" : Str))) (mCons (mC (.int (2))) mNil))) mNil))) (mCons (mTup (mCons (mTup (mCons (mC (.str ("a" : Str))) (mCons (mC (.int (1))) mNil))) (mCons (mTup (mCons (mC (.str ("a" : Str))) (mCons (mC (.int (1))) mNil))) mNil))) (mCons (mTup (mCons (mTup (mCons (mC (.str ("c" : Str))) (mCons (mC (.int (1))) mNil))) (mCons (mTup (mCons (mC (.str ("a" : Str))) (mCons (mC (.int (1))) mNil))) mNil))) mNil))))))))) mYes (mCall 2 F_is_wish (mCons (mVar 0) (mCons (mVar 12) mNil))))))
    (sCons (sSet 9 (mBin fAdd (mVar 9) (mLst (mCons (mC (.bl true)) (mCons (mC (.bl true)) (mCons (mC (.bl true)) (mCons (mC (.bl false)) (mCons (mC (.bl false)) (mCons (mC (.bl false)) (mCons (mC (.bl false)) mNil))))))))))
    (sCons (sSet 8 (mBin fAdd (mVar 8) (mLc (.one 12) [12] (mItems (mTup (mCons (mTup (mCons (mTup (mCons (mC (.str ("a" : Str))) (mCons (mC (.int (1))) mNil))) (mCons (mTup (mCons (mC (.str ("b" : Str))) (mCons (mC (.int (3))) mNil))) mNil))) (mCons (mTup (mCons (mTup (mCons (mC (.str ("d" : Str))) (mCons (mC (.int (1))) mNil))) (mCons (mTup (mCons (mC (.str ("b" : Str))) (mCons (mC (.int (1))) mNil))) mNil))) (mCons (mTup (mCons (mC (.str ("a" : Str))) (mCons (mC (.str ("b" : Str))) mNil))) (mCons (mTup (mCons (mTup (mCons (mTup (mCons (mC (.str ("a" : Str))) (mCons (mC (.int (1))) mNil))) (mCons (mC (.int (1))) mNil))) (mCons (mTup (mCons (mC (.str ("b" : Str))) (mCons (mC (.int (1))) mNil))) mNil))) (mCons (mTup mNil) mNil))))))) mYes (mCall 2 F_is_wish (mCons (mVar 0) (mCons (mVar 12) mNil))))))
    (sCons (sSet 9 (mBin fAdd (mVar 9) (mBin fMul (mLst (mCons (mC (.bl false)) mNil)) (mC (.int (5))))))
    (sCons (sSet 8 (mBin fAdd (mVar 8) (mLst (mCons (mCall 1 F_all_wishes (mCons (mVar 1) mNil)) (mCons (mCall 1 F_all_wishes (mCons (mCall 1 F_Program_of (mCons (mC (.str ("a !a a" : Str))) mNil)) mNil)) (mCons (mCall 1 F_all_wishes (mCons (mCall 1 F_Program_of (mCons (mC (.str ("b !a a" : Str))) mNil)) mNil)) mNil))))))
    (sCons (sSet 9 (mBin fAdd (mVar 9) (mLst (mCons (mTup mNil) (mCons (mTup mNil) (mCons (mTup (mCons (mTup (mCons (mTup (mCons (mC (.str ("b" : Str))) (mCons (mC (.int (1))) mNil))) (mCons (mTup (mCons (mC (.str ("a" : Str))) (mCons (mC (.int (1))) mNil))) mNil))) mNil)) mNil))))))
    (sCons (sSet 10 (mCall 1 F_Program_of (mCons (mBin joinD (mC (.str (" " : Str))) (mBin fAdd (mBin fMul (mLst (mCons (mC (.str ("a b" : Str))) mNil)) (mC (.int (12)))) (mBin fMul (mLst (mCons (mC (.str ("!a !b" : Str))) mNil)) (mC (.int (18)))))) mNil)))
    (sCons (sSet 11 (mCall 1 F_all_wishes (mCons (mVar 10) mNil)))
    (sCons (sSv 8 (vAdd (mVar 8) (mLst (mCons (mBi bLen (mCons (mVar 11) mNil)) (mCons (mSl (mVar 11) moNo (moAt (mC (.int (1))))) (mCons (mSl (mVar 11) (moAt (mNeg (mC (.int (1))))) moNo) (mCons (mBi bLen (mCons (mCall 2 (okF F_kept) (mCons (mVar 10) (mCons (mSl (mVar 11) moNo (moAt (mC (.int (40))))) mNil))) mNil)) mNil)))))))
    (sCons (sSv 9 (vAdd (mVar 9) (mLst (mCons (mC (.int (144))) (mCons (mTup (mCons (mTup (mCons (mTup (mCons (mC (.str ("a" : Str))) (mCons (mC (.int (1))) mNil))) (mCons (mTup (mCons (mC (.str ("b" : Str))) (mCons (mC (.int (1))) mNil))) mNil))) mNil)) (mCons (mTup (mCons (mTup (mCons (mTup (mCons (mC (.str ("b" : Str))) (mCons (mC (.int (11))) mNil))) (mCons (mTup (mCons (mC (.str ("a" : Str))) (mCons (mC (.int (12))) mNil))) mNil))) mNil)) (mCons (mC (.int (0))) mNil)))))))
    (sCons (sApp 8 (mCall 2 (okF F_kept) (mCons (mCall 1 F_Program_of (mCons (mBin joinD (mC (.str (" " : Str))) (mBin fMul (mLst (mCons (mC (.str ("a !a b" : Str))) mNil)) (mC (.int (12))))) mNil)) (mCons (mTup (mCons (mTup (mCons (mTup (mCons (mC (.str ("a" : Str))) (mCons (mC (.int (10))) mNil))) (mCons (mTup (mCons (mC (.str ("b" : Str))) (mCons (mC (.int (10))) mNil))) mNil))) (mCons (mTup (mCons (mTup (mCons (mC (.str ("a" : Str))) (mCons (mC (.int (2))) mNil))) (mCons (mTup (mCons (mC (.str ("b" : Str))) (mCons (mC (.int (2))) mNil))) mNil))) mNil))) mNil))))
    (sPub 8
    (sCons (sApp 9 (mTup (mCons (mTup (mCons (mTup (mCons (mC (.str ("a" : Str))) (mCons (mC (.int (2))) mNil))) (mCons (mTup (mCons (mC (.str ("b" : Str))) (mCons (mC (.int (2))) mNil))) mNil))) (mCons (mTup (mCons (mTup (mCons (mC (.str ("a" : Str))) (mCons (mC (.int (10))) mNil))) (mCons (mTup (mCons (mC (.str ("b" : Str))) (mCons (mC (.int (10))) mNil))) mNil))) mNil))))
    (sPub 9
    (sCons (sRet (mAnd (mCall 2 (FR__law_same 6) (mCons (mVar 8) (mCons (mVar 9) mNil))) (mCall 0 F__law_deep_right mNil)))
    sNil))))))))))))))))))))
def F__law_by_hand_right : List D → U → Option (D × U) := runB m__law_by_hand_right 13
theorem ok__law_by_hand_right {P : Program} {w : World} {K : PySem.W.Frag} {mg : Str → Option Value} {base : Heap} {G : Gx K} (T : Tx mg) {f : Addr} {fd : FuncData} (F : Fun K ("_law_by_hand_right" : Str) ("_law_by_hand_right" : Str) s__law_by_hand_right f fd) (DX_kept : DefOkX P w mg base G ("kept" : Str) 12 2 F_kept) (D__law_deep_right : DefOk P w mg base G ("_law_deep_right" : Str) 11 0 F__law_deep_right) (D__law_same : DefOk P w mg base G ("_law_same" : Str) 6 2 (FR__law_same 6)) (D_all_wishes : DefOk P w mg base G ("all_wishes" : Str) 3 1 F_all_wishes) (D_is_wish : DefOk P w mg base G ("is_wish" : Str) 10 2 F_is_wish) (ST_of : StOk P w mg base G ("Program" : Str) ("of" : Str) 9 1 F_Program_of) : FnOk P w K mg base CX0 13 f fd [] (spF G F__law_by_hand_right 0) :=
  have nd := sc__law_by_hand_right.nd
  def_ok F sc__law_by_hand_right rfl fun cdv A outer s H E hr => (dss_cons (ds_tgt (.many [0, 1]) (dv_tup (dvs_cons (dv_sm (ST_of.mono (by decide)) hr rfl (dvs_cons dv_str dvs_nil)) (dvs_cons (dv_sm (ST_of.mono (by decide)) hr rfl (dvs_cons dv_str dvs_nil)) dvs_nil))) (pg_tup rfl (pgs_cons (pg_name (i := 0) nd rfl (by first | exact Or.inl rfl | exact Or.inr rfl)) (pgs_cons (pg_name (i := 1) nd rfl (by first | exact Or.inl rfl | exact Or.inr rfl)) pgs_nil))))
    (dss_cons (ds_tgt (.many [2, 3, 4, 5]) (dv_tup (dvs_cons (dv_tup (dvs_cons (dv_tup (dvs_cons dv_str (dvs_cons dv_int dvs_nil))) (dvs_cons (dv_tup (dvs_cons dv_str (dvs_cons dv_int dvs_nil))) dvs_nil))) (dvs_cons (dv_tup (dvs_cons (dv_tup (dvs_cons dv_str (dvs_cons dv_int dvs_nil))) (dvs_cons (dv_tup (dvs_cons dv_str (dvs_cons dv_int dvs_nil))) dvs_nil))) (dvs_cons (dv_tup (dvs_cons (dv_tup (dvs_cons dv_str (dvs_cons dv_int dvs_nil))) (dvs_cons (dv_tup (dvs_cons dv_str (dvs_cons dv_int dvs_nil))) dvs_nil))) (dvs_cons (dv_tup (dvs_cons (dv_tup (dvs_cons dv_str (dvs_cons dv_int dvs_nil))) (dvs_cons (dv_tup (dvs_cons dv_str (dvs_cons dv_int dvs_nil))) dvs_nil))) dvs_nil))))) (pg_tup rfl (pgs_cons (pg_name (i := 2) nd rfl (by first | exact Or.inl rfl | exact Or.inr rfl)) (pgs_cons (pg_name (i := 3) nd rfl (by first | exact Or.inl rfl | exact Or.inr rfl)) (pgs_cons (pg_name (i := 4) nd rfl (by first | exact Or.inl rfl | exact Or.inr rfl)) (pgs_cons (pg_name (i := 5) nd rfl (by first | exact Or.inl rfl | exact Or.inr rfl)) pgs_nil))))))
    (dss_cons (ds_tgt (.many [6, 7]) (dv_tup (dvs_cons (dv_tup (dvs_cons (dv_tup (dvs_cons dv_str (dvs_cons dv_int dvs_nil))) (dvs_cons (dv_tup (dvs_cons dv_str (dvs_cons dv_int dvs_nil))) dvs_nil))) (dvs_cons (dv_tup (dvs_cons (dv_tup (dvs_cons dv_str (dvs_cons dv_int dvs_nil))) (dvs_cons (dv_tup (dvs_cons dv_str (dvs_cons dv_int dvs_nil))) dvs_nil))) dvs_nil))) (pg_tup rfl (pgs_cons (pg_name (i := 6) nd rfl (by first | exact Or.inl rfl | exact Or.inr rfl)) (pgs_cons (pg_name (i := 7) nd rfl (by first | exact Or.inl rfl | exact Or.inr rfl)) pgs_nil))))
    (dss_cons (ds_set 8 nd (dv_lst (dvs_cons (dv_call (DX_kept.calm.mono (by decide)) hr rfl (dvs_cons (dv_var 0) (dvs_cons (dv_tup (dvs_cons (dv_var 2) (dvs_cons (dv_var 3) (dvs_cons (dv_var 4) (dvs_cons (dv_var 5) (dvs_cons (dv_var 6) (dvs_cons (dv_var 7) dvs_nil))))))) dvs_nil))) (dvs_cons (dv_call (DX_kept.calm.mono (by decide)) hr rfl (dvs_cons (dv_var 0) (dvs_cons (dv_tup (dvs_cons (dv_var 4) (dvs_cons (dv_var 2) (dvs_cons (dv_var 4) dvs_nil)))) dvs_nil))) (dvs_cons (dv_call (DX_kept.calm.mono (by decide)) hr rfl (dvs_cons (dv_var 0) (dvs_cons (dv_tup dvs_nil) dvs_nil))) (dvs_cons (dv_call (DX_kept.calm.mono (by decide)) hr rfl (dvs_cons (dv_var 1) (dvs_cons (dv_tup dvs_nil) dvs_nil))) dvs_nil))))))
    (dss_cons (ds_set 9 nd (dv_lst (dvs_cons (dv_tup (dvs_cons (dv_var 2) (dvs_cons (dv_var 5) (dvs_cons (dv_var 4) dvs_nil)))) (dvs_cons (dv_tup (dvs_cons (dv_var 2) (dvs_cons (dv_var 4) dvs_nil))) (dvs_cons (dv_tup dvs_nil) (dvs_cons (dv_tup dvs_nil) dvs_nil))))))
    (dss_cons (ds_set 8 nd (dv_bin ok_add (dv_var 8) (dv_lc (.one 12) [12] rfl nd (di_items (dv_tup (dvs_cons (dv_var 2) (dvs_cons (dv_var 3) (dvs_cons (dv_var 4) (dvs_cons (dv_tup (dvs_cons (dv_ix (dv_var 3) dv_int) (dvs_cons (dv_ix (dv_var 3) dv_int) dvs_nil))) (dvs_cons (dv_tup (dvs_cons (dv_tup (dvs_cons dv_str (dvs_cons dv_int dvs_nil))) (dvs_cons (dv_tup (dvs_cons dv_str (dvs_cons dv_int dvs_nil))) dvs_nil))) (dvs_cons (dv_tup (dvs_cons (dv_tup (dvs_cons dv_str (dvs_cons dv_int dvs_nil))) (dvs_cons (dv_tup (dvs_cons dv_str (dvs_cons dv_int dvs_nil))) dvs_nil))) (dvs_cons (dv_tup (dvs_cons (dv_tup (dvs_cons dv_str (dvs_cons dv_int dvs_nil))) (dvs_cons (dv_tup (dvs_cons dv_str (dvs_cons dv_int dvs_nil))) dvs_nil))) dvs_nil))))))))) (blkOk_by (own := [(("_law_own" : Str), 12)]) (N := [("_law_host" : Str), ("_law_bare_in" : Str), ("_law_one" : Str), ("_law_two" : Str), ("_law_three" : Str), ("_law_four" : Str), ("_law_five" : Str), ("_law_six" : Str), ("_law_got" : Str), ("_law_due" : Str), ("_law_far" : Str), ("_law_told" : Str), ("_law_own" : Str)]) (sc := defScope s__law_by_hand_right) (by decide +kernel)) rfl (by decide) (fun _ _ _ _ _ => (pg_name (i := 12) nd rfl (by first | exact Or.inl rfl | exact Or.inr rfl))) (fun _ _ _ _ _ => dts_no) (fun _ _ _ _ _ => (dv_call (D_is_wish.mono (by decide)) hr rfl (dvs_cons (dv_var 0) (dvs_cons (dv_var 12) dvs_nil)))))))
    (dss_cons (ds_set 9 nd (dv_bin ok_add (dv_var 9) (dv_lst (dvs_cons dv_bl (dvs_cons dv_bl (dvs_cons dv_bl (dvs_cons dv_bl (dvs_cons dv_bl (dvs_cons dv_bl (dvs_cons dv_bl dvs_nil))))))))))
    (dss_cons (ds_set 8 nd (dv_bin ok_add (dv_var 8) (dv_lc (.one 12) [12] rfl nd (di_items (dv_tup (dvs_cons (dv_tup (dvs_cons (dv_tup (dvs_cons dv_str (dvs_cons dv_int dvs_nil))) (dvs_cons (dv_tup (dvs_cons dv_str (dvs_cons dv_int dvs_nil))) dvs_nil))) (dvs_cons (dv_tup (dvs_cons (dv_tup (dvs_cons dv_str (dvs_cons dv_int dvs_nil))) (dvs_cons (dv_tup (dvs_cons dv_str (dvs_cons dv_int dvs_nil))) dvs_nil))) (dvs_cons (dv_tup (dvs_cons dv_str (dvs_cons dv_str dvs_nil))) (dvs_cons (dv_tup (dvs_cons (dv_tup (dvs_cons (dv_tup (dvs_cons dv_str (dvs_cons dv_int dvs_nil))) (dvs_cons dv_int dvs_nil))) (dvs_cons (dv_tup (dvs_cons dv_str (dvs_cons dv_int dvs_nil))) dvs_nil))) (dvs_cons (dv_tup dvs_nil) dvs_nil))))))) (blkOk_by (own := [(("_law_own" : Str), 12)]) (N := [("_law_host" : Str), ("_law_bare_in" : Str), ("_law_one" : Str), ("_law_two" : Str), ("_law_three" : Str), ("_law_four" : Str), ("_law_five" : Str), ("_law_six" : Str), ("_law_got" : Str), ("_law_due" : Str), ("_law_far" : Str), ("_law_told" : Str), ("_law_own" : Str)]) (sc := defScope s__law_by_hand_right) (by decide +kernel)) rfl (by decide) (fun _ _ _ _ _ => (pg_name (i := 12) nd rfl (by first | exact Or.inl rfl | exact Or.inr rfl))) (fun _ _ _ _ _ => dts_no) (fun _ _ _ _ _ => (dv_call (D_is_wish.mono (by decide)) hr rfl (dvs_cons (dv_var 0) (dvs_cons (dv_var 12) dvs_nil)))))))
    (dss_cons (ds_set 9 nd (dv_bin ok_add (dv_var 9) (dv_bin ok_mul (dv_lst (dvs_cons dv_bl dvs_nil)) dv_int)))
    (dss_cons (ds_set 8 nd (dv_bin ok_add (dv_var 8) (dv_lst (dvs_cons (dv_call (D_all_wishes.mono (by decide)) hr rfl (dvs_cons (dv_var 1) dvs_nil)) (dvs_cons (dv_call (D_all_wishes.mono (by decide)) hr rfl (dvs_cons (dv_sm (ST_of.mono (by decide)) hr rfl (dvs_cons dv_str dvs_nil)) dvs_nil)) (dvs_cons (dv_call (D_all_wishes.mono (by decide)) hr rfl (dvs_cons (dv_sm (ST_of.mono (by decide)) hr rfl (dvs_cons dv_str dvs_nil)) dvs_nil)) dvs_nil))))))
    (dss_cons (ds_set 9 nd (dv_bin ok_add (dv_var 9) (dv_lst (dvs_cons (dv_tup dvs_nil) (dvs_cons (dv_tup dvs_nil) (dvs_cons (dv_tup (dvs_cons (dv_tup (dvs_cons (dv_tup (dvs_cons dv_str (dvs_cons dv_int dvs_nil))) (dvs_cons (dv_tup (dvs_cons dv_str (dvs_cons dv_int dvs_nil))) dvs_nil))) dvs_nil)) dvs_nil))))))
    (dss_cons (ds_set 10 nd (dv_sm (ST_of.mono (by decide)) hr rfl (dvs_cons (dv_join dv_str (dv_bin ok_add (dv_bin ok_mul (dv_lst (dvs_cons dv_str dvs_nil)) dv_int) (dv_bin ok_mul (dv_lst (dvs_cons dv_str dvs_nil)) dv_int))) dvs_nil)))
    (dss_cons (ds_set 11 nd (dv_call (D_all_wishes.mono (by decide)) hr rfl (dvs_cons (dv_var 10) dvs_nil)))
    (dss_cons (ds_setv 8 nd (dv_oAdd (dv_var 8) (dv_lst (dvs_cons (dv_bi ok_len rfl T.n_len (by decide +kernel) (dvs_cons (dv_var 11) dvs_nil)) (dvs_cons (dv_sl (dv_var 11) do_no (do_at dv_int)) (dvs_cons (dv_sl (dv_var 11) (do_at (dv_neg dv_int)) do_no) (dvs_cons (dv_bi ok_len rfl T.n_len (by decide +kernel) (dvs_cons (dv_call (DX_kept.calm.mono (by decide)) hr rfl (dvs_cons (dv_var 10) (dvs_cons (dv_sl (dv_var 11) do_no (do_at dv_int)) dvs_nil))) dvs_nil)) dvs_nil)))))))
    (dss_cons (ds_setv 9 nd (dv_oAdd (dv_var 9) (dv_lst (dvs_cons dv_int (dvs_cons (dv_tup (dvs_cons (dv_tup (dvs_cons (dv_tup (dvs_cons dv_str (dvs_cons dv_int dvs_nil))) (dvs_cons (dv_tup (dvs_cons dv_str (dvs_cons dv_int dvs_nil))) dvs_nil))) dvs_nil)) (dvs_cons (dv_tup (dvs_cons (dv_tup (dvs_cons (dv_tup (dvs_cons dv_str (dvs_cons dv_int dvs_nil))) (dvs_cons (dv_tup (dvs_cons dv_str (dvs_cons dv_int dvs_nil))) dvs_nil))) dvs_nil)) (dvs_cons dv_int dvs_nil)))))))
    (dss_cons (ds_app 8 (dv_call (DX_kept.calm.mono (by decide)) hr rfl (dvs_cons (dv_sm (ST_of.mono (by decide)) hr rfl (dvs_cons (dv_join dv_str (dv_bin ok_mul (dv_lst (dvs_cons dv_str dvs_nil)) dv_int)) dvs_nil)) (dvs_cons (dv_tup (dvs_cons (dv_tup (dvs_cons (dv_tup (dvs_cons dv_str (dvs_cons dv_int dvs_nil))) (dvs_cons (dv_tup (dvs_cons dv_str (dvs_cons dv_int dvs_nil))) dvs_nil))) (dvs_cons (dv_tup (dvs_cons (dv_tup (dvs_cons dv_str (dvs_cons dv_int dvs_nil))) (dvs_cons (dv_tup (dvs_cons dv_str (dvs_cons dv_int dvs_nil))) dvs_nil))) dvs_nil))) dvs_nil))))
    (dss_pub 8
    (dss_cons (ds_app 9 (dv_tup (dvs_cons (dv_tup (dvs_cons (dv_tup (dvs_cons dv_str (dvs_cons dv_int dvs_nil))) (dvs_cons (dv_tup (dvs_cons dv_str (dvs_cons dv_int dvs_nil))) dvs_nil))) (dvs_cons (dv_tup (dvs_cons (dv_tup (dvs_cons dv_str (dvs_cons dv_int dvs_nil))) (dvs_cons (dv_tup (dvs_cons dv_str (dvs_cons dv_int dvs_nil))) dvs_nil))) dvs_nil))))
    (dss_pub 9
    (dss_cons (ds_ret (dv_and (dv_call (D__law_same.mono (by decide)) hr rfl (dvs_cons (dv_var 8) (dvs_cons (dv_var 9) dvs_nil))) (dv_one _ (dv_call0 (D__law_deep_right.mono (by decide)) hr rfl))))
    dss_nil))))))))))))))))))))
abbrev s__law_right : Stmt := topS 48
theorem sc__law_right : FnScope [("_law_urn" : Str), ("_law_turn" : Str)] [("_law_urn" : Str)] (defScope s__law_right) := ⟨rfl, rfl, rfl, by decide +kernel, rfl, by decide +kernel, by decide +kernel⟩
def m__law_right : MS := (sCons (sRet (mBi bAll (mCons (mLc (.one 1) [1] (mRange1 (mC (.int (6)))) mYes (mCall 2 F__law_case_right (mCons (mVar 0) (mCons (mCall 3 F__law_deeds (mCons (mVar 0) (mCons (mCall 2 F__law_tags (mCons (mVar 0) (mCons (mC (.int (3))) mNil))) (mCons (mCall 2 F__law_take (mCons (mVar 0) (mCons (mC (.int (9))) mNil))) mNil)))) mNil)))) mNil)))
    sNil)
def F__law_right : List D → U → Option (D × U) := runB m__law_right 2
theorem ok__law_right {P : Program} {w : World} {K : PySem.W.Frag} {mg : Str → Option Value} {base : Heap} {G : Gx K} (T : Tx mg) {f : Addr} {fd : FuncData} (F : Fun K ("_law_right" : Str) ("_law_right" : Str) s__law_right f fd) (D__law_case_right : DefOk P w mg base G ("_law_case_right" : Str) 13 2 F__law_case_right) (D__law_deeds : DefOk P w mg base G ("_law_deeds" : Str) 3 3 F__law_deeds) (D__law_tags : DefOk P w mg base G ("_law_tags" : Str) 3 2 F__law_tags) (D__law_take : DefOk P w mg base G ("_law_take" : Str) 1 2 F__law_take) : FnOk P w K mg base CX0 14 f fd [("_law_urn" : Str)] (spF G F__law_right 1) :=
  have nd := sc__law_right.nd
  def_ok F sc__law_right rfl fun cdv A outer s H E hr => (dss_cons (ds_ret (dv_bi (ok_all (by rfl)) rfl T.n_all (by decide +kernel) (dvs_cons (dv_lc (.one 1) [1] rfl nd (di_range1 rfl T.n_range dv_int) (blkOk_by (own := [(("_law_turn" : Str), 1)]) (N := [("_law_urn" : Str), ("_law_turn" : Str)]) (sc := defScope s__law_right) (by decide +kernel)) rfl (by decide) (fun _ _ _ _ _ => (pg_name (i := 1) nd rfl (by first | exact Or.inl rfl | exact Or.inr rfl))) (fun _ _ _ _ _ => dts_no) (fun _ _ _ _ _ => (dv_call (D__law_case_right.mono (by decide)) hr rfl (dvs_cons (dv_var 0) (dvs_cons (dv_call (D__law_deeds.mono (by decide)) hr rfl (dvs_cons (dv_var 0) (dvs_cons (dv_call (D__law_tags.mono (by decide)) hr rfl (dvs_cons (dv_var 0) (dvs_cons dv_int dvs_nil))) (dvs_cons (dv_call (D__law_take.mono (by decide)) hr rfl (dvs_cons (dv_var 0) (dvs_cons dv_int dvs_nil))) dvs_nil)))) dvs_nil))))) dvs_nil)))
    dss_nil)
end Lw65
namespace Dv
open PySem PySem.Spec PyProof.Rows L2
def m_sameA (F_same_ : List D → U → Option (D × U)) : MS := (sCons (sIf (mTru (mIsi ["list", "tuple"] (mVar 1))) (sCons (sIf (mOrB (mTru (mBin cNe (mIsi ["list"] (mVar 0)) (mIsi ["list"] (mVar 1)))) (mTru (mBin cNe (mIsi ["tuple"] (mVar 0)) (mIsi ["tuple"] (mVar 1))))) (sCons (sRet (mC (.bl false)))
    sNil) sNil)
    (sCons (sRet (mAnd (mBin cEq (mBi bLen (mCons (mVar 0) mNil)) (mBi bLen (mCons (mVar 1) mNil))) (mBi bAll (mCons (mLc (.many [2, 3]) [2, 3] (mZip (mVar 0) (mVar 1)) mYes (mCall 2 F_same_ (mCons (mVar 2) (mCons (mVar 3) mNil)))) mNil))))
    sNil)) sNil)
    (sCons (sIf (mOrB (mTru (mBin cIs (mVar 1) (mC .non))) (mTru (mIsi ["bool", "str"] (mVar 1)))) (sCons (sRet (mAnd (mBin cEq (mVar 0) (mVar 1)) (mAnd (mBin cEq (mIsi ["bool"] (mVar 0)) (mIsi ["bool"] (mVar 1))) (mBin cEq (mBin cIs (mVar 0) (mC .non)) (mBin cIs (mVar 1) (mC .non))))))
    sNil) sNil)
    (sCons (sRet (mAnd (mIsi ["int"] (mVar 0)) (mAnd (mNot (mIsi ["bool"] (mVar 0))) (mBin cEq (mVar 0) (mVar 1)))))
    sNil)))
def FR_sameA : Nat → List D → U → Option (D × U)
  | 0 => fun _ _ => none
  | n + 1 => runB (m_sameA (FR_sameA n)) 4
theorem sameA_self {u : U} : ∀ (n : Nat) (d : D), plainN n d = true → FR_sameA (n + 1) [d, d] u = some (.bl true, u) := by
  intro n
  induction n with
  | zero =>
    intro d h
    cases d with
    | non => exact runB_rt (sc_nx (sIf_f (mTru_eq (mIsi_eq rfl isi2_non) rfl) rfl) (sc_rt (sIf_t (mOrB_t (mTru_eq (mBin_eq rfl rfl rfl) rfl)) (sc_rt (sRet_eq (mAnd_t (mBin_eq rfl rfl rfl) rfl (mAnd_t (mBin_eq (mIsi_eq rfl isi_b_non) (mIsi_eq rfl isi_b_non) rfl) rfl (mBin_eq (mBin_eq rfl rfl rfl) (mBin_eq rfl rfl rfl) rfl))))))))
    | bl b => exact runB_rt (sc_nx (sIf_f (mTru_eq (mIsi_eq rfl (isi2_bl b)) rfl) rfl) (sc_rt (sIf_t (mOrB_f (mTru_eq (mBin_eq rfl rfl rfl) rfl) (mTru_eq (mIsi_eq rfl (isi_bs_bl b)) rfl)) (sc_rt (sRet_eq (mAnd_t (mBin_eq rfl rfl (ceq_bl b)) rfl (mAnd_t (mBin_eq (mIsi_eq rfl (isi_b_bl b)) (mIsi_eq rfl (isi_b_bl b)) rfl) rfl (mBin_eq (mBin_eq rfl rfl rfl) (mBin_eq rfl rfl rfl) rfl))))))))
    | str x => exact runB_rt (sc_nx (sIf_f (mTru_eq (mIsi_eq rfl (isi2_str x)) rfl) rfl) (sc_rt (sIf_t (mOrB_f (mTru_eq (mBin_eq rfl rfl rfl) rfl) (mTru_eq (mIsi_eq rfl (isi_bs_str x)) rfl)) (sc_rt (sRet_eq (mAnd_t (mBin_eq rfl rfl (ceq_str x)) rfl (mAnd_t (mBin_eq (mIsi_eq rfl (isi_b_str x)) (mIsi_eq rfl (isi_b_str x)) rfl) rfl (mBin_eq (mBin_eq rfl rfl rfl) (mBin_eq rfl rfl rfl) rfl))))))))
    | int i => exact runB_rt (sc_nx (sIf_f (mTru_eq (mIsi_eq rfl (isi2_int i)) rfl) rfl) (sc_nx (sIf_f (mOrB_f (mTru_eq (mBin_eq rfl rfl rfl) rfl) (mTru_eq (mIsi_eq rfl (isi_bs_int i)) rfl)) rfl) (sc_rt (sRet_eq (mAnd_t (mIsi_eq rfl (isi_ii i)) rfl (mAnd_t (mNot_eq (k := false) (mIsi_eq rfl (isi_ib i)) rfl) rfl (mBin_eq rfl rfl (ceq_int i))))))))
    | _ => simp [plainN] at h
  | succ n ih =>
    intro d h
    cases d with
    | non => exact runB_rt (sc_nx (sIf_f (mTru_eq (mIsi_eq rfl isi2_non) rfl) rfl) (sc_rt (sIf_t (mOrB_t (mTru_eq (mBin_eq rfl rfl rfl) rfl)) (sc_rt (sRet_eq (mAnd_t (mBin_eq rfl rfl rfl) rfl (mAnd_t (mBin_eq (mIsi_eq rfl isi_b_non) (mIsi_eq rfl isi_b_non) rfl) rfl (mBin_eq (mBin_eq rfl rfl rfl) (mBin_eq rfl rfl rfl) rfl))))))))
    | bl b => exact runB_rt (sc_nx (sIf_f (mTru_eq (mIsi_eq rfl (isi2_bl b)) rfl) rfl) (sc_rt (sIf_t (mOrB_f (mTru_eq (mBin_eq rfl rfl rfl) rfl) (mTru_eq (mIsi_eq rfl (isi_bs_bl b)) rfl)) (sc_rt (sRet_eq (mAnd_t (mBin_eq rfl rfl (ceq_bl b)) rfl (mAnd_t (mBin_eq (mIsi_eq rfl (isi_b_bl b)) (mIsi_eq rfl (isi_b_bl b)) rfl) rfl (mBin_eq (mBin_eq rfl rfl rfl) (mBin_eq rfl rfl rfl) rfl))))))))
    | str x => exact runB_rt (sc_nx (sIf_f (mTru_eq (mIsi_eq rfl (isi2_str x)) rfl) rfl) (sc_rt (sIf_t (mOrB_f (mTru_eq (mBin_eq rfl rfl rfl) rfl) (mTru_eq (mIsi_eq rfl (isi_bs_str x)) rfl)) (sc_rt (sRet_eq (mAnd_t (mBin_eq rfl rfl (ceq_str x)) rfl (mAnd_t (mBin_eq (mIsi_eq rfl (isi_b_str x)) (mIsi_eq rfl (isi_b_str x)) rfl) rfl (mBin_eq (mBin_eq rfl rfl rfl) (mBin_eq rfl rfl rfl) rfl))))))))
    | int i => exact runB_rt (sc_nx (sIf_f (mTru_eq (mIsi_eq rfl (isi2_int i)) rfl) rfl) (sc_nx (sIf_f (mOrB_f (mTru_eq (mBin_eq rfl rfl rfl) rfl) (mTru_eq (mIsi_eq rfl (isi_bs_int i)) rfl)) rfl) (sc_rt (sRet_eq (mAnd_t (mIsi_eq rfl (isi_ii i)) rfl (mAnd_t (mNot_eq (k := false) (mIsi_eq rfl (isi_ib i)) rfl) rfl (mBin_eq rfl rfl (ceq_int i))))))))
    | lst xs =>
      unfold plainN at h
      rw [Bool.and_eq_true] at h
      have few := of_decide_eq_true h.1
      have hx := same_go (f := FR_sameA (n + 1)) (xs := xs) (a := .lst xs) (b := .lst xs) (u := u) fun x hx => ih x (List.all_eq_true.mp h.2 x hx)
      exact runB_rt (sc_rt (sIf_t (mTru_eq (mIsi_eq rfl (isi2_lst xs)) rfl) (sc_nx (sIf_f (mOrB_f (mTru_eq (mBin_eq (mIsi_eq rfl (isi_l_l xs)) (mIsi_eq rfl (isi_l_l xs)) rfl) rfl) (mTru_eq (mBin_eq (mIsi_eq rfl (isi_lt xs)) (mIsi_eq rfl (isi_lt xs)) rfl) rfl)) rfl)
        (sc_rt (sRet_eq (mAnd_t (mBin_eq (mBi_eq (c1 rfl) (len_l few)) (mBi_eq (c1 rfl) (len_l few)) (ceq_int _)) rfl (mBi_eq (c1 (mLc_eq (mZip_l rfl rfl) hx (by rw [List.length_map, zip_len]; exact isiz few))) (bAll_ts _))))))))
    | tup xs =>
      unfold plainN at h
      rw [Bool.and_eq_true] at h
      have few := of_decide_eq_true h.1
      have hx := same_go (f := FR_sameA (n + 1)) (xs := xs) (a := .tup xs) (b := .tup xs) (u := u) fun x hx => ih x (List.all_eq_true.mp h.2 x hx)
      exact runB_rt (sc_rt (sIf_t (mTru_eq (mIsi_eq rfl (isi2_tup xs)) rfl) (sc_nx (sIf_f (mOrB_f (mTru_eq (mBin_eq (mIsi_eq rfl (isi_t_l xs)) (mIsi_eq rfl (isi_t_l xs)) rfl) rfl) (mTru_eq (mBin_eq (mIsi_eq rfl (isi_tt xs)) (mIsi_eq rfl (isi_tt xs)) rfl) rfl)) rfl)
        (sc_rt (sRet_eq (mAnd_t (mBin_eq (mBi_eq (c1 rfl) (len_t few)) (mBi_eq (c1 rfl) (len_t few)) (ceq_int _)) rfl (mBi_eq (c1 (mLc_eq (mZip_t rfl rfl) hx (by rw [List.length_map, zip_len]; exact isiz few))) (bAll_ts _))))))))
    | _ => simp [plainN] at h
end Dv
namespace Lw65
open PySem PySem.Spec PyProof.Rows L2 Dv
theorem isi2_str (x : Str) : isiD (.str x) ["list", "tuple"] = some false := by show kitAnyB "str" ["list", "tuple"] = some false; decide +kernel
theorem isi2_int (x : Int) : isiD (.int x) ["list", "tuple"] = some false := by show kitAnyB "int" ["list", "tuple"] = some false; decide +kernel
theorem isi2_lst (x : List D) : isiD (.lst x) ["list", "tuple"] = some true := by show kitAnyB "list" ["list", "tuple"] = some true; decide +kernel
theorem isi2_tup (x : List D) : isiD (.tup x) ["list", "tuple"] = some true := by show kitAnyB "tuple" ["list", "tuple"] = some true; decide +kernel
theorem tupled_str {n : Nat} {x : Str} {u : U} : FR_tupled (n + 1) [.str x] u = some (.str x, u) :=
  runB_rt (sc_nx (sIf_f (mTru_eq (mIsi_eq rfl (isi2_str x)) rfl) rfl) (sc_rt (sRet_eq rfl)))
theorem tupled_int {n : Nat} {x : Int} {u : U} : FR_tupled (n + 1) [.int x] u = some (.int x, u) :=
  runB_rt (sc_nx (sIf_f (mTru_eq (mIsi_eq rfl (isi2_int x)) rfl) rfl) (sc_rt (sRet_eq rfl)))
theorem tupled_tup {n : Nat} {xs : List D} {g : D → D} {u : U} (h : ∀ d ∈ xs, FR_tupled n [d] u = some (g d, u)) (few : xs.length ≤ 1000) : FR_tupled (n + 1) [.tup xs] u = some (.tup (xs.map g), u) :=
  runB_rt (sc_rt (sIf_t (mTru_eq (mIsi_eq rfl (isi2_tup xs)) rfl) (sc_rt (sRet_eq (mBi_eq (c1 (mLc_eq (mItems_eq rfl rfl) (compL_pure fun d hd => turnL_eq rfl (mCall_eq (c1 rfl) rfl (h d hd))) (by rw [List.length_map]; exact isiz few))) rfl)))))
theorem tupled_lst {n : Nat} {xs : List D} {g : D → D} {u : U} (h : ∀ d ∈ xs, FR_tupled n [d] u = some (g d, u)) (few : xs.length ≤ 1000) : FR_tupled (n + 1) [.lst xs] u = some (.tup (xs.map g), u) :=
  runB_rt (sc_rt (sIf_t (mTru_eq (mIsi_eq rfl (isi2_lst xs)) rfl) (sc_rt (sRet_eq (mBi_eq (c1 (mLc_eq (mItems_eq rfl rfl) (compL_pure fun d hd => turnL_eq rfl (mCall_eq (c1 rfl) rfl (h d hd))) (by rw [List.length_map]; exact isiz few))) rfl)))))
/-- a pair of a text and something plain stays -/
def asT : D → D
  | .lst xs => .tup xs
  | d => d
theorem tupled_deed {n : Nat} {p : Dd} {u : U} : FR_tupled (n + 2) [deedD p] u = some (deedD p, u) := by
  have := tupled_tup (n := n + 1) (xs := [.str (wdS p.1), .str p.2]) (g := id) (u := u) (fun d hd => by
    simp only [List.mem_cons, List.not_mem_nil, or_false] at hd
    rcases hd with rfl | rfl <;> exact tupled_str) (by simp)
  simpa [deedD] using this
theorem tupled_line {n : Nat} {l : Str × Int} {u : U} : FR_tupled (n + 2) [lineD l] u = some (lineD l, u) := by
  have := tupled_tup (n := n + 1) (xs := [.str l.1, .int l.2]) (g := id) (u := u) (fun d hd => by
    simp only [List.mem_cons, List.not_mem_nil, or_false] at hd
    rcases hd with rfl | rfl
    · exact tupled_str
    · exact tupled_int) (by simp)
  simpa [lineD] using this
theorem tupled_deeds {n : Nat} {ds : List Dd} {u : U} (few : ds.length ≤ 1000) : FR_tupled (n + 3) [.tup (ds.map deedD)] u = some (.tup (ds.map deedD), u) := by
  have := tupled_tup (n := n + 2) (xs := ds.map deedD) (g := id) (u := u) (fun d hd => by
    obtain ⟨p, _, rfl⟩ := List.mem_map.mp hd
    exact tupled_deed) (by rw [List.length_map]; exact few)
  simpa using this
theorem eq_wd (b : Bool) : cEq (.str (wdS b)) (.str ("write" : Str)) = some (.bl b) := by
  show some (D.bl (decide (wdS b = ("write" : Str)))) = _
  cases b with
  | true => rw [decide_eq_true (by decide +kernel)]
  | false => rw [decide_eq_false (by decide +kernel)]
theorem writes_ok {u : U} : ∀ {ds : List Dd}, writesL (ds.map deedD) u = some ((writesOf ds).map .str, u)
  | [] => rfl
  | (b, x) :: ds => by
    have ih := writes_ok (u := u) (ds := ds)
    unfold writesL at ih ⊢
    rw [List.map_cons]
    unfold compL
    cases b with
    | true =>
      rw [turnL_c (x := .str x) (u1 := u) (u2 := u) (env' := [.no, .no, .pub (.str (wdS true)), .pub (.str x)]) rfl (mTru_eq (mBin_eq rfl rfl (eq_wd true)) rfl) rfl]
      show bnd (compL _ _ u) _ = _
      rw [ih]
      simp [bnd, writesOf]
    | false =>
      rw [turnL_n (u1 := u) (env' := [.no, .no, .pub (.str (wdS false)), .pub (.str x)]) rfl (mTru_eq (mBin_eq rfl rfl (eq_wd false)) rfl)]
      show bnd (compL _ _ u) _ = _
      rw [ih]
      simp [bnd, writesOf]
theorem prog_of {d : D} {ds : List Dd} {u : U} (h : FR_tupled 6 [d] u = some (.tup (ds.map deedD), u)) (few : ds.length ≤ 1000) : F_Program [d] u = some (progD ds, u) := by
  have l1 : ((writesOf ds).map D.str).length ≤ sizeLine := by rw [List.length_map]; exact isiz (Nat.le_trans (writesOf_len ds) few)
  have l2 : (writesOf ds).length ≤ sizeLine := by rw [List.length_map] at l1; exact l1
  show bnd (FR_tupled 6 [d] u) _ = _
  rw [h]
  show bnd (writesL (ds.map deedD) u) _ = _
  rw [writes_ok]
  show (if ((writesOf ds).map D.str).length ≤ sizeLine then bnd (F_numbered [.tup ((writesOf ds).map .str)] u) _ else none) = _
  rw [if_pos l1]
  have hn : F_numbered [.tup ((writesOf ds).map .str)] u = some (.tup ((linG [] (writesOf ds)).map lineD), u) := by
    show numF [.tup ((writesOf ds).map .str)] u = _
    unfold numF
    simp only [strsOf_map]
    rw [if_pos l2, numG_lin]
  rw [hn]
  rfl
theorem prog_t {ds : List Dd} {u : U} (few : ds.length ≤ 1000) : F_Program [.tup (ds.map deedD)] u = some (progD ds, u) := prog_of (tupled_deeds (n := 3) few) few
end Lw65
namespace Lw65
open PySem PySem.Spec L2 Dv
theorem mFld_eq {c f : Str} {m : M} {env : List Sl} {u u1 : U} {x d : D} (h : m env u = some (x, u1)) (h2 : fldD c f x = some d) : mFld c f m env u = some (d, u1) := by
  unfold mFld; rw [h]; show lft (fldD c f x) u1 = _; rw [h2]; rfl
theorem mPrp_eq {c : Str} {F : List D → U → Option (D × U)} {m : M} {env : List Sl} {u u1 u2 : U} {ns : List Str} {xs : List D} {d : D} (h : m env u = some (.ins c ns xs, u1)) (h2 : F [.ins c ns xs] u1 = some (d, u2)) : mPrp c F m env u = some (d, u2) := by
  unfold mPrp; rw [h]; show (if c = c then F [.ins c ns xs] u1 else none) = _; rw [if_pos rfl]; exact h2
theorem mBinU_eq {f : D → D → U → Option (D × U)} {a b : M} {env : List Sl} {u u1 u2 u3 : U} {x y z : D} (h : a env u = some (x, u1)) (h2 : b env u1 = some (y, u2)) (h3 : f x y u2 = some (z, u3)) : mBinU f a b env u = some (z, u3) := by
  unfold mBinU; rw [h]; show bnd (b env u1) _ = _; rw [h2]; exact h3
theorem mEnumA_t {m : M} {env : List Sl} {u u1 : U} {ds : List D} (h : m env u = some (.tup ds, u1)) : mEnumA m env u = some (enumD 0 ds, u1) := by
  unfold mEnumA; rw [h]; rfl
theorem cutD_from {xs : List D} {k : Nat} (h : k ≤ xs.length) : cutD xs (some (k : Int)) none = xs.drop k := by
  unfold cutD
  rw [HT.sIx_none, HT.sIx_nat, Nat.min_eq_left h, ← List.length_drop, List.take_length]
theorem fAdd_l {a b : List D} (h : a.length + b.length ≤ 1000) : fAdd (.lst a) (.lst b) = some (.lst (a ++ b)) := by simp only [fAdd]; rw [if_pos (isiz h)]
theorem fld1 (ds : List Dd) : fldD "Program" "_deeds" (progD ds) = some (.tup (ds.map deedD)) := by
  show (if ("Program" : Str) = "Program" then _ else none) = _
  rw [if_pos rfl]; rfl
theorem deeds_eq {ds : List Dd} {u : U} : F_Program_deeds [progD ds] u = some (.tup (ds.map deedD), u) := runB_rt (sc_rt (sRet_eq (mFld_eq rfl (fld1 ds))))
end Lw65
namespace Dv
open PySem PySem.Spec L2
theorem out_le (y : Str) {ds : List Dd} : ∀ {k : Nat}, k ≤ ds.length → ouOf y (ds.take k) ≤ manyOf y (ds.take k)
  | 0, _ => by rw [List.take_zero]; exact Nat.le_refl _
  | k + 1, h => by
    have hk : k < ds.length := by omega
    have ih := out_le y (ds := ds) (k := k) (by omega)
    rw [takeS hk, out_snoc, many_snoc]
    split
    · omega
    · split <;> omega
/-- a LINE is out by a place just if a flush stands between -/
theorem ahB_iff {ds : List Dd} {a : Wp} (ha : a ∈ wr ds) : ∀ {k : Nat}, k ≤ ds.length → (ahB ds k a = true ↔ manyOf a.2 (ds.take (a.1 + 1)) ≤ ouOf a.2 (ds.take k))
  | 0, _ => by
    rw [show ahB ds 0 a = false from fl_none (Nat.zero_le _)]
    have h3 := many_at (wr_mem ha).2
    refine ⟨fun z => (by cases z), fun z => ?_⟩
    rw [List.take_zero] at z
    have : ouOf a.2 [] = 0 := rfl
    omega
  | k + 1, h => by
    have hk : k < ds.length := by omega
    have ih := ahB_iff ha (k := k) (by omega)
    by_cases hj : a.1 ≤ k
    · obtain ⟨⟨b, x⟩, hd⟩ : ∃ p, ds[k] = p := ⟨_, rfl⟩
      unfold ahB at ih ⊢
      rw [fl_step hk hj, takeS hk, out_snoc, hd]
      cases b with
      | true =>
        rw [if_pos rfl, decide_eq_false (by simp), Bool.or_false]
        exact ih
      | false =>
        rw [if_neg Bool.false_ne_true]
        by_cases e : x = a.2
        · rw [if_pos e, decide_eq_true (by rw [e]), Bool.or_true]
          refine ⟨fun _ => ?_, fun _ => rfl⟩
          have ne : a.1 ≠ k := fun z => by
            have := (wr_mem ha).2
            rw [z, List.getElem?_eq_getElem hk, hd] at this
            cases this
          exact many_mono _ _ (by omega)
        · rw [if_neg e, decide_eq_false (fun z => e (by cases z; rfl)), Bool.or_false]
          exact ih
    · rw [show ahB ds (k + 1) a = false from fl_none (by omega)]
      refine ⟨fun z => (by cases z), fun z => ?_⟩
      have h1 := out_le a.2 (ds := ds) (k := k + 1) h
      have h2 := many_mono a.2 ds (show k + 1 ≤ a.1 by omega)
      have h3 := many_at (wr_mem ha).2
      omega
theorem NdA_told {xs : List Str} (hx : Rising xs) (f : Str → Int) : NdA (told xs f) := by
  unfold NdA told
  have : ((xs.map fun x => (x, f x)).filter fun p => decide (0 < p.2)).map (·.1) = xs.filter fun x => decide (0 < f x) := by
    rw [List.filter_map, List.map_map]
    show (xs.filter _).map (fun x => x) = _
    rw [List.map_id']; rfl
  rw [this]
  exact hx.nodup.sublist List.filter_sublist
theorem told_get {xs : List Str} (hx : Rising xs) {f : Str → Int} (h0 : ∀ x, x ∉ xs → f x = 0) (hp : ∀ x, 0 ≤ f x) (y : Str) : (getA y (told xs f)).getD 0 = f y := by
  have nd := NdA_told hx f
  by_cases e : 0 < f y
  · have m : (y, f y) ∈ told xs f := by
      unfold told
      refine List.mem_filter.mpr ⟨List.mem_map.mpr ⟨y, ?_, rfl⟩, decide_eq_true e⟩
      by_cases z : y ∈ xs
      · exact z
      · have := h0 y z; omega
    rw [(mem_get nd).mp m]; rfl
  · cases q : getA y (told xs f) with
    | none => have := hp y; show (0 : Int) = _; omega
    | some v =>
      have m := (mem_get nd).mpr q
      unfold told at m
      obtain ⟨m1, m2⟩ := List.mem_filter.mp m
      obtain ⟨x, _, ex⟩ := List.mem_map.mp m1
      have m2 : 0 < v := of_decide_eq_true m2
      cases ex
      exact absurd m2 e
/-- what a row tells -/
def outW (ds : List Dd) (b : Wp) (y : Str) : Nat := if y = b.2 then 0 else ouOf y (ds.take b.1)
theorem tTold_get {xs : List Str} {ds : List Dd} (hx : Rising xs) (hi : InS ds xs) (b : Wp) (y : Str) : (getA y (tTold xs ds b)).getD 0 = (outW ds b y : Int) := by
  unfold tTold outW
  rw [told_get hx (fun x hx' => ?_) (fun x => ?_)]
  · split <;> rfl
  · show (if x = b.2 then (0 : Int) else _) = 0
    split
    · rfl
    · have : ouOf x (ds.take b.1) = 0 := outR_0 hx' ((hi.take _).rev)
      rw [this]; rfl
  · show (0 : Int) ≤ if x = b.2 then (0 : Int) else _
    split <;> omega
theorem tTold_nd {xs : List Str} (hx : Rising xs) (ds : List Dd) (b : Wp) : NdA (tTold xs ds b) := NdA_told hx _
/-- the order number of a written LINE -/
def numW (ds : List Dd) (a : Wp) : Nat := manyOf a.2 (ds.take (a.1 + 1))
/-- whether one written LINE is surely ahead of another one -/
def sureB (ds : List Dd) (a b : Wp) : Bool := if a.2 = b.2 then decide (numW ds a < numW ds b) else decide (numW ds a ≤ outW ds b a.2)
theorem sure_ah {ds : List Dd} {a b : Wp} (ha : a ∈ wr ds) (hb : b ∈ wr ds) (ne : a.2 ≠ b.2) : sureB ds a b = ahB ds b.1 a := by
  unfold sureB outW
  rw [if_neg ne, if_neg ne]
  have := ahB_iff ha (k := b.1) (Nat.le_of_lt (wr_mem hb).1)
  unfold numW
  cases q : ahB ds b.1 a with
  | true => exact decide_eq_true (this.mp q)
  | false => exact decide_eq_false (fun z => by rw [this.mpr z] at q; cases q)
theorem pairsD_lines : ∀ al : Al, pairsD (al.map lineD) = some (al.map fun p => ((Sum.inr p.1 : Key), D.int p.2))
  | [] => rfl
  | p :: al => by
    rw [List.map_cons]
    unfold pairsD
    rw [pairsD_lines al]; rfl
theorem mergeD_al : ∀ (al acc : Al), NdA (acc ++ al) → mergeD (alK acc) (alD acc) (al.map fun p => ((Sum.inr p.1 : Key), D.int p.2)) = (alK (acc ++ al), alD (acc ++ al))
  | [], acc, _ => by rw [List.append_nil]; rfl
  | p :: al, acc, h => by
    show mergeD (putD (alK acc) (alD acc) (.inr p.1) (.int p.2)).1 (putD (alK acc) (alD acc) (.inr p.1) (.int p.2)).2 _ = _
    have nw : p.1 ∉ acc.map (·.1) := fun z => by
      unfold NdA at h
      rw [List.map_append, List.map_cons] at h
      exact (List.nodup_append.mp h).2.2 _ z _ List.mem_cons_self rfl
    rw [put_al, putA_new nw]
    have := mergeD_al al (acc ++ [(p.1, p.2)]) (by rw [List.append_assoc]; exact h)
    rw [List.append_assoc] at this
    exact this
theorem dict_al {m : M} {env : List Sl} {u u1 : U} {al : Al} (h : m env u = some (.tup (al.map lineD), u1)) (nd : NdA al) : mDictP m env u = some (dA al, u1) := by
  rw [mDictP_eq h (pairsD_lines al)]
  have := mergeD_al al [] nd
  have : mergeD [] [] (al.map fun p => ((Sum.inr p.1 : Key), D.int p.2)) = (alK al, alD al) := this
  rw [this]; rfl
theorem dtFold_new {α : Type} {k : α → List Key} {v : α → D} : ∀ (l done : List α), ((done ++ l).map k).Nodup → done.length + l.length ≤ 1000 → dtFold (l.map fun a => .pr [rowD (k a), v a]) (done.map k) (done.map v) = some ((done ++ l).map k, (done ++ l).map v)
  | [], done, _, _ => by rw [List.append_nil]; rfl
  | a :: l, done, nd, ln => by
    rw [List.length_cons] at ln
    rw [List.map_cons]
    unfold dtFold
    rw [tkeyOf_rowD]
    show (if (done.map k).length < sizeLine then _ else none) = _
    rw [if_pos (by rw [List.length_map, line]; omega)]
    have nw : hasK (done.map k) (k a) = false := by
      cases q : hasK (done.map k) (k a) with
      | false => rfl
      | true =>
        have z := hasK_iff.mp q
        rw [List.map_append, List.map_cons] at nd
        exact absurd rfl ((List.nodup_append.mp nd).2.2 _ z _ List.mem_cons_self)
    have e : putT (done.map k) (done.map v) (k a) (v a) = ((done ++ [a]).map k, (done ++ [a]).map v) := by
      unfold putT
      rw [nw, if_neg Bool.false_ne_true, List.map_append, List.map_append]; rfl
    rw [e]
    have := dtFold_new (k := k) (v := v) l (done ++ [a]) (by rw [List.append_assoc]; exact nd) (by rw [List.length_append, List.length_singleton]; omega)
    rw [List.append_assoc] at this
    exact this
theorem valT_map {α : Type} {k : α → List Key} {v : α → D} {a : α} : ∀ {l : List α}, (l.map k).Nodup → a ∈ l → valT (l.map k) (l.map v) (k a) = some (v a)
  | [], _, h => nomatch h
  | b :: l, nd, h => by
    rw [List.map_cons] at nd
    obtain ⟨n1, n2⟩ := List.nodup_cons.mp nd
    unfold valT
    rw [List.map_cons, List.map_cons, List.zip_cons_cons, List.find?_cons]
    rcases List.mem_cons.mp h with rfl | h
    · rw [decide_eq_true rfl]; rfl
    · have ne : k b ≠ k a := fun z => n1 (by rw [z]; exact List.mem_map.mpr ⟨a, h, rfl⟩)
      rw [decide_eq_false ne]
      exact valT_map n2 h
end Dv
namespace Lw65
open PySem PySem.Spec PyProof.Rows L2 Dv
def NmD (ds : List Dd) : Prop := ∀ p ∈ ds, AZ p.2 ∧ 1 ≤ p.2.length ∧ p.2.length ≤ 8
theorem NmD.tx {ds : List Dd} (h : NmD ds) : AllTx ds := fun p hp => az_ok (h p hp).1
theorem cgt0 (i : Int) : cGt (.int i) (.int 0) = some (.bl (decide (0 < i))) := rfl
theorem counted_ok {al : Al} {xs : List Str} {f : Str → Int} {u : U} (h : NdA al) (hx : Rising xs) (hf : ∀ x, (getA x al).getD 0 = f x) (h0 : ∀ x, x ∉ xs → f x = 0) (few : al.length ≤ 900) : F_counted [dA al] u = some (.tup ((told xs f).map lineD), u) := by
  have cl : compL (turnL (.many [1, 2]) [1, 2] [Sl.pub (dA al), .no, .no] (mTru (mBin cGt (mVar 2) (mC (.int (0))))) (mTup (mCons (mVar 1) (mCons (mVar 2) mNil)))) (al.map fun p => .pr [.str p.1, .int p.2]) u = some ((al.filter fun p => decide (0 < p.2)).map lineD, u) := by
    refine compL_fm fun p hp => ?_
    have hc := cgt0 p.2
    by_cases e : 0 < p.2
    · rw [decide_eq_true e] at hc
      rw [if_pos (decide_eq_true e)]
      exact turnL_c (env' := [Sl.pub (dA al), .pub (.str p.1), .pub (.int p.2)]) rfl (mTru_eq (mBin_eq rfl rfl hc) rfl) (mTup_eq (mCons_eq rfl (c1 rfl)) (isiz (by simp)))
    · rw [decide_eq_false e] at hc
      rw [if_neg (by simpa using e)]
      exact turnL_n (env' := [Sl.pub (dA al), .pub (.str p.1), .pub (.int p.2)]) rfl (mTru_eq (mBin_eq rfl rfl hc) rfl)
  have sr : bSortB [.lst ((al.filter fun p => decide (0 < p.2)).map lineD)] = some (.lst ((told xs f).map lineD)) := by
    have := sortB_r (ks := (al.filter fun p => decide (0 < p.2)).map pairK) (sh := [false, true]) (fun k hk => by
      obtain ⟨p, _, rfl⟩ := List.mem_map.mp hk
      exact pair_shape p) (by decide)
    rw [tally_sort h hx hf h0, List.map_map, List.map_map] at this
    exact this
  exact runB_rt (sc_rt (sRet_eq (mBi_eq (c1 (mBi_eq (c1 (mLc_eq (mDItems_eq rfl) cl (isiz (by rw [List.length_map]; exact Nat.le_trans (List.length_filter_le _ _) (by omega))))) sr)) rfl)))
abbrev oA (al : Al) : Sl := .own (.dct (alK al) (alD al))
/-- other streams' counts -/
theorem others_ok {P : D} {w o : Al} {x : Str} {rs y4 y6 y7 : Sl} {u : U} (hn : NdA o) (few : o.length ≤ 900) :
    vPeek 2 (vDC (.one 7) [7] (mItemsK (mVar 2)) (mTru (mBin cNe (mVar 7) (mVar 5))) (mVar 7) (mBin dixD (mVar 2) (mVar 7))) [Sl.pub P, oA w, oA o, rs, y4, .pub (.str x), y6, y7] u = some (oA (o.filter fun p => !decide (p.1 = x)), u) := by
  refine vPeek_eq (o := .dct (alK o) (alD o)) rfl (vDC_eq (r := (alK (o.filter fun p => !decide (p.1 = x)), alD (o.filter fun p => !decide (p.1 = x)))) (mItemsK_eq rfl) ?_) (scal_al _)
  have := foldD_al (f := turnD (.one 7) [7] [Sl.pub P, oA w, .pub (.dct (alK o) (alD o)), rs, y4, .pub (.str x), y6, y7] (mTru (mBin cNe (mVar 7) (mVar 5))) (mVar 7) (mBin dixD (mVar 2) (mVar 7))) (P := fun z => !decide (z = x)) (u := u) (al := o) (acc := []) hn (by simp; omega) (fun p hp => ?_)
  · exact this
  · by_cases e : p.1 = x
    · rw [if_neg (by simp [e])]
      exact turnD_n (env' := [Sl.pub P, oA w, .pub (.dct (alK o) (alD o)), rs, y4, .pub (.str x), y6, .pub (.str p.1)]) rfl (mTru_eq (mBin_eq rfl rfl (cneS p.1 x)) (by rw [decide_eq_true e]; rfl))
    · rw [if_pos (by simp [e])]
      exact turnD_c (env' := [Sl.pub P, oA w, .pub (.dct (alK o) (alD o)), rs, y4, .pub (.str x), y6, .pub (.str p.1)]) (k := .str p.1) rfl (mTru_eq (mBin_eq rfl rfl (cneS p.1 x)) (by rw [decide_eq_false e]; rfl)) rfl (mBin_eq rfl rfl (dix_al ((mem_get hn).mp hp))) rfl
theorem table_ok {ds : List Dd} {xs : List Str} {ws : List Wp} {u : U} (few : ds.length ≤ 900) (hx : Rising xs) (hi : InS ds xs) (hs : bSortB [.lst ((wr ds).map fun w => rowT (rowOf_ xs ds w))] = some (.lst (ws.map fun w => rowT (rowOf_ xs ds w)))) :
    F_table_of [progD ds] u = some (.tup (ws.map fun w => rowT (rowOf_ xs ds w)), u) := by
  obtain ⟨env', u', e, rfl, w, o, y4, y5, y6, y7, hc, rfl⟩ := forX_inv (t := .many [4, 5])
    (f := (sCons (sIf (mTru (mBin cEq (mVar 4) (mC (.str ("flush" : Str))))) (sCons (sPutD 2 (mVar 5) (mPeek 1 (mGet2 (mVar 1) (mVar 5) (mC (.int (0)))))) sNil) (sCons (sPutD 1 (mVar 5) (mBin fAdd (mPeek 1 (mGet2 (mVar 1) (mVar 5) (mC (.int (0))))) (mC (.int (1)))))
      (sCons (sSv 6 (vPeek 2 (vDC (.one 7) [7] (mItemsK (mVar 2)) (mTru (mBin cNe (mVar 7) (mVar 5))) (mVar 7) (mBin dixD (mVar 2) (mVar 7)))))
      (sPub 6
      (sCons (sApp 3 (mTup (mCons (mTup (mCons (mVar 5) (mCons (mPeek 1 (mBin dixD (mVar 1) (mVar 5))) mNil))) (mCons (mCall 1 F_counted (mCons (mVar 6) mNil)) mNil)))) sNil))))) sNil))
    (I := fun j env u' => u = u' ∧ ∃ w o y4 y5 y6 y7, CI (ds.take j) w o ∧ env = [Sl.pub (progD ds), oA w, oA o, .own (.lst ((wrUp ds j).map fun w => rowT (rowOf_ xs ds w))), y4, y5, y6, y7])
    (ds := ds.map deedD) (i := 0) (env := [Sl.pub (progD ds), oA [], oA [], .own (.lst []), .no, .no, .no, .no]) (u := u) (fun j hj env u1 hI => by
      obtain ⟨rfl, w, o, y4, y5, y6, y7, hc, rfl⟩ := hI
      rw [Nat.zero_add] at hc ⊢
      rw [List.length_map] at hj
      rw [List.getElem_map]
      have lw := hc.lw
      have lo := hc.lo
      rw [List.length_take] at lw lo
      have lr := wr_len (ds := ds) j
      obtain ⟨⟨b, x⟩, hd⟩ : ∃ p, ds[j] = p := ⟨_, rfl⟩
      have hg : ds[j]? = some (b, x) := by rw [List.getElem?_eq_getElem hj, hd]
      have g0 : ∀ a b c d e : Sl, mGet2 (mVar 1) (mVar 5) (mC (.int (0))) [Sl.pub (progD ds), .pub (dA w), a, b, c, .pub (.str x), d, e] u = some (.int ((getA x w).getD 0), u) := fun a b c d e => by
        have := mGet2_eq (mo := mVar 1) (me := mVar 5) (mf := mC (.int (0))) (env := [Sl.pub (progD ds), .pub (dA w), a, b, c, .pub (.str x), d, e]) (u := u) (al := w) (x := x) (d := .int 0) rfl rfl rfl
        rw [getD_map] at this
        exact this
      have g1 : ∀ a b c d e : Sl, mPeek 1 (mGet2 (mVar 1) (mVar 5) (mC (.int (0)))) [Sl.pub (progD ds), oA w, a, b, c, .pub (.str x), d, e] u = some (.int ((getA x w).getD 0), u) := fun a b c d e =>
        mPeek_eq (o := .dct (alK w) (alD w)) rfl (g0 a b c d e) rfl
      rw [hd]
      cases b with
      | false =>
        refine ⟨[Sl.pub (progD ds), oA w, oA o, .own (.lst ((wrUp ds j).map fun w => rowT (rowOf_ xs ds w))), .pub (.str (wdS false)), .pub (.str x), y6, y7], [Sl.pub (progD ds), oA w, oA (putA x ((getA x w).getD 0) o), .own (.lst ((wrUp ds (j + 1)).map fun w => rowT (rowOf_ xs ds w))), .pub (.str (wdS false)), .pub (.str x), y6, y7], u, rfl, ?_, rfl, _, _, _, _, _, _, by rw [takeS hj, hd]; exact hc.flush x, rfl⟩
        rw [wr_f hg]
        exact sc_nx (sIf_t (mTru_eq (mBin_eq rfl rfl (eq_fl false)) rfl) (sc_nx (sPutD_eq (al := o) (x := x) (v := (getA x w).getD 0) rfl (g1 _ _ _ _ _) rfl (by omega)) rfl)) rfl
      | true =>
        obtain ⟨w', hw'⟩ : ∃ w', w' = putA x ((getA x w).getD 0 + 1) w := ⟨_, rfl⟩
        have hc' : CI (ds.take (j + 1)) w' o := by rw [takeS hj, hd, hw']; exact hc.write x
        have gx : getA x w' = some (manyOf x (ds.take (j + 1)) : Int) := by
          have h1 := hc'.w x
          have h2 : getA x w' = some ((getA x w).getD 0 + 1) := by rw [hw', get_put, if_pos rfl]
          rw [h2] at h1 ⊢
          rw [show ((getA x w).getD 0 + 1) = (manyOf x (ds.take (j + 1)) : Int) from h1]
        have hof : ∀ y, (getA y (o.filter fun p => !decide (p.1 = x))).getD 0 = if y = x then 0 else (ouOf y (ds.take j) : Int) := fun y => by
          rw [getA_filter (P := fun z => !decide (z = x))]
          by_cases e : y = x
          · rw [if_neg (by simp [e]), if_pos e]; rfl
          · rw [if_pos (by simp [e]), if_neg e]; exact hc.o y
        have hnd : NdA (o.filter fun p => !decide (p.1 = x)) := List.Nodup.sublist (List.filter_sublist.map _) hc.no_
        have cnt := counted_ok (u := u) hnd hx hof (fun y hy => by
          by_cases e : y = x
          · rw [if_pos e]
          · rw [if_neg e]
            have : ouOf y (ds.take j) = 0 := outR_0 hy (hi.take j).rev
            rw [this]; rfl) (Nat.le_trans (List.length_filter_le _ _) (by omega))
        refine ⟨[Sl.pub (progD ds), oA w, oA o, .own (.lst ((wrUp ds j).map fun w => rowT (rowOf_ xs ds w))), .pub (.str (wdS true)), .pub (.str x), y6, y7], [Sl.pub (progD ds), oA w', oA o, .own (.lst ((wrUp ds (j + 1)).map fun w => rowT (rowOf_ xs ds w))), .pub (.str (wdS true)), .pub (.str x), .pub (dA (o.filter fun p => !decide (p.1 = x))), y7], u, rfl, ?_, rfl, _, _, _, _, _, _, hc', rfl⟩
        rw [wr_t hg, List.map_append, List.map_cons, List.map_nil]
        refine sc_nx (sIf_f (mTru_eq (mBin_eq rfl rfl (eq_fl true)) rfl) (sc_nx (env' := [Sl.pub (progD ds), oA w', oA o, .own (.lst ((wrUp ds j).map fun w => rowT (rowOf_ xs ds w))), .pub (.str (wdS true)), .pub (.str x), y6, y7]) (by rw [hw']; exact sPutD_eq (al := w) (x := x) (v := (getA x w).getD 0 + 1) rfl (mBin_eq (g1 _ _ _ _ _) rfl rfl) rfl (by omega)) ?_)) rfl
        refine sc_nx (sSv_eq (others_ok hc.no_ (by omega))) (sPub_eq rfl (sc_nx (sApp_eq (d := rowT (rowOf_ xs ds (j, x))) rfl (mTup_eq (mCons_eq (mTup_eq (mCons_eq rfl (c1 (mPeek_eq (o := .dct (alK w') (alD w')) rfl (mBin_eq rfl rfl (dix_al gx)) rfl))) (isiz (by simp))) (c1 (mCall_eq (c1 rfl) rfl cnt))) (isiz (by simp))) (by rw [List.length_map, line]; omega)) rfl))) ⟨rfl, [], [], .no, .no, .no, .no, CI.nil, rfl⟩
  rw [List.length_map, Nat.zero_add] at *
  exact runB_rt (sc_nx (sSv_eq vDct_eq) (sc_nx (sSv_eq vDct_eq) (sc_nx (sSv_eq (vLst_eq mNil_eq (Nat.zero_le _))) (sc_nx (sFor_eq (mItems_eq (mPrp_eq rfl deeds_eq) rfl) e) (sPub_eq rfl (sc_rt (sRet_eq (mBi_eq (c1 (mBi_eq (c1 rfl) hs)) rfl))))))))
theorem wr_tx {ds : List Dd} (h : AllTx ds) {w : Wp} (hw : w ∈ wr ds) : TxO w.2 := h (true, w.2) (List.mem_of_getElem? (wr_mem hw).2)
theorem at_tx {ds : List Dd} (h : AllTx ds) {k : Nat} {b : Bool} {x : Str} (hg : ds[k]? = some (b, x)) : TxO x := h (b, x) (List.mem_of_getElem? hg)
theorem tupled_lines {n : Nat} {al : Al} {u : U} (few : al.length ≤ 1000) : FR_tupled (n + 3) [.tup (al.map lineD)] u = some (.tup (al.map lineD), u) := by
  have := tupled_tup (n := n + 2) (xs := al.map lineD) (g := id) (u := u) (fun d hd => by
    obtain ⟨p, _, rfl⟩ := List.mem_map.mp hd
    exact tupled_line) (by rw [List.length_map]; exact few)
  rw [List.map_id] at this
  exact this
theorem tupled_row {n : Nat} {r : TRow} {u : U} (few : r.2.length ≤ 1000) : FR_tupled (n + 4) [rowT r] u = some (rowT r, u) := by
  have := tupled_tup (n := n + 3) (xs := [lineD r.1, .tup (r.2.map lineD)]) (g := id) (u := u) (fun d hd => by
    simp only [List.mem_cons, List.not_mem_nil, or_false] at hd
    rcases hd with rfl | rfl
    · exact tupled_line
    · exact tupled_lines few) (by simp)
  rw [List.map_id] at this
  exact this
theorem tupled_rows {R : List TRow} {u : U} (few : R.length ≤ 1000) (fr : ∀ r ∈ R, r.2.length ≤ 1000) : FR_tupled 6 [.tup (R.map rowT)] u = some (.tup (R.map rowT), u) := by
  have := tupled_tup (n := 5) (xs := R.map rowT) (g := id) (u := u) (fun d hd => by
    obtain ⟨r, hr, rfl⟩ := List.mem_map.mp hd
    exact tupled_row (fr r hr)) (by rw [List.length_map]; exact few)
  rw [List.map_id] at this
  exact this
def toldR (R : List TRow) : D := .dtt (R.map fun r => pairK r.1) (R.map fun r => dA r.2)
theorem told_by_ok {R : List TRow} {u : U} (few : R.length ≤ 1000) (fr : ∀ r ∈ R, r.2.length ≤ 1000) (nd : (R.map (·.1)).Nodup) (na : ∀ r ∈ R, NdA r.2) : F_told_by [.tup (R.map rowT)] u = some (toldR R, u) := by
  obtain ⟨W, hW⟩ : ∃ W : D, W = .tup (R.map rowT) := ⟨_, rfl⟩
  have t := tupled_rows (u := u) few fr
  have hc : compL (turnL (.many [1, 2]) [1, 2] [.pub W, .no, .no] mYes (mPair (mVar 1) (mDictP (mVar 2)))) (R.map rowT) u = some (R.map fun r => .pr [rowD (pairK r.1), dA r.2], u) := by
    refine compL_mp fun r hr => ?_
    rw [pair_row]
    exact turnL_eq (env' := [.pub W, .pub (lineD r.1), .pub (.tup (r.2.map lineD))]) rfl (mPair_eq rfl (dict_al rfl (na r hr)))
  have kn : (R.map fun r => pairK r.1).Nodup := by
    have : (R.map fun r => pairK r.1) = (R.map (·.1)).map pairK := by rw [List.map_map]; rfl
    rw [this]
    exact List.pairwise_map.mpr (nd.imp fun h z => h (pairK_inj z))
  have fo := dtFold_new (k := fun r : TRow => pairK r.1) (v := fun r : TRow => dA r.2) R [] kn (by simpa using few)
  rw [← hW] at t ⊢
  exact runB_rt (sc_rt (sRet_eq (mDcT_eq (mItems_eq (mCall_eq (c1 rfl) rfl t) (by rw [hW]; rfl)) hc fo)))
def toldW (xs : List Str) (ds : List Dd) (ws : List Wp) : D := toldR (ws.map (rowOf_ xs ds))
theorem told_in_ok {ds : List Dd} {xs : List Str} {ws : List Wp} {u : U} (few : ds.length ≤ 900) (hx : Rising xs) (lx : xs.length ≤ 900) (hi : InS ds xs) (hp : ws.Perm (wr ds)) (hs : bSortB [.lst ((wr ds).map fun w => rowT (rowOf_ xs ds w))] = some (.lst (ws.map fun w => rowT (rowOf_ xs ds w)))) :
    F_told_in [progD ds] u = some (toldW xs ds ws, u) := by
  have tb := table_ok (u := u) few hx hi hs
  have lw : ws.length ≤ 900 := by rw [hp.length_eq]; exact Nat.le_trans (wr_len _) few
  have nd : ((ws.map (rowOf_ xs ds)).map (·.1)).Nodup := by
    rw [List.map_map]
    exact ((hp.map (lineOf ds)).nodup_iff).mpr (lines_nodup ds _)
  have tl : F_told_by [.tup (ws.map fun w => rowT (rowOf_ xs ds w))] u = some (toldW xs ds ws, u) := by
    have := told_by_ok (R := ws.map (rowOf_ xs ds)) (u := u) (by rw [List.length_map]; omega) (fun r hr => by
      obtain ⟨w, _, rfl⟩ := List.mem_map.mp hr
      exact Nat.le_trans (told_len _ _) (by omega)) nd (fun r hr => by
      obtain ⟨w, _, rfl⟩ := List.mem_map.mp hr
      exact tTold_nd hx ds w)
    rw [List.map_map] at this
    exact this
  exact runB_rt (sc_rt (sRet_eq (mCall_eq (c1 (mCall_eq (c1 rfl) rfl tb)) rfl tl)))
theorem told_at {ds : List Dd} {xs : List Str} {ws : List Wp} {b : Wp} (hp : ws.Perm (wr ds)) (hb : b ∈ wr ds) : dixT (toldW xs ds ws) (lineD (lineOf ds b)) = some (dA (tTold xs ds b)) := by
  have nd : (ws.map fun w => pairK (lineOf ds w)).Nodup := by
    have : (ws.map fun w => pairK (lineOf ds w)) = (ws.map (lineOf ds)).map pairK := by rw [List.map_map]; rfl
    rw [this]
    exact List.pairwise_map.mpr ((((hp.map (lineOf ds)).nodup_iff).mpr (lines_nodup ds _)).imp fun h z => h (pairK_inj z))
  have e : toldW xs ds ws = .dtt (ws.map fun w => pairK (lineOf ds w)) (ws.map fun w => dA (tTold xs ds w)) := by
    unfold toldW toldR
    rw [List.map_map, List.map_map]; rfl
  rw [e, ← pair_row]
  show Option.bind (tkeyOf (rowD (pairK (lineOf ds b)))) (fun key => valT (ws.map fun w => pairK (lineOf ds w)) (ws.map fun w => dA (tTold xs ds w)) key) = _
  rw [tkeyOf_rowD]
  exact valT_map (k := fun w => pairK (lineOf ds w)) (v := fun w => dA (tTold xs ds w)) nd (hp.mem_iff.mpr hb)
theorem cge_nat (a b : Nat) : cGe (.int (a : Int)) (.int (b : Int)) = some (.bl (decide (b ≤ a))) := by
  show some (D.bl (decide ((b : Int) ≤ (a : Int)))) = _
  exact congrArg (fun z => some (D.bl z)) (decide_eq_decide.mpr (by omega))
theorem clt_nat (a b : Nat) : cLt (.int (a : Int)) (.int (b : Int)) = some (.bl (decide (a < b))) := by
  show some (D.bl (decide ((a : Int) < (b : Int)))) = _
  exact congrArg (fun z => some (D.bl z)) (decide_eq_decide.mpr (by omega))
theorem sure_ok {ds : List Dd} {xs : List Str} {ws : List Wp} {a b : Wp} {u : U} (hx : Rising xs) (hi : InS ds xs) (hp : ws.Perm (wr ds)) (hb : b ∈ wr ds) : F_surely_before [toldW xs ds ws, lineD (lineOf ds a), lineD (lineOf ds b)] u = some (.bl (sureB ds a b), u) := by
  have at_ := told_at (xs := xs) hp hb
  obtain ⟨TD, hTD⟩ : ∃ T, T = toldW xs ds ws := ⟨_, rfl⟩
  rw [← hTD] at at_ ⊢
  have tst : mTru (mBin cEq (mBin ixD (mVar 1) (mC (.int (0)))) (mBin ixD (mVar 2) (mC (.int (0))))) [.pub TD, .pub (lineD (lineOf ds a)), .pub (lineD (lineOf ds b))] u = some (decide (a.2 = b.2), u) :=
    mTru_eq (mBin_eq (mBin_eq rfl rfl (z := .str a.2) rfl) (mBin_eq rfl rfl (z := .str b.2) rfl) (ceqS a.2 b.2)) rfl
  unfold sureB
  by_cases e : a.2 = b.2
  · rw [decide_eq_true e] at tst
    rw [if_pos e]
    exact runB_rt (sc_rt (sIf_t tst (sc_rt (sRet_eq (mBin_eq (mBin_eq rfl rfl (z := .int (numW ds a)) rfl) (mBin_eq rfl rfl (z := .int (numW ds b)) rfl) (clt_nat _ _))))))
  · rw [decide_eq_false e] at tst
    rw [if_neg e]
    have g := tTold_get hx hi b a.2
    have g2 : mGet2 (mBin dixT (mVar 0) (mVar 2)) (mBin ixD (mVar 1) (mC (.int (0)))) (mC (.int (0))) [.pub TD, .pub (lineD (lineOf ds a)), .pub (lineD (lineOf ds b))] u = some (.int (outW ds b a.2 : Int), u) := by
      rw [mGet2_eq (al := tTold xs ds b) (x := a.2) (mBin_eq rfl rfl at_) (mBin_eq rfl rfl rfl) rfl, getD_map, g]
    exact runB_rt (sc_nx (sIf_f tst rfl) (sc_rt (sRet_eq (mBin_eq g2 (mBin_eq rfl rfl (z := .int (numW ds a)) rfl) (cge_nat _ _)))))
end Lw65
namespace Dv
open PySem PySem.Spec L2
theorem linG_snoc (x : Str) : ∀ (ws seen : List Str), linG seen (ws ++ [x]) = linG seen ws ++ [(x, ((cntS x (revOn ws seen) : Nat) : Int) + 1)]
  | [], seen => rfl
  | y :: ws, seen => by
    show (y, ((cntS y seen : Nat) : Int) + 1) :: linG (y :: seen) (ws ++ [x]) = _
    rw [linG_snoc x ws (y :: seen)]; rfl
theorem lin_up {ds : List Dd} : ∀ {n : Nat}, n ≤ ds.length → linG [] (writesOf (ds.take n)) = (wrUp ds n).map (lineOf ds)
  | 0, _ => by rw [List.take_zero]; rfl
  | n + 1, h => by
    have hn : n < ds.length := by omega
    have ih := lin_up (ds := ds) (n := n) (by omega)
    obtain ⟨⟨b, x⟩, hd⟩ : ∃ p, ds[n] = p := ⟨_, rfl⟩
    have he : ds[n]? = some (b, x) := by rw [List.getElem?_eq_getElem hn, hd]
    rw [takeS hn, hd]
    cases b with
    | false =>
      rw [wr_f he, ← ih]
      unfold writesOf
      rw [List.filterMap_append]; simp
    | true =>
      have e : writesOf (ds.take n ++ [(true, x)]) = writesOf (ds.take n) ++ [x] := by unfold writesOf; rw [List.filterMap_append]; simp
      rw [e, linG_snoc, ih, wr_t he, List.map_append]
      congr 1
      have c := cnt_writes x (ds.take n) []
      have z : cntS x [] = 0 := rfl
      have m := many_at he
      show [(x, ((cntS x (revOn (writesOf (ds.take n)) []) : Nat) : Int) + 1)] = [(x, (manyOf x (ds.take (n + 1)) : Int))]
      rw [← c, z, m]
      rfl
theorem lin_wr (ds : List Dd) : linG [] (writesOf ds) = (wr ds).map (lineOf ds) := by
  have := lin_up (ds := ds) (n := ds.length) (Nat.le_refl _)
  rw [List.take_length] at this
  exact this
def ups {α : Type} : List α → List (α × α)
  | [] => []
  | x :: r => r.map (fun y => (x, y)) ++ ups r
def crossL {α : Type} (l m : List α) : List (α × α) := l.flatMap fun x => m.map fun y => (x, y)
theorem ups_filter {α : Type} {R : α → α → Bool} {L : List α} : ∀ (pre r : List α), L = pre ++ r → L.Pairwise (fun a b => R a b = true ∧ R b a = false) → (∀ a, R a a = false) → (crossL r L).filter (fun p => R p.1 p.2) = ups r
  | pre, [], _, _, _ => rfl
  | pre, x :: r, e, hp, hr => by
    have ih := ups_filter (R := R) (L := L) (pre ++ [x]) r (by rw [e, List.append_assoc]; rfl) hp hr
    unfold crossL at ih ⊢
    rw [List.flatMap_cons, List.filter_append, ih]
    show _ = r.map (fun y => (x, y)) ++ ups r
    congr 1
    rw [List.filter_map, e, List.filter_append]
    rw [e] at hp
    obtain ⟨h1, h2, h3⟩ := List.pairwise_append.mp hp
    have h4 := (List.pairwise_cons.mp h2).1
    have z1 : pre.filter ((fun p : α × α => R p.1 p.2) ∘ fun y => (x, y)) = [] := by
      refine List.filter_eq_nil_iff.mpr fun y hy => ?_
      have := (h3 y hy x List.mem_cons_self).2
      show ¬ R x y = true
      rw [this]; decide
    have z2 : (x :: r).filter ((fun p : α × α => R p.1 p.2) ∘ fun y => (x, y)) = r := by
      rw [List.filter_cons]
      have : ((fun p : α × α => R p.1 p.2) ∘ fun y => (x, y)) x = false := hr x
      rw [this, if_neg Bool.false_ne_true]
      exact List.filter_eq_self.mpr fun y hy => (h4 y hy).1
    rw [z1, z2]; rfl
theorem mem_cross {α : Type} {l m : List α} {a b : α} : (a, b) ∈ crossL l m ↔ a ∈ l ∧ b ∈ m := by
  unfold crossL
  rw [List.mem_flatMap]
  constructor
  · rintro ⟨x, hx, h⟩
    obtain ⟨y, hy, e⟩ := List.mem_map.mp h
    cases e
    exact ⟨hx, hy⟩
  · rintro ⟨h1, h2⟩
    exact ⟨a, h1, List.mem_map.mpr ⟨b, h2, rfl⟩⟩
theorem cross_len {α : Type} : ∀ (l m : List α), (crossL l m).length = l.length * m.length
  | [], m => by simp [crossL]
  | x :: l, m => by
    unfold crossL
    rw [List.flatMap_cons, List.length_append, List.length_map]
    have := cross_len l m
    unfold crossL at this
    rw [this, List.length_cons, Nat.succ_mul]; omega
theorem ups_len {α : Type} : ∀ (l : List α), (ups l).length ≤ l.length * l.length
  | [] => Nat.le_refl _
  | x :: l => by
    show (l.map (fun y => (x, y)) ++ ups l).length ≤ _
    rw [List.length_append, List.length_map, List.length_cons]
    have := ups_len l
    have e : (l.length + 1) * (l.length + 1) = l.length * l.length + 2 * l.length + 1 := by rw [Nat.succ_mul, Nat.mul_succ]; omega
    omega
/-- enumerate, and the rest behind each -/
def behindD (full : List D) : D → List D
  | .pr [.int i, x] => (full.drop (i.toNat + 1)).map fun y => .tup [x, y]
  | _ => []
theorem enum_ups {full : List D} : ∀ (r pre : List D), full = pre ++ r → (enumD pre.length r).flatMap (behindD full) = (ups r).map fun p => .tup [p.1, p.2]
  | [], pre, _ => rfl
  | x :: r, pre, e => by
    have ih := enum_ups (full := full) r (pre ++ [x]) (by rw [e, List.append_assoc]; rfl)
    rw [List.length_append, List.length_singleton] at ih
    show (D.pr [.int (pre.length : Int), x] :: enumD (pre.length + 1) r).flatMap _ = _
    rw [List.flatMap_cons, ih]
    show _ = (r.map (fun y => (x, y)) ++ ups r).map _
    rw [List.map_append, List.map_map]
    congr 1
    show (full.drop ((pre.length : Int).toNat + 1)).map _ = _
    rw [Int.toNat_natCast, e, List.drop_append]
    have : pre.drop (pre.length + 1) = [] := List.drop_eq_nil_of_le (by omega)
    rw [this, show pre.length + 1 - pre.length = 1 by omega]
    rfl
theorem ups_map {α β : Type} (f : α → β) : ∀ l : List α, ups (l.map f) = (ups l).map fun p => (f p.1, f p.2)
  | [] => rfl
  | x :: l => by
    show (l.map f).map (fun y => (f x, y)) ++ ups (l.map f) = (l.map (fun y => (x, y)) ++ ups l).map _
    rw [ups_map f l, List.map_append, List.map_map, List.map_map]; rfl
end Dv
namespace Dv
open PySem PySem.Spec PyProof.Rows L2
/-- the streams of DEEDs -/
def strsD (ds : List Dd) : List Str := sortS (nubS (ds.map (·.2)))
theorem strsD_rising (ds : List Dd) : Rising (strsD ds) := rising_sort (nodup_nubS _)
theorem strsD_in (ds : List Dd) : InS ds (strsD ds) := fun p hp => (sortS_perm _).mem_iff.mpr (mem_nubS.mpr (List.mem_map.mpr ⟨p, hp, rfl⟩))
theorem strsD_len (ds : List Dd) : (strsD ds).length ≤ ds.length := by
  unfold strsD
  rw [(sortS_perm _).length_eq]
  exact Nat.le_trans (len_nubS _) (by rw [List.length_map]; exact Nat.le_refl _)
/-- the table of DEEDs -/
noncomputable def wsOf (ds : List Dd) : List Wp := Classical.choose (tab_sorts (strsD ds) ds)
theorem wsOf_spec (ds : List Dd) : (wsOf ds).Perm (wr ds) ∧ bSortB [.lst ((wr ds).map fun w => lineD (lineOf ds w))] = some (.lst ((wsOf ds).map fun w => lineD (lineOf ds w))) ∧
    bSortB [.lst ((wr ds).map fun w => rowT (rowOf_ (strsD ds) ds w))] = some (.lst ((wsOf ds).map fun w => rowT (rowOf_ (strsD ds) ds w))) := Classical.choose_spec (tab_sorts (strsD ds) ds)
end Dv
namespace Lw65
open PySem PySem.Spec PyProof.Rows L2 Dv
abbrev Ln := Str × Int
def pD (q : Ln × Ln) : D := .tup [lineD q.1, lineD q.2]
def LP (ds : List Dd) (p : Wp × Wp) : Ln × Ln := (lineOf ds p.1, lineOf ds p.2)
theorem enumD_memG : ∀ (l : List D) (n : Nat) {d : D}, d ∈ enumD n l → ∃ i x, d = .pr [.int (i : Nat), x] ∧ x ∈ l ∧ n ≤ i ∧ i < n + l.length
  | [], _, _, h => nomatch h
  | y :: l, n, d, h => by
    rcases List.mem_cons.mp h with rfl | h
    · exact ⟨n, y, rfl, List.mem_cons_self, Nat.le_refl _, by rw [List.length_cons]; omega⟩
    · obtain ⟨i, x, e, m, h1, h2⟩ := enumD_memG l (n + 1) h
      exact ⟨i, x, e, List.mem_cons_of_mem _ m, by omega, by rw [List.length_cons]; omega⟩
theorem lineD_inj {a b : Ln} (h : lineD a = lineD b) : a = b := by
  obtain ⟨x, i⟩ := a
  obtain ⟨y, j⟩ := b
  unfold lineD at h
  injection h with h
  injection h with h1 h2
  injection h1 with h1
  injection h2 with h2
  injection h2 with h2
  have h1 : x = y := h1
  have h2 : i = j := h2
  rw [h1, h2]
theorem map_inj_list {α β : Type} {f : α → β} (hf : ∀ a b, f a = f b → a = b) : ∀ {l m : List α}, l.map f = m.map f → l = m
  | [], [], _ => rfl
  | [], b :: m, h => by cases h
  | a :: l, [], h => by cases h
  | a :: l, b :: m, h => by
    rw [List.map_cons, List.map_cons] at h
    rw [hf a b (List.cons.inj h).1, map_inj_list hf (List.cons.inj h).2]
theorem leG_rowL {a b : List Key} (h : shapeR a = shapeR b) : leG (rowD a) (rowD b) = leR a b := by
  show (!W.dataLt (pyD (rowD b)) (pyD (rowD a))) = _
  rw [pyD_rowD, pyD_rowD]
  have : W.dataLt (.tuple (b.map keyPy)) (.tuple (a.map keyPy)) = W.rowLt (b.map keyPy) (a.map keyPy) := W.dataLt_tuple _ _
  rw [this, row_lt (a := a) (b := b) h, Bool.not_not]
def ltL (a b : Ln) : Bool := !leR (pairK b) (pairK a)
theorem ltL_self (a : Ln) : ltL a a = false := by
  unfold ltL
  have : leR (pairK a) (pairK a) = true := by
    have := leG_total.total (lineD a) (lineD a)
    rw [← pair_row, leG_rowL (a := pairK a) (b := pairK a) rfl] at this
    exact this.elim id id
  rw [this]; rfl
theorem line_lt (a b : Ln) : cLtP (lineD a) (lineD b) = some (.bl (ltL a b)) := by
  unfold cLtP
  rw [line_py, line_py]
  show (if okG [lineP a, lineP b] = true then some (D.bl (W.dataLt (lineP a) (lineP b))) else none) = _
  have ok : okG [lineP a, lineP b] = true := by
    unfold okG alikeB sortableB
    rw [Bool.and_eq_true, Bool.and_eq_true, Bool.or_eq_true]
    refine ⟨⟨?_, .inl ?_⟩, ?_⟩
    · simp [line_alike]
    · rfl
    · refine List.all_eq_true.mpr fun p hp => ?_
      simp only [List.mem_cons, List.not_mem_nil, or_false] at hp
      rcases hp with rfl | rfl
      · exact decide_eq_true (by have := line_dep a; omega)
      · exact decide_eq_true (by have := line_dep b; omega)
  rw [if_pos ok]
  have e : leG (lineD b) (lineD a) = leR (pairK b) (pairK a) := by
    rw [← pair_row, ← pair_row]
    exact leG_rowL rfl
  have e2 : leG (lineD b) (lineD a) = !W.dataLt (lineP a) (lineP b) := by
    show (!W.dataLt (pyD (lineD a)) (pyD (lineD b))) = _
    unfold pyD
    rw [line_py, line_py]; rfl
  unfold ltL
  rw [← e, e2, Bool.not_not]
theorem pairCod : Cod pD (fun q : Ln × Ln => .tuple [lineP q.1, lineP q.2]) (fun q => TxO q.1.1 ∧ TxO q.2.1) 2 := by
  refine ⟨fun q => by simp [pD, toPy, toPys, line_py], fun q h => ?_, fun q => ?_, fun p q => ?_, fun q => ⟨_, rfl⟩⟩
  · simp [PyData.canLay0, PyData.canLayAll0, line_lay h.1, line_lay h.2]
  · have h1 := line_dep q.1
    have h2 := line_dep q.2
    simp only [PyData.depth, PyData.depthAll]
    omega
  · simp only [PyData.eqv, PyData.eqvAll, Bool.and_true, line_eqv]
    rw [← Bool.decide_and]
    exact decide_eq_decide.mpr ⟨fun h => Prod.ext h.1 h.2, fun h => by rw [h]; exact ⟨rfl, rfl⟩⟩
theorem eqL {α : Type} [DecidableEq α] {e : α → D} {p : α → PyData} {ok : α → Prop} {n : Nat} (c : Cod e p ok n) (hn : n < 62) {a b : List α} (h : ∀ x ∈ a, ok x) (g : ∀ x ∈ b, ok x) : cEq (.lst (a.map e)) (.lst (b.map e)) = some (.bl (decide (a = b))) := by
  have t : ∀ l : List α, toPy (.lst (l.map e)) = some (.list (l.map p)) := fun l => by unfold toPy; rw [c.pys]; rfl
  show (eqD _ _).map D.bl = _
  have : eqD (.lst (a.map e)) (.lst (b.map e)) = some (decide (a = b)) := by
    unfold eqD
    simp only [t]
    rw [if_pos ⟨c.shL (by omega) h, c.shL (by omega) g⟩]
    simp only [PyData.eqv]
    rw [eqvAll_dec fun a _ b _ => c.eqv a b]
  rw [this]; rfl
theorem lt_line (a b : Ln) : W.dataLt (lineP a) (lineP b) = ltL a b := by
  have h := line_lt a b
  unfold cLtP at h
  rw [line_py, line_py] at h
  have h : (if okG [lineP a, lineP b] = true then some (D.bl (W.dataLt (lineP a) (lineP b))) else none) = some (.bl (ltL a b)) := h
  split at h
  · injection h with h; injection h
  · cases h
theorem ltL_or {a b : Ln} (h1 : ltL a b = false) (h2 : ltL b a = false) : a = b := by
  unfold ltL at h1 h2
  have h1 : leR (pairK b) (pairK a) = true := by cases q : leR (pairK b) (pairK a) <;> simp_all
  have h2 : leR (pairK a) (pairK b) = true := by cases q : leR (pairK a) (pairK b) <;> simp_all
  exact pairK_inj (leR_anti h2 h1)
abbrev pP (q : Ln × Ln) : PyData := .tuple [lineP q.1, lineP q.2]
theorem pyD_p (q : Ln × Ln) : pyD (pD q) = pP q := by unfold pyD; rw [pairCod.py]; rfl
theorem lt_pair (p q : Ln × Ln) : W.dataLt (pP p) (pP q) = if p.1 = q.1 then ltL p.2 q.2 else ltL p.1 q.1 := by
  rw [W.dataLt_pair (line_alike _ _) (line_alike _ _), line_eqv, line_eqv, lt_line, lt_line]
  by_cases e : p.1 = q.1
  · rw [if_pos (decide_eq_true e), if_pos e]
    by_cases e2 : p.2 = q.2
    · rw [if_pos (decide_eq_true e2), e2, ltL_self]
    · rw [if_neg (by simpa using e2)]
  · rw [if_neg (by simpa using e), if_neg e]
theorem leG_pair {p q : Ln × Ln} (h1 : leG (pD p) (pD q) = true) (h2 : leG (pD q) (pD p) = true) : p = q := by
  have g1 : W.dataLt (pP q) (pP p) = false := by
    have : leG (pD p) (pD q) = !W.dataLt (pyD (pD q)) (pyD (pD p)) := rfl
    rw [this, pyD_p, pyD_p] at h1
    simpa using h1
  have g2 : W.dataLt (pP p) (pP q) = false := by
    have : leG (pD q) (pD p) = !W.dataLt (pyD (pD p)) (pyD (pD q)) := rfl
    rw [this, pyD_p, pyD_p] at h2
    simpa using h2
  rw [lt_pair] at g1 g2
  by_cases e : p.1 = q.1
  · rw [if_pos e.symm] at g1
    rw [if_pos e] at g2
    exact Prod.ext e (ltL_or g2 g1)
  · rw [if_neg (fun z => e z.symm)] at g1
    rw [if_neg e] at g2
    exact absurd (ltL_or g2 g1) e
theorem okG_pairs (l : List (Ln × Ln)) : okG (l.map pP) = true := by
  unfold okG alikeB sortableB
  rw [Bool.and_eq_true, Bool.and_eq_true, Bool.or_eq_true]
  refine ⟨⟨?_, .inl ?_⟩, ?_⟩
  · refine List.all_eq_true.mpr fun p hp => List.all_eq_true.mpr fun q hq => ?_
    obtain ⟨a, _, rfl⟩ := List.mem_map.mp hp
    obtain ⟨b, _, rfl⟩ := List.mem_map.mp hq
    simp [W.alike, W.alikeAll, line_alike]
  · refine List.all_eq_true.mpr fun p hp => ?_
    obtain ⟨a, _, rfl⟩ := List.mem_map.mp hp
    rfl
  · refine List.all_eq_true.mpr fun p hp => ?_
    obtain ⟨a, _, rfl⟩ := List.mem_map.mp hp
    exact decide_eq_true (by have : (pP a).depth ≤ 2 := pairCod.dep a; omega)
theorem okG_lines (l : List Ln) : okG (l.map lineP) = true := by
  unfold okG alikeB sortableB
  rw [Bool.and_eq_true, Bool.and_eq_true, Bool.or_eq_true]
  refine ⟨⟨?_, .inl ?_⟩, ?_⟩
  · refine List.all_eq_true.mpr fun p hp => List.all_eq_true.mpr fun q hq => ?_
    obtain ⟨a, _, rfl⟩ := List.mem_map.mp hp
    obtain ⟨b, _, rfl⟩ := List.mem_map.mp hq
    exact line_alike _ _
  · refine List.all_eq_true.mpr fun p hp => ?_
    obtain ⟨a, _, rfl⟩ := List.mem_map.mp hp
    rfl
  · refine List.all_eq_true.mpr fun p hp => ?_
    obtain ⟨a, _, rfl⟩ := List.mem_map.mp hp
    exact decide_eq_true (by have := line_dep a; omega)
theorem sortP_pairs (l : List (Ln × Ln)) : sortP (l.map pD) = some (.lst (sortG (l.map pD))) := by
  unfold sortP
  rw [toPys_map (f := pD) (g := pP) fun a _ => pairCod.py a]
  show (if okG (l.map pP) = true then _ else none) = _
  rw [if_pos (okG_pairs l)]
theorem sortB_pairs (l : List (Ln × Ln)) : bSortB [.lst (l.map pD)] = some (.lst (sortG (l.map pD))) := by
  cases l with
  | nil => rfl
  | cons p r =>
    have e0 : bSorted [.lst ((p :: r).map pD)] = none := rfl
    have e1 : bSortA [.lst ((p :: r).map pD)] = none := by
      show (match bSorted [.lst ((p :: r).map pD)] with | some d => some d | none => sortT ((p :: r).map pD)) = _
      rw [e0]; rfl
    show (match bSortA [.lst ((p :: r).map pD)] with | some d => some d | none => sortP ((p :: r).map pD)) = _
    rw [e1]
    exact sortP_pairs _
theorem fld3 (ds : List Dd) : fldD "Program" "_lines" (progD ds) = some (.tup ((linG [] (writesOf ds)).map lineD)) := by
  show (if ("Program" : Str) = "Program" then _ else none) = _
  rw [if_pos rfl]; rfl
theorem lines_eq {ds : List Dd} {u : U} : F_Program_lines [progD ds] u = some (.tup (((wr ds).map (lineOf ds)).map lineD), u) := by
  rw [← lin_wr]
  exact runB_rt (sc_rt (sRet_eq (mFld_eq rfl (fld3 ds))))
end Lw65
namespace Dv
open PySem PySem.Spec PyProof.Rows L2
/-- at its place a write of its stream -/
def IsW (ds : List Dd) (w : Wp) : Prop := ds[w.1]? = some (true, w.2)
/-- b is surely ahead of a -/
def Sr (ds : List Dd) (b a : Wp) : Prop := b.1 < a.1 ∧ (b.2 = a.2 ∨ ∃ k, b.1 < k ∧ k < a.1 ∧ ds[k]? = some (false, b.2))
/-- what can stand in the open before the deed k: lines written before, each once, of each stream the first ones -/
structure Op (ds : List Dd) (k : Nat) (p : List Wp) : Prop where
  nd : p.Nodup
  w : ∀ a ∈ p, IsW ds a ∧ a.1 < k
  up : ∀ (i : Nat) a, p[i]? = some a → ∀ b, IsW ds b → b.2 = a.2 → b.1 < a.1 → b ∈ p.take i
end Dv
namespace Dv
open PySem PySem.Spec PyProof.Rows L2
/-- what can stand at the head of an output -/
structure Ord (ds : List Dd) (p : List Wp) : Prop where
  nd : p.Nodup
  w : ∀ a ∈ p, IsW ds a
  cl : ∀ a ∈ p, ∀ b, IsW ds b → Sr ds b a → b ∈ p
  pw : p.Pairwise fun a b => ¬ Sr ds b a
theorem Ord.nil {ds : List Dd} : Ord ds [] := ⟨List.Pairwise.nil, (fun a h => nomatch h), (fun a h => nomatch h), List.Pairwise.nil⟩
open Classical in
noncomputable def more (ds : List Dd) (p : List Wp) (D : Wp → Prop) : List Wp := (wr ds).filter fun a => decide (D a ∧ a ∉ p)
end Dv
namespace Dv
open PySem PySem.Spec PyProof.Rows L2
abbrev Ln := Str × Int
section
variable {ds : List Dd} {k : Nat} {q : List Wp}
theorem Op.mono {j : Nat} (h : Op ds k q) (l : k ≤ j) : Op ds j q := ⟨h.nd, fun a ha => ⟨(h.w a ha).1, Nat.lt_of_lt_of_le (h.w a ha).2 l⟩, h.up⟩
end
end Dv
namespace Dv
open PySem PySem.Spec PyProof.Rows L2
end Dv
namespace Dv
open PySem PySem.Spec PyProof.Rows L2
theorem lineD_inj {a b : Ln} (h : lineD a = lineD b) : a = b := by
  obtain ⟨x, i⟩ := a
  obtain ⟨y, j⟩ := b
  unfold lineD at h
  injection h with h
  injection h with h1 h2
  injection h1 with h1
  injection h2 with h2
  injection h2 with h2
  have h1 : x = y := h1
  have h2 : i = j := h2
  rw [h1, h2]
theorem map_inj_list {α β : Type} {f : α → β} (hf : ∀ a b, f a = f b → a = b) : ∀ {l m : List α}, l.map f = m.map f → l = m
  | [], [], _ => rfl
  | [], b :: m, h => by cases h
  | a :: l, [], h => by cases h
  | a :: l, b :: m, h => by
    rw [List.map_cons, List.map_cons] at h
    rw [hf a b (List.cons.inj h).1, map_inj_list hf (List.cons.inj h).2]
theorem leG_rowL {a b : List Key} (h : shapeR a = shapeR b) : leG (rowD a) (rowD b) = leR a b := by
  show (!W.dataLt (pyD (rowD b)) (pyD (rowD a))) = _
  rw [pyD_rowD, pyD_rowD]
  have : W.dataLt (.tuple (b.map keyPy)) (.tuple (a.map keyPy)) = W.rowLt (b.map keyPy) (a.map keyPy) := W.dataLt_tuple _ _
  rw [this, row_lt (a := a) (b := b) h, Bool.not_not]
def ltL (a b : Ln) : Bool := !leR (pairK b) (pairK a)
theorem ltL_self (a : Ln) : ltL a a = false := by
  unfold ltL
  have : leR (pairK a) (pairK a) = true := by
    have := leG_total.total (lineD a) (lineD a)
    rw [← pair_row, leG_rowL (a := pairK a) (b := pairK a) rfl] at this
    exact this.elim id id
  rw [this]; rfl
theorem line_lt (a b : Ln) : cLtP (lineD a) (lineD b) = some (.bl (ltL a b)) := by
  unfold cLtP
  rw [line_py, line_py]
  show (if okG [lineP a, lineP b] = true then some (D.bl (W.dataLt (lineP a) (lineP b))) else none) = _
  have ok : okG [lineP a, lineP b] = true := by
    unfold okG alikeB sortableB
    rw [Bool.and_eq_true, Bool.and_eq_true, Bool.or_eq_true]
    refine ⟨⟨?_, .inl ?_⟩, ?_⟩
    · simp [line_alike]
    · rfl
    · refine List.all_eq_true.mpr fun p hp => ?_
      simp only [List.mem_cons, List.not_mem_nil, or_false] at hp
      rcases hp with rfl | rfl
      · exact decide_eq_true (by have := line_dep a; omega)
      · exact decide_eq_true (by have := line_dep b; omega)
  rw [if_pos ok]
  have e : leG (lineD b) (lineD a) = leR (pairK b) (pairK a) := by
    rw [← pair_row, ← pair_row]
    exact leG_rowL rfl
  have e2 : leG (lineD b) (lineD a) = !W.dataLt (lineP a) (lineP b) := by
    show (!W.dataLt (pyD (lineD a)) (pyD (lineD b))) = _
    unfold pyD
    rw [line_py, line_py]; rfl
  unfold ltL
  rw [← e, e2, Bool.not_not]
theorem lt_line (a b : Ln) : W.dataLt (lineP a) (lineP b) = ltL a b := by
  have h := line_lt a b
  unfold cLtP at h
  rw [line_py, line_py] at h
  have h : (if okG [lineP a, lineP b] = true then some (D.bl (W.dataLt (lineP a) (lineP b))) else none) = some (.bl (ltL a b)) := h
  split at h
  · injection h with h; injection h
  · cases h
theorem ltL_or {a b : Ln} (h1 : ltL a b = false) (h2 : ltL b a = false) : a = b := by
  unfold ltL at h1 h2
  have h1 : leR (pairK b) (pairK a) = true := by cases q : leR (pairK b) (pairK a) <;> simp_all
  have h2 : leR (pairK a) (pairK b) = true := by cases q : leR (pairK a) (pairK b) <;> simp_all
  exact pairK_inj (leR_anti h2 h1)
theorem okG_lines (l : List Ln) : okG (l.map lineP) = true := by
  unfold okG alikeB sortableB
  rw [Bool.and_eq_true, Bool.and_eq_true, Bool.or_eq_true]
  refine ⟨⟨?_, .inl ?_⟩, ?_⟩
  · refine List.all_eq_true.mpr fun p hp => List.all_eq_true.mpr fun q hq => ?_
    obtain ⟨a, _, rfl⟩ := List.mem_map.mp hp
    obtain ⟨b, _, rfl⟩ := List.mem_map.mp hq
    exact line_alike _ _
  · refine List.all_eq_true.mpr fun p hp => ?_
    obtain ⟨a, _, rfl⟩ := List.mem_map.mp hp
    rfl
  · refine List.all_eq_true.mpr fun p hp => ?_
    obtain ⟨a, _, rfl⟩ := List.mem_map.mp hp
    exact decide_eq_true (by have := line_dep a; omega)
theorem tkey_line (l : Ln) : tkeyOf (lineD l) = some (pairK l) := by rw [← pair_row]; exact tkeyOf_rowD (pairK l)
end Dv
namespace Lw65
open PySem PySem.Spec PyProof.Rows L2 Dv
theorem name_in {x : Str} {u : U} (h1 : 1 ≤ x.length) (h2 : x.length ≤ 8) : F_is_name [.str x] u = some (.bl (allB x), u) := by
  have e1 : cLe (.int 1) (.int x.length) = some (.bl true) := by show some (D.bl (decide _)) = _; rw [decide_eq_true (by omega)]
  have e2 : cLe (.int x.length) (.int 8) = some (.bl true) := by show some (D.bl (decide _)) = _; rw [decide_eq_true (by omega)]
  have c1 : compL (turnL (.one 1) [1] [Sl.pub (.str x), Sl.no] mYes (mBin cIn (mVar 1) (mC (.str abc)))) (x.cps.toList.map fun c => .str ⟨#[c]⟩) u = some ((x.cps.toList.map bitB).map .bl, u) := by
    rw [compL_pure (g := fun d => match d with | .str z => .bl (match z.cps.toList with | [c] => bitB c | _ => false) | d => d) (fun d hd => ?_)]
    · rw [List.map_map, List.map_map]; rfl
    · obtain ⟨c, _, rfl⟩ := List.mem_map.mp hd
      exact turnL_eq rfl (mBin_eq rfl rfl rfl)
  refine runB_rt (sc_nx (sIf_f (mOrB_f (mNotB_eq (k := true) (mTru_eq (mIsi_eq rfl (isi_str x)) rfl)) (mNotB_eq (k := true) (mTru_eq (mChain_t rfl (mBi_eq (mCons_eq rfl mNil_eq) (len_str (by omega))) e1 rfl e2) rfl))) rfl) (sc_rt (sRet_eq (mBi_eq (mCons_eq (mLc_eq (mItems_eq rfl rfl) c1 ?_) mNil_eq) ?_))))
  · rw [List.length_map, List.length_map, ← len_cps]; exact isiz (by omega)
  · show (blsOf _).map _ = _
    rw [blsOf_map]; rfl
theorem name_t {x : Str} {u : U} (h : AZ x) (h1 : 1 ≤ x.length) (h2 : x.length ≤ 8) : F_is_name [.str x] u = some (.bl true, u) := by
  rw [name_in h1 h2, allB_az h]
theorem pair_t {a b : D} {u : U} : F_is_pair [.tup [a, b]] u = some (.bl true, u) :=
  runB_rt (sc_rt (sRet_eq (mAnd_t (mIsi_eq rfl (isi_tt _)) rfl (mBin_eq (mBi_eq (mCons_eq rfl mNil_eq) rfl) rfl rfl))))
theorem num_t {i : Int} {u : U} : F_is_number [.int i] u = some (.bl true, u) :=
  runB_rt (sc_rt (sRet_eq (mAnd_t (mIsi_eq rfl (isi_ii _)) rfl (mNot_eq (k := false) (mIsi_eq rfl (isi_ib _)) rfl))))
theorem line_i {x : D} {i : Int} {u : U} (hx : F_is_name [x] u = some (.bl true, u)) : F_is_line [.tup [x, .int i]] u = some (.bl (decide (1 ≤ i)), u) :=
  runB_rt (sc_rt (sRet_eq (mAnd_t (mCall_eq (c1 rfl) rfl pair_t) rfl (mAnd_t (mCall_eq (c1 (mBin_eq rfl rfl rfl)) rfl hx) rfl (mAnd_t (mCall_eq (c1 (mBin_eq rfl rfl rfl)) rfl num_t) rfl (mBin_eq (mBin_eq rfl rfl rfl) rfl rfl))))))
theorem linesTx {ds : List Dd} (h : AllTx ds) : ∀ p ∈ linG [] (writesOf ds), TxO p.1 := fun p hp => by
  obtain ⟨_, m⟩ := linG_pos _ _ _ hp
  obtain ⟨q, hq, e⟩ := writesOf_mem m
  rw [← e]; exact h q hq
theorem cin_lines {ds : List Dd} {l : Str × Int} (h : AllTx ds) (hl : TxO l.1) : cIn (lineD l) (.tup ((linG [] (writesOf ds)).map lineD)) = some (.bl (decide (l ∈ linG [] (writesOf ds)))) := by
  show (inD _ _).map D.bl = _
  rw [in_lines (linesTx h) hl]; rfl
theorem pin_ok {ds : List Dd} {x : Str} {i : Int} {u : U} (h : AllTx ds) (hx : AZ x) (h1 : 1 ≤ x.length) (h2 : x.length ≤ 8) : F_Program___contains__ [progD ds, lineD (x, i)] u = some (.bl (decide ((x, i) ∈ linG [] (writesOf ds))), u) := by
  have hi : F_is_line [lineD (x, i)] u = some (.bl (decide (1 ≤ i)), u) := line_i (name_t hx h1 h2)
  refine runB_rt (sc_nx (sSet_eq (mCall_eq (c1 rfl) rfl (tupled_line (n := 4) (l := (x, i))))) (sc_rt (sRet_eq ?_)))
  by_cases q : 1 ≤ i
  · rw [decide_eq_true q] at hi
    exact mAnd_t (mCall_eq (c1 rfl) rfl hi) rfl (mBin_eq rfl (mFld_eq rfl (fld3 ds)) (cin_lines h (az_ok hx)))
  · rw [decide_eq_false q] at hi
    have e : decide ((x, i) ∈ linG [] (writesOf ds)) = false := decide_eq_false fun m => q (linG_pos _ _ _ m).1
    rw [e]
    exact mAnd_f (mCall_eq (c1 rfl) rfl hi) rfl
theorem inO_k {ds : List Dd} {x : Str} {i : Int} {u : U} (h : AllTx ds) (hx : AZ x) (h1 : 1 ≤ x.length) (h2 : x.length ≤ 8) (neg : Bool) (f : D → D → Option D) : inO "Program" F_Program___contains__ f neg (lineD (x, i)) (progD ds) u = some (.bl (if neg = true then !decide ((x, i) ∈ linG [] (writesOf ds)) else decide ((x, i) ∈ linG [] (writesOf ds))), u) := by
  show (if ("Program" : Str) = "Program" then blO (F_Program___contains__ [progD ds, lineD (x, i)] u) neg else none) = _
  rw [if_pos rfl, pin_ok h hx h1 h2]
  cases neg <;> rfl
theorem wr_nm {ds : List Dd} (h : NmD ds) {a : Wp} (ha : a ∈ wr ds) : AZ a.2 ∧ 1 ≤ a.2.length ∧ a.2.length ≤ 8 := h (true, a.2) (List.mem_of_getElem? (wr_mem ha).2)
theorem line_mem {ds : List Dd} {a : Wp} (ha : a ∈ wr ds) : lineOf ds a ∈ linG [] (writesOf ds) := by
  rw [lin_wr]; exact List.mem_map.mpr ⟨a, ha, rfl⟩
theorem w_ok {ds : List Dd} {w : Wp} {u : U} (h : NmD ds) (few : ds.length ≤ 900) (hw : w ∈ wr ds) : F_written_at [progD ds, lineD (lineOf ds w)] u = some (.ok (.int (w.1 : Int)), u) := by
  obtain ⟨az, l1, l8⟩ := wr_nm h hw
  have tx := az_ok az
  have n0 := inO_k (ds := ds) (i := (numW ds w : Int)) (u := u) h.tx az l1 l8 true cNotIn
  rw [show decide ((w.2, (numW ds w : Int)) ∈ linG [] (writesOf ds)) = true from decide_eq_true (line_mem hw)] at n0
  have := enum_wr (f := turnL (.many [5, 6]) [5, 6] [Sl.pub (progD ds), .pub (lineD (lineOf ds w)), .pub (.str w.2), .pub (.int (numW ds w : Int)), .no, .no, .no] (mTru (mBin cEq (mVar 6) (mTup (mCons (mC (.str ("write" : Str))) (mCons (mVar 2) mNil))))) (mVar 5))
    (g := fun v => .int (v.1 : Int)) (ds := ds) (u := u) (Q := fun v => decide (v.2 = w.2)) (fun k b x hg => by
      have ht : mTru (mBin cEq (mVar 6) (mTup (mCons (mC (.str ("write" : Str))) (mCons (mVar 2) mNil)))) [Sl.pub (progD ds), .pub (lineD (lineOf ds w)), .pub (.str w.2), .pub (.int (numW ds w : Int)), .no, .pub (.int (k : Int)), .pub (deedD (b, x))] u = some (decide ((b, x) = (true, w.2)), u) :=
        mTru_eq (mBin_eq rfl (mTup_eq (mCons_eq rfl (c1 rfl)) (isiz (by simp))) (deed_ceq (p := (b, x)) (q := (true, w.2)) (at_tx h.tx hg) tx)) rfl
      by_cases e : (b, x) = (true, w.2)
      · rw [decide_eq_true e] at ht
        rw [if_pos ⟨congrArg Prod.fst e, decide_eq_true (show x = w.2 from congrArg Prod.snd e)⟩]
        exact turnL_c (env' := [Sl.pub (progD ds), .pub (lineD (lineOf ds w)), .pub (.str w.2), .pub (.int (numW ds w : Int)), .no, .pub (.int (k : Int)), .pub (deedD (b, x))]) rfl ht rfl
      · rw [decide_eq_false e] at ht
        rw [if_neg (fun z => e (Prod.ext z.1 (of_decide_eq_true z.2)))]
        exact turnL_n (env' := [Sl.pub (progD ds), .pub (lineD (lineOf ds w)), .pub (.str w.2), .pub (.int (numW ds w : Int)), .no, .pub (.int (k : Int)), .pub (deedD (b, x))]) rfl ht)
  have hm : manyOf w.2 (ds.take (w.1 + 1)) = manyOf w.2 (ds.take w.1) + 1 := many_at (wr_mem hw).2
  have hix : ixD (.lst (((wr ds).filter fun v => decide (v.2 = w.2)).map fun v => .int (v.1 : Int))) (.int (manyOf w.2 (ds.take w.1) : Int)) = some (.int (w.1 : Int)) := by
    refine atI_nat ?_
    rw [List.getElem?_map, spot_at hw]; rfl
  have hsub : fSub (.int (numW ds w : Int)) (.int 1) = some (.int (manyOf w.2 (ds.take w.1) : Int)) := by
    show some (D.int ((manyOf w.2 (ds.take (w.1 + 1)) : Int) - 1)) = _
    rw [hm, show ((manyOf w.2 (ds.take w.1) + 1 : Nat) : Int) - 1 = (manyOf w.2 (ds.take w.1) : Int) by omega]
  exact runBX_rt (sc_nx (sIf_f (mTru_eq (mBinU_eq rfl rfl n0) rfl) rfl) (sc_nx (sTgt_eq (env' := [Sl.pub (progD ds), .pub (lineD (lineOf ds w)), .pub (.str w.2), .pub (.int (numW ds w : Int)), .no, .no, .no]) rfl rfl) (sc_nx (sSet_eq (mLc_eq (mEnumA_t (mPrp_eq rfl deeds_eq)) this (isiz (by rw [List.length_map]; have : (wr ds).length ≤ ds.length := wr_len _; have := List.length_filter_le (fun v : Wp => decide (v.2 = w.2)) (wr ds); omega))))
    (sc_rt (sRet_eq (mBin_eq rfl (mBin_eq rfl rfl hsub) hix))))))
abbrev mPart : M := mAnd (mCall 1 F_is_line (mCons (mVar 4) mNil)) (mBinU (inO ("Program" : Str) F_Program___contains__ cIn false) (mVar 4) (mVar 0))
def Part (ds : List Dd) (d : D) (k : Bool) : Prop := ∀ (T : D) (u : U), mPart [Sl.pub (progD ds), .pub T, .no, .no, .pub d] u = some (.bl k, u)
theorem part_no {ds : List Dd} {d : D} (h : ∀ u, F_is_line [d] u = some (.bl false, u)) : Part ds d false := fun T u => mAnd_f (mCall_eq (c1 rfl) rfl (h u)) rfl
theorem part_in {ds : List Dd} {x : Str} {i : Int} (h : AllTx ds) (hx : AZ x) (h1 : 1 ≤ x.length) (h2 : x.length ≤ 8) : Part ds (lineD (x, i)) (decide ((x, i) ∈ linG [] (writesOf ds))) := fun T u => by
  have hi : F_is_line [lineD (x, i)] u = some (.bl (decide (1 ≤ i)), u) := line_i (name_t hx h1 h2)
  by_cases q : 1 ≤ i
  · rw [decide_eq_true q] at hi
    exact mAnd_t (mCall_eq (c1 rfl) rfl hi) rfl (mBinU_eq rfl rfl (inO_k h hx h1 h2 false cIn))
  · rw [decide_eq_false q] at hi
    rw [decide_eq_false fun m => q (linG_pos _ _ _ m).1]
    exact mAnd_f (mCall_eq (c1 rfl) rfl hi) rfl
theorem part_w {ds : List Dd} {a : Wp} (h : NmD ds) (ha : a ∈ wr ds) : Part ds (lineD (lineOf ds a)) true := by
  obtain ⟨az, l1, l8⟩ := wr_nm h ha
  have := part_in (ds := ds) (x := a.2) (i := (numW ds a : Int)) h.tx az l1 l8
  rw [show decide ((a.2, (numW ds a : Int)) ∈ linG [] (writesOf ds)) = true from decide_eq_true (line_mem ha)] at this
  exact this
theorem compL_2 {f : D → U → Option (Option D × U)} {x y a b : D} {u : U} (h1 : f x u = some (some a, u)) (h2 : f y u = some (some b, u)) : compL f [x, y] u = some ([a, b], u) := by
  unfold compL; rw [h1]; show bnd (compL f [y] u) _ = _; unfold compL; rw [h2]; rfl
theorem all_2 (a b : Bool) : bAll [.lst [.bl a, .bl b]] = some (.bl (a && b)) := by cases a <;> cases b <;> rfl
theorem parts_ok {ds : List Dd} {x y : D} {k1 k2 : Bool} {u : U} (h1 : Part ds x k1) (h2 : Part ds y k2) : mTru (mBi bAll (mCons (mLc (.one 4) [4] (mItems (mVar 1)) mYes mPart) mNil)) [Sl.pub (progD ds), .pub (.tup [x, y]), .no, .no, .no] u = some (k1 && k2, u) :=
  mTru_eq (mBi_eq (c1 (mLc_eq (mItems_eq rfl rfl) (compL_2 (turnL_eq (env' := [Sl.pub (progD ds), .pub (.tup [x, y]), .no, .no, .pub x]) rfl (h1 _ u)) (turnL_eq (env' := [Sl.pub (progD ds), .pub (.tup [x, y]), .no, .no, .pub y]) rfl (h2 _ u))) (isiz (by simp)))) (all_2 k1 k2)) rfl
theorem isw_no {ds : List Dd} {x y : D} {k1 k2 : Bool} {u : U} (h1 : Part ds x k1) (h2 : Part ds y k2) (no : (k1 && k2) = false) : F_is_wish [progD ds, .tup [x, y]] u = some (.bl false, u) := by
  have := parts_ok (u := u) h1 h2
  rw [no] at this
  exact runB_rt (sc_rt (sIf_t (mOrB_f (mNotB_eq (k := true) (mTru_eq (mCall_eq (c1 rfl) rfl pair_t) rfl)) (mNotB_eq (k := false) this)) (sc_rt (sRet_eq rfl))))
theorem isw_odd {ds : List Dd} {d : D} {u : U} (h : ∀ u, F_is_pair [d] u = some (.bl false, u)) : F_is_wish [progD ds, d] u = some (.bl false, u) :=
  runB_rt (sc_rt (sIf_t (mOrB_t (mNotB_eq (k := false) (mTru_eq (mCall_eq (c1 rfl) rfl (h u)) rfl))) (sc_rt (sRet_eq rfl))))
def wishB (a b : Wp) : Bool := !decide (a.2 = b.2) && decide (a.1 < b.1)
theorem isw_ok {ds : List Dd} {a b : Wp} {u : U} (h : NmD ds) (few : ds.length ≤ 900) (ha : a ∈ wr ds) (hb : b ∈ wr ds) : F_is_wish [progD ds, .tup [lineD (lineOf ds a), lineD (lineOf ds b)]] u = some (.bl (wishB a b), u) := by
  have hp := parts_ok (u := u) (part_w h ha) (part_w h hb)
  refine runB_rt (sc_nx (sIf_f (mOrB_f (mNotB_eq (k := true) (mTru_eq (mCall_eq (c1 rfl) rfl pair_t) rfl)) (mNotB_eq (k := true) hp)) rfl) (sc_nx (sTgt_eq (env' := [Sl.pub (progD ds), .pub (.tup [lineD (lineOf ds a), lineD (lineOf ds b)]), .pub (lineD (lineOf ds a)), .pub (lineD (lineOf ds b)), .no]) rfl rfl) (sc_rt (sRet_eq ?_))))
  unfold wishB
  by_cases e : a.2 = b.2
  · rw [decide_eq_true e]
    exact mAnd_f (x := .bl false) (mBin_eq (mBin_eq rfl rfl (z := .str a.2) rfl) (mBin_eq rfl rfl (z := .str b.2) rfl) (by rw [cneS, decide_eq_true e]; rfl)) rfl
  · rw [decide_eq_false e]
    exact mAnd_t (x := .bl true) (mBin_eq (mBin_eq rfl rfl (z := .str a.2) rfl) (mBin_eq rfl rfl (z := .str b.2) rfl) (by rw [cneS, decide_eq_false e]; rfl)) rfl (mBin_eq (mCall_eq (mCons_eq rfl (c1 rfl)) rfl (okF_eq (w_ok h few ha))) (mCall_eq (mCons_eq rfl (c1 rfl)) rfl (okF_eq (w_ok h few hb))) (clt_nat _ _))
end Lw65
namespace Lw65
open PySem PySem.Spec PyProof.Rows L2 Dv
theorem sPutT_new {env : List Sl} {u u1 u2 : U} {i : Nat} {mk mv : M} {ks : List (List Key)} {vs : List D} {l : Ln} {x : D} (hi : env[i]? = some (.own (.dtt ks vs))) (h : mv env u = some (x, u1)) (h2 : mk env u1 = some (lineD l, u2)) (nw : pairK l ∉ ks) (few : ks.length ≤ 1000) : sPutT i mk mv env u = some (.nx (env.set i (.own (.dtt (ks ++ [pairK l]) (vs ++ [x])))), u2) := by
  have hk : hasK ks (pairK l) = false := by
    cases q : hasK ks (pairK l) with
    | false => rfl
    | true => exact absurd (hasK_iff.mp q) nw
  unfold sPutT
  rw [hi]
  show bnd (mv env u) _ = _
  rw [h]
  show bnd (mk env u1) _ = _
  rw [h2]
  show (match tkeyOf (lineD l) with | some key => if ks.length < sizeLine then _ else none | none => none) = _
  rw [tkey_line]
  show (if ks.length < sizeLine then some (Fl.nx (env.set i (.own (.dtt (putT ks vs (pairK l) x).1 (putT ks vs (pairK l) x).2))), u2) else none) = _
  rw [if_pos (by rw [line]; omega)]
  unfold putT
  rw [hk, if_neg Bool.false_ne_true]
abbrev keyW (ds : List Dd) (n : Nat) : List (List Key) := (wrUp ds n).map fun w => pairK (lineOf ds w)
abbrev valW (ds : List Dd) (n : Nat) : List D := (wrUp ds n).map fun w => D.int (w.1 : Int)
def bornD (ds : List Dd) : D := .dtt (keyW ds ds.length) (valW ds ds.length)
theorem enum_at {ds : List Dd} {j : Nat} (h : j < (enumD 0 (ds.map deedD)).length) (hj : j < ds.length) : (enumD 0 (ds.map deedD))[j] = .pr [.int (j : Int), deedD ds[j]] := by
  apply Option.some.inj
  rw [← List.getElem?_eq_getElem h, enumD_get, List.getElem?_map, List.getElem?_eq_getElem hj, Nat.zero_add]; rfl
theorem enum_len : ∀ (l : List D) (n : Nat), (enumD n l).length = l.length
  | [], _ => rfl
  | _ :: l, n => by
    show (enumD (n + 1) l).length + 1 = _
    rw [enum_len l (n + 1)]; rfl
theorem born_ok {ds : List Dd} {u : U} (few : ds.length ≤ 900) : F__law_born [.tup (ds.map deedD)] u = some (bornD ds, u) := by
  obtain ⟨env', u', e, rfl, w, o, y3, y4, y5, hc, rfl⟩ := forX_inv (t := .tree [.inl 3, .inr [4, 5]])
    (f := (sCons (sIf (mTru (mBin cEq (mVar 4) (mC (.str ("write" : Str))))) (sCons (sPutD 2 (mVar 5) (mBin fAdd (mPeek 2 (mGet2 (mVar 2) (mVar 5) (mC (.int (0))))) (mC (.int (1)))))
    (sCons (sPutT 1 (mTup (mCons (mVar 5) (mCons (mPeek 2 (mBin dixD (mVar 2) (mVar 5))) mNil))) (mVar 3))
    sNil)) sNil)
    sNil))
    (I := fun j env u' => u = u' ∧ ∃ w o y3 y4 y5, CI (ds.take j) w o ∧ env = [Sl.pub (.tup (ds.map deedD)), .own (.dtt (keyW ds j) (valW ds j)), oA w, y3, y4, y5])
    (ds := enumD 0 (ds.map deedD)) (i := 0) (env := [Sl.pub (.tup (ds.map deedD)), .own (.dtt [] []), oA [], .no, .no, .no]) (u := u) (fun j hj env u1 hI => by
      obtain ⟨rfl, w, o, y3, y4, y5, hc, rfl⟩ := hI
      rw [Nat.zero_add] at hc ⊢
      have hj0 := hj
      rw [enum_len, List.length_map] at hj
      rw [enum_at hj0 hj]
      have lw := hc.lw
      rw [List.length_take] at lw
      have lr := wr_len (ds := ds) j
      obtain ⟨⟨b, x⟩, hd⟩ : ∃ p, ds[j] = p := ⟨_, rfl⟩
      have hg : ds[j]? = some (b, x) := by rw [List.getElem?_eq_getElem hj, hd]
      rw [hd]
      cases b with
      | false =>
        refine ⟨[Sl.pub (.tup (ds.map deedD)), .own (.dtt (keyW ds j) (valW ds j)), oA w, .pub (.int (j : Int)), .pub (.str (wdS false)), .pub (.str x)], [Sl.pub (.tup (ds.map deedD)), .own (.dtt (keyW ds (j + 1)) (valW ds (j + 1))), oA w, .pub (.int (j : Int)), .pub (.str (wdS false)), .pub (.str x)], u, rfl, ?_, rfl, _, _, _, _, _, by rw [takeS hj, hd]; exact hc.flush x, rfl⟩
        unfold keyW valW
        rw [wr_f hg]
        exact sc_nx (sIf_f (mTru_eq (mBin_eq rfl rfl (eq_wd' false)) rfl) rfl) rfl
      | true =>
        obtain ⟨w', hw'⟩ : ∃ w', w' = putA x ((getA x w).getD 0 + 1) w := ⟨_, rfl⟩
        have hc' : CI (ds.take (j + 1)) w' o := by rw [takeS hj, hd, hw']; exact hc.write x
        have gx : getA x w' = some (manyOf x (ds.take (j + 1)) : Int) := by
          have h1 := hc'.w x
          have h2 : getA x w' = some ((getA x w).getD 0 + 1) := by rw [hw', get_put, if_pos rfl]
          rw [h2] at h1 ⊢
          rw [show ((getA x w).getD 0 + 1) = (manyOf x (ds.take (j + 1)) : Int) from h1]
        have g1 : mPeek 2 (mGet2 (mVar 2) (mVar 5) (mC (.int (0)))) [Sl.pub (.tup (ds.map deedD)), .own (.dtt (keyW ds j) (valW ds j)), oA w, .pub (.int (j : Int)), .pub (.str (wdS true)), .pub (.str x)] u = some (.int ((getA x w).getD 0), u) := by
          have := mGet2_eq (mo := mVar 2) (me := mVar 5) (mf := mC (.int (0))) (env := [Sl.pub (.tup (ds.map deedD)), .own (.dtt (keyW ds j) (valW ds j)), .pub (dA w), .pub (.int (j : Int)), .pub (.str (wdS true)), .pub (.str x)]) (u := u) (al := w) (x := x) (d := .int 0) rfl rfl rfl
          rw [getD_map] at this
          exact mPeek_eq (o := .dct (alK w) (alD w)) rfl this rfl
        refine ⟨[Sl.pub (.tup (ds.map deedD)), .own (.dtt (keyW ds j) (valW ds j)), oA w, .pub (.int (j : Int)), .pub (.str (wdS true)), .pub (.str x)], [Sl.pub (.tup (ds.map deedD)), .own (.dtt (keyW ds (j + 1)) (valW ds (j + 1))), oA w', .pub (.int (j : Int)), .pub (.str (wdS true)), .pub (.str x)], u, rfl, ?_, rfl, _, _, _, _, _, hc', rfl⟩
        have ek : keyW ds (j + 1) = keyW ds j ++ [pairK (lineOf ds (j, x))] := by unfold keyW; rw [wr_t hg, List.map_append]; rfl
        have ev : valW ds (j + 1) = valW ds j ++ [.int (j : Int)] := by unfold valW; rw [wr_t hg, List.map_append]; rfl
        have nw : pairK (lineOf ds (j, x)) ∉ keyW ds j := fun z => by
          obtain ⟨v, hv, ez⟩ := List.mem_map.mp z
          have ez := pairK_inj ez
          have nd := lines_nodup ds (j + 1)
          rw [wr_t hg, List.map_append] at nd
          exact (List.nodup_append.mp nd).2.2 _ (List.mem_map.mpr ⟨v, hv, rfl⟩) _ List.mem_cons_self ez
        rw [ek, ev]
        refine sc_nx (sIf_t (mTru_eq (mBin_eq rfl rfl (eq_wd' true)) rfl) (sc_nx (env' := [Sl.pub (.tup (ds.map deedD)), .own (.dtt (keyW ds j) (valW ds j)), oA w', .pub (.int (j : Int)), .pub (.str (wdS true)), .pub (.str x)]) (by rw [hw']; exact sPutD_eq (al := w) (x := x) (v := (getA x w).getD 0 + 1) rfl (mBin_eq g1 rfl rfl) rfl (by omega)) ?_)) rfl
        exact sc_nx (sPutT_new (l := lineOf ds (j, x)) rfl rfl (mTup_eq (mCons_eq rfl (c1 (mPeek_eq (o := .dct (alK w') (alD w')) rfl (mBin_eq rfl rfl (dix_al gx)) rfl))) (isiz (by simp))) nw (by rw [List.length_map]; omega)) rfl) ⟨rfl, [], [], .no, .no, .no, CI.nil, rfl⟩
  rw [enum_len, List.length_map, Nat.zero_add] at *
  exact runB_rt (sc_nx (sParv_eq rfl vDct_eq) (sc_nx (sFor_eq (mEnumA_t rfl) e) (sPub_eq rfl (sc_rt (sRet_eq rfl)))))
theorem key_nodup (ds : List Dd) (n : Nat) : (keyW ds n).Nodup := by
  have : keyW ds n = ((wrUp ds n).map (lineOf ds)).map pairK := by rw [List.map_map]; rfl
  rw [this]
  exact List.pairwise_map.mpr ((lines_nodup ds n).imp fun h z => h (pairK_inj z))
theorem born_at {ds : List Dd} {b : Wp} (hb : b ∈ wr ds) : dixT (bornD ds) (lineD (lineOf ds b)) = some (.int (b.1 : Int)) := by
  rw [← pair_row]
  show Option.bind (tkeyOf (rowD (pairK (lineOf ds b)))) (fun key => valT (keyW ds ds.length) (valW ds ds.length) key) = _
  rw [tkeyOf_rowD]
  exact valT_map (k := fun w => pairK (lineOf ds w)) (v := fun w => D.int (w.1 : Int)) (key_nodup ds _) hb
theorem held_ok {ds : List Dd} {a b : Wp} {u : U} (h : AllTx ds) (few : ds.length ≤ 900) (ha : a ∈ wr ds) (hb : b ∈ wr ds) : F__law_held [.tup (ds.map deedD), pD (LP ds (a, b))] u = some (.bl (ahB ds b.1 a), u) := by
  have ta := wr_tx h ha
  have la := (wr_mem ha).1
  have lb := (wr_mem hb).1
  have hin : cIn (deedD (false, a.2)) (.tup (((ds.take b.1).drop a.1).map deedD)) = some (.bl (ahB ds b.1 a)) := by
    have := deedCod.cinT (by decide) (a := (false, a.2)) (l := (ds.take b.1).drop a.1) ta (fun p hp => h p (List.mem_of_mem_take (List.mem_of_mem_drop hp)))
    rw [this]
    congr 2
    unfold ahB flB
    rw [Bool.eq_iff_iff, decide_eq_true_iff, List.any_eq_true]
    exact ⟨fun z => ⟨_, z, decide_eq_true rfl⟩, fun ⟨p, hp, e⟩ => by rw [← of_decide_eq_true e]; exact hp⟩
  refine runB_rt (sc_nx (sSet_eq (mCall_eq (c1 rfl) rfl (born_ok few))) (sc_rt (sRet_eq (mBin_eq (x := deedD (false, a.2)) (mTup_eq (mCons_eq rfl (c1 (mBin_eq (mBin_eq rfl rfl (z := lineD (lineOf ds a)) rfl) rfl (z := .str a.2) rfl))) (isiz (by simp)))
    (mSl_eq rfl (moAt_eq (mBin_eq rfl (mBin_eq rfl rfl (z := lineD (lineOf ds a)) rfl) (born_at ha))) (moAt_eq (mBin_eq rfl (mBin_eq rfl rfl (z := lineD (lineOf ds b)) rfl) (born_at hb))) (slT_mid (f := deedD) (by omega) (by omega))) hin))))
def wishW (ds : List Dd) : List (Wp × Wp) := (crossL (wr ds) (wr ds)).filter fun p => wishB p.1 p.2
def wishL (ds : List Dd) : List (Ln × Ln) := (wishW ds).map (LP ds)
theorem cross_snoc {α : Type} (l : List α) (a : α) (m : List α) : crossL (l ++ [a]) m = crossL l m ++ m.map fun y => (a, y) := by
  unfold crossL
  rw [List.flatMap_append]
  simp
theorem born_keys {ds : List Dd} {env : List Sl} {u : U} {m : M} (h : m env u = some (bornD ds, u)) : mItemsT m env u = some ((wr ds).map fun w => lineD (lineOf ds w), u) := by
  have := mItemsT_eq (ks := keyW ds ds.length) (ds := valW ds ds.length) h
  rw [this, List.map_map]; rfl
theorem wished_ok {ds : List Dd} {u : U} (few : ds.length ≤ 30) : F__law_wished [.tup (ds.map deedD)] u = some (.lst (sortG ((wishL ds).map pD)), u) := by
  have lw : (wr ds).length ≤ 30 := Nat.le_trans (wr_len _) few
  have b0 := born_ok (ds := ds) (u := u) (by omega)
  have bA := fun (b : Wp) (hb : b ∈ wr ds) => born_at hb
  have kA := fun (env : List Sl) (m : M) (h : m env u = some (bornD ds, u)) => born_keys h
  obtain ⟨BD, hBD⟩ : ∃ T, T = bornD ds := ⟨_, rfl⟩
  obtain ⟨RD, hRD⟩ : ∃ T : D, T = .tup (ds.map deedD) := ⟨_, rfl⟩
  rw [← hBD] at b0 bA kA
  rw [← hRD] at b0 ⊢
  let R : Wp × Wp → Bool := fun p => wishB p.1 p.2
  obtain ⟨env', u', e, rfl, y3, y4, rfl⟩ := forX_inv (t := .one 3)
    (f := (sCons (sSet 2 (mBin fAdd (mVar 2) (mLc (.one 4) [4] (mItemsT (mVar 1)) (mAndB (mTru (mBin cNe (mBin ixD (mVar 4) (mC (.int (0)))) (mBin ixD (mVar 3) (mC (.int (0)))))) (mTru (mBin cLt (mBin dixT (mVar 1) (mVar 3)) (mBin dixT (mVar 1) (mVar 4))))) (mTup (mCons (mVar 3) (mCons (mVar 4) mNil))))))
    sNil))
    (I := fun j env u' => u = u' ∧ ∃ y3 y4, env = [Sl.pub RD, .pub BD, .pub (.lst ((((crossL ((wr ds).take j) (wr ds)).filter fun p => wishB p.1 p.2).map (LP ds)).map pD)), y3, y4])
    (ds := (wr ds).map fun w => lineD (lineOf ds w)) (i := 0) (env := [Sl.pub RD, .pub BD, .pub (.lst []), .no, .no]) (u := u) (fun j hj env u1 hI => by
      obtain ⟨rfl, y3, y4, rfl⟩ := hI
      rw [Nat.zero_add] at ⊢
      rw [List.length_map] at hj
      rw [List.getElem_map]
      obtain ⟨a, had⟩ : ∃ a, a = (wr ds)[j] := ⟨_, rfl⟩
      have ha : a ∈ wr ds := by rw [had]; exact List.getElem_mem hj
      rw [← had]
      have et : (wr ds).take (j + 1) = (wr ds).take j ++ [a] := by rw [had]; exact List.take_succ_eq_append_getElem hj
      obtain ⟨FL, hFL⟩ : ∃ T, T = ((((crossL ((wr ds).take j) (wr ds)).filter fun p => wishB p.1 p.2).map (LP ds)).map pD) := ⟨_, rfl⟩
      have hlen : FL.length ≤ 900 := by
        rw [hFL, List.length_map, List.length_map]
        refine Nat.le_trans (List.length_filter_le _ _) ?_
        rw [cross_len, List.length_take]
        exact Nat.le_trans (Nat.mul_le_mul (Nat.min_le_right _ _) (Nat.le_refl _)) (Nat.mul_le_mul lw lw)
      have hc : compL (turnL (.one 4) [4] [Sl.pub RD, .pub BD, .pub (.lst FL), .pub (lineD (lineOf ds a)), y4] (mAndB (mTru (mBin cNe (mBin ixD (mVar 4) (mC (.int (0)))) (mBin ixD (mVar 3) (mC (.int (0)))))) (mTru (mBin cLt (mBin dixT (mVar 1) (mVar 3)) (mBin dixT (mVar 1) (mVar 4))))) (mTup (mCons (mVar 3) (mCons (mVar 4) mNil)))) ((wr ds).map fun w => lineD (lineOf ds w)) u = some (((wr ds).filter fun b => wishB a b).map fun b => pD (LP ds (a, b)), u) :=
        compL_fm fun b hb => by
          have b1 : mTru (mBin cNe (mBin ixD (mVar 4) (mC (.int (0)))) (mBin ixD (mVar 3) (mC (.int (0))))) [Sl.pub RD, .pub BD, .pub (.lst FL), .pub (lineD (lineOf ds a)), .pub (lineD (lineOf ds b))] u = some (!decide (b.2 = a.2), u) :=
            mTru_eq (mBin_eq (mBin_eq rfl rfl (z := .str b.2) rfl) (mBin_eq rfl rfl (z := .str a.2) rfl) (cneS b.2 a.2)) rfl
          have b2 : mTru (mBin cLt (mBin dixT (mVar 1) (mVar 3)) (mBin dixT (mVar 1) (mVar 4))) [Sl.pub RD, .pub BD, .pub (.lst FL), .pub (lineD (lineOf ds a)), .pub (lineD (lineOf ds b))] u = some (decide (a.1 < b.1), u) :=
            mTru_eq (mBin_eq (mBin_eq rfl rfl (bA a ha)) (mBin_eq rfl rfl (bA b hb)) (clt_nat _ _)) rfl
          unfold wishB
          by_cases e : a.2 = b.2
          · rw [decide_eq_true e.symm] at b1
            rw [decide_eq_true e]
            exact turnL_n (env' := [Sl.pub RD, .pub BD, .pub (.lst FL), .pub (lineD (lineOf ds a)), .pub (lineD (lineOf ds b))]) rfl (mAndB_f b1)
          · rw [decide_eq_false (fun z => e z.symm)] at b1
            rw [decide_eq_false e]
            cases z : decide (a.1 < b.1) with
            | true => rw [z] at b2; exact turnL_c (env' := [Sl.pub RD, .pub BD, .pub (.lst FL), .pub (lineD (lineOf ds a)), .pub (lineD (lineOf ds b))]) rfl (mAndB_t b1 b2) (mTup_eq (mCons_eq rfl (c1 rfl)) (isiz (by simp)))
            | false => rw [z] at b2; exact turnL_n (env' := [Sl.pub RD, .pub BD, .pub (.lst FL), .pub (lineD (lineOf ds a)), .pub (lineD (lineOf ds b))]) rfl (mAndB_t b1 b2)
      have en : ((((crossL ((wr ds).take (j + 1)) (wr ds)).filter fun p => wishB p.1 p.2).map (LP ds)).map pD) = FL ++ (((wr ds).filter fun b => wishB a b).map fun b => pD (LP ds (a, b))) := by
        rw [et, cross_snoc, List.filter_append, List.map_append, List.map_append, ← hFL]
        refine congrArg (FL ++ ·) ?_
        rw [List.filter_map, List.map_map, List.map_map]; rfl
      have l2 : (((wr ds).filter fun b => wishB a b).map fun b => pD (LP ds (a, b))).length ≤ 30 := by
        rw [List.length_map]; exact Nat.le_trans (List.length_filter_le _ _) lw
      rw [← hFL]
      refine ⟨[Sl.pub RD, .pub BD, .pub (.lst FL), .pub (lineD (lineOf ds a)), y4], [Sl.pub RD, .pub BD, .pub (.lst (FL ++ (((wr ds).filter fun b => wishB a b).map fun b => pD (LP ds (a, b))))), .pub (lineD (lineOf ds a)), y4], u, rfl, ?_, rfl, _, _, by rw [en]⟩
      exact sc_nx (sSet_eq (mBin_eq rfl (mLc_eq (kA _ _ rfl) hc (isiz (by omega))) (fAdd_l (by omega)))) rfl) ⟨rfl, .no, .no, by simp [crossL]⟩
  rw [List.length_map, Nat.zero_add, List.take_length] at e
  have hs := sortB_pairs (wishL ds)
  exact runB_rt (sc_nx (sParv_eq (vP_eq (mCall_eq (c1 rfl) rfl b0)) (vP_eq (mLst_eq (ds := []) rfl (isiz (by simp))))) (sc_nx (sFor_eq (kA _ _ rfl) e) (sc_rt (sRet_eq (mBi_eq (c1 rfl) hs)))))
end Lw65
namespace Lw65
open PySem PySem.Spec PyProof.Rows L2 Dv
theorem wr_inc (ds : List Dd) : ∀ n, (wrUp ds n).Pairwise fun a b => a.1 < b.1
  | 0 => List.Pairwise.nil
  | n + 1 => by
    have ih := wr_inc ds n
    by_cases q : ∃ x, ds[n]? = some (true, x)
    · obtain ⟨x, hx⟩ := q
      rw [wr_t hx]
      refine List.pairwise_append.mpr ⟨ih, List.pairwise_singleton _ _, fun a ha b hb => ?_⟩
      simp only [List.mem_cons, List.not_mem_nil, or_false] at hb
      rw [hb]; exact (wr_mem ha).1
    · have : wrUp ds (n + 1) = wrUp ds n := by
        show wrUp ds n ++ (match ds[n]? with | some (true, x) => [(n, x)] | _ => []) = _
        split
        · rename_i x hx; exact absurd ⟨x, hx⟩ q
        · exact List.append_nil _
      rw [this]; exact ih
theorem wish_ups (ds : List Dd) : wishW ds = (ups (wr ds)).filter fun p => !decide (p.1.2 = p.2.2) := by
  have := ups_filter (R := fun a b : Wp => decide (a.1 < b.1)) (L := wr ds) [] (wr ds) rfl ((wr_inc ds ds.length).imp fun {a b} h => ⟨decide_eq_true h, decide_eq_false (by omega)⟩) (fun a => decide_eq_false (by omega))
  unfold wishW
  rw [← this, List.filter_filter]; rfl
theorem lines_tt {ds : List Dd} {u : U} : F_Program_lines [progD ds] u = some (.tup ((wr ds).map fun w => lineD (lineOf ds w)), u) := by
  rw [lines_eq, List.map_map]; rfl
theorem all_ok {ds : List Dd} {u : U} (few : ds.length ≤ 30) : F_all_wishes [progD ds] u = some (.tup (sortG ((wishL ds).map pD)), u) := by
  have lw : (wr ds).length ≤ 30 := Nat.le_trans (wr_len _) few
  have li := lines_tt (ds := ds) (u := u)
  have en := wish_ups ds
  obtain ⟨LL, hLL⟩ : ∃ T : List D, T = (wr ds).map fun w => lineD (lineOf ds w) := ⟨_, rfl⟩
  have lL : LL.length ≤ 30 := by rw [hLL, List.length_map]; exact lw
  obtain ⟨ns, xs, hP⟩ : ∃ ns xs, progD ds = .ins "Program" ns xs := ⟨_, _, rfl⟩
  rw [hP] at li ⊢
  obtain ⟨PD, hPD⟩ : ∃ T : D, T = .ins "Program" ns xs := ⟨_, rfl⟩
  rw [← hLL] at li
  have c1' : compL2 (turnL2 (.many [3, 4]) [3, 4, 5] [.pub (.ins "Program" ns xs), .pub (.tup LL), .no, .no, .no, .no] mYes (.one 5) [5] (mItems (mSl (mVar 1) (moAt (mBin fAdd (mVar 3) (mC (.int (1))))) moNo)) mYes (mTup (mCons (mVar 4) (mCons (mVar 5) mNil)))) (enumD 0 LL) u = some ((ups LL).map fun p => .tup [p.1, p.2], u) := by
    have := enum_ups (full := LL) LL [] rfl
    rw [← this]
    refine compL2_pure fun d hd => ?_
    obtain ⟨i, x, rfl, mx, h1, h2⟩ := enumD_memG LL 0 hd
    refine turnL2_eq (env' := [.pub (.ins "Program" ns xs), .pub (.tup LL), .no, .pub (.int (i : Int)), .pub x, .no]) (ds := LL.drop (i + 1)) rfl (mItems_eq (mSl_eq rfl (moAt_eq (i := ((i + 1 : Nat) : Int)) (mBin_eq rfl rfl (by show some (D.int ((i : Int) + 1)) = _; rfl))) rfl (by show some (D.tup (cutD LL (some ((i + 1 : Nat) : Int)) none)) = _; rw [cutD_from (by omega)])) rfl) ?_
    show _ = some ((LL.drop ((i : Int).toNat + 1)).map (fun y => D.tup [x, y]), u)
    rw [Int.toNat_natCast]
    have : ∀ l : List D, compL (turnL (.one 5) [5] [.pub (.ins "Program" ns xs), .pub (.tup LL), .no, .pub (.int (i : Int)), .pub x, .no] mYes (mTup (mCons (mVar 4) (mCons (mVar 5) mNil)))) l u = some (l.map fun y => .tup [x, y], u) := fun l =>
      compL_pure (g := fun y => .tup [x, y]) fun d _ => turnL_eq (env' := [.pub (.ins "Program" ns xs), .pub (.tup LL), .no, .pub (.int (i : Int)), .pub x, .pub d]) rfl (mTup_eq (mCons_eq rfl (c1 rfl)) (isiz (by simp)))
    exact this _
  have eU : ((ups LL).map fun p => D.tup [p.1, p.2]) = (ups (wr ds)).map fun p => pD (LP ds p) := by
    rw [hLL, ups_map, List.map_map]; rfl
  have lU : (ups (wr ds)).length ≤ 900 := Nat.le_trans (ups_len _) (Nat.mul_le_mul lw lw)
  rw [eU] at c1'
  obtain ⟨UL, hUL⟩ : ∃ T : D, T = .lst ((ups (wr ds)).map fun p => pD (LP ds p)) := ⟨_, rfl⟩
  have c2' : compL (turnL (.many [4, 5]) [4, 5] [.pub (.ins "Program" ns xs), .pub (.tup LL), .pub UL, .no, .no, .no] (mTru (mBin cNe (mBin ixD (mVar 4) (mC (.int (0)))) (mBin ixD (mVar 5) (mC (.int (0)))))) (mTup (mCons (mVar 4) (mCons (mVar 5) mNil)))) ((ups (wr ds)).map fun p => pD (LP ds p)) u = some (((ups (wr ds)).filter fun p => !decide (p.1.2 = p.2.2)).map fun p => pD (LP ds p), u) := by
    refine compL_fm fun p hp' => ?_
    have b1 : mTru (mBin cNe (mBin ixD (mVar 4) (mC (.int (0)))) (mBin ixD (mVar 5) (mC (.int (0))))) [.pub (.ins "Program" ns xs), .pub (.tup LL), .pub UL, .no, .pub (lineD (lineOf ds p.1)), .pub (lineD (lineOf ds p.2))] u = some (!decide (p.1.2 = p.2.2), u) :=
      mTru_eq (mBin_eq (mBin_eq rfl rfl (z := .str p.1.2) rfl) (mBin_eq rfl rfl (z := .str p.2.2) rfl) (cneS _ _)) rfl
    cases z : (!decide (p.1.2 = p.2.2)) with
    | true => rw [z] at b1; exact turnL_c rfl b1 (mTup_eq (mCons_eq rfl (c1 rfl)) (isiz (by simp)))
    | false => rw [z] at b1; exact turnL_n rfl b1
  have hs := sortB_pairs (wishL ds)
  unfold wishL at hs ⊢
  rw [en] at hs ⊢
  rw [List.map_map] at hs ⊢
  refine runB_rt (sc_nx (env' := [.pub (.ins "Program" ns xs), .pub (.tup LL), .no, .no, .no, .no]) (u1 := u) (sSet_eq (mPrp_eq rfl li)) ?_)
  refine sc_nx (env' := [.pub (.ins "Program" ns xs), .pub (.tup LL), .pub UL, .no, .no, .no]) (u1 := u) (sSet_eq (by rw [hUL]; exact mLc2_eq (mEnumA_t rfl) c1' (isiz (by rw [List.length_map]; omega)))) ?_
  exact sc_rt (sRet_eq (mBi_eq (c1 (mBi_eq (c1 (mLc_eq (mItems_eq (mVar_eq (d := UL) rfl) (by rw [hUL]; rfl)) c2' (isiz (by rw [List.length_map]; exact Nat.le_trans (List.length_filter_le _ _) (by omega))))) hs)) rfl))
def lK (l : Ln) : NestedKey := .tup [.text l.1, .num l.2]
def pK (q : Ln × Ln) : NestedKey := .tup [lK q.1, lK q.2]
theorem lK_inj {a b : Ln} (h : lK a = lK b) : a = b := by
  unfold lK at h
  injection h with h
  injection h with h1 h2
  injection h1 with h1
  injection h2 with h2
  injection h2 with h2
  exact Prod.ext h1 h2
theorem pK_inj {a b : Ln × Ln} (h : pK a = pK b) : a = b := by
  unfold pK at h
  injection h with h
  injection h with h1 h2
  injection h2 with h2
  exact Prod.ext (lK_inj h1) (lK_inj h2)
theorem pK_D (q : Ln × Ln) : nkD (pK q) = pD q := by
  unfold pK lK pD lineD; simp only [nkD, nkDs]
theorem pK_T (q : Ln × Ln) : nkT (pD q) = some (pK q) := by
  unfold pD lineD nkT
  simp only [nkeysOf, nkeyOf, Option.bind, Option.map]
  exact if_pos (by simp [NestedKey.depth, NestedKey.depthAll])
theorem keysN_p : ∀ qs : List (Ln × Ln), keysN (qs.map pD) = some (qs.map pK)
  | [] => rfl
  | q :: r => by
    show (nkT (pD q)).bind _ = _
    rw [pK_T]
    show (keysN (r.map pD)).map _ = _
    rw [keysN_p r]; rfl
def nubP : List (Ln × Ln) → List (Ln × Ln)
  | [] => []
  | q :: r => if q ∈ r then nubP r else q :: nubP r
theorem mem_nubP {z : Ln × Ln} : ∀ {l : List (Ln × Ln)}, z ∈ nubP l ↔ z ∈ l
  | [] => Iff.rfl
  | q :: r => by
    unfold nubP
    split
    · rename_i h
      rw [mem_nubP, List.mem_cons]
      exact ⟨.inr, fun t => t.elim (fun e => by rw [e]; exact h) id⟩
    · rw [List.mem_cons, List.mem_cons, mem_nubP]
theorem nodup_nubP : ∀ l : List (Ln × Ln), (nubP l).Nodup
  | [] => List.Pairwise.nil
  | q :: r => by
    unfold nubP
    split
    · exact nodup_nubP r
    · rename_i h
      exact List.nodup_cons.mpr ⟨fun z => h (mem_nubP.mp z), nodup_nubP r⟩
theorem nubN_p : ∀ qs : List (Ln × Ln), nubN (qs.map pK) = (nubP qs).map pK
  | [] => rfl
  | q :: r => by
    show (if hasN (r.map pK) (pK q) = true then nubN (r.map pK) else pK q :: nubN (r.map pK)) = (if q ∈ r then nubP r else q :: nubP r).map pK
    have : hasN (r.map pK) (pK q) = true ↔ q ∈ r := by
      rw [hasN_iff]
      exact ⟨fun z => by obtain ⟨a, ha, e⟩ := List.mem_map.mp z; rw [← pK_inj e]; exact ha, fun z => List.mem_map.mpr ⟨q, z, rfl⟩⟩
    rw [nubN_p r]
    by_cases z : q ∈ r
    · rw [if_pos (this.mpr z), if_pos z]
    · rw [if_neg (fun y => z (this.mp y)), if_neg z]; rfl
theorem srtND_p {qs : List (Ln × Ln)} (few : qs.length ≤ 62) : srtND (qs.map pD) = some (.lst (sortG ((nubP qs).map pD))) := by
  unfold srtND
  rw [keysN_p]
  show (if (qs.map pD).length ≤ 62 ∧ okG ((qs.map pK).map NestedKey.data) = true then some (D.lst (sortG ((nubN (qs.map pK)).map nkD))) else none) = _
  have ok : okG ((qs.map pK).map NestedKey.data) = true := by
    rw [List.map_map]
    have : (NestedKey.data ∘ pK) = pP := funext fun q => by simp [pK, lK, pP, lineP, NestedKey.data, NestedKey.datas]
    rw [this]; exact okG_pairs qs
  rw [if_pos ⟨by rw [List.length_map]; exact few, ok⟩, nubN_p, List.map_map]
  have : (nkD ∘ pK) = pD := funext pK_D
  rw [this]
theorem pD_inj {a b : Ln × Ln} (z : pD a = pD b) : a = b := by
  unfold pD at z
  injection z with z
  have z1 := (List.cons.inj z).1
  have z2 := (List.cons.inj (List.cons.inj z).2).1
  exact Prod.ext (lineD_inj z1) (lineD_inj z2)
theorem sort_uniq {l m : List (Ln × Ln)} (h : l.Perm m) (s1 : (l.map pD).Pairwise LeG) (s2 : (m.map pD).Pairwise LeG) : l = m := by
  refine map_inj_list (f := pD) (fun a b z => pD_inj z) ?_
  refine List.Perm.eq_of_pairwise (le := LeG) (fun x y hx hy h1 h2 => ?_) s1 s2 (h.map pD)
  obtain ⟨a, _, rfl⟩ := List.mem_map.mp hx
  obtain ⟨b, _, rfl⟩ := List.mem_map.mp hy
  rw [leG_pair h1 h2]
/-- what is sorted and then sifted is what is sifted and then sorted -/
theorem sift_sort (P : Ln × Ln → Bool) (qs : List (Ln × Ln)) : ∃ ss : List (Ln × Ln), sortG ((nubP qs).map pD) = ss.map pD ∧ ss.Perm (nubP qs) ∧ sortG ((nubP (qs.filter P)).map pD) = (ss.filter P).map pD := by
  obtain ⟨ss, e1, p1⟩ := perm_map_back (sortG_perm ((nubP qs).map pD))
  obtain ⟨tt, e2, p2⟩ := perm_map_back (sortG_perm ((nubP (qs.filter P)).map pD))
  refine ⟨ss, e1, p1, ?_⟩
  rw [e2]
  have s1 := sortG_sorted ((nubP qs).map pD)
  have s2 := sortG_sorted ((nubP (qs.filter P)).map pD)
  rw [e1] at s1
  rw [e2] at s2
  refine congrArg (List.map pD) (sort_uniq ?_ s2 ?_)
  · refine (List.perm_ext_iff_of_nodup ((p2.nodup_iff).mpr (nodup_nubP _)) (List.Nodup.sublist List.filter_sublist ((p1.nodup_iff).mpr (nodup_nubP _)))).mpr fun q => ?_
    rw [p2.mem_iff, mem_nubP, List.mem_filter, List.mem_filter, p1.mem_iff, mem_nubP]
  · exact List.Pairwise.sublist (List.filter_sublist.map pD) s1
end Lw65
namespace Lw65
open PySem PySem.Spec PyProof.Rows L2 Dv
theorem take_ok {n low : Int} {u : U} (h : OkU n u) (hn : n ≤ 2 ^ 40) (h0 : 0 < low) (h1 : low < 1073741824) : ∃ r u', F__law_take [.urn, .int low] u = some (.int r, u') ∧ 0 ≤ r ∧ r < low ∧ OkU (n + 1) u' := takeG_ok h hn h0 h1
theorem of_ok {n : Int} {u : U} {ds : List D} (h : OkU n u) (hn : n ≤ 2 ^ 40) (h0 : 0 < ds.length) (h1 : ds.length < 1000) : ∃ d u', F__law_of [.urn, .lst ds] u = some (d, u') ∧ d ∈ ds ∧ OkU (n + 1) u' := ofG_ok h hn h0 h1
theorem of_okT {n : Int} {u : U} {ds : List D} (h : OkU n u) (hn : n ≤ 2 ^ 40) (h0 : 0 < ds.length) (h1 : ds.length < 1000) : ∃ d u', F__law_of [.urn, .tup ds] u = some (d, u') ∧ d ∈ ds ∧ OkU (n + 1) u' := by
  obtain ⟨r, u', e, r0, r1, hu⟩ := take_ok (low := ds.length) h hn (by omega) (by omega)
  have hr : r.toNat < ds.length := by omega
  have e2 : ixD (.tup ds) (.int r) = some ds[r.toNat] := by
    have := atI_nat (List.getElem?_eq_getElem hr)
    rw [Int.toNat_of_nonneg r0] at this
    exact this
  exact ⟨_, u', runB_rt (sc_rt (sRet_eq (mBin_eq rfl (mCall_eq (mCons_eq rfl (c1 (mBi_eq (c1 rfl) (len_t (by omega))))) rfl e) e2))), List.getElem_mem hr, hu⟩
theorem same_ok {u : U} (n : Nat) (d : D) (h : plainN n d = true) : FR__law_same (n + 1) [d, d] u = some (.bl true, u) := by
  have e : ∀ n, FR__law_same n = FR_sameA n := fun n => by
    induction n with
    | zero => rfl
    | succ n ih => unfold FR__law_same FR_sameA; rw [ih]; rfl
  rw [e]; exact sameA_self n d h
def pool : List Str := ["a", "b", "c", "ab", "err", "out", "log", "x", "zzzzzzzz"]
theorem map_er {α β : Type} (f : α → β) : ∀ (l : List α) (j : Nat), (l.map f).eraseIdx j = (l.eraseIdx j).map f
  | [], _ => rfl
  | _ :: _, 0 => rfl
  | x :: l, j + 1 => by
    show f x :: (l.map f).eraseIdx j = f x :: (l.eraseIdx j).map f
    rw [map_er f l j]
theorem pick_ok {n : Int} {u : U} {c : Nat} (h : OkU n u) (hn : n ≤ 2 ^ 39) (hc : c ≤ 9) : ∃ (xs : List Str) (u' : U), F__law_pick [.urn, .lst (pool.map .str), .int (c : Int)] u = some (.lst (xs.map .str), u') ∧ xs.length = c ∧ (∀ x ∈ xs, x ∈ pool) ∧ OkU (n + c) u' := by
  obtain ⟨env', u', e, o', left, found, y, rfl, hl, hp, hf, hq⟩ := forR_inv (t := .one 5) (n := c) (f := (sCons (sAppPop 4 3 (mCall 2 F__law_take (mCons (mVar 0) (mCons (mPeek 3 (mBi bLen (mCons (mVar 3) mNil))) mNil)))) sNil))
    (I := fun j env u => OkU (n + j) u ∧ ∃ (left found : List Str) (y : Sl), env = [Sl.pub .urn, .pub (.lst (pool.map .str)), .pub (.int (c : Int)), .own (.lst (left.map .str)), .own (.lst (found.map .str)), y] ∧ left.length + j = 9 ∧ (∀ x ∈ left, x ∈ pool) ∧ found.length = j ∧ ∀ x ∈ found, x ∈ pool)
    (env := [Sl.pub .urn, .pub (.lst (pool.map .str)), .pub (.int (c : Int)), .own (.lst (pool.map .str)), .own (.lst []), .no]) (u := u) (fun j hj env u hI => by
      obtain ⟨ou, left, found, y, rfl, hl, hp, hf, hq⟩ := hI
      obtain ⟨r, u2, e, r0, r1, o2⟩ := take_ok (low := left.length) ou (by omega) (by omega) (by omega)
      obtain ⟨k, rfl⟩ : ∃ k : Nat, r = k := ⟨r.toNat, by omega⟩
      have hk : k < left.length := by omega
      refine ⟨[Sl.pub .urn, .pub (.lst (pool.map .str)), .pub (.int (c : Int)), .own (.lst (left.map .str)), .own (.lst (found.map .str)), .pub (.int j)], [Sl.pub .urn, .pub (.lst (pool.map .str)), .pub (.int (c : Int)), .own (.lst ((left.map D.str).eraseIdx k)), .own (.lst (found.map .str ++ [(left.map D.str)[k]'(by rw [List.length_map]; exact hk)])), .pub (.int j)], u2, rfl, ?_, o2.mono (by omega), left.eraseIdx k, found ++ [left[k]], .pub (.int j), ?_, ?_, fun x hx => hp x (List.mem_of_mem_eraseIdx hx), by rw [List.length_append, hf]; rfl, fun x hx => ?_⟩
      · exact sc_nx (sAppPop_eq (i := 4) (j := 3) (n := k) rfl rfl (mCall_eq (mCons_eq rfl (c1 (mPeek_eq (o := .lst (left.map .str)) rfl (mBi_eq (c1 rfl) (by show some (D.int ((left.map D.str).length : Int)) = _; rw [List.length_map])) rfl))) rfl e) (by rw [List.length_map]; exact hk) (by rw [List.length_map]; omega) (by rw [List.length_map, line]; omega) (by decide)) rfl
      · rw [map_er, List.map_append, List.getElem_map]; rfl
      · rw [List.length_eraseIdx_of_lt hk]; omega
      · rcases List.mem_append.mp hx with hx | hx
        · exact hq x hx
        · simp only [List.mem_cons, List.not_mem_nil, or_false] at hx
          rw [hx]; exact hp _ (List.getElem_mem hk)) ⟨by simpa using h, pool, [], .no, rfl, rfl, fun x hx => hx, rfl, fun x hx => by cases hx⟩
  exact ⟨found, u', runB_rt (sc_nx (sParv_eq (vList_l rfl) (vLst_eq mNil_eq (Nat.zero_le _))) (sc_nx (sFor_eq (mRange1_eq (j := (c : Int)) rfl ⟨by omega, by omega⟩) (by rw [Int.toNat_natCast]; exact e)) (sPub_eq rfl (sc_rt (sRet_eq rfl))))), hf, hq, o'⟩
theorem tags_ok {n : Int} {u : U} {c : Nat} (h : OkU n u) (hn : n ≤ 2 ^ 39) (hc : c ≤ 9) : ∃ (xs : List Str) (u' : U), F__law_tags [.urn, .int (c : Int)] u = some (.tup (xs.map .str), u') ∧ xs.length = c ∧ (∀ x ∈ xs, x ∈ pool) ∧ OkU (n + c) u' := by
  obtain ⟨xs, u', e, hl, hp, o⟩ := pick_ok h hn hc
  refine ⟨sortS xs, u', runB_rt (sc_rt (sRet_eq (mBi_eq (c1 (mBi_eq (c1 (mCall_eq (mCons_eq rfl (mCons_eq (mLst_eq (mCons_eq rfl (mCons_eq rfl (mCons_eq rfl (mCons_eq rfl (mCons_eq rfl (mCons_eq rfl (mCons_eq rfl (mCons_eq rfl (c1 rfl))))))))) (isiz (by simp))) (c1 rfl))) rfl e)) (sortB_s (by omega)))) rfl))), ?_, fun x hx => hp x ((sortS_perm _).subset hx), o⟩
  rw [(sortS_perm _).length_eq, hl]
theorem deeds_ok {n : Int} {u : U} {ts : List Str} {c : Nat} (h : OkU n u) (hn : n ≤ 2 ^ 39) (h1 : 1 ≤ ts.length ∧ ts.length ≤ 9) (hc : c ≤ 100) : ∃ (ds : List Dd) (u' : U), F__law_deeds [.urn, .tup (ts.map .str), .int (c : Int)] u = some (.tup (ds.map deedD), u') ∧ ds.length = c ∧ (∀ p ∈ ds, p.2 ∈ ts) ∧ OkU (n + 2 * c) u' := by
  obtain ⟨env', u', e, o', ds, y4, y5, rfl, hl, hp⟩ := forR_inv (t := .one 4) (n := c) (f := (sCons (sSet 5 (mIte (mTru (mBin cEq (mCall 2 F__law_take (mCons (mVar 0) (mCons (mC (.int (4))) mNil))) (mC (.int (0))))) (mC (.str ("flush" : Str))) (mC (.str ("write" : Str)))))
    (sCons (sApp 3 (mTup (mCons (mVar 5) (mCons (mCall 2 F__law_of (mCons (mVar 0) (mCons (mVar 1) mNil))) mNil))))
    sNil)))
    (I := fun j env u => OkU (n + 2 * j) u ∧ ∃ (ds : List Dd) (y4 y5 : Sl), env = [Sl.pub .urn, .pub (.tup (ts.map .str)), .pub (.int (c : Int)), .own (.lst (ds.map deedD)), y4, y5] ∧ ds.length = j ∧ ∀ p ∈ ds, p.2 ∈ ts)
    (env := [Sl.pub .urn, .pub (.tup (ts.map .str)), .pub (.int (c : Int)), .own (.lst []), .no, .no]) (u := u) (fun j hj env u hI => by
      obtain ⟨ou, ds, y4, y5, rfl, hl, hp⟩ := hI
      obtain ⟨r, u1, e1, r0, r1, o1⟩ := take_ok (low := 4) ou (by omega) (by omega) (by omega)
      obtain ⟨x, u2, e2, hx, o2⟩ := of_okT (ds := ts.map .str) o1 (by omega) (by rw [List.length_map]; omega) (by rw [List.length_map]; omega)
      obtain ⟨y, hy, rfl⟩ := List.mem_map.mp hx
      obtain ⟨b, hb⟩ : ∃ b : Bool, b = !decide (r = 0) := ⟨_, rfl⟩
      have hw : mIte (mTru (mBin cEq (mCall 2 F__law_take (mCons (mVar 0) (mCons (mC (.int (4))) mNil))) (mC (.int (0))))) (mC (.str ("flush" : Str))) (mC (.str ("write" : Str))) [Sl.pub .urn, .pub (.tup (ts.map .str)), .pub (.int (c : Int)), .own (.lst (ds.map deedD)), .pub (.int (j : Int)), y5] u = some (.str (wdS b), u1) := by
        have t : mTru (mBin cEq (mCall 2 F__law_take (mCons (mVar 0) (mCons (mC (.int (4))) mNil))) (mC (.int (0)))) [Sl.pub .urn, .pub (.tup (ts.map .str)), .pub (.int (c : Int)), .own (.lst (ds.map deedD)), .pub (.int (j : Int)), y5] u = some (decide (r = 0), u1) := mTru_eq (mBin_eq (mCall_eq (mCons_eq rfl (c1 rfl)) rfl e1) rfl rfl) rfl
        by_cases q : r = 0
        · rw [decide_eq_true q] at t hb
          rw [hb]
          exact mIte_t t rfl
        · rw [decide_eq_false q] at t hb
          rw [hb]
          exact mIte_f t rfl
      refine ⟨[Sl.pub .urn, .pub (.tup (ts.map .str)), .pub (.int (c : Int)), .own (.lst (ds.map deedD)), .pub (.int (j : Int)), y5], [Sl.pub .urn, .pub (.tup (ts.map .str)), .pub (.int (c : Int)), .own (.lst ((ds ++ [(b, y)]).map deedD)), .pub (.int (j : Int)), .pub (.str (wdS b))], u2, rfl, ?_, o2.mono (by omega), ds ++ [(b, y)], _, _, rfl, by rw [List.length_append, hl]; rfl, fun p hq => ?_⟩
      · rw [List.map_append]
        exact sc_nx (sSet_eq hw) (sc_nx (sApp_eq (d := deedD (b, y)) rfl (mTup_eq (mCons_eq rfl (c1 (mCall_eq (mCons_eq rfl (c1 rfl)) rfl e2))) (isiz (by simp))) (by rw [List.length_map, line]; omega)) rfl)
      · rcases List.mem_append.mp hq with hq | hq
        · exact hp p hq
        · simp only [List.mem_cons, List.not_mem_nil, or_false] at hq
          rw [hq]; exact hy) ⟨by simpa using h, [], .no, .no, rfl, rfl, fun p hp => by cases hp⟩
  exact ⟨ds, u', runB_rt (sc_nx (sSv_eq (vLst_eq mNil_eq (Nat.zero_le _))) (sc_nx (sFor_eq (mRange1_eq (j := (c : Int)) rfl ⟨by omega, by omega⟩) (by rw [Int.toNat_natCast]; exact e)) (sPub_eq rfl (sc_rt (sRet_eq (mBi_eq (c1 rfl) rfl)))))), hl, hp, o'.mono (by omega)⟩
theorem lists_str {n : Nat} {x : Str} {u : U} : FR__law_lists (n + 1) [.str x] u = some (.str x, u) :=
  runB_rt (sc_rt (sRet_eq (mIte_f (mTru_eq (mIsi_eq rfl (isi2_str x)) rfl) rfl)))
theorem lists_int {n : Nat} {x : Int} {u : U} : FR__law_lists (n + 1) [.int x] u = some (.int x, u) :=
  runB_rt (sc_rt (sRet_eq (mIte_f (mTru_eq (mIsi_eq rfl (isi2_int x)) rfl) rfl)))
theorem lists_tup {n : Nat} {xs : List D} {g : D → D} {u : U} (h : ∀ d ∈ xs, FR__law_lists n [d] u = some (g d, u)) (few : xs.length ≤ 1000) : FR__law_lists (n + 1) [.tup xs] u = some (.lst (xs.map g), u) :=
  runB_rt (sc_rt (sRet_eq (mIte_t (mTru_eq (mIsi_eq rfl (isi2_tup xs)) rfl) (mLc_eq (mItems_eq rfl rfl) (compL_pure fun d hd => turnL_eq rfl (mCall_eq (c1 rfl) rfl (h d hd))) (by rw [List.length_map]; exact isiz few)))))
theorem lists_lst {n : Nat} {xs : List D} {g : D → D} {u : U} (h : ∀ d ∈ xs, FR__law_lists n [d] u = some (g d, u)) (few : xs.length ≤ 1000) : FR__law_lists (n + 1) [.lst xs] u = some (.lst (xs.map g), u) :=
  runB_rt (sc_rt (sRet_eq (mIte_t (mTru_eq (mIsi_eq rfl (isi2_lst xs)) rfl) (mLc_eq (mItems_eq rfl rfl) (compL_pure fun d hd => turnL_eq rfl (mCall_eq (c1 rfl) rfl (h d hd))) (by rw [List.length_map]; exact isiz few)))))
def lineL (l : Ln) : D := .lst [.str l.1, .int l.2]
def pL (q : Ln × Ln) : D := .lst [lineL q.1, lineL q.2]
def asL : D → D
  | .tup xs => .lst xs
  | d => d
theorem lists_line {n : Nat} {l : Ln} {u : U} : FR__law_lists (n + 2) [lineD l] u = some (lineL l, u) := by
  have := lists_tup (n := n + 1) (xs := [.str l.1, .int l.2]) (g := id) (u := u) (fun d hd => by
    simp only [List.mem_cons, List.not_mem_nil, or_false] at hd
    rcases hd with rfl | rfl
    · exact lists_str
    · exact lists_int) (by simp)
  simpa [lineD, lineL] using this
theorem lists_pair {n : Nat} {q : Ln × Ln} {u : U} : FR__law_lists (n + 3) [pD q] u = some (pL q, u) := by
  have := lists_tup (n := n + 2) (xs := [lineD q.1, lineD q.2]) (g := asL) (u := u) (fun d hd => by
    simp only [List.mem_cons, List.not_mem_nil, or_false] at hd
    rcases hd with rfl | rfl <;> exact lists_line) (by simp)
  exact this
def asP : D → D
  | .tup [.tup xs, .tup ys] => .lst [.lst xs, .lst ys]
  | d => d
theorem lists_pairs {qs : List (Ln × Ln)} {u : U} (few : qs.length ≤ 1000) : FR__law_lists 6 [.lst (qs.map pD)] u = some (.lst (qs.map pL), u) := by
  have := lists_lst (n := 5) (xs := qs.map pD) (g := asP) (u := u) (fun d hd => by
    obtain ⟨q, _, rfl⟩ := List.mem_map.mp hd
    exact lists_pair (n := 2)) (by rw [List.length_map]; exact few)
  rw [List.map_map] at this
  exact this
theorem tupled_lineL {n : Nat} {l : Ln} {u : U} : FR_tupled (n + 2) [lineL l] u = some (lineD l, u) := by
  have := tupled_lst (n := n + 1) (xs := [.str l.1, .int l.2]) (g := id) (u := u) (fun d hd => by
    simp only [List.mem_cons, List.not_mem_nil, or_false] at hd
    rcases hd with rfl | rfl
    · exact tupled_str
    · exact tupled_int) (by simp)
  simpa [lineD, lineL] using this
theorem tupled_pL {n : Nat} {q : Ln × Ln} {u : U} : FR_tupled (n + 3) [pL q] u = some (pD q, u) := by
  have := tupled_lst (n := n + 2) (xs := [lineL q.1, lineL q.2]) (g := asT) (u := u) (fun d hd => by
    simp only [List.mem_cons, List.not_mem_nil, or_false] at hd
    rcases hd with rfl | rfl <;> exact tupled_lineL) (by simp)
  exact this
theorem tupled_pD {n : Nat} {q : Ln × Ln} {u : U} : FR_tupled (n + 3) [pD q] u = some (pD q, u) := by
  have := tupled_tup (n := n + 2) (xs := [lineD q.1, lineD q.2]) (g := id) (u := u) (fun d hd => by
    simp only [List.mem_cons, List.not_mem_nil, or_false] at hd
    rcases hd with rfl | rfl <;> exact tupled_line) (by simp)
  simpa [pD] using this
def asQ : D → D
  | .lst [.lst xs, .lst ys] => .tup [.tup xs, .tup ys]
  | d => d
theorem tup_pL {qs : List (Ln × Ln)} {u : U} (few : qs.length ≤ 1000) : FR_tupled 6 [.lst (qs.map pL)] u = some (.tup (qs.map pD), u) := by
  have := tupled_lst (n := 5) (xs := qs.map pL) (g := asQ) (u := u) (fun d hd => by
    obtain ⟨q, _, rfl⟩ := List.mem_map.mp hd
    exact tupled_pL (n := 2)) (by rw [List.length_map]; exact few)
  rw [List.map_map] at this
  exact this
theorem tup_pD {qs : List (Ln × Ln)} {u : U} (few : qs.length ≤ 1000) : FR_tupled 6 [.tup (qs.map pD)] u = some (.tup (qs.map pD), u) := by
  have := tupled_tup (n := 5) (xs := qs.map pD) (g := id) (u := u) (fun d hd => by
    obtain ⟨q, _, rfl⟩ := List.mem_map.mp hd
    exact tupled_pD (n := 2)) (by rw [List.length_map]; exact few)
  simpa using this
theorem tup_pDl {qs : List (Ln × Ln)} {u : U} (few : qs.length ≤ 1000) : FR_tupled 6 [.lst (qs.map pD)] u = some (.tup (qs.map pD), u) := by
  have := tupled_lst (n := 5) (xs := qs.map pD) (g := id) (u := u) (fun d hd => by
    obtain ⟨q, _, rfl⟩ := List.mem_map.mp hd
    exact tupled_pD (n := 2)) (by rw [List.length_map]; exact few)
  simpa using this
abbrev lineLP (l : Ln) : PyData := .list [.str l.1, .int l.2]
abbrev pLP (q : Ln × Ln) : PyData := .list [lineLP q.1, lineLP q.2]
theorem lineL_py (l : Ln) : toPy (lineL l) = some (lineLP l) := by simp [lineL, lineLP, toPy, toPys]
theorem pL_py (q : Ln × Ln) : toPy (pL q) = some (pLP q) := by simp [pL, toPy, toPys, lineL_py]
theorem pL_eqv (p q : Ln × Ln) : PyData.eqv (pLP p) (pLP q) = decide (p = q) := by
  obtain ⟨⟨a, b⟩, c, d⟩ := p
  obtain ⟨⟨a2, b2⟩, c2, d2⟩ := q
  simp only [pLP, lineLP, PyData.eqv, PyData.eqvAll, Bool.and_true]
  rw [Bool.eq_iff_iff]
  simp [Prod.ext_iff, and_assoc]
theorem shapedL {α : Type} {g : α → PyData} {n : Nat} {l : List α} (h : ∀ a ∈ l, (g a).canLay0 = true) (d : ∀ a ∈ l, (g a).depth ≤ n) (hn : n < 64) : SeqAt.shaped (.list (l.map g)) = true := by
  unfold SeqAt.shaped
  rw [Bool.and_eq_true]
  refine ⟨by simp only [PyData.canLay0]; exact lay_map h, decide_eq_true ?_⟩
  have := depth_map d
  unfold PyData.depth
  omega
theorem pLs_self {qs : List (Ln × Ln)} (h : ∀ q ∈ qs, TxO q.1.1 ∧ TxO q.2.1) : cEq (.lst (qs.map pL)) (.lst (qs.map pL)) = some (.bl true) := by
  have t : toPy (.lst (qs.map pL)) = some (.list (qs.map pLP)) := by unfold toPy; rw [toPys_map (f := pL) (g := pLP) fun q _ => pL_py q]; rfl
  have sh : SeqAt.shaped (.list (qs.map pLP)) = true := shapedL (n := 2) (fun q hq => by
    have h1 : PyData.strOk q.1.1 = true := (h q hq).1
    have h2 : PyData.strOk q.2.1 = true := (h q hq).2
    simp [pLP, lineLP, PyData.canLay0, PyData.canLayAll0, h1, h2]) (fun q _ => by simp [pLP, lineLP, PyData.depth, PyData.depthAll]) (by decide)
  show (eqD _ _).map D.bl = _
  have : eqD (.lst (qs.map pL)) (.lst (qs.map pL)) = some true := by
    unfold eqD
    simp only [t]
    rw [if_pos ⟨sh, sh⟩]
    simp only [PyData.eqv]
    rw [eqvAll_dec fun a _ b _ => pL_eqv a b, decide_eq_true rfl]
  rw [this]; rfl
theorem pool_nm : ∀ x ∈ pool, AZ x ∧ 1 ≤ x.length ∧ x.length ≤ 8 := by
  intro x hx
  unfold pool at hx
  simp only [List.mem_cons, List.not_mem_nil, or_false] at hx
  have az : ∀ y : Str, (y.cps.toList.all fun c => decide (97 ≤ c ∧ c ≤ 122)) = true → AZ y := fun y h c hc => of_decide_eq_true (List.all_eq_true.mp h c hc)
  rcases hx with rfl | rfl | rfl | rfl | rfl | rfl | rfl | rfl | rfl <;> exact ⟨az _ (by decide +kernel), by decide +kernel, by decide +kernel⟩
end Lw65
namespace Lw65
open PySem PySem.Spec PyProof.Rows L2 Dv
theorem mem_wishW {ds : List Dd} {p : Wp × Wp} : p ∈ wishW ds ↔ p.1 ∈ wr ds ∧ p.2 ∈ wr ds ∧ wishB p.1 p.2 = true := by
  obtain ⟨a, b⟩ := p
  unfold wishW
  rw [List.mem_filter, mem_cross]
  exact ⟨fun ⟨⟨h1, h2⟩, h3⟩ => ⟨h1, h2, h3⟩, fun ⟨h1, h2, h3⟩ => ⟨⟨h1, h2⟩, h3⟩⟩
theorem LP_inj {ds : List Dd} {p q : Wp × Wp} (hp : p ∈ wishW ds) (hq : q ∈ wishW ds) (e : LP ds p = LP ds q) : p = q := by
  obtain ⟨h1, h2, _⟩ := mem_wishW.mp hp
  obtain ⟨g1, g2, _⟩ := mem_wishW.mp hq
  exact Prod.ext (lineOf_inj h1 g1 (congrArg Prod.fst e)) (lineOf_inj h2 g2 (congrArg Prod.snd e))
/-- whether a flush holds the wish -/
def hB (ds : List Dd) (q : Ln × Ln) : Bool := (wishW ds).any fun p => decide (LP ds p = q) && ahB ds p.2.1 p.1
theorem hB_of {ds : List Dd} {p : Wp × Wp} (hp : p ∈ wishW ds) : hB ds (LP ds p) = ahB ds p.2.1 p.1 := by
  unfold hB
  rw [Bool.eq_iff_iff, List.any_eq_true]
  refine ⟨fun ⟨r, hr, h⟩ => ?_, fun h => ⟨p, hp, by rw [decide_eq_true rfl, h]; rfl⟩⟩
  rw [Bool.and_eq_true] at h
  rw [← LP_inj hr hp (of_decide_eq_true h.1)]; exact h.2
theorem wish_tx {ds : List Dd} (h : AllTx ds) {p : Wp × Wp} (hp : p ∈ wishW ds) : TxO (LP ds p).1.1 ∧ TxO (LP ds p).2.1 := by
  obtain ⟨h1, h2, _⟩ := mem_wishW.mp hp
  exact ⟨wr_tx h h1, wr_tx h h2⟩
abbrev qsOf (ds : List Dd) (ws : List (Wp × Wp)) : List (Ln × Ln) := ws.map (LP ds)
theorem check_ok {ds : List Dd} {ws : List (Wp × Wp)} {X : D} {u : U} (h : NmD ds) (few : ds.length ≤ 900) (hX : FR_tupled 6 [X] u = some (.tup ((qsOf ds ws).map pD), u)) (hw : ∀ p ∈ ws, p ∈ wishW ds) : F_check_wishes [progD ds, X] u = some (.ok .non, u) := by
  obtain ⟨env', u', e, rfl, y, rfl⟩ := forX_inv (t := .one 2) (f := (sCons (sIf (mNotB (mTru (mCall 2 F_is_wish (mCons (mVar 0) (mCons (mVar 2) mNil))))) (sCons (sRaise ("NoWish" : Str) ("wish" : Str) F_NoWish (mVar 2))
    sNil) sNil)
    sNil))
    (I := fun j env u' => u = u' ∧ ∃ y, env = [Sl.pub (progD ds), .pub X, y]) (ds := (qsOf ds ws).map pD) (i := 0) (env := [Sl.pub (progD ds), .pub X, .no]) (u := u) (fun j hj env u1 hI => by
      obtain ⟨rfl, y, rfl⟩ := hI
      rw [List.length_map, List.length_map] at hj
      rw [List.getElem_map, List.getElem_map]
      obtain ⟨p, hp⟩ : ∃ p, p = ws[j] := ⟨_, rfl⟩
      have hm : p ∈ wishW ds := hw p (by rw [hp]; exact List.getElem_mem hj)
      rw [← hp]
      obtain ⟨a, b⟩ := p
      obtain ⟨h1, h2, h3⟩ := mem_wishW.mp hm
      have iw := isw_ok (u := u) h few h1 h2
      rw [h3] at iw
      exact ⟨[Sl.pub (progD ds), .pub X, .pub (pD (LP ds (a, b)))], _, u, rfl, sc_nx (sIf_f (mNotB_eq (k := true) (mTru_eq (mCall_eq (mCons_eq rfl (c1 rfl)) rfl iw) rfl)) rfl) rfl, rfl, _, rfl⟩) ⟨rfl, .no, rfl⟩
  exact runBX_nx (sc_nx (sFor_eq (mItems_eq (mCall_eq (c1 rfl) rfl hX) rfl) e) rfl)
noncomputable def keptD (ds : List Dd) (ws : List (Wp × Wp)) : D := .tup (sortG ((nubP ((qsOf ds ws).filter (hB ds))).map pD))
theorem kept_ok {ds : List Dd} {ws : List (Wp × Wp)} {X : D} {u : U} (h : NmD ds) (few : ds.length ≤ 900) (lw : ws.length ≤ 62) (hX : FR_tupled 6 [X] u = some (.tup ((qsOf ds ws).map pD), u)) (hw : ∀ p ∈ ws, p ∈ wishW ds) : F_kept [progD ds, X] u = some (.ok (keptD ds ws), u) := by
  have ck := check_ok h few hX hw
  have told := told_in_ok (u := u) few (strsD_rising ds) (Nat.le_trans (strsD_len ds) few) (strsD_in ds) (wsOf_spec ds).1 (wsOf_spec ds).2.2
  obtain ⟨TD, hTD⟩ : ∃ T, T = toldW (strsD ds) ds (wsOf ds) := ⟨_, rfl⟩
  have sr : ∀ p ∈ wishW ds, F_surely_before [TD, lineD (lineOf ds p.1), lineD (lineOf ds p.2)] u = some (.bl (hB ds (LP ds p)), u) := fun p hp => by
    obtain ⟨h1, h2, h3⟩ := mem_wishW.mp hp
    unfold wishB at h3
    rw [Bool.and_eq_true] at h3
    have ne : p.1.2 ≠ p.2.2 := fun e => by have := h3.1; rw [decide_eq_true e] at this; cases this
    rw [hB_of hp, ← sure_ah h1 h2 ne, hTD]
    exact sure_ok (strsD_rising ds) (strsD_in ds) (wsOf_spec ds).1 h2
  rw [← hTD] at told
  obtain ⟨ss, e1, p1, e2⟩ := sift_sort (hB ds) (qsOf ds ws)
  have ls : ss.length ≤ 62 := by
    rw [p1.length_eq]
    have : ∀ l : List (Ln × Ln), (nubP l).length ≤ l.length := fun l => by
      induction l with
      | nil => exact Nat.le_refl _
      | cons a l ih =>
        unfold nubP
        split
        · rw [List.length_cons]; omega
        · rw [List.length_cons, List.length_cons]; omega
    exact Nat.le_trans (this _) (by rw [List.length_map]; exact lw)
  have hs : mSortSetN (mCall 1 (FR_tupled 6) (mCons (mVar 1) mNil)) [Sl.pub (progD ds), .pub X, .pub TD, .no, .no] u = some (.lst (ss.map pD), u) := by
    refine mSortSetN_eq (mCall_eq (c1 rfl) rfl hX) ?_
    show srtND _ = _
    rw [srtND_p (by rw [List.length_map]; exact lw), e1]
  have hc : compL (turnL (.many [3, 4]) [3, 4] [Sl.pub (progD ds), .pub X, .pub TD, .no, .no] (mTru (mCall 3 F_surely_before (mCons (mVar 2) (mCons (mVar 3) (mCons (mVar 4) mNil))))) (mTup (mCons (mVar 3) (mCons (mVar 4) mNil)))) (ss.map pD) u = some ((ss.filter (hB ds)).map pD, u) :=
    compL_fm fun q hq => by
      have hq : q ∈ qsOf ds ws := mem_nubP.mp (p1.mem_iff.mp hq)
      obtain ⟨p, hp, rfl⟩ := List.mem_map.mp hq
      have s := sr p (hw p hp)
      have t : mTru (mCall 3 F_surely_before (mCons (mVar 2) (mCons (mVar 3) (mCons (mVar 4) mNil)))) [Sl.pub (progD ds), .pub X, .pub TD, .pub (lineD (lineOf ds p.1)), .pub (lineD (lineOf ds p.2))] u = some (hB ds (LP ds p), u) := mTru_eq (mCall_eq (mCons_eq rfl (mCons_eq rfl (c1 rfl))) rfl s) rfl
      cases z : hB ds (LP ds p) with
      | true => rw [z] at t; exact turnL_c rfl t (mTup_eq (mCons_eq rfl (c1 rfl)) (isiz (by simp)))
      | false => rw [z] at t; exact turnL_n rfl t
  unfold keptD
  rw [e2]
  refine runBX_rt (sc_nx (env' := [Sl.pub (progD ds), .pub X, .no, .no, .no]) (u1 := u) ?_ (sc_nx (sSet_eq (mCall_eq (c1 rfl) rfl told)) (sc_rt (sRet_eq (mBi_eq (c1 (mLc_eq (mItems_eq hs rfl) hc (isiz (by rw [List.length_map]; exact Nat.le_trans (List.length_filter_le _ _) (by omega))))) rfl)))))
  have xc : xCall 2 F_check_wishes (mCons (mVar 0) (mCons (mVar 1) mNil)) [Sl.pub (progD ds), .pub X, .no, .no, .no] u = some (.ok .non, u) := xCall_eq (mCons_eq rfl (c1 rfl)) rfl ck
  exact sUpX_ok xc
/-- what the law says is due -/
theorem due_ok {ds : List Dd} {ws : List (Wp × Wp)} {u : U} {env : List Sl} (h : AllTx ds) (few : ds.length ≤ 900) (lw : ws.length ≤ 62) (hw : ∀ p ∈ ws, p ∈ wishW ds)
    (h1 : env[1]? = some (.pub (.tup (ds.map deedD)))) (h9 : env[9]? = some (.pub (.lst ((qsOf ds ws).map pD)))) (l14 : ∃ a0 a2 a3 a4 a5 a6 a7 a8 a10 a11 a12 a13, env = [a0, .pub (.tup (ds.map deedD)), a2, a3, a4, a5, a6, a7, a8, .pub (.lst ((qsOf ds ws).map pD)), a10, a11, a12, a13]) :
    mBi bTuple (mCons (mSortSetN (mLc (.one 13) [13] (mItems (mVar 9)) (mTru (mCall 2 F__law_held (mCons (mVar 1) (mCons (mVar 13) mNil)))) (mVar 13))) mNil) env u = some (keptD ds ws, u) := by
  obtain ⟨a0, a2, a3, a4, a5, a6, a7, a8, a10, a11, a12, a13, rfl⟩ := l14
  have hc : compL (turnL (.one 13) [13] [a0, .pub (.tup (ds.map deedD)), a2, a3, a4, a5, a6, a7, a8, .pub (.lst ((qsOf ds ws).map pD)), a10, a11, a12, a13] (mTru (mCall 2 F__law_held (mCons (mVar 1) (mCons (mVar 13) mNil)))) (mVar 13)) ((qsOf ds ws).map pD) u = some (((qsOf ds ws).filter (hB ds)).map pD, u) :=
    compL_fm fun q hq => by
      obtain ⟨p, hp, rfl⟩ := List.mem_map.mp hq
      obtain ⟨h1, h2, h3⟩ := mem_wishW.mp (hw p hp)
      have s := held_ok (u := u) h few h1 h2
      rw [← hB_of (hw p hp)] at s
      have t : mTru (mCall 2 F__law_held (mCons (mVar 1) (mCons (mVar 13) mNil))) [a0, .pub (.tup (ds.map deedD)), a2, a3, a4, a5, a6, a7, a8, .pub (.lst ((qsOf ds ws).map pD)), a10, a11, a12, .pub (pD (LP ds p))] u = some (hB ds (LP ds p), u) := mTru_eq (mCall_eq (mCons_eq rfl (c1 rfl)) rfl s) rfl
      cases z : hB ds (LP ds p) with
      | true => rw [z] at t; exact turnL_c rfl t rfl
      | false => rw [z] at t; exact turnL_n rfl t
  have lf : ((qsOf ds ws).filter (hB ds)).length ≤ 62 := Nat.le_trans (List.length_filter_le _ _) (by rw [List.length_map]; exact lw)
  refine mBi_eq (c1 (mSortSetN_eq (mLc_eq (mItems_eq rfl rfl) hc (isiz (by rw [List.length_map]; omega))) (srtND_p lf))) rfl
end Lw65
namespace Lw65
open PySem PySem.Spec PyProof.Rows L2 Dv
theorem isi_t_non : isiD .non ["tuple"] = some false := by decide +kernel
theorem isi_t_bl (b : Bool) : isiD (.bl b) ["tuple"] = some false := by show kitAnyB "bool" ["tuple"] = some false; decide +kernel
theorem isi_t_int (b : Int) : isiD (.int b) ["tuple"] = some false := by show kitAnyB "int" ["tuple"] = some false; decide +kernel
theorem isi_t_str (b : Str) : isiD (.str b) ["tuple"] = some false := by show kitAnyB "str" ["tuple"] = some false; decide +kernel
theorem isi_i_non : isiD .non ["int"] = some false := by decide +kernel
theorem isi_i_str (b : Str) : isiD (.str b) ["int"] = some false := by show kitAnyB "str" ["int"] = some false; decide +kernel
theorem isi_i_bl (b : Bool) : isiD (.bl b) ["int"] = some true := by show kitAnyB "bool" ["int"] = some true; decide +kernel
theorem pair_no {d : D} (h : isiD d ["tuple"] = some false) : ∀ u, F_is_pair [d] u = some (.bl false, u) := fun u =>
  runB_rt (sc_rt (sRet_eq (mAnd_f (mIsi_eq rfl h) rfl)))
theorem pair_len {xs : List D} (h : xs.length ≠ 2) (few : xs.length ≤ 1000) : ∀ u, F_is_pair [.tup xs] u = some (.bl false, u) := fun u =>
  runB_rt (sc_rt (sRet_eq (mAnd_t (mIsi_eq rfl (isi_tt _)) rfl (mBin_eq (mBi_eq (c1 rfl) (len_t few)) rfl (by show some (D.bl (decide ((xs.length : Int) = 2))) = _; rw [decide_eq_false (by omega)])))))
theorem line_no {d : D} (h : ∀ u, F_is_pair [d] u = some (.bl false, u)) : ∀ u, F_is_line [d] u = some (.bl false, u) := fun u =>
  runB_rt (sc_rt (sRet_eq (mAnd_f (mCall_eq (c1 rfl) rfl (h u)) rfl)))
theorem num_no {d : D} (h : isiD d ["int"] = some false) : ∀ u, F_is_number [d] u = some (.bl false, u) := fun u =>
  runB_rt (sc_rt (sRet_eq (mAnd_f (mIsi_eq rfl h) rfl)))
theorem num_bl (b : Bool) : ∀ u, F_is_number [.bl b] u = some (.bl false, u) := fun u =>
  runB_rt (sc_rt (sRet_eq (mAnd_t (mIsi_eq rfl (isi_i_bl b)) rfl (mNot_eq (k := true) (mIsi_eq rfl (isi_b_bl b)) rfl))))
theorem line_num {x d : D} (hx : ∀ u, F_is_name [x] u = some (.bl true, u)) (h : ∀ u, F_is_number [d] u = some (.bl false, u)) : ∀ u, F_is_line [.tup [x, d]] u = some (.bl false, u) := fun u =>
  runB_rt (sc_rt (sRet_eq (mAnd_t (mCall_eq (c1 rfl) rfl pair_t) rfl (mAnd_t (mCall_eq (c1 (mBin_eq rfl rfl rfl)) rfl (hx u)) rfl (mAnd_f (mCall_eq (c1 (mBin_eq rfl rfl rfl)) rfl (h u)) rfl)))))
theorem line_nam {x d : D} (hx : ∀ u, F_is_name [x] u = some (.bl false, u)) : ∀ u, F_is_line [.tup [x, d]] u = some (.bl false, u) := fun u =>
  runB_rt (sc_rt (sRet_eq (mAnd_t (mCall_eq (c1 rfl) rfl pair_t) rfl (mAnd_f (mCall_eq (c1 (mBin_eq rfl rfl rfl)) rfl (hx u)) rfl))))
theorem name_long {x : Str} (h : 8 < x.length) (few : x.length ≤ 1000) : ∀ u, F_is_name [.str x] u = some (.bl false, u) := fun u => by
  have e2 : cLe (.int x.length) (.int 8) = some (.bl false) := by show some (D.bl (decide _)) = _; rw [decide_eq_false (by omega)]
  have e1 : cLe (.int 1) (.int x.length) = some (.bl true) := by show some (D.bl (decide _)) = _; rw [decide_eq_true (by omega)]
  exact runB_rt (sc_rt (sIf_t (mOrB_f (mNotB_eq (k := true) (mTru_eq (mIsi_eq rfl (isi_str x)) rfl)) (mNotB_eq (k := false) (mTru_eq (mChain_t rfl (mBi_eq (mCons_eq rfl mNil_eq) (len_str few)) e1 rfl e2) rfl))) (sc_rt (sRet_eq rfl))))
def q9 : Str := mulS "q" 9
def oddL (l m : Ln) : List D :=
  [.lst [lineD l, lineD m], .tup [lineL l, lineD m], .tup [lineD l, lineL m], .tup [lineD l], .tup [lineD l, lineD m, lineD m], .tup [.str l.1, lineD m], .tup [lineD l, .non], .non, .bl true, .int 0, .str "",
   .tup [.tup [.str l.1, .non], lineD m], .tup [.tup [.str l.1, .bl true], lineD m], .tup [lineD l, .tup [.str m.1, .bl true]], .tup [.tup [.str l.1, .str (toString l.2)], lineD m], .tup [.tup [], lineD m],
   .tup [.tup [.str l.1, .int l.2, .int 1], lineD m], .tup [lineD l, lineD ("nobody", 1)], .tup [lineD (q9, 1), lineD m], .tup [lineD (l.1, 0), lineD m], .tup [lineD l, lineD (m.1, 60)]]
theorem odd_ok {l m : Ln} {u : U} (h : l.2.natAbs.log2 < 1920) : F__law_odd [lineD l, lineD m] u = some (.lst (oddL l m), u) := by
  have hs : ∀ z, mBi bStrI (mCons (mBin ixD (mVar 0) (mC (.int (1)))) mNil) [Sl.pub (lineD l), .pub (lineD m), z] u = some (.str (toString l.2), u) := fun z => mBi_eq (c1 (mBin_eq rfl rfl (z := .int l.2) rfl)) (if_pos h)
  have hq : ∀ z, mBin fMulS (mC (.str ("q" : Str))) (mC (.int (9))) [Sl.pub (lineD l), .pub (lineD m), z] u = some (.str q9, u) := fun z => mBin_eq rfl rfl (by
    show (if (2 : Int) ≤ 9 ∧ (9 : Int) ≤ 1000 ∧ 1 ≤ ("q" : Str).length ∧ ("q" : Str).length ≤ 1000 then some (D.str (mulS ("q" : Str) (9 : Int).toNat)) else none) = _
    rw [if_pos (by decide +kernel)]; rfl)
  have i0 : ∀ z, mBin ixD (mVar 0) (mC (.int (0))) [Sl.pub (lineD l), .pub (lineD m), z] u = some (.str l.1, u) := fun z => rfl
  have i1 : ∀ z, mBin ixD (mVar 0) (mC (.int (1))) [Sl.pub (lineD l), .pub (lineD m), z] u = some (.int l.2, u) := fun z => rfl
  have j0 : ∀ z, mBin ixD (mVar 1) (mC (.int (0))) [Sl.pub (lineD l), .pub (lineD m), z] u = some (.str m.1, u) := fun z => rfl
  have v0 : ∀ z, mVar 0 [Sl.pub (lineD l), .pub (lineD m), z] u = some (lineD l, u) := fun z => rfl
  have v1 : ∀ z, mVar 1 [Sl.pub (lineD l), .pub (lineD m), z] u = some (lineD m, u) := fun z => rfl
  have b0 : ∀ z, mBi bList (mCons (mVar 0) mNil) [Sl.pub (lineD l), .pub (lineD m), z] u = some (lineL l, u) := fun z => mBi_eq (c1 (v0 z)) rfl
  have b1 : ∀ z, mBi bList (mCons (mVar 1) mNil) [Sl.pub (lineD l), .pub (lineD m), z] u = some (lineL m, u) := fun z => mBi_eq (c1 (v1 z)) rfl
  have t1 : ∀ {a : M} {x : D} z, a [Sl.pub (lineD l), .pub (lineD m), z] u = some (x, u) → mTup (mCons a mNil) [Sl.pub (lineD l), .pub (lineD m), z] u = some (.tup [x], u) := fun z h => mTup_eq (c1 h) (isiz (by simp))
  have t2 : ∀ {a b : M} {x y : D} z, a [Sl.pub (lineD l), .pub (lineD m), z] u = some (x, u) → b [Sl.pub (lineD l), .pub (lineD m), z] u = some (y, u) → mTup (mCons a (mCons b mNil)) [Sl.pub (lineD l), .pub (lineD m), z] u = some (.tup [x, y], u) := fun z h g => mTup_eq (mCons_eq h (c1 g)) (isiz (by simp))
  have t3 : ∀ {a b c : M} {x y w : D} z, a [Sl.pub (lineD l), .pub (lineD m), z] u = some (x, u) → b [Sl.pub (lineD l), .pub (lineD m), z] u = some (y, u) → c [Sl.pub (lineD l), .pub (lineD m), z] u = some (w, u) → mTup (mCons a (mCons b (mCons c mNil))) [Sl.pub (lineD l), .pub (lineD m), z] u = some (.tup [x, y, w], u) := fun z h g k => mTup_eq (mCons_eq h (mCons_eq g (c1 k))) (isiz (by simp))
  refine runB_rt (sc_nx (env' := [Sl.pub (lineD l), .pub (lineD m), .pub (.lst ((oddL l m).take 11))]) (u1 := u) (sSet_eq (mLst_eq (mCons_eq (mLst_eq (mCons_eq (v0 _) (c1 (v1 _))) (isiz (by simp))) (mCons_eq (t2 _ (b0 _) (v1 _)) (mCons_eq (t2 _ (v0 _) (b1 _)) (mCons_eq (t1 _ (v0 _)) (mCons_eq (t3 _ (v0 _) (v1 _) (v1 _)) (mCons_eq (t2 _ (i0 _) (v1 _)) (mCons_eq (t2 _ (v0 _) rfl) (mCons_eq rfl (mCons_eq rfl (mCons_eq rfl (c1 rfl))))))))))) (isiz (by show 11 ≤ 1000; decide)))) ?_)
  refine sc_nx (env' := [Sl.pub (lineD l), .pub (lineD m), .pub (.lst ((oddL l m).take 16))]) (u1 := u) (sSet_eq (mBin_eq rfl (mLst_eq (mCons_eq (t2 _ (t2 _ (i0 _) rfl) (v1 _)) (mCons_eq (t2 _ (t2 _ (i0 _) rfl) (v1 _)) (mCons_eq (t2 _ (v0 _) (t2 _ (j0 _) rfl)) (mCons_eq (t2 _ (t2 _ (i0 _) (hs _)) (v1 _)) (c1 (t2 _ rfl (v1 _))))))) (isiz (by simp))) (fAdd_l (by show 11 + 5 ≤ 1000; decide)))) ?_
  exact sc_rt (sRet_eq (mBin_eq rfl (mLst_eq (mCons_eq (t2 _ (t3 _ (i0 _) (i1 _) rfl) (v1 _)) (mCons_eq (t2 _ (v0 _) rfl) (mCons_eq (t2 _ (t2 _ (hq _) rfl) (v1 _)) (mCons_eq (t2 _ (t2 _ (i0 _) rfl) (v1 _)) (c1 (t2 _ (v0 _) (t2 _ (j0 _) rfl))))))) (isiz (by simp))) (fAdd_l (by show 16 + 5 ≤ 1000; decide))))
theorem num_le (ds : List Dd) (w : Wp) : numW ds w ≤ ds.length := by
  unfold numW manyOf
  refine Nat.le_trans List.countP_le_length ?_
  rw [List.length_take]; exact Nat.min_le_right _ _
theorem pool_az {y : Str} (h : (y.cps.toList.all fun c => decide (97 ≤ c ∧ c ≤ 122)) = true) : AZ y := fun c hc => of_decide_eq_true (List.all_eq_true.mp h c hc)
theorem odd_no {ds : List Dd} {a b : Wp} {u : U} (h : NmD ds) (hp : ∀ p ∈ ds, p.2 ∈ pool) (few : ds.length ≤ 30) (ha : a ∈ wr ds) (hb : b ∈ wr ds) : ∀ d ∈ oddL (lineOf ds a) (lineOf ds b), F_is_wish [progD ds, d] u = some (.bl false, u) := by
  have pa := part_w h ha
  have pb := part_w h hb
  obtain ⟨aza, a1, a8⟩ := wr_nm h ha
  obtain ⟨azb, b1, b8⟩ := wr_nm h hb
  have na : ∀ u, F_is_name [.str a.2] u = some (.bl true, u) := fun u => name_t aza a1 a8
  have nb : ∀ u, F_is_name [.str b.2] u = some (.bl true, u) := fun u => name_t azb b1 b8
  have no1 : decide ((("nobody" : Str), (1 : Int)) ∈ linG [] (writesOf ds)) = false := decide_eq_false fun z => by
    rw [lin_wr] at z
    obtain ⟨w, hw, e⟩ := List.mem_map.mp z
    have e : w.2 = ("nobody" : Str) := congrArg Prod.fst e
    have := hp _ (List.mem_of_getElem? (wr_mem hw).2)
    rw [show (true, w.2).2 = w.2 from rfl, e] at this
    have q : decide (("nobody" : Str) ∈ pool) = false := by decide +kernel
    rw [decide_eq_true this] at q
    cases q
  have no2 : decide ((a.2, (0 : Int)) ∈ linG [] (writesOf ds)) = false := decide_eq_false fun z => by have := (linG_pos _ _ _ z).1; omega
  have no3 : decide ((b.2, (60 : Int)) ∈ linG [] (writesOf ds)) = false := decide_eq_false fun z => by
    rw [lin_wr] at z
    obtain ⟨w, hw, e⟩ := List.mem_map.mp z
    have e : (numW ds w : Int) = 60 := congrArg Prod.snd e
    have := num_le ds w
    omega
  have p1 := part_in (ds := ds) (x := ("nobody" : Str)) (i := 1) h.tx (pool_az (by decide +kernel)) (by decide +kernel) (by decide +kernel)
  have p2 := part_in (ds := ds) (x := a.2) (i := 0) h.tx aza a1 a8
  have p3 := part_in (ds := ds) (x := b.2) (i := 60) h.tx azb b1 b8
  rw [no1] at p1
  rw [no2] at p2
  rw [no3] at p3
  intro d hd
  unfold oddL at hd
  simp only [List.mem_cons, List.not_mem_nil, or_false] at hd
  rcases hd with rfl | rfl | rfl | rfl | rfl | rfl | rfl | rfl | rfl | rfl | rfl | rfl | rfl | rfl | rfl | rfl | rfl | rfl | rfl | rfl | rfl
  · exact isw_odd (pair_no (isi_lt _))
  · exact isw_no (part_no (line_no (pair_no (isi_lt _)))) pb rfl
  · exact isw_no pa (part_no (line_no (pair_no (isi_lt _)))) rfl
  · exact isw_odd (pair_len (by simp) (by simp))
  · exact isw_odd (pair_len (by simp) (by simp))
  · exact isw_no (part_no (line_no (pair_no (isi_t_str _)))) pb rfl
  · exact isw_no pa (part_no (line_no (pair_no isi_t_non))) rfl
  · exact isw_odd (pair_no isi_t_non)
  · exact isw_odd (pair_no (isi_t_bl _))
  · exact isw_odd (pair_no (isi_t_int _))
  · exact isw_odd (pair_no (isi_t_str _))
  · exact isw_no (part_no (line_num na (num_no isi_i_non))) pb rfl
  · exact isw_no (part_no (line_num na (num_bl _))) pb rfl
  · exact isw_no pa (part_no (line_num nb (num_bl _))) rfl
  · exact isw_no (part_no (line_num na (num_no (isi_i_str _)))) pb rfl
  · exact isw_no (part_no (line_no (pair_len (by simp) (by simp)))) pb rfl
  · exact isw_no (part_no (line_no (pair_len (by simp) (by simp)))) pb rfl
  · exact isw_no pa p1 rfl
  · exact isw_no (part_no (line_nam (name_long (by decide +kernel) (by decide +kernel)))) pb rfl
  · exact isw_no p2 pb rfl
  · exact isw_no pa p3 rfl
end Lw65
namespace Lw65
open PySem PySem.Spec PyProof.Rows L2 Dv
theorem compL_mm {α : Type} {f : D → U → Option (Option D × U)} {g h : α → D} {u : U} {l : List α} (z : ∀ a ∈ l, f (g a) u = some (some (h a), u)) : compL f (l.map g) u = some (l.map h, u) := by
  have := compL_fm (f := f) (g := g) (h := h) (P := fun _ => true) (u := u) (l := l) fun a ha => by rw [if_pos rfl]; exact z a ha
  rw [filter_t] at this; exact this
theorem wish_mem {ds : List Dd} {gw : List (Wp × Wp)} (hg : gw.Perm (wishW ds)) {a b : Wp} (ha : a ∈ wr ds) (hb : b ∈ wr ds) : (LP ds (a, b) ∈ qsOf ds gw) ↔ wishB a b = true := by
  refine ⟨fun z => ?_, fun z => List.mem_map.mpr ⟨(a, b), hg.mem_iff.mpr (mem_wishW.mpr ⟨ha, hb, z⟩), rfl⟩⟩
  obtain ⟨p, hp, e⟩ := List.mem_map.mp z
  have hp' := mem_wishW.mp (hg.mem_iff.mp hp)
  have e1 : p.1 = a := lineOf_inj hp'.1 ha (congrArg Prod.fst e)
  have e2 : p.2 = b := lineOf_inj hp'.2.1 hb (congrArg Prod.snd e)
  rw [e1, e2] at hp'
  exact hp'.2.2
abbrev bodyL : MS := (sCons (sSet 7 (mLc (.one 6) [6] (mItems (mVar 4)) mYes (mCall 2 F_is_wish (mCons (mVar 2) (mCons (mTup (mCons (mVar 5) (mCons (mVar 6) mNil))) mNil)))))
    (sCons (sIf (mNotB (mTru (mCall 2 (FR__law_same 6) (mCons (mVar 7) (mCons (mLc (.one 6) [6] (mItems (mVar 4)) mYes (mBin cIn (mTup (mCons (mVar 5) (mCons (mVar 6) mNil))) (mVar 3))) mNil))))) (sCons (sRet (mC (.bl false)))
    sNil) sNil)
    sNil))
theorem loop_ok {ds : List Dd} {gw : List (Wp × Wp)} {lw : List Wp} {RD : D} {u : U} (h : NmD ds) (few : ds.length ≤ 30) (hg : gw.Perm (wishW ds)) (hl : lw.Perm (wr ds)) :
    ∃ y5 y7, forL (.one 5) bodyL (lw.map fun w => lineD (lineOf ds w)) [Sl.pub .urn, .pub RD, .pub (progD ds), .pub (.lst ((qsOf ds gw).map pD)), .pub (.lst (lw.map fun w => lineD (lineOf ds w))), .no, .no, .no, .no, .no, .no, .no, .no, .no] u
      = some (.nx [Sl.pub .urn, .pub RD, .pub (progD ds), .pub (.lst ((qsOf ds gw).map pD)), .pub (.lst (lw.map fun w => lineD (lineOf ds w))), y5, .no, y7, .no, .no, .no, .no, .no, .no], u) := by
  obtain ⟨GD, hGD⟩ : ∃ T, T = D.lst ((qsOf ds gw).map pD) := ⟨_, rfl⟩
  obtain ⟨LL, hLL⟩ : ∃ T, T = lw.map fun w => lineD (lineOf ds w) := ⟨_, rfl⟩
  have ll : lw.length ≤ 30 := by rw [hl.length_eq]; exact Nat.le_trans (wr_len _) few
  have cin : ∀ a b, a ∈ wr ds → b ∈ wr ds → cIn (.tup [lineD (lineOf ds a), lineD (lineOf ds b)]) GD = some (.bl (wishB a b)) := fun a b ha hb => by
    rw [hGD]
    have := pairCod.cinL (by decide) (a := LP ds (a, b)) (l := qsOf ds gw) ⟨wr_tx h.tx ha, wr_tx h.tx hb⟩ (fun q hq => by
      obtain ⟨p, hp, rfl⟩ := List.mem_map.mp hq
      exact wish_tx h.tx (hg.mem_iff.mp hp))
    show cIn (pD (LP ds (a, b))) _ = _
    rw [this]
    refine congrArg (fun z => some (D.bl z)) ?_
    rw [Bool.eq_iff_iff, decide_eq_true_iff]
    exact wish_mem hg ha hb
  rw [← hGD]
  obtain ⟨env', u', e, rfl, y5, y7, rfl⟩ := forX_inv (t := .one 5) (f := bodyL)
    (I := fun j env u' => u = u' ∧ ∃ y5 y7, env = [Sl.pub .urn, .pub RD, .pub (progD ds), .pub GD, .pub (.lst LL), y5, .no, y7, .no, .no, .no, .no, .no, .no])
    (ds := lw.map fun w => lineD (lineOf ds w)) (i := 0) (env := [Sl.pub .urn, .pub RD, .pub (progD ds), .pub GD, .pub (.lst LL), .no, .no, .no, .no, .no, .no, .no, .no, .no]) (u := u) (fun j hj env u1 hI => by
      obtain ⟨rfl, y5, y7, rfl⟩ := hI
      rw [List.length_map] at hj
      rw [List.getElem_map]
      obtain ⟨a, had⟩ : ∃ a, a = lw[j] := ⟨_, rfl⟩
      have ha : a ∈ wr ds := hl.mem_iff.mp (by rw [had]; exact List.getElem_mem hj)
      rw [← had]
      have c1' : ∀ y7, compL (turnL (.one 6) [6] [Sl.pub .urn, .pub RD, .pub (progD ds), .pub GD, .pub (.lst LL), .pub (lineD (lineOf ds a)), .no, y7, .no, .no, .no, .no, .no, .no] mYes (mCall 2 F_is_wish (mCons (mVar 2) (mCons (mTup (mCons (mVar 5) (mCons (mVar 6) mNil))) mNil)))) LL u = some (lw.map fun b => .bl (wishB a b), u) := fun y7 => by
        rw [hLL]
        exact compL_mm fun b hb => turnL_eq (env' := [Sl.pub .urn, .pub RD, .pub (progD ds), .pub GD, .pub (.lst (lw.map fun w => lineD (lineOf ds w))), .pub (lineD (lineOf ds a)), .pub (lineD (lineOf ds b)), y7, .no, .no, .no, .no, .no, .no]) rfl (mCall_eq (mCons_eq rfl (c1 (mTup_eq (mCons_eq rfl (c1 rfl)) (isiz (by simp))))) rfl (isw_ok h (by omega) ha (hl.mem_iff.mp hb)))
      have c2' : ∀ y7, compL (turnL (.one 6) [6] [Sl.pub .urn, .pub RD, .pub (progD ds), .pub GD, .pub (.lst LL), .pub (lineD (lineOf ds a)), .no, y7, .no, .no, .no, .no, .no, .no] mYes (mBin cIn (mTup (mCons (mVar 5) (mCons (mVar 6) mNil))) (mVar 3))) LL u = some (lw.map fun b => .bl (wishB a b), u) := fun y7 => by
        rw [hLL]
        exact compL_mm fun b hb => turnL_eq (env' := [Sl.pub .urn, .pub RD, .pub (progD ds), .pub GD, .pub (.lst (lw.map fun w => lineD (lineOf ds w))), .pub (lineD (lineOf ds a)), .pub (lineD (lineOf ds b)), y7, .no, .no, .no, .no, .no, .no]) rfl (mBin_eq (mTup_eq (mCons_eq rfl (c1 rfl)) (isiz (by simp))) rfl (cin a b ha (hl.mem_iff.mp hb)))
      have sm := same_ok (u := u) 5 (.lst (lw.map fun b => .bl (wishB a b))) (plain_l (n := 4) (fun d hd => by obtain ⟨b, _, rfl⟩ := List.mem_map.mp hd; rfl) (by rw [List.length_map]; omega))
      exact ⟨[Sl.pub .urn, .pub RD, .pub (progD ds), .pub GD, .pub (.lst LL), .pub (lineD (lineOf ds a)), .no, y7, .no, .no, .no, .no, .no, .no], [Sl.pub .urn, .pub RD, .pub (progD ds), .pub GD, .pub (.lst LL), .pub (lineD (lineOf ds a)), .no, .pub (.lst (lw.map fun b => .bl (wishB a b))), .no, .no, .no, .no, .no, .no], u, rfl,
        sc_nx (sSet_eq (mLc_eq (mItems_eq rfl rfl) (c1' _) (isiz (by rw [List.length_map]; omega)))) (sc_nx (sIf_f (mNotB_eq (k := true) (mTru_eq (mCall_eq (mCons_eq rfl (c1 (mLc_eq (mItems_eq rfl rfl) (c2' _) (isiz (by rw [List.length_map]; omega))))) rfl sm) rfl)) rfl) rfl), rfl, _, _, rfl⟩) ⟨rfl, .no, .no, rfl⟩
  rw [← hLL] at e ⊢
  exact ⟨y5, y7, e⟩
theorem lines_srt (ds : List Dd) : ∃ lw : List Wp, lw.Perm (wr ds) ∧ ∀ (env : List Sl) (m : M) (u : U), m env u = some (bornD ds, u) → mSortTP m env u = some (.lst (lw.map fun w => lineD (lineOf ds w)), u) := by
  obtain ⟨lw, e1, p1⟩ := perm_map_back (f := fun w => lineD (lineOf ds w)) (l := wr ds) (sortG_perm ((wr ds).map fun w => lineD (lineOf ds w)))
  refine ⟨lw, p1, fun env m u h => ?_⟩
  unfold mSortTP
  rw [h]
  show lft (sortP ((keyW ds ds.length).map rowD)) u = _
  have : (keyW ds ds.length).map rowD = ((wr ds).map (lineOf ds)).map lineD := by rw [List.map_map, List.map_map]; rfl
  rw [this]
  unfold sortP
  rw [toPys_map (f := lineD) (g := lineP) fun a _ => line_py a]
  show lft (if okG (((wr ds).map (lineOf ds)).map lineP) = true then some (D.lst (sortG (((wr ds).map (lineOf ds)).map lineD))) else none) u = _
  rw [if_pos (okG_lines _), List.map_map]
  show some (D.lst (sortG ((wr ds).map fun w => lineD (lineOf ds w))), u) = _
  rw [e1]
theorem goal_srt (ds : List Dd) : ∃ gw : List (Wp × Wp), gw.Perm (wishW ds) ∧ sortG ((wishL ds).map pD) = (qsOf ds gw).map pD := by
  obtain ⟨gw, e1, p1⟩ := perm_map_back (f := fun p => pD (LP ds p)) (l := wishW ds) (sortG_perm ((wishW ds).map fun p => pD (LP ds p)))
  refine ⟨gw, p1, ?_⟩
  unfold wishL
  rw [List.map_map, List.map_map]
  exact e1
end Lw65
namespace Lw65
open PySem PySem.Spec PyProof.Rows L2 Dv
def fls : List D := (List.replicate 21 [D.bl false]).flatten ++ [.bl true]
theorem kept_plain (ds : List Dd) (ws : List (Wp × Wp)) (few : ws.length ≤ 62) : plainN 4 (keptD ds ws) = true := by
  obtain ⟨ss, e1, p1, e2⟩ := sift_sort (hB ds) (qsOf ds ws)
  unfold keptD
  rw [e2]
  refine plain_row (f := pD) (fun _ => rfl) (Nat.le_trans (List.length_filter_le _ _) ?_)
  rw [p1.length_eq]
  have : ∀ l : List (Ln × Ln), (nubP l).length ≤ l.length := fun l => by
    induction l with
    | nil => exact Nat.le_refl _
    | cons a l ih =>
      unfold nubP
      split
      · rw [List.length_cons]; omega
      · rw [List.length_cons, List.length_cons]; omega
  exact Nat.le_trans (this _) (by rw [List.length_map]; omega)
theorem row_wishes {ds : List Dd} {gw : List (Wp × Wp)} : ∀ {xs : List D}, (∀ d ∈ xs, ∃ p ∈ gw, d = pD (LP ds p)) → ∃ ws : List (Wp × Wp), xs = (qsOf ds ws).map pD ∧ ws.length = xs.length ∧ ∀ p ∈ ws, p ∈ gw
  | [], _ => ⟨[], rfl, rfl, by simp⟩
  | d :: xs, h => by
    obtain ⟨p, hp, rfl⟩ := h d List.mem_cons_self
    obtain ⟨ws, rfl, l, hw⟩ := row_wishes fun e he => h e (List.mem_cons_of_mem _ he)
    exact ⟨p :: ws, rfl, by rw [List.length_cons, List.length_cons, l], fun q hq => by
      rcases List.mem_cons.mp hq with rfl | hq
      · exact hp
      · exact hw q hq⟩
theorem case_ok {n : Int} {ds : List Dd} {u : U} (ou : OkU n u) (hn : n ≤ 2 ^ 38) (hp : ∀ p ∈ ds, p.2 ∈ pool) (few : ds.length ≤ 8) : ∃ u', F__law_case_right [.urn, .tup (ds.map deedD)] u = some (.bl true, u') ∧ OkU (n + 10) u' := by
  have h : NmD ds := fun p hq => pool_nm _ (hp p hq)
  have f30 : ds.length ≤ 30 := by omega
  have f9 : ds.length ≤ 900 := by omega
  obtain ⟨gw, hg, eg⟩ := goal_srt ds
  obtain ⟨lw, hl, el⟩ := lines_srt ds
  have lw8 : (wr ds).length ≤ 8 := Nat.le_trans (wr_len _) few
  have lg : gw.length ≤ 64 := by
    rw [hg.length_eq]
    unfold wishW
    refine Nat.le_trans (List.length_filter_le _ _) ?_
    rw [cross_len]
    exact Nat.mul_le_mul lw8 lw8
  have wi := wished_ok (ds := ds) (u := u) f30
  have al := all_ok (ds := ds) (u := u) f30
  rw [eg] at wi al
  have pg := prog_t (ds := ds) (u := u) (by omega)
  obtain ⟨y5, y7, lp⟩ := loop_ok (ds := ds) (gw := gw) (lw := lw) (RD := .tup (ds.map deedD)) (u := u) h f30 hg hl
  have gtx : ∀ q ∈ qsOf ds gw, TxO q.1.1 ∧ TxO q.2.1 := fun q hq => by
    obtain ⟨p, hp, rfl⟩ := List.mem_map.mp hq
    exact wish_tx h.tx (hg.mem_iff.mp hp)
  have isn : cEq (.lst ((qsOf ds gw).map pD)) (.lst []) = some (.bl (decide (qsOf ds gw = []))) := eqL (b := []) pairCod (by decide) gtx (fun x hx => by cases hx)
  have samA := same_ok (u := u) 5 (.tup ((qsOf ds gw).map pD)) (plain_row (f := pD) (fun _ => rfl) (by rw [List.length_map]; omega))
  have st1 : sTgt (.many [2, 3]) (mTup (mCons (mCall 1 F_Program (mCons (mVar 1) mNil)) (mCons (mCall 1 F__law_wished (mCons (mVar 1) mNil)) mNil))) [Sl.pub .urn, .pub (.tup (ds.map deedD)), .no, .no, .no, .no, .no, .no, .no, .no, .no, .no, .no, .no] u = some (.nx [Sl.pub .urn, .pub (.tup (ds.map deedD)), .pub (progD ds), .pub (.lst ((qsOf ds gw).map pD)), .no, .no, .no, .no, .no, .no, .no, .no, .no, .no], u) :=
    sTgt_eq (mTup_eq (mCons_eq (mCall_eq (c1 rfl) rfl pg) (c1 (mCall_eq (c1 rfl) rfl wi))) (isiz (by simp))) rfl
  have st2 : sSet 4 (mSortTP (mCall 1 F__law_born (mCons (mVar 1) mNil))) [Sl.pub .urn, .pub (.tup (ds.map deedD)), .pub (progD ds), .pub (.lst ((qsOf ds gw).map pD)), .no, .no, .no, .no, .no, .no, .no, .no, .no, .no] u = some (.nx [Sl.pub .urn, .pub (.tup (ds.map deedD)), .pub (progD ds), .pub (.lst ((qsOf ds gw).map pD)), .pub (.lst (lw.map fun w => lineD (lineOf ds w))), .no, .no, .no, .no, .no, .no, .no, .no, .no], u) :=
    sSet_eq (el _ _ u (mCall_eq (c1 rfl) rfl (born_ok f9)))
  by_cases q : qsOf ds gw = []
  · rw [decide_eq_true q] at isn
    have k0 := kept_ok (ds := ds) (ws := []) (X := .tup []) (u := u) h f9 (by simp) (tup_pD (qs := []) (by simp)) (fun p hp => by cases hp)
    have ek : keptD ds [] = .tup [] := by
      unfold keptD
      show D.tup (sortG []) = _
      rfl
    rw [ek] at k0
    have samB := same_ok (u := u) 5 (.tup []) rfl
    refine ⟨u, runB_rt (sc_nx st1 (sc_nx st2 (sc_nx (sIf_f (mNotB_eq (k := true) (mTru_eq (mCall_eq (mCons_eq (mCall_eq (c1 rfl) rfl al) (c1 (mBi_eq (c1 rfl) rfl))) rfl samA) rfl)) rfl) (sc_nx (sFor_eq (mItems_eq rfl rfl) lp) ?_)))), ou.mono (by omega)⟩
    refine sc_rt (sIf_t (mTru_eq (mBin_eq rfl (mLst_eq (ds := []) rfl (isiz (by simp))) isn) rfl) (sc_rt (sRet_eq ?_)))
    exact mCall_eq (mCons_eq (mCall_eq (mCons_eq rfl (c1 (mTup_eq (ds := []) rfl (isiz (by simp))))) rfl (okF_eq k0)) (c1 (mTup_eq (ds := []) rfl (isiz (by simp))))) rfl samB
  · rw [decide_eq_false q] at isn
    have g0 : 0 < gw.length := by
      rcases Nat.eq_zero_or_pos gw.length with z | z
      · exact absurd (by rw [List.eq_nil_of_length_eq_zero z]; rfl) q
      · exact z
    obtain ⟨d, u1, e1, hd, o1⟩ := of_ok (ds := (qsOf ds gw).map pD) ou (by omega) (by rw [List.length_map, List.length_map]; omega) (by rw [List.length_map, List.length_map]; omega)
    obtain ⟨qq, hqq, rfl⟩ := List.mem_map.mp hd
    obtain ⟨⟨a, b⟩, hab, rfl⟩ := List.mem_map.mp hqq
    obtain ⟨ha, hb, hw⟩ := mem_wishW.mp (hg.mem_iff.mp hab)
    have od := odd_ok (l := lineOf ds a) (m := lineOf ds b) (u := u1) (by
      show ((numW ds a : Nat) : Int).natAbs.log2 < 1920
      rw [Int.natAbs_natCast]
      have := num_le ds a
      have := Nat.log2_le_self (numW ds a)
      omega)
    have on := fun u => odd_no (u := u) h hp f30 ha hb
    have yes : F_is_wish [progD ds, .tup [lineD (lineOf ds a), lineD (lineOf ds b)]] u1 = some (.bl true, u1) := by
      have := isw_ok (u := u1) h f9 ha hb
      rw [hw] at this; exact this
    obtain ⟨OL, hOL⟩ : ∃ T, T = oddL (lineOf ds a) (lineOf ds b) := ⟨_, rfl⟩
    have eO : OL.map (fun _ => D.bl false) = (List.replicate 21 [D.bl false]).flatten := by rw [hOL]; rfl
    have lO : OL.length = 21 := by rw [hOL]; rfl
    rw [← hOL] at od on
    have samC := same_ok (u := u1) 5 (.lst fls) (by decide +kernel)
    obtain ⟨r, u2, e2, r0, r1, o2⟩ := take_ok (low := 7) o1 (by omega) (by decide) (by decide)
    obtain ⟨c, rfl⟩ : ∃ c : Nat, r = c := ⟨r.toNat, by omega⟩
    obtain ⟨E8, hE8⟩ : ∃ E : List Sl, E = [Sl.pub .urn, .pub (.tup (ds.map deedD)), .pub (progD ds), .pub (.lst ((qsOf ds gw).map pD)), .pub (.lst (lw.map fun w => lineD (lineOf ds w))), .pub (lineD (lineOf ds a)), .pub (lineD (lineOf ds b)), y7, .pub (.lst OL), .no, .no, .no, .no, .no] := ⟨_, rfl⟩
    obtain ⟨xs, u3, e3, dl, dp, o3⟩ := compL_inv (f := turnL (.one 12) [12] E8 mYes (mCall 2 F__law_of (mCons (mVar 0) (mCons (mVar 3) mNil)))) (P := fun d => ∃ p ∈ gw, d = pD (LP ds p)) (I := fun i u => OkU (n + 2 + i) u) (N := 100) (ds := rangeD 0 c) (i := 0) (u := u2)
      (fun d hd i u hi oi => by
        obtain ⟨j, _, rfl⟩ := mem_rangeD hd
        obtain ⟨d, u', e, hd, o'⟩ := of_ok (ds := (qsOf ds gw).map pD) oi (by omega) (by rw [List.length_map, List.length_map]; omega) (by rw [List.length_map, List.length_map]; omega)
        obtain ⟨qq, hqq, rfl⟩ := List.mem_map.mp hd
        obtain ⟨p, hp, rfl⟩ := List.mem_map.mp hqq
        refine ⟨_, u', turnL_eq (env' := [Sl.pub .urn, .pub (.tup (ds.map deedD)), .pub (progD ds), .pub (.lst ((qsOf ds gw).map pD)), .pub (.lst (lw.map fun w => lineD (lineOf ds w))), .pub (lineD (lineOf ds a)), .pub (lineD (lineOf ds b)), y7, .pub (.lst OL), .no, .no, .no, .pub (.int (0 + j)), .no]) (by rw [hE8]; rfl) (mCall_eq (mCons_eq rfl (c1 rfl)) rfl e), ⟨p, hp, rfl⟩, o'.mono (by omega)⟩) (show OkU (n + 2 + 0) u2 from o2.mono (by omega)) (by rw [rangeD_len]; omega)
    rw [rangeD_len] at dl o3
    obtain ⟨ws, rfl, wl, hws⟩ := row_wishes dp
    have hws' : ∀ p ∈ ws, p ∈ wishW ds := fun p hp => hg.mem_iff.mp (hws p hp)
    have l6 : ws.length ≤ 62 := by rw [wl, dl]; omega
    have lq : (qsOf ds ws).length ≤ 62 := by rw [List.length_map]; exact l6
    have li := lists_pairs (qs := qsOf ds ws) (u := u3) (by omega)
    have kp : ∀ X, FR_tupled 6 [X] u3 = some (.tup ((qsOf ds ws).map pD), u3) → okF F_kept [progD ds, X] u3 = some (keptD ds ws, u3) := fun X hX => okF_eq (kept_ok h f9 l6 hX hws')
    have kA := kp _ (tup_pD (qs := qsOf ds ws) (u := u3) (by omega))
    have kB := kp _ (tup_pL (qs := qsOf ds ws) (u := u3) (by omega))
    have kC := kp _ (tup_pDl (qs := qsOf ds ws) (u := u3) (by omega))
    have kpl := kept_plain ds ws l6
    have samD := same_ok (u := u3) 5 (.lst [keptD ds ws, keptD ds ws, keptD ds ws]) (plain_l (n := 4) (fun d hd => by
      simp only [List.mem_cons, List.not_mem_nil, or_false] at hd
      rcases hd with rfl | rfl | rfl <;> exact kpl) (by simp))
    have wtx : ∀ q ∈ qsOf ds ws, TxO q.1.1 ∧ TxO q.2.1 := fun q hq => by
      obtain ⟨p, hp, rfl⟩ := List.mem_map.mp hq
      exact wish_tx h.tx (hws' p hp)
    have ls := pLs_self wtx
    have de : cEq (.tup (ds.map deedD)) (.tup (ds.map deedD)) = some (.bl true) := by
      show (eqD _ _).map D.bl = _
      rw [eq_deeds h.tx h.tx, decide_eq_true rfl]; rfl
    refine ⟨u3, runB_rt (sc_nx st1 (sc_nx st2 (sc_nx (sIf_f (mNotB_eq (k := true) (mTru_eq (mCall_eq (mCons_eq (mCall_eq (c1 rfl) rfl al) (c1 (mBi_eq (c1 rfl) rfl))) rfl samA) rfl)) rfl) (sc_nx (sFor_eq (mItems_eq rfl rfl) lp) ?_)))), o3.mono (by omega)⟩
    refine sc_nx (sIf_f (mTru_eq (mBin_eq rfl (mLst_eq (ds := []) rfl (isiz (by simp))) isn) rfl) rfl) ?_
    refine sc_nx (env' := [Sl.pub .urn, .pub (.tup (ds.map deedD)), .pub (progD ds), .pub (.lst ((qsOf ds gw).map pD)), .pub (.lst (lw.map fun w => lineD (lineOf ds w))), .pub (lineD (lineOf ds a)), .pub (lineD (lineOf ds b)), y7, .no, .no, .no, .no, .no, .no]) (u1 := u1) (sTgt_eq (mCall_eq (mCons_eq rfl (c1 rfl)) rfl e1) rfl) ?_
    refine sc_nx (env' := E8) (u1 := u1) (by rw [hE8]; exact sSet_eq (mCall_eq (mCons_eq rfl (c1 rfl)) rfl od)) ?_
    have cO : compL (turnL (.one 13) [13] E8 mYes (mCall 2 F_is_wish (mCons (mVar 2) (mCons (mVar 13) mNil)))) OL u1 = some (OL.map fun _ => .bl false, u1) := compL_pure (g := fun _ => .bl false) fun d hd => by
      rw [hE8]
      exact turnL_eq (env' := [Sl.pub .urn, .pub (.tup (ds.map deedD)), .pub (progD ds), .pub (.lst ((qsOf ds gw).map pD)), .pub (.lst (lw.map fun w => lineD (lineOf ds w))), .pub (lineD (lineOf ds a)), .pub (lineD (lineOf ds b)), y7, .pub (.lst OL), .no, .no, .no, .no, .pub d]) rfl (mCall_eq (mCons_eq rfl (c1 rfl)) rfl (on u1 d hd))
    have vL : mBin fAdd (mLc (.one 13) [13] (mItems (mVar 8)) mYes (mCall 2 F_is_wish (mCons (mVar 2) (mCons (mVar 13) mNil)))) (mLst (mCons (mCallP 2 [1, 0] F_is_wish (mCons (mTup (mCons (mVar 5) (mCons (mVar 6) mNil))) (mCons (mVar 2) mNil))) mNil)) E8 u1 = some (.lst fls, u1) := by
      have a1 : fAdd (.lst (OL.map fun _ => D.bl false)) (.lst [.bl true]) = some (.lst fls) := by rw [fAdd_l (by rw [List.length_map, lO]; decide), eO]; rfl
      exact mBin_eq (mLc_eq (mItems_eq (x := .lst OL) (by rw [hE8]; rfl) rfl) cO (isiz (by rw [List.length_map, lO]; decide))) (mLst_eq (c1 (mCallP_eq (ds := [.tup [lineD (lineOf ds a), lineD (lineOf ds b)], progD ds]) (mCons_eq (mTup_eq (mCons_eq (by rw [hE8]; rfl) (c1 (by rw [hE8]; rfl))) (isiz (by simp))) (c1 (by rw [hE8]; rfl))) ⟨rfl, rfl⟩ yes)) (isiz (by simp))) a1
    have vR : mBin fAdd (mBin fMul (mLst (mCons (mC (.bl false)) mNil)) (mBi bLen (mCons (mVar 8) mNil))) (mLst (mCons (mC (.bl true)) mNil)) E8 u1 = some (.lst fls, u1) := by
      have m1 : fMul (.lst [.bl false]) (.int 21) = some (.lst (List.replicate 21 [D.bl false]).flatten) := by
        show (if -(2 ^ 63 : Int) ≤ 21 ∧ (21 : Int) < 2 ^ 63 ∧ [D.bl false].length * (21 : Int).toNat ≤ sizeLine then some (D.lst (List.replicate (21 : Int).toNat [D.bl false]).flatten) else none) = _
        rw [if_pos ⟨by decide, by decide, isiz (by decide)⟩]; rfl
      have b1 : bLen [.lst OL] = some (.int 21) := by rw [show (21 : Int) = (OL.length : Nat) by rw [lO]; rfl]; rfl
      exact mBin_eq (mBin_eq (mLst_eq (c1 rfl) (isiz (by simp))) (mBi_eq (c1 (by rw [hE8]; rfl)) b1) m1) (mLst_eq (c1 rfl) (isiz (by simp))) (fAdd_l (by decide))
    refine sc_nx (env' := E8) (u1 := u1) (sIf_f (mNotB_eq (k := true) (mTru_eq (mCall_eq (mCons_eq vL (c1 vR)) rfl samC) rfl)) rfl) ?_
    have mr : mRange1 (mCall 2 F__law_take (mCons (mVar 0) (mCons (mC (.int (7))) mNil))) E8 u1 = some (rangeD 0 c, u2) := by
      have := mRange1_eq (a := mCall 2 F__law_take (mCons (mVar 0) (mCons (mC (.int (7))) mNil))) (env := E8) (u := u1) (u1 := u2) (j := (c : Int)) (mCall_eq (mCons_eq (by rw [hE8]; rfl) (c1 rfl)) rfl e2) ⟨by omega, by omega⟩
      rw [Int.toNat_natCast] at this; exact this
    refine sc_nx (env' := [Sl.pub .urn, .pub (.tup (ds.map deedD)), .pub (progD ds), .pub (.lst ((qsOf ds gw).map pD)), .pub (.lst (lw.map fun w => lineD (lineOf ds w))), .pub (lineD (lineOf ds a)), .pub (lineD (lineOf ds b)), y7, .pub (.lst OL), .pub (.lst ((qsOf ds ws).map pD)), .no, .no, .no, .no]) (u1 := u3) ?_ ?_
    · have := sSet_eq (i := 9) (mLc_eq (mr) e3 (isiz (by rw [List.length_map]; omega)))
      rw [this, hE8]; rfl
    refine sc_nx (env' := [Sl.pub .urn, .pub (.tup (ds.map deedD)), .pub (progD ds), .pub (.lst ((qsOf ds gw).map pD)), .pub (.lst (lw.map fun w => lineD (lineOf ds w))), .pub (lineD (lineOf ds a)), .pub (lineD (lineOf ds b)), y7, .pub (.lst OL), .pub (.lst ((qsOf ds ws).map pD)), .pub (.lst ((qsOf ds ws).map pL)), .no, .no, .no]) (u1 := u3) (sSet_eq (mCall_eq (c1 rfl) rfl li)) ?_
    refine sc_nx (env' := [Sl.pub .urn, .pub (.tup (ds.map deedD)), .pub (progD ds), .pub (.lst ((qsOf ds gw).map pD)), .pub (.lst (lw.map fun w => lineD (lineOf ds w))), .pub (lineD (lineOf ds a)), .pub (lineD (lineOf ds b)), y7, .pub (.lst OL), .pub (.lst ((qsOf ds ws).map pD)), .pub (.lst ((qsOf ds ws).map pL)), .pub (keptD ds ws), .no, .no]) (u1 := u3) (sSet_eq (due_ok h.tx f9 l6 hws' rfl rfl ⟨_, _, _, _, _, _, _, _, _, _, _, _, rfl⟩)) ?_
    refine sc_nx (env' := [Sl.pub .urn, .pub (.tup (ds.map deedD)), .pub (progD ds), .pub (.lst ((qsOf ds gw).map pD)), .pub (.lst (lw.map fun w => lineD (lineOf ds w))), .pub (lineD (lineOf ds a)), .pub (lineD (lineOf ds b)), .pub (.lst [keptD ds ws, keptD ds ws, keptD ds ws]), .pub (.lst OL), .pub (.lst ((qsOf ds ws).map pD)), .pub (.lst ((qsOf ds ws).map pL)), .pub (keptD ds ws), .no, .no]) (u1 := u3) (sSet_eq (mLst_eq (mCons_eq (mCall_eq (mCons_eq rfl (c1 (mBi_eq (c1 rfl) rfl))) rfl kA) (mCons_eq (mCall_eq (mCons_eq rfl (c1 rfl)) rfl kB) (c1 (mCallP_eq (mCons_eq rfl (c1 rfl)) ⟨rfl, rfl⟩ kC)))) (isiz (by simp)))) ?_
    exact sc_rt (sRet_eq (mAnd_t (mCall_eq (mCons_eq rfl (c1 (mBin_eq (mLst_eq (c1 rfl) (isiz (by simp))) rfl mul3))) rfl samD) rfl (mAnd_t (mBin_eq rfl (mCall_eq (c1 rfl) rfl li) ls) rfl (mBin_eq (mPrp_eq rfl deeds_eq) rfl de))))
end Lw65
namespace Lw65
open PySem PySem.Spec PyProof.Rows L2 Dv
theorem right_ok {u : U} (h : OkU 0 u) : ∃ u', F__law_right [.urn] u = some (.bl true, u') := by
  obtain ⟨xs, u', e, dl, dp, o'⟩ := compL_inv (f := turnL (.one 1) [1] [Sl.pub .urn, .no] mYes (mCall 2 F__law_case_right (mCons (mVar 0) (mCons (mCall 3 F__law_deeds (mCons (mVar 0) (mCons (mCall 2 F__law_tags (mCons (mVar 0) (mCons (mC (.int (3))) mNil))) (mCons (mCall 2 F__law_take (mCons (mVar 0) (mCons (mC (.int (9))) mNil))) mNil)))) mNil)))) (P := fun d => d = .bl true) (I := fun i u => OkU (i * 60) u) (N := 6) (ds := rangeD 0 6) (i := 0) (u := u)
    (fun d hd i u hi ou => by
      obtain ⟨j, _, rfl⟩ := mem_rangeD hd
      obtain ⟨ts, u2, t2, tl, tp, o2⟩ := tags_ok (c := 3) ou (by omega) (by omega)
      obtain ⟨r3, u3, t3, r30, r31, o3⟩ := take_ok (low := 9) o2 (by omega) (by decide) (by decide)
      obtain ⟨c, rfl⟩ : ∃ c : Nat, r3 = c := ⟨r3.toNat, by omega⟩
      obtain ⟨ds, u4, t4, dl, dm, o4⟩ := deeds_ok (ts := ts) (c := c) o3 (by omega) (by omega) (by omega)
      obtain ⟨u5, t5, o5⟩ := case_ok (ds := ds) o4 (by omega) (fun p hp => tp _ (dm p hp)) (by omega)
      exact ⟨.bl true, u5, turnL_eq (env' := [Sl.pub .urn, .pub (.int (0 + j))]) rfl (mCall_eq (mCons_eq rfl (c1 (mCall_eq (mCons_eq rfl (mCons_eq (mCall_eq (mCons_eq rfl (c1 rfl)) rfl t2) (c1 (mCall_eq (mCons_eq rfl (c1 rfl)) rfl t3)))) rfl t4))) rfl t5), rfl, o5.mono (by omega)⟩) (by simpa using h) (by decide)
  have e3 : xs = xs.map fun _ => D.bl true := by
    have : ∀ l : List D, (∀ x ∈ l, x = D.bl true) → l = l.map fun _ => D.bl true := fun l => by
      induction l with
      | nil => intro _; rfl
      | cons x l ih => intro hh; rw [List.map_cons, ← ih fun y hy => hh y (List.mem_cons_of_mem _ hy), hh x List.mem_cons_self]
    exact this xs dp
  rw [rangeD_len] at dl
  refine ⟨u', runB_rt (sc_rt (sRet_eq (mBi_eq (c1 (mLc_eq (mRange1_eq rfl (by decide)) e (isiz (by omega)))) ?_)))⟩
  rw [e3]; exact bAll_ts xs
end Lw65
namespace Lw65
open PySem PySem.Spec PyProof.Rows L2 Dv
theorem fPow_s {i j : Int} (h : 0 ≤ j ∧ j ≤ 1000000 ∧ i.natAbs < 2 ^ 64) : fPow (.int i) (.int j) = some (.int (i ^ j.toNat)) := by simp only [fPow]; rw [if_pos h]
theorem box_ok {cs : List Int} {k : Nat} {u : U} (hk : k < cs.length) (h3 : cs.length ≤ 8) : ∃ a b : Int, F__law_box [.lst (cs.map .int), .int k] u = some (.lst [.int a, .int b, .int 0], u) ∧ 0 ≤ a ∧ 0 ≤ b ∧ b < 2 ^ 62 := by
  have hix : ixD (.lst (cs.map .int)) (.int k) = some (.int cs[k]) := by
    show atI (cs.map D.int) (k : Int) = _
    refine atI_nat ?_
    rw [List.getElem?_map, List.getElem?_eq_getElem hk]; rfl
  have hlen : bLen [.lst (cs.map .int)] = some (.int cs.length) := by
    show some (D.int ((cs.map D.int).length : Int)) = _
    rw [List.length_map]
  have hlt : cLt (.int k) (.int cs.length) = some (.bl true) := by
    show some (D.bl (decide _)) = _
    rw [decide_eq_true (by omega)]
  obtain ⟨c, hc⟩ : ∃ c, c = cs[k] := ⟨_, rfl⟩
  rw [← hc] at hix
  obtain ⟨m, hm⟩ : ∃ m, m = if c < 0 then -c else c := ⟨_, rfl⟩
  have hm0 : 0 ≤ m := by rw [hm]; split <;> omega
  have habs : bAbs [.int c] = some (.int m) := by rw [hm]; rfl
  obtain ⟨g, hg⟩ : ∃ g : Bool, g = decide ((10 : Int) ^ 18 ≤ m) := ⟨_, rfl⟩
  have hge : cGe (.int m) (.int ((10 : Int) ^ (18 : Int).toNat)) = some (.bl g) := by rw [hg]; rfl
  have hmul : fMul (.int m) (.int (if g then 1 else 0)) = some (.int (m * (if g then 1 else 0))) := fMul_r (by cases g <;> decide)
  have hmod := fMod_p (i := c) (j := 2305843009213693951) (by decide)
  have hmk := fMul_r (i := 39373) (j := (k : Int)) (by omega)
  have h1 := Int.emod_nonneg c (show (2305843009213693951 : Int) ≠ 0 by decide)
  have h2 := Int.emod_lt_of_pos c (show (0 : Int) < 2305843009213693951 by decide)
  refine ⟨m * (if g then 1 else 0), c % 2305843009213693951 + 39373 * k + 824165, runB_rt (sc_nx (sSet_eq (mIte_t (mTru_eq (mBin_eq rfl (mBi_eq (c1 rfl) hlen) hlt) rfl) (mBin_eq rfl rfl hix))) (sc_rt (sRet_eq (mLst_eq (mCons_eq (mBin_eq (mBi_eq (c1 rfl) habs) (mBi_eq (c1 (mBin_eq (mBi_eq (c1 rfl) habs) (mBin_eq rfl rfl (fPow_s (by decide))) hge)) rfl) hmul) (mCons_eq (mBin_eq (mBin_eq (mBin_eq (mBi_eq (c1 rfl) rfl) rfl hmod) (mBin_eq rfl rfl hmk) rfl) rfl rfl) (c1 rfl))) (isiz (by simp)))))), ?_, by omega, by omega⟩
  cases g <;> simp <;> omega
abbrev s__law_cells : Stmt := topS 34
theorem sc__law_cells : FnScope [("_law_script" : Str), ("_law_top" : Str), ("_law_cells_here" : Str), ("_law_k" : Str), ("_law_cell" : Str), ("_law_at_so" : Str)] [("_law_script" : Str), ("_law_top" : Str)] (defScope s__law_cells) := ⟨rfl, rfl, rfl, by decide +kernel, rfl, by decide +kernel, by decide +kernel⟩
def spCells (K : PySem.W.Frag) : Sp := fun vs H Q _ => ∃ (a : Addr) (ns : List Int) (top : Nat), vs = [.ref a, .int top] ∧ SqL K H a (ns.map V.int) ∧ 1 ≤ top ∧ top ≤ 8 ∧ ns.length ≤ 63 ∧
  ∀ H' p (cs : List Int), Same H H' → H' p = some (.lst (cs.map V.int)) → 1 ≤ cs.length → cs.length ≤ 8 → Q (.ref p) H'
theorem cut_ints (ns : List Int) (lo hi : Option Int) : cutV (ns.map V.int) lo hi = ((ns.drop (HT.sIx ns.length 0 lo)).take (HT.sIx ns.length ns.length hi - HT.sIx ns.length 0 lo)).map V.int := by
  unfold cutV
  rw [List.length_map, List.map_take, List.map_drop]
theorem ok__law_cells {P : Program} {w : World} {K : PySem.W.Frag} {mg : Str → Option Value} {base : Heap} {f : Addr} {fd : FuncData} (F : Fun K ("_law_cells" : Str) ("_law_cells" : Str) s__law_cells f fd) (nl : mg ("list" : Str) = none) (ne : mg ("enumerate" : Str) = none) (ni : mg ("int" : Str) = none) :
    FnOk P w K mg base CX0 1 f fd [("_law_script" : Str), ("_law_top" : Str)] (spCells K) := by
  have nd := sc__law_cells.nd
  refine F.ok sc__law_cells (fun vs H Q E h => ?_) (fun cdv A outer s H vs Q E hr h => ?_)
  · obtain ⟨a, ns, top, rfl, _⟩ := h; rfl
  · obtain ⟨a, ns, top, rfl, hS, ht1, ht8, hl, q⟩ := h
    refine ⟨_, pss_cons (ps_set (i := 2) nd rfl (Or.inl rfl) (pe_orT (pe_callTy call_list_of (by rfl) nl (by decide +kernel) (pa_cons (pe_slice sl_list (pv 0) po_none (po_some (pv 1))) pa_nil)) (pe_one (pe_lst (pa_cons pe_int pa_nil)))))
      (pss_cons (ps_for PassesOwn.never rfl (pi_enum (by rfl) ne (pa_cons (pe_slice sl_list (pv 0) (po_some (pv 1)) (po_some pe_int)) pa_nil)) (pg_tup rfl (pgs_cons (pg_name (i := 3) nd rfl (Or.inl rfl)) (pgs_cons (pg_name (i := 4) nd rfl (Or.inl rfl)) pgs_nil)))
        (pss_cons (ps_set (i := 5) nd rfl (Or.inl rfl) (pe_op op_mod (pe_callTy call_int1 (by rfl) ni (by decide +kernel) (pa_cons (pv 3) pa_nil)) (pv 1)))
        (pss_one (ps_asg (pe_op op_add (pe_ix ix_list (pv 2) (pv 5) (fun _ _ => rfl)) (pe_op op_mul (pv 4) (pe_op op_add (pv 3) pe_int))) (pg_sub (pv 2) (pv 5) set_list)))))
      (pss_one (ps_ret (pv 2)))), ?_⟩
    -- what follows the first statement, for the list at p
    have rest : ∀ (H1 : Hp) (p : Addr) (cs : List Int), Same H H1 → H p = none → H1 p = some (.lst (cs.map V.int)) → 1 ≤ cs.length → cs.length ≤ 8 → (top < ns.length → cs.length = top) →
        tSeq (tFor (iEnum K (tCons (tSl (rSlL K) (tVar 0) (tPart (tVar 1)) (tPart (tC (.int 63)))) tNil)) (gTup K 2 (gCons (gName 3) (gCons (gName 4) gNil)))
          (tSeq (tAsg (tOp (rI (fun _ j => 0 < j) fun i j => .int (i % j)) (tCB (fun xs H Q => (∃ i, xs = [V.int i] ∧ Q (.int i) H) ∨ ∃ k, xs = [V.bl k] ∧ Q (.int (if k then 1 else 0)) H) (tCons (tVar 3) tNil)) (tVar 1)) (gName 5))
            (tAsg (tOp (rI0 fun i j => .int (i + j)) (tOp (rIxL K) (tVar 2) (tVar 5)) (tOp (rI CMul fun i j => .int (i * j)) (tVar 4) (tOp (rI0 fun i j => .int (i + j)) (tVar 3) (tC (.int 2))))) (gSub (tVar 2) (tVar 5) rSetL)))) (tRet (tVar 2))
          { nx := fun _ H' => Q .non H', rt := Q } [some (.ref a), some (.int top), some (.ref p), none, none, none] H1 := by
      intro H1 p cs s1 np ep c1 c8 ct
      refine ⟨_, rfl, _, rfl, (top : Int), rfl, 63, rfl, a, ns.map V.int, rfl, s1.seq hS, fun r nr => ?_⟩
      rw [cut_ints]
      obtain ⟨zs, hzs⟩ : ∃ zs, zs = (ns.drop (HT.sIx ns.length 0 (some (top : Int)))).take (HT.sIx ns.length ns.length (some 63) - HT.sIx ns.length 0 (some (top : Int))) := ⟨_, rfl⟩
      rw [← hzs]
      have hne : 0 < zs.length → top < ns.length := fun h => by
        rw [hzs, List.length_take, List.length_drop, HT.sIx_nat] at h
        omega
      have nrp : r ≠ p := fun e => by subst e; rw [ep] at nr; cases nr
      refine ⟨r, zs.map V.int, rfl, .of upd_same, ?_⟩
      refine ⟨fun i m σ H2 => ∃ (cs2 : List Int) (y3 y4 y5 : Option V), σ = [some (.ref a), some (.int top), some (.ref p), y3, y4, y5] ∧ i + m = zs.length ∧ Same H H2 ∧ H2 p = some (.lst (cs2.map V.int)) ∧ cs2.length = cs.length ∧ H2 r = some (.lst (zs.map V.int)),
        ⟨zs.length, cs, none, none, none, rfl, by omega, fun b o e => same_new nr b o (s1 b o e), by rw [upd_ne nrp.symm]; exact ep, rfl, upd_same⟩, fun i m σ H2 hW => ?_⟩
      obtain ⟨cs2, y3, y4, y5, rfl, em, s2, ep2, el, er⟩ := hW
      by_cases hi : i < zs.length
      · have g1 : (zs.map V.int)[i]? = some (.int zs[i]) := by rw [List.getElem?_map, List.getElem?_eq_getElem hi]; rfl
        refine .inr ⟨⟨_, _, .of er, g1⟩, fun σ' H' => ∃ (cs2 : List Int) (y3 y4 y5 : Option V), σ' = [some (.ref a), some (.int top), some (.ref p), y3, y4, y5] ∧ Same H H' ∧ H' p = some (.lst (cs2.map V.int)) ∧ cs2.length = cs.length ∧ H' r = some (.lst (zs.map V.int)),
          fun σ' H' ⟨z1, z2, z3, z4, e1, e2, e3, e4, e5⟩ => ⟨m - 1, by omega, z1, z2, z3, z4, e1, by omega, e2, e3, e4, e5⟩, fun x H3 hy => ?_⟩
        obtain ⟨T, x1, rfl, nT, rfl, f1⟩ := hy
        have ex1 : x1 = .int zs[i] := Option.some.inj ((f1 _ (.of er)).symm.trans g1)
        subst ex1
        have hlen : cs2.length = top := by rw [el]; exact ct (hne (by omega))
        have hTp : p ≠ T := ne_of_none ep2 nT
        have hTr : r ≠ T := ne_of_none er nT
        refine ⟨T, _, rfl, .of upd_same, rfl, _, _, rfl, _, _, rfl, rfl, ?_⟩
        have hmod0 : 0 ≤ (i : Int) % (top : Int) := Int.emod_nonneg _ (by omega)
        have hmod1 : (i : Int) % (top : Int) < top := Int.emod_lt_of_pos _ (by omega)
        obtain ⟨j, hj⟩ : ∃ j : Nat, (i : Int) % (top : Int) = j := ⟨((i : Int) % (top : Int)).toNat, by omega⟩
        have hjl : j < cs2.length := by omega
        have hitl : zs.length ≤ 63 := by rw [hzs, List.length_take, List.length_drop]; omega
        refine ⟨_, rfl, .inl ⟨(i : Int), rfl, _, rfl, (i : Int), (top : Int), rfl, rfl, by omega, ?_⟩⟩
        have ep3 : upd H2 T (.tup [.int i, .int zs[i]]) p = some (.lst (cs2.map V.int)) := by rw [upd_ne hTp]; exact ep2
        refine ⟨_, rfl, _, rfl, p, cs2.map V.int, (i : Int) % (top : Int), .int cs2[j], rfl, rfl, .of ep3, by rw [hj]; exact atI_nat (by rw [List.getElem?_map, List.getElem?_eq_getElem hjl]; rfl), ?_⟩
        refine ⟨_, rfl, _, rfl, (i : Int), 2, rfl, rfl, zs[i], (i : Int) + 2, rfl, rfl, .inr (by omega), cs2[j], zs[i] * ((i : Int) + 2), rfl, rfl, ?_⟩
        refine ⟨_, rfl, _, rfl, p, cs2.map V.int, (i : Int) % (top : Int), j, rfl, rfl, ep3, ?_, ?_⟩
        · rw [hj]
          unfold ixN
          rw [if_pos (by omega), if_pos (by rw [List.length_map]; omega)]
          rfl
        · refine ⟨cs2.set j (cs2[j] + zs[i] * ((i : Int) + 2)), _, _, _, rfl, fun b o e => ?_, ?_, by rw [List.length_set]; exact el, ?_⟩
          · rw [upd_ne (ne_of_none e np)]
            exact same_new nT b o (s2 b o e)
          · rw [upd_same, List.map_set]
          · rw [upd_ne nrp, upd_ne hTr]; exact er
      · refine .inl ⟨⟨_, .of er, by rw [List.length_map]; omega⟩, ?_⟩
        exact ⟨_, rfl, q H2 p cs2 s2 ep2 (by omega) (by omega)⟩
    -- cells_here = list(script[:top]) or [0]
    refine ⟨_, rfl, _, rfl, (top : Int), rfl, a, ns.map V.int, rfl, hS, fun r nr => ?_⟩
    rw [cut_ints, HT.sIx_none, HT.sIx_nat, List.drop_zero, Nat.sub_zero]
    refine ⟨r, _, rfl, .inl (.of upd_same), fun p np => ?_⟩
    have s1 : Same H (upd H r (.lst ((ns.take (min top ns.length)).map V.int))) := same_new nr
    have np0 : H p = none := s1.free np
    have s2 : Same H (upd (upd H r (.lst ((ns.take (min top ns.length)).map V.int))) p (.lst ((ns.take (min top ns.length)).map V.int))) := fun b o e => same_new np b o (s1 b o e)
    refine ⟨!((ns.take (min top ns.length)).map V.int).isEmpty, .inl ⟨_, .of upd_same, rfl⟩, ?_⟩
    cases hns : ns with
    | nil =>
      have e0 : (!((ns.take (min top ns.length)).map V.int).isEmpty) = false := by rw [hns, List.take_nil]; rfl
      rw [← hns, e0]
      refine iteF ⟨by decide, fun p2 np2 => ?_⟩
      have np20 : H p2 = none := s2.free np2
      exact rest _ p2 [0] (fun b o e => same_new np2 b o (s2 b o e)) np20 upd_same (by decide) (by decide) (fun h => by rw [hns] at h; simp at h)
    | cons n0 nr0 =>
      have hlen : (ns.take (min top ns.length)).length = min top ns.length := by rw [List.length_take]; omega
      have hn0 : 0 < ns.length := by rw [hns]; simp
      have : (!((ns.take (min top ns.length)).map V.int).isEmpty) = true := by
        cases hh : ns.take (min top ns.length) with
        | nil => rw [hh] at hlen; simp at hlen; omega
        | cons _ _ => rfl
      rw [← hns, this]
      exact iteT (rest _ p _ s2 np0 upd_same (by rw [hlen]; omega) (by rw [hlen]; omega) (fun h => by rw [hlen]; omega))
end Lw65
namespace Lw65
open PySem PySem.Spec PyProof.Rows L2 Dv
def isT (o : Option (D × U)) : Bool := match o with
  | some (.bl true, _) => true
  | _ => false
theorem hand_ok : ∃ u', F__law_by_hand_right [] ⟨0, 0, 0⟩ = some (.bl true, u') := by
  have h : isT (F__law_by_hand_right [] ⟨0, 0, 0⟩) = true := by decide +kernel
  unfold isT at h
  split at h
  · exact ⟨_, ‹_›⟩
  · cases h
abbrev s_law : Stmt := topS 49
theorem sc_law : FnScope [("_law_script" : Str), ("_law_cells_here" : Str), ("_law_k" : Str)] [("_law_script" : Str)] (defScope s_law) := ⟨rfl, rfl, rfl, by decide +kernel, rfl, by decide +kernel, by decide +kernel⟩
def spLaw (K : PySem.W.Frag) : Sp := fun vs H Q _ => ∃ (a : Addr) (ns : List Int), vs = [.ref a] ∧ SqL K H a (ns.map V.int) ∧ ns.length ≤ 63 ∧ ∀ H', Q (.bl true) H'
theorem vint_reps {K : PySem.W.Frag} {G : Gx K} {ua : Option Addr} {B : Hp} (cs : List Int) : Reps G ua (cs.map D.int) (cs.map V.int) B := Reps.ints
theorem env_noN {K : PySem.W.Frag} {G : Gx K} {ua : Option Addr} {B H : Hp} {n : Nat} {σ : List (Option V)} (h : σ.length = n) : EnvOk G ua (List.replicate n Sl.no) σ B H := by
  have hno : ∀ (i : Nat) x, (List.replicate n Sl.no)[i]? = some x → x = Sl.no := fun i x e => by
    rw [List.getElem?_replicate] at e
    split at e
    · exact (Option.some.inj e).symm
    · cases e
  exact ⟨by rw [List.length_replicate, h], fun i d e => (by have := hno i _ e; cases this), fun i d e => (by have := hno i _ e; cases this), fun i j a b p e => (by have := hno i _ e; cases this)⟩
theorem ok_law {P : Program} {w : World} {K : PySem.W.Frag} {mg : Str → Option Value} {base : Heap} {G : Gx K} (T : Tx mg) {f : Addr} {fd : FuncData} (F : Fun K ("law" : Str) ("law" : Str) s_law f fd)
    {fc : Addr} {fdc : FuncData} (FC : FnOk P w K mg base CX0 1 fc fdc [("_law_script" : Str), ("_law_top" : Str)] (spCells K)) (mc : mg ("_law_cells" : Str) = some (.ref fc)) (kc : PySem.W.keepIn K (.ref fc) = true) (bc : Binds K fdc [("_law_script" : Str), ("_law_top" : Str)] [])
    (D_hand : DefOk P w mg base G ("_law_by_hand_right" : Str) 14 0 F__law_by_hand_right) (D_right : DefOk P w mg base G ("_law_right" : Str) 14 1 F__law_right) (D_box : DefOk P w mg base G ("_law_box" : Str) 14 2 F__law_box) : FnOk P w K mg base CX0 15 f fd [("_law_script" : Str)] (spLaw K) := by
  have nd := sc_law.nd
  obtain ⟨fr, fdr, psr, hfr, hmr, hkr, hbr⟩ := D_right
  refine F.ok sc_law (fun vs H Q E h => ?_) (fun cdv A outer s H vs Q E hr h => ?_)
  · obtain ⟨a, ns, rfl, _⟩ := h; rfl
  · obtain ⟨a, ns, rfl, hS, hl, q⟩ := h
    refine ⟨_, pss_cons (ps_if (show PT _ _ (tTst (K := K) G (mNotB (mTru (mCall 0 F__law_by_hand_right mNil)))) from dt_not (dt_val (dv_call0 D_hand hr rfl))) (pss_one (ps_ret pe_bl)) pss_nil) (pss_cons (ps_set (i := 1) nd rfl (Or.inr rfl) (pe_call (FC.mono (k := 14) (by decide)) hr (by rfl) mc kc bc .nil pass0 (pa_cons (pv 0) (pa_cons pe_int pa_nil))))
      (pss_one (ps_ret (pe_callB (cr_all rfl) (by rfl) T.n_all (by decide +kernel) (pa_cons
        (pe_lc (own := [(("_law_k" : Str), 2)]) (g := gName 2) (tt := tYes) rfl nd (pi_range1 rfl T.n_range (pa_cons (pe_callB call_len_seq (by rfl) T.n_len PySem.boot_len (pa_cons (pv 1) pa_nil)) pa_nil))
          (blkOk_by (own := [(("_law_k" : Str), 2)]) (N := [("_law_script" : Str), ("_law_cells_here" : Str), ("_law_k" : Str)]) (sc := defScope s_law) (by decide +kernel))
          (fun _ _ _ _ _ => pg_name (i := 2) nd rfl (Or.inl rfl)) (fun _ _ _ _ _ => pts_nil)
          (fun _ _ _ _ _ => pe_call hfr hr (by rfl) hmr hkr hbr .nil pass0 (pa_cons (show PE _ _ (tEv (K := K) G (mCall 2 F__law_box (mCons (mVar 1) (mCons (mVar 2) mNil)))) from dv_call D_box hr rfl (dvs_cons (dv_var 1) (dvs_cons (dv_var 2) dvs_nil))) pa_nil))) pa_nil))))), ?_⟩
    obtain ⟨uh, hh⟩ := hand_ok
    refine ⟨none, ⟨0, 0, 0⟩, fun _ => none, [.no, .no, .no], false, uh, env_noN (n := 3) rfl, ⟨fun _ _ z => (by cases z), fun _ z => (by cases z)⟩, ?_, fun H0 ha => ?_⟩
    · exact mNotB_eq (mTru_eq (mCall_eq mNil_eq rfl hh) rfl)
    obtain ⟨B0, g0, w0⟩ := ha
    refine iteF ?_
    have s0 : Same H H0 := fun b o e => g0.keep b o e (fun z => by cases z)
    refine ⟨_, rfl, a, ns, 3, rfl, s0.seq hS, by decide, by decide, hl, fun H1 p cs s1 hp c1 c8 => ?_⟩
    have hp2 := hp
    obtain ⟨H2, eH2⟩ : ∃ H2, H2 = H1 := ⟨_, rfl⟩
    rw [← eH2] at hp2
    rw [← eH2]
    -- all over the cells
    refine ⟨_, rfl, p, _, rfl, .inl (.of hp2), (cs.length : Int), ?_, by omega, by omega, fun Dp hD => ?_⟩
    · rw [List.length_map]
    rw [Int.toNat_natCast]
    have hDp : Dp ≠ p := fun e => by rw [e, hp2] at hD; cases hD
    refine lc_range (lo := 0) (n := cs.length) (fun i H => H Dp = some (.lst (List.replicate i (V.bl true))) ∧ ∃ cs2 : List Int, cs2.length = cs.length ∧ H p = some (.lst (cs2.map V.int))) ⟨upd_same, cs, rfl, by rw [upd_ne hDp.symm]; exact hp2⟩ (fun i H3 hi hP => ?_) fun H3 hP => ?_
    · obtain ⟨e1, cs2, el, e2⟩ := hP
      refine ⟨rfl, ?_⟩
      unfold tYes
      dsimp only
      rw [if_pos rfl]
      -- the box
      obtain ⟨x, y, hbx, hx, hy1, hy2⟩ := box_ok (cs := cs2) (k := i) (u := ⟨0, 0, 0⟩) (by omega) (by omega)
      obtain ⟨Bp, hBp⟩ : ∃ Bp : Hp, Bp = upd (fun _ => none) p (.lst (cs2.map V.int)) := ⟨_, rfl⟩
      have wB : Wd none ⟨0, 0, 0⟩ Bp H3 := by
        refine ⟨fun b o e => ?_, fun _ z => by cases z⟩
        rw [hBp] at e
        by_cases z : b = p
        · rw [z, upd_same] at e; cases e; rw [z]; exact e2
        · rw [upd_ne z] at e; cases e
      have rC : Rep G none (.lst (cs2.map .int)) (.ref p) Bp := by unfold Rep; exact ⟨p, _, rfl, by rw [hBp]; exact upd_same, vint_reps cs2⟩
      have eE : EnvOk G none [.no, .pub (.lst (cs2.map .int)), .pub (.int (0 + i))] [none, some (V.ref p), some (V.int (0 + i))] Bp H3 :=
        ((env_noN (n := 3) (σ := [none, none, none]) rfl).set rC 1).set (d := .int (0 + i)) (v := V.int (0 + i)) rep_int 2
      have eE' : EnvOk G none [.no, .pub (.lst (cs2.map .int)), .pub (.int (0 + i))] [some (V.ref a), some (V.ref p), some (V.int (0 + i))] Bp H3 :=
        ((env_noN (n := 3) (σ := [some (V.ref a), none, none]) rfl).set rC 1).set (d := .int (0 + i)) (v := V.int (0 + i)) rep_int 2
      refine ⟨none, ⟨0, 0, 0⟩, Bp, _, _, _, eE', wB, mCall_eq (mCons_eq rfl (mCons_eq rfl mNil_eq)) rfl (by rw [Int.zero_add]; exact hbx), fun v H4 ha4 => ?_⟩
      obtain ⟨B4, g4, w4, r4⟩ := ha4
      obtain ⟨z, vs, rfl, hz, rz⟩ := r4.lst
      have evs : vs = [V.int x, V.int y, V.int 0] := rz.ints_of (xs := [x, y, 0])
      rw [evs] at hz
      have hz4 := w4.sub _ _ hz
      obtain ⟨u5, h5⟩ := right_ok (u := ⟨x, y, 0⟩) ⟨hx, ⟨hy1, hy2⟩, Int.le_refl 0, Int.le_refl 0⟩
      have eD4 : H4 Dp = some (.lst (List.replicate i (V.bl true))) := g4.keep _ _ e1 (fun z => by cases z)
      have zD : z ≠ Dp := fun e => by
        rcases g4.new z _ hz with q | q
        · rw [hBp, e, upd_ne hDp] at q; cases q
        · rw [e, e1] at q; cases q
      refine ⟨some z, ⟨x, y, 0⟩, fun _ => none, [.urn], .bl true, u5, .cons (by unfold Rep; exact ⟨z, rfl, rfl⟩) .nil, rfl, ⟨fun _ _ z => (by cases z), fun b e => by cases e; exact ⟨rfl, hz4⟩⟩, h5, fun v5 H5 ha5 => ?_⟩
      obtain ⟨B5, g5, w5, r5⟩ := ha5
      cases r5.bl
      have eD5 : H5 Dp = some (.lst (List.replicate i (V.bl true))) := g5.keep _ _ eD4 (fun e => zD (Option.some.inj e))
      refine ⟨_, eD5, by rw [List.length_replicate, line]; omega, by rw [upd_same, List.replicate_succ'], ?_⟩
      by_cases zp : z = p
      · -- the box is the cells' own list: three numbers all the same
        subst zp
        have e4 := g4.keep _ _ e2 (fun e => by cases e)
        rw [hz4] at e4
        have e5 : cs2.length = 3 := by
          have := congrArg (fun o => match o with | some (HO.lst xs) => xs.length | _ => 0) e4
          simp at this
          omega
        refine ⟨[u5.a, u5.b, u5.c], by rw [← el, e5]; rfl, ?_⟩
        rw [upd_ne hDp.symm]
        exact (w5.urn z rfl).2
      · refine ⟨cs2, el, ?_⟩
        rw [upd_ne hDp.symm]
        exact g5.keep _ _ (g4.keep _ _ e2 (fun e => by cases e)) (fun e => zp (Option.some.inj e))
    · obtain ⟨e1, cs2, el, e2⟩ := hP
      refine ⟨Dp, List.replicate cs.length true, rfl, .of (by rw [List.map_replicate]; exact e1), ?_⟩
      have : (List.replicate cs.length true).all id = true := by
        rw [List.all_eq_true]
        intro b hb
        rw [(List.mem_replicate.mp hb).2]; rfl
      rw [this]
      exact q _
end Lw65
namespace Lw65
open PySem PySem.Spec PyProof.Rows L2 Dv
def noE : TE := fun _ _ _ => False
theorem pe_noE {X : Cx} {e : Expr} : PE X e noE := ⟨fun _ _ _ _ _ _ h => h.elim⟩
def spT0 (K : PySem.W.Frag) : Sp := fun vs H Q _ => ∃ (e0 : Addr) (o : Obj), vs = [.ref e0] ∧ K.lookup e0 = some o ∧ o.cls = .type "tuple" ∧ SqT K H e0 [] ∧
  ∀ (t l p : Addr) (ob : Obj) (H1 H2 : Hp), H t = none → H1 l = none → H2 p = none → H2 = upd H1 l (.lst []) → ob.dict = none → Same H H1 → (∀ b, H1 b = none → H b = none) → (∀ b u, H1 b = some u → H b = some u ∨ H b = none) → Q (.ref p) (upd H2 p (.frz ob (.tup [])))
theorem fn_or {P : Program} {w : World} {K : PySem.W.Frag} {mg : Str → Option Value} {base : Heap} {CX : CXT} {k : Nat} {f : Addr} {fd : FuncData} {ps : List Str} {sp sp' : Sp} (h : FnOk P w K mg base CX k f fd ps sp) (h' : FnOk P w K mg base CX k f fd ps sp') : FnOk P w K mg base CX k f fd ps (fun vs H Q E => sp vs H Q E ∨ sp' vs H Q E) :=
  ⟨fun vs H Q E z => z.elim (h.len vs H Q E) (h'.len vs H Q E), fun A outer s H args us vs Q E hr he hb hv z => z.elim (h.run A outer s H args us vs Q E hr he hb hv) (h'.run A outer s H args us vs Q E hr he hb hv)⟩
theorem ok_tupled0 {P : Program} {w : World} {K : PySem.W.Frag} {mg : Str → Option Value} {base : Heap} (T : Tx mg) {f : Addr} {fd : FuncData} (F : Fun K ("tupled" : Str) ("tupled" : Str) s_tupled f fd) (hm : mg ("tupled" : Str) = some (.ref f)) :
    FnOk P w K mg base CX0 1 f fd [("worth" : Str)] (spT0 K) := by
  have nd := sc_tupled.nd
  refine F.ok sc_tupled (fun vs H Q E h => ?_) (fun cdv A outer s H vs Q E hr h => ?_)
  · obtain ⟨e0, o, rfl, _⟩ := h; rfl
  · obtain ⟨e0, o, rfl, hk, hc, hs, q⟩ := h
    refine ⟨_, pss_cons (ps_if (pt_truth (pe_callB call_isiT (by rfl) T.n_isinstance (by decide +kernel) (pa_cons (pv 0) (pa_cons (pe_tup (pa_cons (pe_bltn (v := .ty "list") (by rfl) T.n_list (by decide +kernel) rfl) (pa_cons (pe_bltn (v := .ty "tuple") (by rfl) T.n_tuple (by decide +kernel) rfl) pa_nil))) pa_nil))) (by intro _; rfl))
      (pss_one (ps_ret (pe_callTy call_tupF (by rfl) T.n_tuple (by decide +kernel) (pa_cons (pe_lc (own := [(("part" : Str), 1)]) (g := gName 1) (tt := tYes) (te := noE) rfl nd (pi_tup (pv 0)) (blkOk_by (own := [(("part" : Str), 1)]) (N := [("worth" : Str), ("part" : Str)]) (sc := defScope s_tupled) (by decide +kernel)) (fun _ _ _ _ _ => pg_name (i := 1) nd rfl (Or.inl rfl)) (fun _ _ _ _ _ => pts_nil) (fun _ _ _ _ _ => pe_noE)) pa_nil)))) pss_nil)
      (pss_one (ps_ret (pv 0))), ?_⟩
    refine ⟨_, rfl, (by show 2 ≤ sizeLine; decide), fun t ht => ?_⟩
    have s1 : Same H (upd H t (.tup [.ty "list", .ty "tuple"])) := same_new ht
    have hs1 : SqT K (upd H t (.tup [.ty "list", .ty "tuple"])) e0 [] := Dv.Same.seqT s1 hs
    refine ⟨_, t, [.ty "list", .ty "tuple"], _, [.type "list", .type "tuple"], true, rfl, upd_same, .cons (.ty "list") (.cons (.ty "tuple") .nil), .kTuple hk hc, kitAny_of (ts := ["list", "tuple"]) (by decide +kernel), true, ?_, ?_⟩
    · exact rfl
    · refine ⟨_, rfl, e0, rfl, ⟨_, hs1⟩, fun Dp hDp => ?_⟩
      refine lc_tup (xs := []) (g := gName 1) (tt := tYes) (te := noE) (vs := [1]) (σ := L2.start [("worth" : Str), ("part" : Str)] [V.ref e0]) (fun _ H' => H' = upd (upd H t (.tup [.ty "list", .ty "tuple"])) Dp (.lst [])) rfl (fun i H' _ e => by subst e; exact Dv.Same.seqT (same_new hDp) hs1) (fun i x H' hx => by simp at hx) fun H' e => ?_
      subst e
      refine ⟨Dp, [], rfl, .inl ⟨.of upd_same, fun p ob hp hob => ?_⟩⟩
      refine q t Dp p ob _ _ ht hDp hp rfl hob s1 (fun b z => ?_) (fun b u z => ?_)
      · by_cases c : b = t
        · rw [c]; exact ht
        · rw [upd_ne c] at z; exact z
      · by_cases c : b = t
        · rw [c]; exact .inr ht
        · rw [upd_ne c] at z; exact .inl z
end Lw65
namespace Lw65
open PySem PySem.Spec PyProof.Rows L2 Dv
abbrev s_numbered : Stmt := topS 15
theorem sc_numbered : FnScope [("writes" : Str), ("many" : Str), ("lines" : Str), ("stream" : Str)] [("writes" : Str)] (defScope s_numbered) := ⟨rfl, rfl, rfl, by decide +kernel, rfl, by decide +kernel, by decide +kernel⟩
/-- in the loop: i streams are counted -/
structure NumW {K : PySem.W.Frag} (G : Gx K) (ua : Option Addr) (u : U) (xs : List Str) (a m l : Addr) (B H : Hp) (i : Nat) (σ : L2.St) (H2 : Hp) : Prop where
  st : ∃ z, σ = [some (V.ref a), some (V.ref m), some (V.ref l), z]
  le : i ≤ xs.length
  heap : ∃ (B2 : Hp) (kvs : List (Key × V)) (vs : List V), Grow ua B H B2 H2 ∧ Wd ua u B2 H2 ∧ B2 m = none ∧ B2 l = none ∧ H2 m = some (.dK kvs) ∧ H2 l = some (.lst vs) ∧ Tally (revOn (xs.take i) []) kvs ∧ Reps G ua (numG [] (xs.take i)) vs B2
theorem ok_numbered {P : Program} {w : World} {K : PySem.W.Frag} {mg : Str → Option Value} {base : Heap} {G : Gx K} (T : Tx mg) {f : Addr} {fd : FuncData} (F : Fun K ("numbered" : Str) ("numbered" : Str) s_numbered f fd) :
    FnOk P w K mg base CX0 1 f fd [("writes" : Str)] (spF G F_numbered 1) := by
  have nd := sc_numbered.nd
  refine F.ok sc_numbered (fun vs H Q E h => ?_) (fun cdv A outer s H vs Q E hr h => ?_)
  · obtain ⟨ua, u, B, ds, d, u', r, hl, _⟩ := h
    rw [← r.len, hl]; rfl
  · obtain ⟨ua, u, B, ds, d, u', r, hl, hw, hf, q⟩ := h
    unfold F_numbered numF at hf
    split at hf
    · rename_i ds0
      split at hf
      · rename_i xs hx
        split at hf
        · rename_i hz
          cases hf
          obtain ⟨v, t, rfl, r1, r2⟩ := r.of_cons
          rw [r2.of_nil]
          obtain ⟨a, ws, rfl, ha, rs⟩ := r1.tup
          rw [strsOf_eq hx] at rs
          have hws := rs.strs_of
          refine ⟨_, pss_cons (ps_set (i := 1) nd rfl (Or.inl rfl) pe_dnewK) (pss_cons (ps_set (i := 2) nd rfl (Or.inl rfl) (pe_lst pa_nil))
            (pss_cons (ps_for PassesOwn.never rfl (pi_tup (pv 0)) (pg_name (i := 3) nd rfl (Or.inl rfl))
              (pss_cons (ps_dput (hu_of hr) (pv 1) (pv 3) (pe_op op_add (pe_dget2 (hu_of hr) (pv 1) (pv 3) pe_int ⟨rfl, rfl, rfl, rfl⟩) pe_int) rfl)
              (pss_one (ps_expr (pe_bm PySem.F.plainAttrs_list PySem.F.slot_list_append PySem.F.type_list_append mt_append (pv 2) (pa_cons (pe_tupF (pa_cons (pv 3) (pa_cons (pe_dget (hu_of hr) (pv 1) (pv 3) (fun _ _ => rfl)) pa_nil))) pa_nil))))))
            (pss_one (ps_ret (pe_callTy call_tupF (by rfl) T.n_tuple (by decide +kernel) (pa_cons (pv 2) pa_nil)))))), ?_⟩
          intro m nm
          refine ⟨Nat.zero_le _, fun l nl => ?_⟩
          have s1 : Same H (upd H m (.dK [])) := same_new nm
          have nlH : H l = none := s1.free nl
          have hml : m ≠ l := fun z => by subst z; rw [upd_same] at nl; cases nl
          obtain ⟨o0, ho0, ha00⟩ := ha
          have ha0 : H a = some (.frz o0 (.tup ws)) := hw.sub _ _ ha00
          have w1 : Wd ua u B (upd H m (.dK [])) := hw.own1 nm
          have w2 := w1.own1 (o := .lst []) nl
          have g1 : Grow ua B H B (upd H m (.dK [])) := .own1 hw nm
          have g2 := g1.trans (Grow.own1 (o := .lst []) w1 nl)
          have ham : ∀ {H2 : Hp} {B2 : Hp}, Grow ua B H B2 H2 → ua ≠ some a → H2 a = some (.frz o0 (.tup ws)) := fun g n => g.keep _ _ ha0 n
          have hua : ua ≠ some a := fun e => by have := (hw.urn a e).2; rw [ha0] at this; cases this
          have hum : ua ≠ some m := hw.ne_urn nm
          have hul : ua ≠ some l := hw.ne_urn nlH
          have ea := ham g2 hua
          refine ⟨_, rfl, a, rfl, ⟨_, (TupB.sq ⟨o0, ho0, ea⟩)⟩, fun i mm σ H2 => mm = xs.length - i ∧ NumW G ua u xs a m l B H i σ H2, ⟨_, rfl, ⟨⟨none, rfl⟩, Nat.zero_le _, B, [], [], g2, w2, hw.none_of nm, hw.none_of nlH, ?_, upd_same, .nil, .nil⟩⟩, fun i mm σ H2 hW => ?_⟩
          · rw [upd_ne hml, upd_same]
          · obtain ⟨rfl, ⟨z, rfl⟩, hle, B2, kvs, vs, g, w', bm, bl, hm, hl2, ht, hr2⟩ := hW
            have ea2 := ham g hua
            by_cases hi : i < xs.length
            · right
              obtain ⟨x, hxi⟩ : ∃ x, xs[i]? = some x := ⟨_, List.getElem?_eq_getElem hi⟩
              have hwi : ws[i]? = some (.str x) := by rw [hws, List.getElem?_map, hxi]; rfl
              refine ⟨⟨ws, _, TupB.sq ⟨o0, ho0, ea2⟩, hwi⟩, fun σ' H' => NumW G ua u xs a m l B H (i + 1) σ' H', fun σ' H' hN => ⟨_, by omega, rfl, hN⟩, fun y H' hy => ?_⟩
              obtain ⟨rfl, hy⟩ := hy
              have := hy ws (TupB.sq ⟨o0, ho0, ea2⟩)
              rw [hwi] at this
              cases this
              have hlen : (revOn (xs.take i) []).length = i := by rw [revOn_len, List.length_take, List.length_nil]; omega
              have hk : kvs.length < sizeLine := by have := ht.len; rw [hlen] at this; omega
              have hv : vs.length < sizeLine := by rw [← hr2.len, numG_len, List.length_take]; omega
              refine ⟨_, rfl, m, rfl, .inl ⟨_, .inl hm⟩, _, rfl, _, .k (k := Sum.inr x) hm, _, _, ht.getD x, rfl, ?_⟩
              refine ⟨_, rfl, _, rfl, m, _, rfl, .k (k := Sum.inr x) hm hk, ?_⟩
              have w3 : Wd ua u B2 (upd H' m (.dK (putK kvs (Sum.inr x) (.int ((cntS x (revOn (xs.take i) []) : Nat) + 1 : Int))))) := w'.put bm hum
              have g3 : Grow ua B H B2 (upd H' m (.dK (putK kvs (Sum.inr x) (.int ((cntS x (revOn (xs.take i) []) : Nat) + 1 : Int))))) := g.putOwn nm
              have hl3 : (upd H' m (.dK (putK kvs (Sum.inr x) (.int ((cntS x (revOn (xs.take i) []) : Nat) + 1 : Int))))) l = some (.lst vs) := by rw [upd_ne hml.symm]; exact hl2
              have ht2 := ht.put x
              have hgx : valV (putK kvs (Sum.inr x) (.int ((cntS x (revOn (xs.take i) []) : Nat) + 1 : Int))) (Sum.inr x) = some (.int ((cntS x (revOn (xs.take i) []) : Nat) + 1 : Int)) := by rw [valV_put, if_pos rfl]
              have hD := DGet.k (k := Sum.inr x) (upd_same (H := H') (a := m) (o := .dK (putK kvs (Sum.inr x) (.int ((cntS x (revOn (xs.take i) []) : Nat) + 1 : Int)))))
              rw [hgx] at hD
              refine ⟨_, rfl, .inl ⟨rfl, _, SqL.of hl3⟩, _, rfl, _, rfl, _, rfl, m, _, rfl, hD, (by rw [sizeLine_eq]; exact (by decide : 2 ≤ 16777216)), fun p o np ho => ?_⟩
              have w4 := w3.new1 (o := .frz o (.tup [.str x, .int ((cntS x (revOn (xs.take i) []) : Nat) + 1 : Int)])) np
              have g4 := g3.trans (.new1 (o := .frz o (.tup [.str x, .int ((cntS x (revOn (xs.take i) []) : Nat) + 1 : Int)])) w3 np)
              have hpl : l ≠ p := ne_of_none hl3 np
              have hpm : m ≠ p := ne_of_none upd_same np
              have npB := w3.none_of np
              have bl4 : (upd B2 p (.frz o (.tup [.str x, .int ((cntS x (revOn (xs.take i) []) : Nat) + 1 : Int)]))) l = none := by rw [upd_ne hpl]; exact bl
              have bm4 : (upd B2 p (.frz o (.tup [.str x, .int ((cntS x (revOn (xs.take i) []) : Nat) + 1 : Int)]))) m = none := by rw [upd_ne hpm]; exact bm
              refine ⟨l, vs, _, rfl, rfl, by rw [upd_ne hpl]; exact hl3, hv, ⟨⟨_, rfl⟩, hi, _, putK kvs (Sum.inr x) (.int ((cntS x (revOn (xs.take i) []) : Nat) + 1 : Int)), _, g4.putOwn nlH, w4.put bl4 hul, bm4, bl4, ?_, upd_same, ?_, ?_⟩⟩
              · rw [upd_ne hml, upd_ne hpm, upd_same]
              · rw [take_snoc hxi, revOn_snoc]; exact ht2
              · rw [take_snoc hxi, numG_snoc]
                refine (hr2.mono _ _ (same_new npB)).append (.cons ?_ .nil)
                unfold Rep
                exact ⟨p, _, rfl, ⟨o, ho, upd_same⟩, .cons rep_str (.cons rep_int .nil)⟩
            · left
              have hi' : i = xs.length := by omega
              subst hi'
              refine ⟨⟨ws, TupB.sq ⟨o0, ho0, ea2⟩, by rw [hws, List.length_map]; exact Nat.le_refl _⟩, _, rfl, l, vs, rfl, .inl ⟨.of hl2, fun p o np ho => ?_⟩⟩
              rw [List.take_length] at hr2
              exact q _ _ (.up g (.tup w' np ho hr2))
        · cases hf
      · cases hf
    · cases hf
abbrev s_init : Stmt := inClass (topS 18) 0
theorem sc_init : FnScope [("self" : Str), ("deeds" : Str), ("word" : Str), ("stream" : Str)] [("self" : Str), ("deeds" : Str)] (defScope s_init) := ⟨rfl, rfl, rfl, by decide +kernel, rfl, by decide +kernel, by decide +kernel⟩
/-- __init__ at a new instance -/
def spInit {K : PySem.W.Frag} (G : Gx K) (C : Addr) : Sp := fun vs H Q _ => ∃ (y dx : Addr) (v : V) (ua : Option Addr) (u u' : U) (B : Hp) (d r : D), vs = [.ref y, v] ∧ H y = some (.ins C dx []) ∧ B y = none ∧ ua ≠ some y ∧ (Rep G ua d v B ∨ (d = .tup [] ∧ ∃ (e0 : Addr) (o : Obj), v = .ref e0 ∧ K.lookup e0 = some o ∧ o.cls = .type "tuple" ∧ ∀ H, SqT K H e0 [])) ∧ Wd ua u B H ∧ F_Program [d] u = some (r, u') ∧ G.cls "Program" = some C ∧
  ∀ H' B', (∀ a o, H a = some o → a ≠ y → ua ≠ some a → H' a = some o) → (∀ a, H' a = none → H a = none) → Same B B' → (∀ a o, B' a = some o → B a = some o ∨ H a = none ∨ a = y) → Wd ua u' B' H' → Rep G ua r (.ref y) B' → Q .non H'
structure TI (K : PySem.W.Frag) (mg : Str → Option Value) (C : Addr) : Prop where
  cl : Cls K C
  n1 : NoAttr K C ("_deeds" : Str)
  n2 : NoAttr K C ("_writes" : Str)
  n3 : NoAttr K C ("_lines" : Str)
theorem f12 : ¬ (("_deeds" : Str) = ("_writes" : Str)) := by decide +kernel
theorem f13 : ¬ (("_deeds" : Str) = ("_lines" : Str)) := by decide +kernel
theorem f23 : ¬ (("_writes" : Str) = ("_lines" : Str)) := by decide +kernel
theorem fl1 (v : V) : putF ("_deeds" : Str) v [] = [(("_deeds" : Str), v)] := rfl
theorem fl2 (v v2 : V) : putF ("_writes" : Str) v2 [(("_deeds" : Str), v)] = [(("_deeds" : Str), v), (("_writes" : Str), v2)] := by
  show (if _ then _ else _) = _; rw [if_neg f12]; rfl
theorem fl3 (v v2 v3 : V) : putF ("_lines" : Str) v3 [(("_deeds" : Str), v), (("_writes" : Str), v2)] = [(("_deeds" : Str), v), (("_writes" : Str), v2), (("_lines" : Str), v3)] := by
  show (if ("_deeds" : Str) = ("_lines" : Str) then _ else _ :: (if ("_writes" : Str) = ("_lines" : Str) then _ else _)) = _; rw [if_neg f13, if_neg f23]; rfl
theorem lk1 (v : V) : ([(("_deeds" : Str), v)] : List (Str × V)).lookup ("_deeds" : Str) = some v := rfl
theorem lk2 (v v2 : V) : ([(("_deeds" : Str), v), (("_writes" : Str), v2)] : List (Str × V)).lookup ("_writes" : Str) = some v2 := by
  have e : (("_writes" : Str) == ("_deeds" : Str)) = false := by decide +kernel
  simp only [List.lookup, e, beq_self_eq_true]
theorem env_no {K : PySem.W.Frag} {G : Gx K} {ua : Option Addr} {B H : Hp} {n : Nat} {σ : List (Option V)} (h : σ.length = n) : EnvOk G ua (List.replicate n Sl.no) σ B H := by
  have hno : ∀ (i : Nat) x, (List.replicate n Sl.no)[i]? = some x → x = Sl.no := fun i x e => by
    rw [List.getElem?_replicate] at e
    split at e
    · exact (Option.some.inj e).symm
    · cases e
  exact ⟨by rw [List.length_replicate, h], fun i d e => (by have := hno i _ e; cases this), fun i d e => (by have := hno i _ e; cases this), fun i j a b p e => (by have := hno i _ e; cases this)⟩
theorem ok_init {P : Program} {w : World} {K : PySem.W.Frag} {mg : Str → Option Value} {base : Heap} {G : Gx K} {C : Addr} (T : Tx mg) (TI : TI K mg C) {f : Addr} {fd : FuncData} {dvs : List V} {kws : List (Str × V)} (F : FunD K ("__init__" : Str) ("Program.__init__" : Str) (defArgs s_init) (defBody s_init) (defScope s_init) dvs kws f fd)
    {ft : Addr} {fdt : FuncData} (U_tupled : FnOk P w K mg base CX0 6 ft fdt [("worth" : Str)] (fun vs H Q E => spF G (FR_tupled 6) 1 vs H Q E ∨ spT0 K vs H Q E)) (mt : mg ("tupled" : Str) = some (.ref ft)) (kt : PySem.W.keepIn K (.ref ft) = true) (bt : Binds K fdt [("worth" : Str)] []) (D_numbered : DefOk P w mg base G ("numbered" : Str) 1 1 F_numbered) : FnOk P w K mg base CX0 7 f fd [("self" : Str), ("deeds" : Str)] (spInit G C) := by
  have nd := sc_init.nd
  obtain ⟨fn, fdn, psn, hfn, hmn, hkn, hbn⟩ := D_numbered
  refine F.ok sc_init (fun vs H Q E h => ?_) (fun cdv A outer s H vs Q E hr h => ?_)
  · obtain ⟨y, dx, v, _, _, _, _, _, _, rfl, _⟩ := h; rfl
  · obtain ⟨y, dx, v, ua, u, u', B, d, r, rfl, hy, hb, hua, hd, hW, hF, hC, q⟩ := h
    refine ⟨_, PSs.nox (pss_cons (ps_fld (pv 0) (pe_call U_tupled hr (by rfl) mt kt bt .nil pass0 (pa_cons (pv 1) pa_nil)) rfl)
      (pss_cons (ps_fld (pv 0) (pe_callTy call_tupF (by rfl) T.n_tuple (by decide +kernel) (pa_cons (pe_lc (own := [(("word" : Str), 2), (("stream" : Str), 3)]) (g := gOf K (.many [2, 3])) (tt := tTst G (mTru (mBin cEq (mVar 2) (mC (.str ("write" : Str)))))) (te := tEv G (mVar 3)) rfl nd (pi_tup (pe_fld (pv 0) rfl))
          (blkOk_by (own := [(("word" : Str), 2), (("stream" : Str), 3)]) (N := [("self" : Str), ("deeds" : Str), ("word" : Str), ("stream" : Str)]) (sc := defScope s_init) (by decide +kernel))
          (fun _ _ _ _ _ => pg_tup rfl (pgs_cons (pg_name (i := 2) nd rfl (by first | exact Or.inl rfl | exact Or.inr rfl)) (pgs_cons (pg_name (i := 3) nd rfl (by first | exact Or.inl rfl | exact Or.inr rfl)) pgs_nil)))
          (fun _ _ _ _ _ => dts_one (dt_cmp (ok_eq (hU64 hr)) bf_eq (dv_var 2) (dv_gS rfl T.c_WRITE))) (fun _ _ _ _ _ => dv_var 3)) pa_nil)) rfl)
      (pss_one (ps_fld (pv 0) (pe_call (hfn.mono (k := 6) (by decide)) hr (by rfl) hmn hkn hbn .nil pass0 (pa_cons (pe_fld (pv 0) rfl) pa_nil)) rfl)))), ?_⟩
    -- what Program gives
    unfold F_Program at hF
    obtain ⟨t, u1, h1, hF⟩ := bnd_some hF
    split at hF
    · rename_i ts
      obtain ⟨ws, u2, h2, hF⟩ := bnd_some hF
      split at hF
      · rename_i hwl
        obtain ⟨ls, u3, h3, hF⟩ := bnd_some hF
        cases hF
        have hEnv : ∀ (B' H' : Hp), EnvOk G ua [.no, .no, .no, .no] [some (V.ref y), some v, none, none] B' H' := fun B' H' => env_no (n := 4) rfl
        have step : ∀ (Z : V → Hp → Prop), (∀ v1 H1, Aft G ua B H u1 (.tup ts) v1 H1 → Z v1 H1) → (spF G (FR_tupled 6) 1 [v] H Z E0 ∨ spT0 K [v] H Z E0) := fun Z hZ => by
          rcases hd with hd | ⟨rfl, e0, o, rfl, hk, hc, hs⟩
          · exact .inl ⟨ua, u, B, [d], .tup ts, u1, .cons hd .nil, rfl, hW, h1, fun v1 H1 a => hZ v1 H1 a⟩
          · have e1 : FR_tupled 6 [.tup []] u = some (.tup [], u) := rfl
            rw [e1] at h1
            cases h1
            refine .inr ⟨e0, o, rfl, hk, hc, hs _, fun t l p ob H1 H2 ht hl hp e hob k1 k2 k3 => hZ _ _ ?_⟩
            subst e
            have g0 : Grow ua B H B H1 := ⟨fun a x z _ => k1 a x z, k2, fun _ _ z => z, fun _ _ z => .inl z⟩
            have w0 : Wd ua u B H1 := ⟨fun a x z => k1 a x (hW.sub a x z), fun a z => ⟨(hW.urn a z).1, k1 _ _ (hW.urn a z).2⟩⟩
            exact .up (g0.trans (.own1 (o := .lst []) w0 hl)) (.tup (w0.own1 hl) hp hob .nil)
        refine ⟨_, rfl, step _ fun v1 H1 a => ?_⟩
        obtain ⟨B1, g1, w1, r1⟩ := a
        have hb1 : B1 y = none := g1.none_of hy hb
        refine ⟨_, rfl, y, C, dx, [], rfl, g1.keep _ _ hy hua, TI.cl, TI.n1, (by show 0 < 1000; decide), ?_⟩
        rw [fl1]
        have w2 := w1.put (o := .ins C dx [(("_deeds" : Str), v1)]) hb1 hua
        have r1' := r1
        obtain ⟨a, vs, rfl, ⟨o0, ho0, ha⟩, rs⟩ := r1.tup
        have hay : a ≠ y := fun e => by rw [e, hb1] at ha; cases ha
        refine ⟨_, rfl, y, C, dx, _, _, rfl, upd_same, TI.cl, TI.n1, lk1 _, a, rfl, ⟨vs, TupB.sq ⟨o0, ho0, by rw [upd_ne hay]; exact w1.sub _ _ ha⟩⟩, ?_⟩
        refine fun Dp hDp => lc_innerD (X := (cxOf CX0 P w K mg base [("self" : Str), ("deeds" : Str), ("word" : Str), ("stream" : Str)] ("Program.__init__" : Str) (defScope s_init) f cdv A outer s H E).nox) (G := G) (t := .many [2, 3]) (by decide) (hEnv B1 _) w2 (wk_tup (X := (cxOf CX0 P w K mg base [("self" : Str), ("deeds" : Str), ("word" : Str), ("stream" : Str)] ("Program.__init__" : Str) (defScope s_init) f cdv A outer s H E).nox) ⟨o0, ho0, ha⟩ rs) h2 hwl hDp fun H3 (h : Aft G ua B1 _ u2 (.lst ws) (.ref Dp) H3) => ?_
        obtain ⟨B3, g3, w3, r3⟩ := h
        obtain ⟨p, ys, ep, hp, rs3⟩ := r3.lst
        cases ep
        refine ⟨Dp, ys, rfl, .inl ⟨.of (w3.sub _ _ hp), fun l ol nl hol => ?_⟩⟩
        have hy3 : H3 y = some (.ins C dx [(("_deeds" : Str), V.ref a)]) := g3.keep _ _ upd_same hua
        have hb3 : B3 y = none := g3.none_of upd_same hb1
        have hly : l ≠ y := fun e => by rw [e, hy3] at nl; cases nl
        have w4 := w3.new1 (o := .frz ol (.tup ys)) nl
        have nlB := w3.none_of nl
        refine ⟨_, rfl, y, C, dx, _, rfl, by rw [upd_ne hly.symm]; exact hy3, TI.cl, TI.n2, (by show 1 < 1000; decide), ?_⟩
        rw [fl2]
        have hb4 : (upd B3 l (.frz ol (.tup ys))) y = none := by rw [upd_ne hly.symm]; exact hb3
        have w5 := w4.put (o := .ins C dx [(("_deeds" : Str), V.ref a), (("_writes" : Str), V.ref l)]) hb4 hua
        have rl : Rep G ua (.tup ws) (.ref l) (upd B3 l (.frz ol (.tup ys))) := by unfold Rep; exact ⟨l, ys, rfl, ⟨ol, hol, upd_same⟩, rs3.mono _ _ (same_new nlB)⟩
        refine ⟨_, rfl, y, C, dx, _, _, rfl, upd_same, TI.cl, TI.n2, lk2 _ _, ua, u2, _, [.tup ws], ls, u', .cons rl .nil, rfl, w5, h3, fun v6 H6 ⟨B6, g6, w6, r6⟩ => ?_⟩
        have hb6 : B6 y = none := g6.none_of upd_same hb4
        refine ⟨_, rfl, y, C, dx, _, rfl, g6.keep _ _ upd_same hua, TI.cl, TI.n3, (by show 2 < 1000; decide), ?_⟩
        rw [fl3]
        have sB : Same B6 (upd B6 y (.ins C dx [(("_deeds" : Str), V.ref a), (("_writes" : Str), V.ref l), (("_lines" : Str), v6)])) := same_new hb6
        have w7 := (w6.put (o := .ins C dx [(("_deeds" : Str), V.ref a), (("_writes" : Str), V.ref l), (("_lines" : Str), v6)]) hb6 hua).show upd_same hua
        have l3 : ∀ b, b ≠ y → H3 b = none → H b = none := fun b n e => g1.live b (by have := g3.live b e; rw [upd_ne n] at this; exact this)
        have l5 : ∀ b, b ≠ y → (upd (upd H3 l (.frz ol (.tup ys))) y (.ins C dx [(("_deeds" : Str), V.ref a), (("_writes" : Str), V.ref l)])) b = none → H b = none := fun b n e => by
          rw [upd_ne n] at e
          by_cases z : b = l
          · subst z; rw [upd_same] at e; cases e
          · rw [upd_ne z] at e; exact l3 b n e
        refine q _ (upd B6 y (.ins C dx [(("_deeds" : Str), V.ref a), (("_writes" : Str), V.ref l), (("_lines" : Str), v6)])) (fun b o e n nu => ?_) (fun b e => ?_) (fun b o e => ?_) (fun b o e => ?_) w7 ?_
        · rw [upd_ne n]
          refine g6.keep _ _ ?_ nu
          rw [upd_ne n]
          refine same_new nl _ _ (g3.keep _ _ ?_ nu)
          rw [upd_ne n]
          exact g1.keep _ _ e nu
        · by_cases n : b = y
          · subst n; rw [upd_same] at e; cases e
          · rw [upd_ne n] at e; exact l5 b n (g6.live b e)
        · exact sB _ _ (g6.pub _ _ (same_new nlB _ _ (g3.pub _ _ (g1.pub _ _ e))))
        · by_cases n : b = y
          · exact .inr (.inr n)
          · rw [upd_ne n] at e
            rcases g6.new b o e with z | z
            · by_cases zl : b = l
              · subst zl; exact .inr (.inl (l3 b n nl))
              · rw [upd_ne zl] at z
                rcases g3.new b o z with z | z
                · rcases g1.new b o z with z | z
                  · exact .inl z
                  · exact .inr (.inl z)
                · rw [upd_ne n] at z; exact .inr (.inl (g1.live b z))
            · exact .inr (.inl (l5 b n z))
        · unfold Rep
          refine ⟨y, C, dx, [V.ref a, V.ref l, v6], rfl, hC, upd_same, rfl, .cons ?_ (.cons ?_ (.cons (r6.mono _ _ sB) .nil))⟩
          · exact (((r1'.mono _ _ g3.pub).mono _ _ (same_new nlB)).mono _ _ g6.pub).mono _ _ sB
          · exact (rl.mono _ _ g6.pub).mono _ _ sB
      · cases hF
    · cases hF
theorem make_ok {P : Program} {w : World} {K : PySem.W.Frag} {mg : Str → Option Value} {base : Heap} {G : Gx K} {C : Addr} {f : Addr} {fd : FuncData} (M : Mk K C f) (hF : FnOk P w K mg base CX0 7 f fd [("self" : Str), ("deeds" : Str)] (spInit G C)) (hm : mg ("Program" : Str) = some (.ref C)) (hb : Binds K fd [("self" : Str), ("deeds" : Str)] []) (hC : G.cls "Program" = some C) :
    MakeOk P w mg base G ("Program" : Str) 7 1 F_Program := by
  refine ⟨C, f, fd, _, _, [], [], M, hF, hm, hb, .nil, fun ua u u' B H as vs d hl hf hr hw y dx ny ndx hne Q q => ?_⟩
  obtain ⟨a, rfl⟩ : ∃ a, as = [a] := by
    cases as with
    | nil => cases hl
    | cons a r => cases r with
      | nil => exact ⟨a, rfl⟩
      | cons _ _ => cases hl
  obtain ⟨v, t, rfl, r1, r2⟩ := hr.of_cons
  rw [r2.of_nil]
  have ny2 : (upd H dx (.own y)) y = none := by rw [upd_ne hne.symm]; exact ny
  have w1 := (hw.own1 (o := .own y) ndx).own1 (o := .ins C dx []) ny2
  refine ⟨y, dx, v, ua, u, u', B, a, d, rfl, upd_same, hw.none_of ny, hw.ne_urn ny, .inl r1, w1, hf, hC, fun H' B' k1 k2 k3 k4 k5 k6 => ⟨rfl, q _ ⟨B', ⟨fun b o e n => ?_, fun b e => ?_, k3, fun b o e => ?_⟩, k5, k6⟩⟩⟩
  · have hby : b ≠ y := ne_of_none e ny
    exact k1 b o (by rw [upd_ne hby]; exact same_new ndx _ _ e) hby n
  · have := k2 b e
    by_cases z : b = y
    · rw [z]; exact ny
    · rw [upd_ne z] at this
      by_cases z2 : b = dx
      · rw [z2]; exact ndx
      · rw [upd_ne z2] at this; exact this
  · rcases k4 b o e with z | z | z
    · exact .inl z
    · refine .inr ?_
      by_cases zz : b = y
      · rw [zz]; exact ny
      · rw [upd_ne zz] at z
        by_cases z2 : b = dx
        · rw [z2]; exact ndx
        · rw [upd_ne z2] at z; exact z
    · exact .inr (by rw [z]; exact ny)
theorem make0_ok {P : Program} {w : World} {K : PySem.W.Frag} {mg : Str → Option Value} {base : Heap} {G : Gx K} {C : Addr} {f : Addr} {fd : FuncData} (M : Mk K C f) (hF : FnOk P w K mg base CX0 7 f fd [("self" : Str), ("deeds" : Str)] (spInit G C)) (hm : mg ("Program" : Str) = some (.ref C)) {e0 : Addr} {o : Obj} (hk : K.lookup e0 = some o) (hc : o.cls = .type "tuple") (hsq : ∀ H, SqT K H e0 []) (hb : Binds K fd [("self" : Str), ("deeds" : Str)] [.ref e0]) (hC : G.cls "Program" = some C) :
    MakeOk P w mg base G ("Program" : Str) 7 0 F_Program0 := by
  refine ⟨C, f, fd, _, _, [.ref e0], [.ref e0], M, hF, hm, hb, .cons rfl .nil, fun ua u u' B H as vs d hl hf hr hw y dx ny ndx hne Q q => ?_⟩
  have hl0 : as = [] := List.eq_nil_of_length_eq_zero hl
  subst hl0
  rw [hr.of_nil]
  have ny2 : (upd H dx (.own y)) y = none := by rw [upd_ne hne.symm]; exact ny
  have w1 := (hw.own1 (o := .own y) ndx).own1 (o := .ins C dx []) ny2
  refine ⟨y, dx, .ref e0, ua, u, u', B, .tup [], d, rfl, upd_same, hw.none_of ny, hw.ne_urn ny, .inr ⟨rfl, e0, o, rfl, hk, hc, hsq⟩, w1, hf, hC, fun H' B' k1 k2 k3 k4 k5 k6 => ⟨rfl, q _ ⟨B', ⟨fun b o e n => ?_, fun b e => ?_, k3, fun b o e => ?_⟩, k5, k6⟩⟩⟩
  · have hby : b ≠ y := ne_of_none e ny
    exact k1 b o (by rw [upd_ne hby]; exact same_new ndx _ _ e) hby n
  · have := k2 b e
    by_cases z : b = y
    · rw [z]; exact ny
    · rw [upd_ne z] at this
      by_cases z2 : b = dx
      · rw [z2]; exact ndx
      · rw [upd_ne z2] at this; exact this
  · rcases k4 b o e with z | z | z
    · exact .inl z
    · refine .inr ?_
      by_cases zz : b = y
      · rw [zz]; exact ny
      · rw [upd_ne zz] at z
        by_cases z2 : b = dx
        · rw [z2]; exact ndx
        · rw [upd_ne z2] at z; exact z
    · exact .inr (by rw [z]; exact ny)
end Lw65
namespace Lw65
open PySem PySem.Spec PyProof.Rows L2 Dv
/-- f(e, k = v), a def with defaults all of whose parameters are given -/
theorem kbn1 {K : PySem.W.Frag} {x qual : Str} {params : Arguments} {body : List Stmt} {scope : Scope} {dvs : List V} {f : Addr} {fd : FuncData} {ps ks : List Str} (F : FunD K x qual params body scope dvs [] f fd) (hd : dvs ≠ [])
    (h : ∀ (T : Addr) (kV doc pm : Value) (an : Option Addr) (cdv ct : Value) (us its ws : List Value), us.length = 1 → its.length = dvs.length → ws.length = ks.length →
      ∃ k, bindArgs (PySem.W.fnOf x qual params body scope (.ref T) kV doc pm an cdv ct) ⟨us, ks.zip ws⟩ = seqItems? (.ref T) >>= k ∧ k (some its.toArray) = pure (ps.zip (us ++ ws))) :
    KBn K fd ps 1 ks (fun us ws => us ++ ws) (fun vs zs => vs ++ zs) := by
  obtain ⟨oc, od, dV, kV, doc, pm, an, cdv, ct, osl, rfl, lk, hcd, hD, hK⟩ := F.ex
  rcases hD with ⟨e, _⟩ | ⟨_, T, o, its, m, rfl, lT, oT, rT⟩
  · exact absurd e hd
  · refine ⟨fun s us ws X l1 l2 => ?_, fun r1 r2 => r1.append r2⟩
    obtain ⟨k, e1, e2⟩ := h T kV doc pm an cdv ct us its ws l1 rT.length.symm l2
    refine BindsTo.of_looks fun M => ?_
    rw [e1]
    exact looks_items X lT oT (.of_pure e2)
theorem kb_init {K : PySem.W.Frag} {f : Addr} {fd : FuncData} {v0 : V} (F : FunD K ("__init__" : Str) ("Program.__init__" : Str) (defArgs s_init) (defBody s_init) (defScope s_init) [v0] [] f fd) :
    KBn K fd [("self" : Str), ("deeds" : Str)] 1 [("deeds" : Str)] (fun us ws => us ++ ws) (fun vs zs => vs ++ zs) :=
  kbn1 F (List.cons_ne_nil _ _) (fun _ _ _ _ _ _ _ us its ws hu hi hw => match us, its, ws, hu, hi, hw with | [_], [_], [_], _, _, _ => ⟨_, rfl, rfl⟩)
theorem makeK_ok {P : Program} {w : World} {K : PySem.W.Frag} {mg : Str → Option Value} {base : Heap} {G : Gx K} {C : Addr} {f : Addr} {fd : FuncData} (M : Mk K C f) (hF : FnOk P w K mg base CX0 7 f fd [("self" : Str), ("deeds" : Str)] (spInit G C)) (hm : mg ("Program" : Str) = some (.ref C)) {g : List Value → List Value → List Value} (hb : KBn K fd [("self" : Str), ("deeds" : Str)] 1 [("deeds" : Str)] g (fun vs zs => vs ++ zs)) (hC : G.cls "Program" = some C) :
    MakeK P w mg base G ("Program" : Str) [("deeds" : Str)] 7 F_Program := by
  refine ⟨C, f, fd, _, _, g, M, hF, hm, hb, fun ua u u' B H as vs d hl hf hr hw y dx ny ndx hne Q q => ?_⟩
  obtain ⟨a, rfl⟩ : ∃ a, as = [a] := by
    cases as with
    | nil => cases hl
    | cons a r => cases r with
      | nil => exact ⟨a, rfl⟩
      | cons _ _ => cases hl
  obtain ⟨v, t, rfl, r1, r2⟩ := hr.of_cons
  rw [r2.of_nil]
  have ny2 : (upd H dx (.own y)) y = none := by rw [upd_ne hne.symm]; exact ny
  have w1 := (hw.own1 (o := .own y) ndx).own1 (o := .ins C dx []) ny2
  refine ⟨y, dx, v, ua, u, u', B, a, d, rfl, upd_same, hw.none_of ny, hw.ne_urn ny, .inl r1, w1, hf, hC, fun H' B' k1 k2 k3 k4 k5 k6 => ⟨rfl, q _ ⟨B', ⟨fun b o e n => ?_, fun b e => ?_, k3, fun b o e => ?_⟩, k5, k6⟩⟩⟩
  · have hby : b ≠ y := ne_of_none e ny
    exact k1 b o (by rw [upd_ne hby]; exact same_new ndx _ _ e) hby n
  · have := k2 b e
    by_cases z : b = y
    · rw [z]; exact ny
    · rw [upd_ne z] at this
      by_cases z2 : b = dx
      · rw [z2]; exact ndx
      · rw [upd_ne z2] at this; exact this
  · rcases k4 b o e with z | z | z
    · exact .inl z
    · refine .inr ?_
      by_cases zz : b = y
      · rw [zz]; exact ny
      · rw [upd_ne zz] at z
        by_cases z2 : b = dx
        · rw [z2]; exact ndx
        · rw [upd_ne z2] at z; exact z
    · exact .inr (by rw [z]; exact ny)
end Lw65
namespace Lw65
open PySem PySem.Spec PyProof.Rows L2 Dv
theorem kit_sub {K : PySem.W.Frag} {C : Addr} {t : String} {b : Bool} (h : PySem.W.subIn K (.ref C) (.type t) = some b) (m : PySem.W.kitMeta t = true) : PySem.W.kitOne K (.ref C) (.type t) = some b := by
  unfold PySem.W.kitOne
  have e : (Value.ref C == Value.type t) = false := rfl
  rw [e, if_neg Bool.false_ne_true]
  show (if PySem.W.kitMeta t = true then _ else _) = _
  rw [if_pos m]
  exact h
theorem exm_self {K : PySem.W.Frag} {S : Addr} (h1 : PySem.W.subIn K (.ref S) (.type "BaseException") = some true) (h2 : PySem.W.isClsIn K S = true) (h3 : PySem.W.typeIn K (.ref S) = some (.type "type")) (h4 : PySem.W.subIn K (.ref S) (.ref S) = some true) : PySem.W.exmOne K (.ref S) (.ref S) = some true := by
  have e1 : (PySem.W.subIn K (.ref S) (.type "BaseException") == some true) = true := by rw [h1] <;> rfl
  have e2 : ((PySem.W.clsIn K S).isSome && PySem.W.typeIn K (.ref S) == some (.type "type")) = true := by
    have h2' : (PySem.W.clsIn K S).isSome = true := h2
    rw [h2', h3] <;> rfl
  show (if (PySem.W.subIn K (.ref S) (.type "BaseException") == some true) = true then (if ((PySem.W.clsIn K S).isSome && PySem.W.typeIn K (.ref S) == some (.type "type")) = true then PySem.W.subIn K (.ref S) (.ref S) else none) else none) = some true
  rw [if_pos e1, if_pos e2]
  exact h4
theorem all_mk {l : PySem.W.OpenLaw} {w : World} {K : PySem.W.Frag} {h : Heap} {mg : Str → Option Value} {fa : Addr} (X : K.In h) (G0 : h.Ns mainGlobals mg) (hfa : mg "law" = some (.ref fa))
    {f_is_number : Addr}
    {od_is_number an_is_number : Option Addr}
    {sl_is_number : Array (Option Value)}
    {oc_is_number kV_is_number dc_is_number pm_is_number cd_is_number ct_is_number : Value}
    (a_is_number : PySem.W.nsIn K mainGlobals ("is_number" : Str) = some (some (.ref f_is_number)))
    (l_is_number : K.lookup f_is_number = some ⟨oc_is_number, od_is_number, .func (PySem.W.fnOf ("is_number" : Str) ("is_number" : Str) (defArgs s_is_number) (defBody s_is_number) (defScope s_is_number) .none kV_is_number dc_is_number pm_is_number an_is_number cd_is_number ct_is_number), sl_is_number⟩)
    (c_is_number : PySem.W.codeIn K cd_is_number ("is_number" : Str) = true)
    (k_is_number : PySem.W.keepIn K (.ref f_is_number) = true)
    {f_is_pair : Addr}
    {od_is_pair an_is_pair : Option Addr}
    {sl_is_pair : Array (Option Value)}
    {oc_is_pair kV_is_pair dc_is_pair pm_is_pair cd_is_pair ct_is_pair : Value}
    (a_is_pair : PySem.W.nsIn K mainGlobals ("is_pair" : Str) = some (some (.ref f_is_pair)))
    (l_is_pair : K.lookup f_is_pair = some ⟨oc_is_pair, od_is_pair, .func (PySem.W.fnOf ("is_pair" : Str) ("is_pair" : Str) (defArgs s_is_pair) (defBody s_is_pair) (defScope s_is_pair) .none kV_is_pair dc_is_pair pm_is_pair an_is_pair cd_is_pair ct_is_pair), sl_is_pair⟩)
    (c_is_pair : PySem.W.codeIn K cd_is_pair ("is_pair" : Str) = true)
    (k_is_pair : PySem.W.keepIn K (.ref f_is_pair) = true)
    {f_is_name : Addr}
    {od_is_name an_is_name : Option Addr}
    {sl_is_name : Array (Option Value)}
    {oc_is_name kV_is_name dc_is_name pm_is_name cd_is_name ct_is_name : Value}
    (a_is_name : PySem.W.nsIn K mainGlobals ("is_name" : Str) = some (some (.ref f_is_name)))
    (l_is_name : K.lookup f_is_name = some ⟨oc_is_name, od_is_name, .func (PySem.W.fnOf ("is_name" : Str) ("is_name" : Str) (defArgs s_is_name) (defBody s_is_name) (defScope s_is_name) .none kV_is_name dc_is_name pm_is_name an_is_name cd_is_name ct_is_name), sl_is_name⟩)
    (c_is_name : PySem.W.codeIn K cd_is_name ("is_name" : Str) = true)
    (k_is_name : PySem.W.keepIn K (.ref f_is_name) = true)
    {f_is_line : Addr}
    {od_is_line an_is_line : Option Addr}
    {sl_is_line : Array (Option Value)}
    {oc_is_line kV_is_line dc_is_line pm_is_line cd_is_line ct_is_line : Value}
    (a_is_line : PySem.W.nsIn K mainGlobals ("is_line" : Str) = some (some (.ref f_is_line)))
    (l_is_line : K.lookup f_is_line = some ⟨oc_is_line, od_is_line, .func (PySem.W.fnOf ("is_line" : Str) ("is_line" : Str) (defArgs s_is_line) (defBody s_is_line) (defScope s_is_line) .none kV_is_line dc_is_line pm_is_line an_is_line cd_is_line ct_is_line), sl_is_line⟩)
    (c_is_line : PySem.W.codeIn K cd_is_line ("is_line" : Str) = true)
    (k_is_line : PySem.W.keepIn K (.ref f_is_line) = true)
    {f_tupled : Addr}
    {od_tupled an_tupled : Option Addr}
    {sl_tupled : Array (Option Value)}
    {oc_tupled kV_tupled dc_tupled pm_tupled cd_tupled ct_tupled : Value}
    (a_tupled : PySem.W.nsIn K mainGlobals ("tupled" : Str) = some (some (.ref f_tupled)))
    (l_tupled : K.lookup f_tupled = some ⟨oc_tupled, od_tupled, .func (PySem.W.fnOf ("tupled" : Str) ("tupled" : Str) (defArgs s_tupled) (defBody s_tupled) (defScope s_tupled) .none kV_tupled dc_tupled pm_tupled an_tupled cd_tupled ct_tupled), sl_tupled⟩)
    (c_tupled : PySem.W.codeIn K cd_tupled ("tupled" : Str) = true)
    (k_tupled : PySem.W.keepIn K (.ref f_tupled) = true)
    {f_deed_in : Addr}
    {od_deed_in an_deed_in : Option Addr}
    {sl_deed_in : Array (Option Value)}
    {oc_deed_in kV_deed_in dc_deed_in pm_deed_in cd_deed_in ct_deed_in : Value}
    (a_deed_in : PySem.W.nsIn K mainGlobals ("deed_in" : Str) = some (some (.ref f_deed_in)))
    (l_deed_in : K.lookup f_deed_in = some ⟨oc_deed_in, od_deed_in, .func (PySem.W.fnOf ("deed_in" : Str) ("deed_in" : Str) (defArgs s_deed_in) (defBody s_deed_in) (defScope s_deed_in) .none kV_deed_in dc_deed_in pm_deed_in an_deed_in cd_deed_in ct_deed_in), sl_deed_in⟩)
    (c_deed_in : PySem.W.codeIn K cd_deed_in ("deed_in" : Str) = true)
    (k_deed_in : PySem.W.keepIn K (.ref f_deed_in) = true)
    {f_written_at : Addr}
    {od_written_at an_written_at : Option Addr}
    {sl_written_at : Array (Option Value)}
    {oc_written_at kV_written_at dc_written_at pm_written_at cd_written_at ct_written_at : Value}
    (a_written_at : PySem.W.nsIn K mainGlobals ("written_at" : Str) = some (some (.ref f_written_at)))
    (l_written_at : K.lookup f_written_at = some ⟨oc_written_at, od_written_at, .func (PySem.W.fnOf ("written_at" : Str) ("written_at" : Str) (defArgs s_written_at) (defBody s_written_at) (defScope s_written_at) .none kV_written_at dc_written_at pm_written_at an_written_at cd_written_at ct_written_at), sl_written_at⟩)
    (c_written_at : PySem.W.codeIn K cd_written_at ("written_at" : Str) = true)
    (k_written_at : PySem.W.keepIn K (.ref f_written_at) = true)
    {f_counted : Addr}
    {od_counted an_counted : Option Addr}
    {sl_counted : Array (Option Value)}
    {oc_counted kV_counted dc_counted pm_counted cd_counted ct_counted : Value}
    (a_counted : PySem.W.nsIn K mainGlobals ("counted" : Str) = some (some (.ref f_counted)))
    (l_counted : K.lookup f_counted = some ⟨oc_counted, od_counted, .func (PySem.W.fnOf ("counted" : Str) ("counted" : Str) (defArgs s_counted) (defBody s_counted) (defScope s_counted) .none kV_counted dc_counted pm_counted an_counted cd_counted ct_counted), sl_counted⟩)
    (c_counted : PySem.W.codeIn K cd_counted ("counted" : Str) = true)
    (k_counted : PySem.W.keepIn K (.ref f_counted) = true)
    {f_told_by : Addr}
    {od_told_by an_told_by : Option Addr}
    {sl_told_by : Array (Option Value)}
    {oc_told_by kV_told_by dc_told_by pm_told_by cd_told_by ct_told_by : Value}
    (a_told_by : PySem.W.nsIn K mainGlobals ("told_by" : Str) = some (some (.ref f_told_by)))
    (l_told_by : K.lookup f_told_by = some ⟨oc_told_by, od_told_by, .func (PySem.W.fnOf ("told_by" : Str) ("told_by" : Str) (defArgs s_told_by) (defBody s_told_by) (defScope s_told_by) .none kV_told_by dc_told_by pm_told_by an_told_by cd_told_by ct_told_by), sl_told_by⟩)
    (c_told_by : PySem.W.codeIn K cd_told_by ("told_by" : Str) = true)
    (k_told_by : PySem.W.keepIn K (.ref f_told_by) = true)
    {f_surely_before : Addr}
    {od_surely_before an_surely_before : Option Addr}
    {sl_surely_before : Array (Option Value)}
    {oc_surely_before kV_surely_before dc_surely_before pm_surely_before cd_surely_before ct_surely_before : Value}
    (a_surely_before : PySem.W.nsIn K mainGlobals ("surely_before" : Str) = some (some (.ref f_surely_before)))
    (l_surely_before : K.lookup f_surely_before = some ⟨oc_surely_before, od_surely_before, .func (PySem.W.fnOf ("surely_before" : Str) ("surely_before" : Str) (defArgs s_surely_before) (defBody s_surely_before) (defScope s_surely_before) .none kV_surely_before dc_surely_before pm_surely_before an_surely_before cd_surely_before ct_surely_before), sl_surely_before⟩)
    (c_surely_before : PySem.W.codeIn K cd_surely_before ("surely_before" : Str) = true)
    (k_surely_before : PySem.W.keepIn K (.ref f_surely_before) = true)
    {f_table_of : Addr}
    {od_table_of an_table_of : Option Addr}
    {sl_table_of : Array (Option Value)}
    {oc_table_of kV_table_of dc_table_of pm_table_of cd_table_of ct_table_of : Value}
    (a_table_of : PySem.W.nsIn K mainGlobals ("table_of" : Str) = some (some (.ref f_table_of)))
    (l_table_of : K.lookup f_table_of = some ⟨oc_table_of, od_table_of, .func (PySem.W.fnOf ("table_of" : Str) ("table_of" : Str) (defArgs s_table_of) (defBody s_table_of) (defScope s_table_of) .none kV_table_of dc_table_of pm_table_of an_table_of cd_table_of ct_table_of), sl_table_of⟩)
    (c_table_of : PySem.W.codeIn K cd_table_of ("table_of" : Str) = true)
    (k_table_of : PySem.W.keepIn K (.ref f_table_of) = true)
    {f_told_in : Addr}
    {od_told_in an_told_in : Option Addr}
    {sl_told_in : Array (Option Value)}
    {oc_told_in kV_told_in dc_told_in pm_told_in cd_told_in ct_told_in : Value}
    (a_told_in : PySem.W.nsIn K mainGlobals ("told_in" : Str) = some (some (.ref f_told_in)))
    (l_told_in : K.lookup f_told_in = some ⟨oc_told_in, od_told_in, .func (PySem.W.fnOf ("told_in" : Str) ("told_in" : Str) (defArgs s_told_in) (defBody s_told_in) (defScope s_told_in) .none kV_told_in dc_told_in pm_told_in an_told_in cd_told_in ct_told_in), sl_told_in⟩)
    (c_told_in : PySem.W.codeIn K cd_told_in ("told_in" : Str) = true)
    (k_told_in : PySem.W.keepIn K (.ref f_told_in) = true)
    {f_is_wish : Addr}
    {od_is_wish an_is_wish : Option Addr}
    {sl_is_wish : Array (Option Value)}
    {oc_is_wish kV_is_wish dc_is_wish pm_is_wish cd_is_wish ct_is_wish : Value}
    (a_is_wish : PySem.W.nsIn K mainGlobals ("is_wish" : Str) = some (some (.ref f_is_wish)))
    (l_is_wish : K.lookup f_is_wish = some ⟨oc_is_wish, od_is_wish, .func (PySem.W.fnOf ("is_wish" : Str) ("is_wish" : Str) (defArgs s_is_wish) (defBody s_is_wish) (defScope s_is_wish) .none kV_is_wish dc_is_wish pm_is_wish an_is_wish cd_is_wish ct_is_wish), sl_is_wish⟩)
    (c_is_wish : PySem.W.codeIn K cd_is_wish ("is_wish" : Str) = true)
    (k_is_wish : PySem.W.keepIn K (.ref f_is_wish) = true)
    {f_check_wishes : Addr}
    {od_check_wishes an_check_wishes : Option Addr}
    {sl_check_wishes : Array (Option Value)}
    {oc_check_wishes kV_check_wishes dc_check_wishes pm_check_wishes cd_check_wishes ct_check_wishes : Value}
    (a_check_wishes : PySem.W.nsIn K mainGlobals ("check_wishes" : Str) = some (some (.ref f_check_wishes)))
    (l_check_wishes : K.lookup f_check_wishes = some ⟨oc_check_wishes, od_check_wishes, .func (PySem.W.fnOf ("check_wishes" : Str) ("check_wishes" : Str) (defArgs s_check_wishes) (defBody s_check_wishes) (defScope s_check_wishes) .none kV_check_wishes dc_check_wishes pm_check_wishes an_check_wishes cd_check_wishes ct_check_wishes), sl_check_wishes⟩)
    (c_check_wishes : PySem.W.codeIn K cd_check_wishes ("check_wishes" : Str) = true)
    (k_check_wishes : PySem.W.keepIn K (.ref f_check_wishes) = true)
    {f_all_wishes : Addr}
    {od_all_wishes an_all_wishes : Option Addr}
    {sl_all_wishes : Array (Option Value)}
    {oc_all_wishes kV_all_wishes dc_all_wishes pm_all_wishes cd_all_wishes ct_all_wishes : Value}
    (a_all_wishes : PySem.W.nsIn K mainGlobals ("all_wishes" : Str) = some (some (.ref f_all_wishes)))
    (l_all_wishes : K.lookup f_all_wishes = some ⟨oc_all_wishes, od_all_wishes, .func (PySem.W.fnOf ("all_wishes" : Str) ("all_wishes" : Str) (defArgs s_all_wishes) (defBody s_all_wishes) (defScope s_all_wishes) .none kV_all_wishes dc_all_wishes pm_all_wishes an_all_wishes cd_all_wishes ct_all_wishes), sl_all_wishes⟩)
    (c_all_wishes : PySem.W.codeIn K cd_all_wishes ("all_wishes" : Str) = true)
    (k_all_wishes : PySem.W.keepIn K (.ref f_all_wishes) = true)
    {f_kept : Addr}
    {od_kept an_kept : Option Addr}
    {sl_kept : Array (Option Value)}
    {oc_kept kV_kept dc_kept pm_kept cd_kept ct_kept : Value}
    (a_kept : PySem.W.nsIn K mainGlobals ("kept" : Str) = some (some (.ref f_kept)))
    (l_kept : K.lookup f_kept = some ⟨oc_kept, od_kept, .func (PySem.W.fnOf ("kept" : Str) ("kept" : Str) (defArgs s_kept) (defBody s_kept) (defScope s_kept) .none kV_kept dc_kept pm_kept an_kept cd_kept ct_kept), sl_kept⟩)
    (c_kept : PySem.W.codeIn K cd_kept ("kept" : Str) = true)
    (k_kept : PySem.W.keepIn K (.ref f_kept) = true)
    {f__law_box : Addr}
    {od__law_box an__law_box : Option Addr}
    {sl__law_box : Array (Option Value)}
    {oc__law_box kV__law_box dc__law_box pm__law_box cd__law_box ct__law_box : Value}
    (a__law_box : PySem.W.nsIn K mainGlobals ("_law_box" : Str) = some (some (.ref f__law_box)))
    (l__law_box : K.lookup f__law_box = some ⟨oc__law_box, od__law_box, .func (PySem.W.fnOf ("_law_box" : Str) ("_law_box" : Str) (defArgs s__law_box) (defBody s__law_box) (defScope s__law_box) .none kV__law_box dc__law_box pm__law_box an__law_box cd__law_box ct__law_box), sl__law_box⟩)
    (c__law_box : PySem.W.codeIn K cd__law_box ("_law_box" : Str) = true)
    (k__law_box : PySem.W.keepIn K (.ref f__law_box) = true)
    {f__law_take : Addr}
    {od__law_take an__law_take : Option Addr}
    {sl__law_take : Array (Option Value)}
    {oc__law_take kV__law_take dc__law_take pm__law_take cd__law_take ct__law_take : Value}
    (a__law_take : PySem.W.nsIn K mainGlobals ("_law_take" : Str) = some (some (.ref f__law_take)))
    (l__law_take : K.lookup f__law_take = some ⟨oc__law_take, od__law_take, .func (PySem.W.fnOf ("_law_take" : Str) ("_law_take" : Str) (defArgs s__law_take) (defBody s__law_take) (defScope s__law_take) .none kV__law_take dc__law_take pm__law_take an__law_take cd__law_take ct__law_take), sl__law_take⟩)
    (c__law_take : PySem.W.codeIn K cd__law_take ("_law_take" : Str) = true)
    (k__law_take : PySem.W.keepIn K (.ref f__law_take) = true)
    {f__law_of : Addr}
    {od__law_of an__law_of : Option Addr}
    {sl__law_of : Array (Option Value)}
    {oc__law_of kV__law_of dc__law_of pm__law_of cd__law_of ct__law_of : Value}
    (a__law_of : PySem.W.nsIn K mainGlobals ("_law_of" : Str) = some (some (.ref f__law_of)))
    (l__law_of : K.lookup f__law_of = some ⟨oc__law_of, od__law_of, .func (PySem.W.fnOf ("_law_of" : Str) ("_law_of" : Str) (defArgs s__law_of) (defBody s__law_of) (defScope s__law_of) .none kV__law_of dc__law_of pm__law_of an__law_of cd__law_of ct__law_of), sl__law_of⟩)
    (c__law_of : PySem.W.codeIn K cd__law_of ("_law_of" : Str) = true)
    (k__law_of : PySem.W.keepIn K (.ref f__law_of) = true)
    {f__law_same : Addr}
    {od__law_same an__law_same : Option Addr}
    {sl__law_same : Array (Option Value)}
    {oc__law_same kV__law_same dc__law_same pm__law_same cd__law_same ct__law_same : Value}
    (a__law_same : PySem.W.nsIn K mainGlobals ("_law_same" : Str) = some (some (.ref f__law_same)))
    (l__law_same : K.lookup f__law_same = some ⟨oc__law_same, od__law_same, .func (PySem.W.fnOf ("_law_same" : Str) ("_law_same" : Str) (defArgs s__law_same) (defBody s__law_same) (defScope s__law_same) .none kV__law_same dc__law_same pm__law_same an__law_same cd__law_same ct__law_same), sl__law_same⟩)
    (c__law_same : PySem.W.codeIn K cd__law_same ("_law_same" : Str) = true)
    (k__law_same : PySem.W.keepIn K (.ref f__law_same) = true)
    {f__law_lists : Addr}
    {od__law_lists an__law_lists : Option Addr}
    {sl__law_lists : Array (Option Value)}
    {oc__law_lists kV__law_lists dc__law_lists pm__law_lists cd__law_lists ct__law_lists : Value}
    (a__law_lists : PySem.W.nsIn K mainGlobals ("_law_lists" : Str) = some (some (.ref f__law_lists)))
    (l__law_lists : K.lookup f__law_lists = some ⟨oc__law_lists, od__law_lists, .func (PySem.W.fnOf ("_law_lists" : Str) ("_law_lists" : Str) (defArgs s__law_lists) (defBody s__law_lists) (defScope s__law_lists) .none kV__law_lists dc__law_lists pm__law_lists an__law_lists cd__law_lists ct__law_lists), sl__law_lists⟩)
    (c__law_lists : PySem.W.codeIn K cd__law_lists ("_law_lists" : Str) = true)
    (k__law_lists : PySem.W.keepIn K (.ref f__law_lists) = true)
    {f__law_pick : Addr}
    {od__law_pick an__law_pick : Option Addr}
    {sl__law_pick : Array (Option Value)}
    {oc__law_pick kV__law_pick dc__law_pick pm__law_pick cd__law_pick ct__law_pick : Value}
    (a__law_pick : PySem.W.nsIn K mainGlobals ("_law_pick" : Str) = some (some (.ref f__law_pick)))
    (l__law_pick : K.lookup f__law_pick = some ⟨oc__law_pick, od__law_pick, .func (PySem.W.fnOf ("_law_pick" : Str) ("_law_pick" : Str) (defArgs s__law_pick) (defBody s__law_pick) (defScope s__law_pick) .none kV__law_pick dc__law_pick pm__law_pick an__law_pick cd__law_pick ct__law_pick), sl__law_pick⟩)
    (c__law_pick : PySem.W.codeIn K cd__law_pick ("_law_pick" : Str) = true)
    (k__law_pick : PySem.W.keepIn K (.ref f__law_pick) = true)
    {f__law_tags : Addr}
    {od__law_tags an__law_tags : Option Addr}
    {sl__law_tags : Array (Option Value)}
    {oc__law_tags kV__law_tags dc__law_tags pm__law_tags cd__law_tags ct__law_tags : Value}
    (a__law_tags : PySem.W.nsIn K mainGlobals ("_law_tags" : Str) = some (some (.ref f__law_tags)))
    (l__law_tags : K.lookup f__law_tags = some ⟨oc__law_tags, od__law_tags, .func (PySem.W.fnOf ("_law_tags" : Str) ("_law_tags" : Str) (defArgs s__law_tags) (defBody s__law_tags) (defScope s__law_tags) .none kV__law_tags dc__law_tags pm__law_tags an__law_tags cd__law_tags ct__law_tags), sl__law_tags⟩)
    (c__law_tags : PySem.W.codeIn K cd__law_tags ("_law_tags" : Str) = true)
    (k__law_tags : PySem.W.keepIn K (.ref f__law_tags) = true)
    {f__law_deeds : Addr}
    {od__law_deeds an__law_deeds : Option Addr}
    {sl__law_deeds : Array (Option Value)}
    {oc__law_deeds kV__law_deeds dc__law_deeds pm__law_deeds cd__law_deeds ct__law_deeds : Value}
    (a__law_deeds : PySem.W.nsIn K mainGlobals ("_law_deeds" : Str) = some (some (.ref f__law_deeds)))
    (l__law_deeds : K.lookup f__law_deeds = some ⟨oc__law_deeds, od__law_deeds, .func (PySem.W.fnOf ("_law_deeds" : Str) ("_law_deeds" : Str) (defArgs s__law_deeds) (defBody s__law_deeds) (defScope s__law_deeds) .none kV__law_deeds dc__law_deeds pm__law_deeds an__law_deeds cd__law_deeds ct__law_deeds), sl__law_deeds⟩)
    (c__law_deeds : PySem.W.codeIn K cd__law_deeds ("_law_deeds" : Str) = true)
    (k__law_deeds : PySem.W.keepIn K (.ref f__law_deeds) = true)
    {f__law_born : Addr}
    {od__law_born an__law_born : Option Addr}
    {sl__law_born : Array (Option Value)}
    {oc__law_born kV__law_born dc__law_born pm__law_born cd__law_born ct__law_born : Value}
    (a__law_born : PySem.W.nsIn K mainGlobals ("_law_born" : Str) = some (some (.ref f__law_born)))
    (l__law_born : K.lookup f__law_born = some ⟨oc__law_born, od__law_born, .func (PySem.W.fnOf ("_law_born" : Str) ("_law_born" : Str) (defArgs s__law_born) (defBody s__law_born) (defScope s__law_born) .none kV__law_born dc__law_born pm__law_born an__law_born cd__law_born ct__law_born), sl__law_born⟩)
    (c__law_born : PySem.W.codeIn K cd__law_born ("_law_born" : Str) = true)
    (k__law_born : PySem.W.keepIn K (.ref f__law_born) = true)
    {f__law_wished : Addr}
    {od__law_wished an__law_wished : Option Addr}
    {sl__law_wished : Array (Option Value)}
    {oc__law_wished kV__law_wished dc__law_wished pm__law_wished cd__law_wished ct__law_wished : Value}
    (a__law_wished : PySem.W.nsIn K mainGlobals ("_law_wished" : Str) = some (some (.ref f__law_wished)))
    (l__law_wished : K.lookup f__law_wished = some ⟨oc__law_wished, od__law_wished, .func (PySem.W.fnOf ("_law_wished" : Str) ("_law_wished" : Str) (defArgs s__law_wished) (defBody s__law_wished) (defScope s__law_wished) .none kV__law_wished dc__law_wished pm__law_wished an__law_wished cd__law_wished ct__law_wished), sl__law_wished⟩)
    (c__law_wished : PySem.W.codeIn K cd__law_wished ("_law_wished" : Str) = true)
    (k__law_wished : PySem.W.keepIn K (.ref f__law_wished) = true)
    {f__law_held : Addr}
    {od__law_held an__law_held : Option Addr}
    {sl__law_held : Array (Option Value)}
    {oc__law_held kV__law_held dc__law_held pm__law_held cd__law_held ct__law_held : Value}
    (a__law_held : PySem.W.nsIn K mainGlobals ("_law_held" : Str) = some (some (.ref f__law_held)))
    (l__law_held : K.lookup f__law_held = some ⟨oc__law_held, od__law_held, .func (PySem.W.fnOf ("_law_held" : Str) ("_law_held" : Str) (defArgs s__law_held) (defBody s__law_held) (defScope s__law_held) .none kV__law_held dc__law_held pm__law_held an__law_held cd__law_held ct__law_held), sl__law_held⟩)
    (c__law_held : PySem.W.codeIn K cd__law_held ("_law_held" : Str) = true)
    (k__law_held : PySem.W.keepIn K (.ref f__law_held) = true)
    {f__law_odd : Addr}
    {od__law_odd an__law_odd : Option Addr}
    {sl__law_odd : Array (Option Value)}
    {oc__law_odd kV__law_odd dc__law_odd pm__law_odd cd__law_odd ct__law_odd : Value}
    (a__law_odd : PySem.W.nsIn K mainGlobals ("_law_odd" : Str) = some (some (.ref f__law_odd)))
    (l__law_odd : K.lookup f__law_odd = some ⟨oc__law_odd, od__law_odd, .func (PySem.W.fnOf ("_law_odd" : Str) ("_law_odd" : Str) (defArgs s__law_odd) (defBody s__law_odd) (defScope s__law_odd) .none kV__law_odd dc__law_odd pm__law_odd an__law_odd cd__law_odd ct__law_odd), sl__law_odd⟩)
    (c__law_odd : PySem.W.codeIn K cd__law_odd ("_law_odd" : Str) = true)
    (k__law_odd : PySem.W.keepIn K (.ref f__law_odd) = true)
    {f__law_case_right : Addr}
    {od__law_case_right an__law_case_right : Option Addr}
    {sl__law_case_right : Array (Option Value)}
    {oc__law_case_right kV__law_case_right dc__law_case_right pm__law_case_right cd__law_case_right ct__law_case_right : Value}
    (a__law_case_right : PySem.W.nsIn K mainGlobals ("_law_case_right" : Str) = some (some (.ref f__law_case_right)))
    (l__law_case_right : K.lookup f__law_case_right = some ⟨oc__law_case_right, od__law_case_right, .func (PySem.W.fnOf ("_law_case_right" : Str) ("_law_case_right" : Str) (defArgs s__law_case_right) (defBody s__law_case_right) (defScope s__law_case_right) .none kV__law_case_right dc__law_case_right pm__law_case_right an__law_case_right cd__law_case_right ct__law_case_right), sl__law_case_right⟩)
    (c__law_case_right : PySem.W.codeIn K cd__law_case_right ("_law_case_right" : Str) = true)
    (k__law_case_right : PySem.W.keepIn K (.ref f__law_case_right) = true)
    {f__law_deep_right : Addr}
    {od__law_deep_right an__law_deep_right : Option Addr}
    {sl__law_deep_right : Array (Option Value)}
    {oc__law_deep_right kV__law_deep_right dc__law_deep_right pm__law_deep_right cd__law_deep_right ct__law_deep_right : Value}
    (a__law_deep_right : PySem.W.nsIn K mainGlobals ("_law_deep_right" : Str) = some (some (.ref f__law_deep_right)))
    (l__law_deep_right : K.lookup f__law_deep_right = some ⟨oc__law_deep_right, od__law_deep_right, .func (PySem.W.fnOf ("_law_deep_right" : Str) ("_law_deep_right" : Str) (defArgs s__law_deep_right) (defBody s__law_deep_right) (defScope s__law_deep_right) .none kV__law_deep_right dc__law_deep_right pm__law_deep_right an__law_deep_right cd__law_deep_right ct__law_deep_right), sl__law_deep_right⟩)
    (c__law_deep_right : PySem.W.codeIn K cd__law_deep_right ("_law_deep_right" : Str) = true)
    (k__law_deep_right : PySem.W.keepIn K (.ref f__law_deep_right) = true)
    {f__law_by_hand_right : Addr}
    {od__law_by_hand_right an__law_by_hand_right : Option Addr}
    {sl__law_by_hand_right : Array (Option Value)}
    {oc__law_by_hand_right kV__law_by_hand_right dc__law_by_hand_right pm__law_by_hand_right cd__law_by_hand_right ct__law_by_hand_right : Value}
    (a__law_by_hand_right : PySem.W.nsIn K mainGlobals ("_law_by_hand_right" : Str) = some (some (.ref f__law_by_hand_right)))
    (l__law_by_hand_right : K.lookup f__law_by_hand_right = some ⟨oc__law_by_hand_right, od__law_by_hand_right, .func (PySem.W.fnOf ("_law_by_hand_right" : Str) ("_law_by_hand_right" : Str) (defArgs s__law_by_hand_right) (defBody s__law_by_hand_right) (defScope s__law_by_hand_right) .none kV__law_by_hand_right dc__law_by_hand_right pm__law_by_hand_right an__law_by_hand_right cd__law_by_hand_right ct__law_by_hand_right), sl__law_by_hand_right⟩)
    (c__law_by_hand_right : PySem.W.codeIn K cd__law_by_hand_right ("_law_by_hand_right" : Str) = true)
    (k__law_by_hand_right : PySem.W.keepIn K (.ref f__law_by_hand_right) = true)
    {f__law_right : Addr}
    {od__law_right an__law_right : Option Addr}
    {sl__law_right : Array (Option Value)}
    {oc__law_right kV__law_right dc__law_right pm__law_right cd__law_right ct__law_right : Value}
    (a__law_right : PySem.W.nsIn K mainGlobals ("_law_right" : Str) = some (some (.ref f__law_right)))
    (l__law_right : K.lookup f__law_right = some ⟨oc__law_right, od__law_right, .func (PySem.W.fnOf ("_law_right" : Str) ("_law_right" : Str) (defArgs s__law_right) (defBody s__law_right) (defScope s__law_right) .none kV__law_right dc__law_right pm__law_right an__law_right cd__law_right ct__law_right), sl__law_right⟩)
    (c__law_right : PySem.W.codeIn K cd__law_right ("_law_right" : Str) = true)
    (k__law_right : PySem.W.keepIn K (.ref f__law_right) = true)
    {f_numbered : Addr}
    {od_numbered an_numbered : Option Addr}
    {sl_numbered : Array (Option Value)}
    {oc_numbered kV_numbered dc_numbered pm_numbered cd_numbered ct_numbered : Value}
    (a_numbered : PySem.W.nsIn K mainGlobals ("numbered" : Str) = some (some (.ref f_numbered)))
    (l_numbered : K.lookup f_numbered = some ⟨oc_numbered, od_numbered, .func (PySem.W.fnOf ("numbered" : Str) ("numbered" : Str) (defArgs s_numbered) (defBody s_numbered) (defScope s_numbered) .none kV_numbered dc_numbered pm_numbered an_numbered cd_numbered ct_numbered), sl_numbered⟩)
    (c_numbered : PySem.W.codeIn K cd_numbered ("numbered" : Str) = true)
    (k_numbered : PySem.W.keepIn K (.ref f_numbered) = true)
    {f__law_cells : Addr}
    {od__law_cells an__law_cells : Option Addr}
    {sl__law_cells : Array (Option Value)}
    {oc__law_cells kV__law_cells dc__law_cells pm__law_cells cd__law_cells ct__law_cells : Value}
    (a__law_cells : PySem.W.nsIn K mainGlobals ("_law_cells" : Str) = some (some (.ref f__law_cells)))
    (l__law_cells : K.lookup f__law_cells = some ⟨oc__law_cells, od__law_cells, .func (PySem.W.fnOf ("_law_cells" : Str) ("_law_cells" : Str) (defArgs s__law_cells) (defBody s__law_cells) (defScope s__law_cells) .none kV__law_cells dc__law_cells pm__law_cells an__law_cells cd__law_cells ct__law_cells), sl__law_cells⟩)
    (c__law_cells : PySem.W.codeIn K cd__law_cells ("_law_cells" : Str) = true)
    (k__law_cells : PySem.W.keepIn K (.ref f__law_cells) = true)
    {od_law an_law : Option Addr}
    {sl_law : Array (Option Value)}
    {oc_law kV_law dc_law pm_law cd_law ct_law : Value}
    {f_law : Addr}
    (a_law : PySem.W.nsIn K mainGlobals ("law" : Str) = some (some (.ref f_law)))
    (l_law : K.lookup f_law = some ⟨oc_law, od_law, .func (PySem.W.fnOf "law" "law" (defArgs s_law) (defBody s_law) (defScope s_law) .none kV_law dc_law pm_law an_law cd_law ct_law), sl_law⟩)
    (c_law : PySem.W.codeIn K cd_law "law" = true)
    (k_law : PySem.W.keepIn K (.ref f_law) = true)
    {C Tt e0 : Addr}
    {odT odE : Option Addr}
    {slT slE : Array (Option Value)}
    {ocT : Value}
    {nT nE : Nat}
    {f_i : Addr}
    {od_i an_i : Option Addr}
    {sl_i : Array (Option Value)}
    {oc_i kV_i dc_i pm_i cd_i ct_i : Value}
    (a_C : PySem.W.nsIn K mainGlobals ("Program" : Str) = some (some (.ref C)))
    (a_i : PySem.W.findIn K (.ref C) "__init__" = some (some (.ref f_i)))
    (i_i : PySem.W.isFn K (.ref f_i) = true)
    (l_i : K.lookup f_i = some ⟨oc_i, od_i, .func (PySem.W.fnOf ("__init__" : Str) ("Program.__init__" : Str) (defArgs s_init) (defBody s_init) (defScope s_init) (.ref Tt) kV_i dc_i pm_i an_i cd_i ct_i), sl_i⟩)
    (c_i : PySem.W.codeIn K cd_i ("Program.__init__" : Str) = true)
    (k_i : PySem.W.keepIn K (.ref f_i) = true)
    (l_T : K.lookup Tt = some ⟨ocT, odT, .seq #[.ref e0] nT, slT⟩)
    (l_E : K.lookup e0 = some ⟨.type "tuple", odE, .seq #[] nE, slE⟩)
    (pg : PySem.W.plainGet K C Str.empty = true)
    (hd : PySem.W.hasDictIn K C = true)
    (po : PySem.W.plainOver K C = true)
    (sa : PySem.W.findIn K (.ref C) "__setattr__" = some (some (.builtin "object.__setattr__")))
    (mk : PySem.W.makesIn K C = true)
    (kc : PySem.W.keepIn K (.ref C) = true)
    (n_1 : PySem.W.findIn K (.ref C) "_deeds" = some none)
    (n_2 : PySem.W.findIn K (.ref C) "_writes" = some none)
    (n_3 : PySem.W.findIn K (.ref C) "_lines" = some none)
    (ha : PySem.W.findIn K (.ref C) "__class__" = some (some (.builtin "object.__class__")))
    (hn : PySem.W.specialIn K (.builtin "object.__class__") "__get__" = some (some (.builtin "getset_descriptor.__get__")))
    (htk : PySem.W.takesIn K (.builtin "object.__class__") = some true)
    (hm : PySem.W.mroIn K C (.type "object") = some true)
    (q_str : PySem.W.subIn K (.ref C) (.type "str") = some false)
    (q_int : PySem.W.subIn K (.ref C) (.type "int") = some false)
    (q_bool : PySem.W.subIn K (.ref C) (.type "bool") = some false)
    (q_list : PySem.W.subIn K (.ref C) (.type "list") = some false)
    (q_tuple : PySem.W.subIn K (.ref C) (.type "tuple") = some false)
    (ne_C : PySem.W.findIn K (.ref C) "__ne__" = some (some (.builtin "object.__ne__")))
    (nf_C : PySem.W.notFirst K C (.ref C) = true)
    (is_C : PySem.W.isClsIn K C = true)
    (ty_C : PySem.W.typeIn K (.ref C) = some (.type "type"))
    {f_mcontains : Addr}
    {od_mcontains an_mcontains : Option Addr}
    {sl_mcontains : Array (Option Value)}
    {oc_mcontains kV_mcontains dc_mcontains pm_mcontains cd_mcontains ct_mcontains : Value}
    (a_mcontains : PySem.W.findIn K (.ref C) "__contains__" = some (some (.ref f_mcontains)))
    (i_mcontains : PySem.W.isFn K (.ref f_mcontains) = true)
    (f_mcontains_ : PySem.W.fnIn K f_mcontains = true)
    (l_mcontains : K.lookup f_mcontains = some ⟨oc_mcontains, od_mcontains, .func (PySem.W.fnOf ("__contains__" : Str) ("Program.__contains__" : Str) (defArgs s_Program___contains__) (defBody s_Program___contains__) (defScope s_Program___contains__) .none kV_mcontains dc_mcontains pm_mcontains an_mcontains cd_mcontains ct_mcontains), sl_mcontains⟩)
    (c_mcontains : PySem.W.codeIn K cd_mcontains ("Program.__contains__" : Str) = true)
    (k_mcontains : PySem.W.keepIn K (.ref f_mcontains) = true)
    {f_sof : Addr}
    {od_sof an_sof : Option Addr}
    {sl_sof : Array (Option Value)}
    {oc_sof kV_sof dc_sof pm_sof cd_sof ct_sof : Value}
    {p_of : Addr}
    {rs_of : List Value}
    (tg_C : PySem.W.specialIn K (.ref C) "__getattribute__" = some (some (.builtin "type.__getattribute__")))
    (rd_C : PySem.W.readsIn K C (.type "type") = true)
    (fc_of : PySem.W.findCls K (.ref C) (.type "type") "of" = some (.get (.builtin "staticmethod.__get__") (.ref p_of) .none (.ref C)))
    (r_sof : PySem.W.recIn K p_of "staticmethod" = some (.ref f_sof :: rs_of))
    (l_sof : K.lookup f_sof = some ⟨oc_sof, od_sof, .func (PySem.W.fnOf ("of" : Str) ("Program.of" : Str) (defArgs s_Program_of) (defBody s_Program_of) (defScope s_Program_of) .none kV_sof dc_sof pm_sof an_sof cd_sof ct_sof), sl_sof⟩)
    (c_sof : PySem.W.codeIn K cd_sof ("Program.of" : Str) = true)
    (k_sof : PySem.W.keepIn K (.ref f_sof) = true)
    {f_pdeeds : Addr}
    {od_pdeeds an_pdeeds : Option Addr}
    {sl_pdeeds : Array (Option Value)}
    {oc_pdeeds kV_pdeeds dc_pdeeds pm_pdeeds cd_pdeeds ct_pdeeds : Value}
    {p_deeds : Addr}
    {rs_deeds : List Value}
    (a_pdeeds : PySem.W.findIn K (.ref C) "deeds" = some (some (.ref p_deeds)))
    (g_pdeeds : PySem.W.specialIn K (.ref p_deeds) "__get__" = some (some (.builtin "property.__get__")))
    (t_pdeeds : PySem.W.takesIn K (.ref p_deeds) = some true)
    (r_pdeeds : PySem.W.recIn K p_deeds "property" = some (.ref f_pdeeds :: rs_deeds))
    (l_pdeeds : K.lookup f_pdeeds = some ⟨oc_pdeeds, od_pdeeds, .func (PySem.W.fnOf ("deeds" : Str) ("Program.deeds" : Str) (defArgs s_Program_deeds) (defBody s_Program_deeds) (defScope s_Program_deeds) .none kV_pdeeds dc_pdeeds pm_pdeeds an_pdeeds cd_pdeeds ct_pdeeds), sl_pdeeds⟩)
    (c_pdeeds : PySem.W.codeIn K cd_pdeeds ("Program.deeds" : Str) = true)
    (k_pdeeds : PySem.W.keepIn K (.ref f_pdeeds) = true)
    {f_plines : Addr}
    {od_plines an_plines : Option Addr}
    {sl_plines : Array (Option Value)}
    {oc_plines kV_plines dc_plines pm_plines cd_plines ct_plines : Value}
    {p_lines : Addr}
    {rs_lines : List Value}
    (a_plines : PySem.W.findIn K (.ref C) "lines" = some (some (.ref p_lines)))
    (g_plines : PySem.W.specialIn K (.ref p_lines) "__get__" = some (some (.builtin "property.__get__")))
    (t_plines : PySem.W.takesIn K (.ref p_lines) = some true)
    (r_plines : PySem.W.recIn K p_lines "property" = some (.ref f_plines :: rs_lines))
    (l_plines : K.lookup f_plines = some ⟨oc_plines, od_plines, .func (PySem.W.fnOf ("lines" : Str) ("Program.lines" : Str) (defArgs s_Program_lines) (defBody s_Program_lines) (defScope s_Program_lines) .none kV_plines dc_plines pm_plines an_plines cd_plines ct_plines), sl_plines⟩)
    (c_plines : PySem.W.codeIn K cd_plines ("Program.lines" : Str) = true)
    (k_plines : PySem.W.keepIn K (.ref f_plines) = true)
    {f_eNoLine : Addr}
    {od_eNoLine an_eNoLine : Option Addr}
    {sl_eNoLine : Array (Option Value)}
    {oc_eNoLine kV_eNoLine dc_eNoLine pm_eNoLine cd_eNoLine ct_eNoLine : Value}
    {C_NoLine N_NoLine : Addr}
    {nm_NoLine qn_NoLine : Str}
    {bs_NoLine sb_NoLine : List Value}
    {sn_NoLine : List Str}
    {ab_NoLine : Bool}
    {co_NoLine : Option Bool}
    {dd_NoLine : Option Addr}
    {m0_NoLine m1_NoLine m2_NoLine m3_NoLine m5_NoLine : Option Value}
    (a_NoLine : PySem.W.nsIn K mainGlobals "NoLine" = some (some (.ref C_NoLine)))
    (x_NoLine : K.lookup C_NoLine = some (excClassObj nm_NoLine qn_NoLine C_NoLine N_NoLine bs_NoLine [.type "LookupError", .type "Exception", .type "BaseException", .type "object"] true sn_NoLine sb_NoLine ab_NoLine co_NoLine dd_NoLine m0_NoLine m1_NoLine m2_NoLine m3_NoLine m5_NoLine "LookupError.__new__"))
    (sa_NoLine : PySem.W.findIn K (.ref C_NoLine) "__setattr__" = some (some (.builtin "object.__setattr__")))
    (ga_NoLine : PySem.W.findIn K (.ref C_NoLine) "__getattribute__" = some (some (.builtin "BaseException.__getattribute__")))
    (gg_NoLine : PySem.W.findIn K (.ref C_NoLine) "__getattr__" = some none)
    (no_NoLine : PySem.W.findIn K (.ref C_NoLine) "line" = some none)
    (a_eNoLine : PySem.W.findIn K (.ref C_NoLine) "__init__" = some (some (.ref f_eNoLine)))
    (t_eNoLine : PySem.W.typeIn K (.ref f_eNoLine) = some (.type "function"))
    (l_eNoLine : K.lookup f_eNoLine = some ⟨oc_eNoLine, od_eNoLine, .func (PySem.W.fnOf ("__init__" : Str) ("NoLine.__init__" : Str) (defArgs s_NoLine___init__) (defBody s_NoLine___init__) (defScope s_NoLine___init__) .none kV_eNoLine dc_eNoLine pm_eNoLine an_eNoLine cd_eNoLine ct_eNoLine), sl_eNoLine⟩)
    (c_eNoLine : PySem.W.codeIn K cd_eNoLine ("NoLine.__init__" : Str) = true)
    (k_eNoLine : PySem.W.keepIn K (.ref f_eNoLine) = true)
    (kk_NoLine : PySem.W.keepIn K (.ref C_NoLine) = true)
    (eb_NoLine : PySem.W.subIn K (.ref C_NoLine) (.type "BaseException") = some true)
    (ty_NoLine : PySem.W.typeIn K (.ref C_NoLine) = some (.type "type"))
    (hd_NoLine : PySem.W.hasDictIn K C_NoLine = true)
    (is_NoLine : PySem.W.isClsIn K C_NoLine = true)
    (ss_NoLine : PySem.W.subIn K (.ref C_NoLine) (.ref C_NoLine) = some true)
    (cl_NoLine : PySem.W.findIn K (.ref C_NoLine) "__class__" = some (some (.builtin "object.__class__")))
    (ob_NoLine : PySem.W.mroIn K C_NoLine (.type "object") = some true)
    (lu_NoLine : PySem.W.subIn K (.ref C_NoLine) (.type "LookupError") = some true)
    {f_eNoPlace : Addr}
    {od_eNoPlace an_eNoPlace : Option Addr}
    {sl_eNoPlace : Array (Option Value)}
    {oc_eNoPlace kV_eNoPlace dc_eNoPlace pm_eNoPlace cd_eNoPlace ct_eNoPlace : Value}
    {C_NoPlace N_NoPlace : Addr}
    {nm_NoPlace qn_NoPlace : Str}
    {bs_NoPlace sb_NoPlace : List Value}
    {sn_NoPlace : List Str}
    {ab_NoPlace : Bool}
    {co_NoPlace : Option Bool}
    {dd_NoPlace : Option Addr}
    {m0_NoPlace m1_NoPlace m2_NoPlace m3_NoPlace m5_NoPlace : Option Value}
    (a_NoPlace : PySem.W.nsIn K mainGlobals "NoPlace" = some (some (.ref C_NoPlace)))
    (x_NoPlace : K.lookup C_NoPlace = some (excClassObj nm_NoPlace qn_NoPlace C_NoPlace N_NoPlace bs_NoPlace [.type "LookupError", .type "Exception", .type "BaseException", .type "object"] true sn_NoPlace sb_NoPlace ab_NoPlace co_NoPlace dd_NoPlace m0_NoPlace m1_NoPlace m2_NoPlace m3_NoPlace m5_NoPlace "LookupError.__new__"))
    (sa_NoPlace : PySem.W.findIn K (.ref C_NoPlace) "__setattr__" = some (some (.builtin "object.__setattr__")))
    (ga_NoPlace : PySem.W.findIn K (.ref C_NoPlace) "__getattribute__" = some (some (.builtin "BaseException.__getattribute__")))
    (gg_NoPlace : PySem.W.findIn K (.ref C_NoPlace) "__getattr__" = some none)
    (no_NoPlace : PySem.W.findIn K (.ref C_NoPlace) "place" = some none)
    (a_eNoPlace : PySem.W.findIn K (.ref C_NoPlace) "__init__" = some (some (.ref f_eNoPlace)))
    (t_eNoPlace : PySem.W.typeIn K (.ref f_eNoPlace) = some (.type "function"))
    (l_eNoPlace : K.lookup f_eNoPlace = some ⟨oc_eNoPlace, od_eNoPlace, .func (PySem.W.fnOf ("__init__" : Str) ("NoPlace.__init__" : Str) (defArgs s_NoPlace___init__) (defBody s_NoPlace___init__) (defScope s_NoPlace___init__) .none kV_eNoPlace dc_eNoPlace pm_eNoPlace an_eNoPlace cd_eNoPlace ct_eNoPlace), sl_eNoPlace⟩)
    (c_eNoPlace : PySem.W.codeIn K cd_eNoPlace ("NoPlace.__init__" : Str) = true)
    (k_eNoPlace : PySem.W.keepIn K (.ref f_eNoPlace) = true)
    (kk_NoPlace : PySem.W.keepIn K (.ref C_NoPlace) = true)
    (eb_NoPlace : PySem.W.subIn K (.ref C_NoPlace) (.type "BaseException") = some true)
    (ty_NoPlace : PySem.W.typeIn K (.ref C_NoPlace) = some (.type "type"))
    (hd_NoPlace : PySem.W.hasDictIn K C_NoPlace = true)
    (is_NoPlace : PySem.W.isClsIn K C_NoPlace = true)
    (ss_NoPlace : PySem.W.subIn K (.ref C_NoPlace) (.ref C_NoPlace) = some true)
    (cl_NoPlace : PySem.W.findIn K (.ref C_NoPlace) "__class__" = some (some (.builtin "object.__class__")))
    (ob_NoPlace : PySem.W.mroIn K C_NoPlace (.type "object") = some true)
    (lu_NoPlace : PySem.W.subIn K (.ref C_NoPlace) (.type "LookupError") = some true)
    {f_eNoWish : Addr}
    {od_eNoWish an_eNoWish : Option Addr}
    {sl_eNoWish : Array (Option Value)}
    {oc_eNoWish kV_eNoWish dc_eNoWish pm_eNoWish cd_eNoWish ct_eNoWish : Value}
    {C_NoWish N_NoWish : Addr}
    {nm_NoWish qn_NoWish : Str}
    {bs_NoWish sb_NoWish : List Value}
    {sn_NoWish : List Str}
    {ab_NoWish : Bool}
    {co_NoWish : Option Bool}
    {dd_NoWish : Option Addr}
    {m0_NoWish m1_NoWish m2_NoWish m3_NoWish m5_NoWish : Option Value}
    (a_NoWish : PySem.W.nsIn K mainGlobals "NoWish" = some (some (.ref C_NoWish)))
    (x_NoWish : K.lookup C_NoWish = some (excClassObj nm_NoWish qn_NoWish C_NoWish N_NoWish bs_NoWish [.type "ValueError", .type "Exception", .type "BaseException", .type "object"] true sn_NoWish sb_NoWish ab_NoWish co_NoWish dd_NoWish m0_NoWish m1_NoWish m2_NoWish m3_NoWish m5_NoWish "ValueError.__new__"))
    (sa_NoWish : PySem.W.findIn K (.ref C_NoWish) "__setattr__" = some (some (.builtin "object.__setattr__")))
    (ga_NoWish : PySem.W.findIn K (.ref C_NoWish) "__getattribute__" = some (some (.builtin "BaseException.__getattribute__")))
    (gg_NoWish : PySem.W.findIn K (.ref C_NoWish) "__getattr__" = some none)
    (no_NoWish : PySem.W.findIn K (.ref C_NoWish) "wish" = some none)
    (a_eNoWish : PySem.W.findIn K (.ref C_NoWish) "__init__" = some (some (.ref f_eNoWish)))
    (t_eNoWish : PySem.W.typeIn K (.ref f_eNoWish) = some (.type "function"))
    (l_eNoWish : K.lookup f_eNoWish = some ⟨oc_eNoWish, od_eNoWish, .func (PySem.W.fnOf ("__init__" : Str) ("NoWish.__init__" : Str) (defArgs s_NoWish___init__) (defBody s_NoWish___init__) (defScope s_NoWish___init__) .none kV_eNoWish dc_eNoWish pm_eNoWish an_eNoWish cd_eNoWish ct_eNoWish), sl_eNoWish⟩)
    (c_eNoWish : PySem.W.codeIn K cd_eNoWish ("NoWish.__init__" : Str) = true)
    (k_eNoWish : PySem.W.keepIn K (.ref f_eNoWish) = true)
    (kk_NoWish : PySem.W.keepIn K (.ref C_NoWish) = true)
    (eb_NoWish : PySem.W.subIn K (.ref C_NoWish) (.type "BaseException") = some true)
    (ty_NoWish : PySem.W.typeIn K (.ref C_NoWish) = some (.type "type"))
    (hd_NoWish : PySem.W.hasDictIn K C_NoWish = true)
    (is_NoWish : PySem.W.isClsIn K C_NoWish = true)
    (ss_NoWish : PySem.W.subIn K (.ref C_NoWish) (.ref C_NoWish) = some true)
    (cl_NoWish : PySem.W.findIn K (.ref C_NoWish) "__class__" = some (some (.builtin "object.__class__")))
    (ob_NoWish : PySem.W.mroIn K C_NoWish (.type "object") = some true)
    (lu_NoWish : PySem.W.subIn K (.ref C_NoWish) (.type "ValueError") = some true)
    {t_FLUSH : Tok}
    (g_FLUSH : PySem.W.nsIn K mainGlobals ("FLUSH" : Str) = some (some (.str ("flush" : Str) t_FLUSH)))
    {t_LETTERS : Tok}
    (g_LETTERS : PySem.W.nsIn K mainGlobals ("LETTERS" : Str) = some (some (.str ("abcdefghijklmnopqrstuvwxyz" : Str) t_LETTERS)))
    {t_WRITE : Tok}
    (g_WRITE : PySem.W.nsIn K mainGlobals ("WRITE" : Str) = some (some (.str ("write" : Str) t_WRITE)))
    (z_abs : PySem.W.nsIn K mainGlobals ("abs" : Str) = some none)
    (z_all : PySem.W.nsIn K mainGlobals ("all" : Str) = some none)
    (z_bool : PySem.W.nsIn K mainGlobals ("bool" : Str) = some none)
    (z_dict : PySem.W.nsIn K mainGlobals ("dict" : Str) = some none)
    (z_enumerate : PySem.W.nsIn K mainGlobals ("enumerate" : Str) = some none)
    (z_int : PySem.W.nsIn K mainGlobals ("int" : Str) = some none)
    (z_isinstance : PySem.W.nsIn K mainGlobals ("isinstance" : Str) = some none)
    (z_len : PySem.W.nsIn K mainGlobals ("len" : Str) = some none)
    (z_list : PySem.W.nsIn K mainGlobals ("list" : Str) = some none)
    (z_range : PySem.W.nsIn K mainGlobals ("range" : Str) = some none)
    (z_set : PySem.W.nsIn K mainGlobals ("set" : Str) = some none)
    (z_sorted : PySem.W.nsIn K mainGlobals ("sorted" : Str) = some none)
    (z_str : PySem.W.nsIn K mainGlobals ("str" : Str) = some none)
    (z_tuple : PySem.W.nsIn K mainGlobals ("tuple" : Str) = some none)
    (z_zip : PySem.W.nsIn K mainGlobals ("zip" : Str) = some none)
    : ∃ fd : FuncData, (∀ (s : Shared) (v : Value), BindsTo s fd ⟨[v], []⟩ [("_law_script", v)]) ∧ ∀ base : Heap, K.In base → base.Ns mainGlobals mg → FnOk l.prog w K mg base CX0 15 fa fd ["_law_script"] (spLaw K) := by
  have e := hfa.symm.trans (PySem.W.mg_of X G0 a_law)
  cases e
  have T : Tx mg := ⟨PySem.W.mg_none_of X G0 z_abs, PySem.W.mg_none_of X G0 z_all, PySem.W.mg_none_of X G0 z_bool, PySem.W.mg_none_of X G0 z_dict, PySem.W.mg_none_of X G0 z_enumerate, PySem.W.mg_none_of X G0 z_int, PySem.W.mg_none_of X G0 z_isinstance, PySem.W.mg_none_of X G0 z_len, PySem.W.mg_none_of X G0 z_list, PySem.W.mg_none_of X G0 z_range, PySem.W.mg_none_of X G0 z_set, PySem.W.mg_none_of X G0 z_sorted, PySem.W.mg_none_of X G0 z_str, PySem.W.mg_none_of X G0 z_tuple, PySem.W.mg_none_of X G0 z_zip, ⟨_, PySem.W.mg_of X G0 g_FLUSH⟩, ⟨_, PySem.W.mg_of X G0 g_LETTERS⟩, ⟨_, PySem.W.mg_of X G0 g_WRITE⟩⟩
  have F_is_number_ := fun_mk (st := s_is_number) l_is_number c_is_number k_is_number
  have b_is_number := F_is_number_.binds (ps := [("thing" : Str)]) fun _ _ _ _ _ _ us hl => match us, hl with | [_], _ => rfl
  have F_is_pair_ := fun_mk (st := s_is_pair) l_is_pair c_is_pair k_is_pair
  have b_is_pair := F_is_pair_.binds (ps := [("thing" : Str)]) fun _ _ _ _ _ _ us hl => match us, hl with | [_], _ => rfl
  have F_is_name_ := fun_mk (st := s_is_name) l_is_name c_is_name k_is_name
  have b_is_name := F_is_name_.binds (ps := [("thing" : Str)]) fun _ _ _ _ _ _ us hl => match us, hl with | [_], _ => rfl
  have F_is_line_ := fun_mk (st := s_is_line) l_is_line c_is_line k_is_line
  have b_is_line := F_is_line_.binds (ps := [("thing" : Str)]) fun _ _ _ _ _ _ us hl => match us, hl with | [_], _ => rfl
  have F_tupled_ := fun_mk (st := s_tupled) l_tupled c_tupled k_tupled
  have b_tupled := F_tupled_.binds (ps := [("worth" : Str)]) fun _ _ _ _ _ _ us hl => match us, hl with | [_], _ => rfl
  have F_deed_in_ := fun_mk (st := s_deed_in) l_deed_in c_deed_in k_deed_in
  have b_deed_in := F_deed_in_.binds (ps := [("text" : Str)]) fun _ _ _ _ _ _ us hl => match us, hl with | [_], _ => rfl
  have F_written_at_ := fun_mk (st := s_written_at) l_written_at c_written_at k_written_at
  have b_written_at := F_written_at_.binds (ps := [("program" : Str), ("line" : Str)]) fun _ _ _ _ _ _ us hl => match us, hl with | [_, _], _ => rfl
  have F_counted_ := fun_mk (st := s_counted) l_counted c_counted k_counted
  have b_counted := F_counted_.binds (ps := [("many" : Str)]) fun _ _ _ _ _ _ us hl => match us, hl with | [_], _ => rfl
  have F_told_by_ := fun_mk (st := s_told_by) l_told_by c_told_by k_told_by
  have b_told_by := F_told_by_.binds (ps := [("rows" : Str)]) fun _ _ _ _ _ _ us hl => match us, hl with | [_], _ => rfl
  have F_surely_before_ := fun_mk (st := s_surely_before) l_surely_before c_surely_before k_surely_before
  have b_surely_before := F_surely_before_.binds (ps := [("told" : Str), ("one" : Str), ("other" : Str)]) fun _ _ _ _ _ _ us hl => match us, hl with | [_, _, _], _ => rfl
  have F_table_of_ := fun_mk (st := s_table_of) l_table_of c_table_of k_table_of
  have b_table_of := F_table_of_.binds (ps := [("program" : Str)]) fun _ _ _ _ _ _ us hl => match us, hl with | [_], _ => rfl
  have F_told_in_ := fun_mk (st := s_told_in) l_told_in c_told_in k_told_in
  have b_told_in := F_told_in_.binds (ps := [("program" : Str)]) fun _ _ _ _ _ _ us hl => match us, hl with | [_], _ => rfl
  have F_is_wish_ := fun_mk (st := s_is_wish) l_is_wish c_is_wish k_is_wish
  have b_is_wish := F_is_wish_.binds (ps := [("program" : Str), ("thing" : Str)]) fun _ _ _ _ _ _ us hl => match us, hl with | [_, _], _ => rfl
  have F_check_wishes_ := fun_mk (st := s_check_wishes) l_check_wishes c_check_wishes k_check_wishes
  have b_check_wishes := F_check_wishes_.binds (ps := [("program" : Str), ("wishes" : Str)]) fun _ _ _ _ _ _ us hl => match us, hl with | [_, _], _ => rfl
  have F_all_wishes_ := fun_mk (st := s_all_wishes) l_all_wishes c_all_wishes k_all_wishes
  have b_all_wishes := F_all_wishes_.binds (ps := [("program" : Str)]) fun _ _ _ _ _ _ us hl => match us, hl with | [_], _ => rfl
  have F_kept_ := fun_mk (st := s_kept) l_kept c_kept k_kept
  have b_kept := F_kept_.binds (ps := [("program" : Str), ("wishes" : Str)]) fun _ _ _ _ _ _ us hl => match us, hl with | [_, _], _ => rfl
  have F__law_box_ := fun_mk (st := s__law_box) l__law_box c__law_box k__law_box
  have b__law_box := F__law_box_.binds (ps := [("_law_script" : Str), ("_law_k" : Str)]) fun _ _ _ _ _ _ us hl => match us, hl with | [_, _], _ => rfl
  have F__law_take_ := fun_mk (st := s__law_take) l__law_take c__law_take k__law_take
  have b__law_take := F__law_take_.binds (ps := [("_law_urn" : Str), ("_law_low_so" : Str)]) fun _ _ _ _ _ _ us hl => match us, hl with | [_, _], _ => rfl
  have F__law_of_ := fun_mk (st := s__law_of) l__law_of c__law_of k__law_of
  have b__law_of := F__law_of_.binds (ps := [("_law_urn" : Str), ("_law_some_so" : Str)]) fun _ _ _ _ _ _ us hl => match us, hl with | [_, _], _ => rfl
  have F__law_same_ := fun_mk (st := s__law_same) l__law_same c__law_same k__law_same
  have b__law_same := F__law_same_.binds (ps := [("_law_got" : Str), ("_law_goal" : Str)]) fun _ _ _ _ _ _ us hl => match us, hl with | [_, _], _ => rfl
  have F__law_lists_ := fun_mk (st := s__law_lists) l__law_lists c__law_lists k__law_lists
  have b__law_lists := F__law_lists_.binds (ps := [("_law_matter" : Str)]) fun _ _ _ _ _ _ us hl => match us, hl with | [_], _ => rfl
  have F__law_pick_ := fun_mk (st := s__law_pick) l__law_pick c__law_pick k__law_pick
  have b__law_pick := F__law_pick_.binds (ps := [("_law_urn" : Str), ("_law_goods_so" : Str), ("_law_many_so" : Str)]) fun _ _ _ _ _ _ us hl => match us, hl with | [_, _, _], _ => rfl
  have F__law_tags_ := fun_mk (st := s__law_tags) l__law_tags c__law_tags k__law_tags
  have b__law_tags := F__law_tags_.binds (ps := [("_law_urn" : Str), ("_law_many_so" : Str)]) fun _ _ _ _ _ _ us hl => match us, hl with | [_, _], _ => rfl
  have F__law_deeds_ := fun_mk (st := s__law_deeds) l__law_deeds c__law_deeds k__law_deeds
  have b__law_deeds := F__law_deeds_.binds (ps := [("_law_urn" : Str), ("_law_tags_here" : Str), ("_law_size_so" : Str)]) fun _ _ _ _ _ _ us hl => match us, hl with | [_, _, _], _ => rfl
  have F__law_born_ := fun_mk (st := s__law_born) l__law_born c__law_born k__law_born
  have b__law_born := F__law_born_.binds (ps := [("_law_deeds_so" : Str)]) fun _ _ _ _ _ _ us hl => match us, hl with | [_], _ => rfl
  have F__law_wished_ := fun_mk (st := s__law_wished) l__law_wished c__law_wished k__law_wished
  have b__law_wished := F__law_wished_.binds (ps := [("_law_deeds_so" : Str)]) fun _ _ _ _ _ _ us hl => match us, hl with | [_], _ => rfl
  have F__law_held_ := fun_mk (st := s__law_held) l__law_held c__law_held k__law_held
  have b__law_held := F__law_held_.binds (ps := [("_law_deeds_so" : Str), ("_law_wish_so" : Str)]) fun _ _ _ _ _ _ us hl => match us, hl with | [_, _], _ => rfl
  have F__law_odd_ := fun_mk (st := s__law_odd) l__law_odd c__law_odd k__law_odd
  have b__law_odd := F__law_odd_.binds (ps := [("_law_one" : Str), ("_law_own" : Str)]) fun _ _ _ _ _ _ us hl => match us, hl with | [_, _], _ => rfl
  have F__law_case_right_ := fun_mk (st := s__law_case_right) l__law_case_right c__law_case_right k__law_case_right
  have b__law_case_right := F__law_case_right_.binds (ps := [("_law_urn" : Str), ("_law_deeds_so" : Str)]) fun _ _ _ _ _ _ us hl => match us, hl with | [_, _], _ => rfl
  have F__law_deep_right_ := fun_mk (st := s__law_deep_right) l__law_deep_right c__law_deep_right k__law_deep_right
  have b__law_deep_right := F__law_deep_right_.binds (ps := []) fun _ _ _ _ _ _ us hl => match us, hl with | [], _ => rfl
  have F__law_by_hand_right_ := fun_mk (st := s__law_by_hand_right) l__law_by_hand_right c__law_by_hand_right k__law_by_hand_right
  have b__law_by_hand_right := F__law_by_hand_right_.binds (ps := []) fun _ _ _ _ _ _ us hl => match us, hl with | [], _ => rfl
  have F__law_right_ := fun_mk (st := s__law_right) l__law_right c__law_right k__law_right
  have b__law_right := F__law_right_.binds (ps := [("_law_urn" : Str)]) fun _ _ _ _ _ _ us hl => match us, hl with | [_], _ => rfl
  have F_numbered_ := fun_mk (st := s_numbered) l_numbered c_numbered k_numbered
  have b_numbered := F_numbered_.binds (ps := [("writes" : Str)]) fun _ _ _ _ _ _ us hl => match us, hl with | [_], _ => rfl
  have F__law_cells_ := fun_mk (st := s__law_cells) l__law_cells c__law_cells k__law_cells
  have b__law_cells := F__law_cells_.binds (ps := [("_law_script" : Str), ("_law_top" : Str)]) fun _ _ _ _ _ _ us hl => match us, hl with | [_, _], _ => rfl
  have F_law_ := fun_mk (st := s_law) l_law c_law k_law
  have F_mcontains_ := fun_mk (st := s_Program___contains__) l_mcontains c_mcontains k_mcontains
  have b_mcontains := F_mcontains_.binds (ps := [("self" : Str), ("line" : Str)]) fun _ _ _ _ _ _ us hl => match us, hl with | [_, _], _ => rfl
  have F_sof_ := fun_mk (st := s_Program_of) l_sof c_sof k_sof
  have b_sof := F_sof_.binds (ps := [("text" : Str)]) fun _ _ _ _ _ _ us hl => match us, hl with | [_], _ => rfl
  have F_pdeeds_ := fun_mk (st := s_Program_deeds) l_pdeeds c_pdeeds k_pdeeds
  have b_pdeeds := F_pdeeds_.binds (ps := [("self" : Str)]) fun _ _ _ _ _ _ us hl => match us, hl with | [_], _ => rfl
  have F_plines_ := fun_mk (st := s_Program_lines) l_plines c_plines k_plines
  have b_plines := F_plines_.binds (ps := [("self" : Str)]) fun _ _ _ _ _ _ us hl => match us, hl with | [_], _ => rfl
  have F_eNoLine_ := fun_mk (st := s_NoLine___init__) l_eNoLine c_eNoLine k_eNoLine
  have b_eNoLine := F_eNoLine_.binds (ps := [("self" : Str), ("line" : Str)]) fun _ _ _ _ _ _ us hl => match us, hl with | [_, _], _ => rfl
  have F_eNoPlace_ := fun_mk (st := s_NoPlace___init__) l_eNoPlace c_eNoPlace k_eNoPlace
  have b_eNoPlace := F_eNoPlace_.binds (ps := [("self" : Str), ("place" : Str)]) fun _ _ _ _ _ _ us hl => match us, hl with | [_, _], _ => rfl
  have F_eNoWish_ := fun_mk (st := s_NoWish___init__) l_eNoWish c_eNoWish k_eNoWish
  have b_eNoWish := F_eNoWish_.binds (ps := [("self" : Str), ("wish" : Str)]) fun _ _ _ _ _ _ us hl => match us, hl with | [_, _], _ => rfl
  have cl : Cls K C := ⟨pg, hd, po, sa⟩
  have IO : InsOk K C := ⟨cl, ha, hn, htk, hm, kit_sub q_str (by decide +kernel), kit_sub q_int (by decide +kernel), kit_sub q_bool (by decide +kernel), kit_sub q_list (by decide +kernel), kit_sub q_tuple (by decide +kernel)⟩
  have EO_NoLine : ErOk K C_NoLine := ⟨⟨ga_NoLine, gg_NoLine, eb_NoLine, hd_NoLine, cl_NoLine, hn, htk, ob_NoLine⟩, ⟨ga_NoLine, gg_NoLine, eb_NoLine, hd_NoLine⟩, exm_self eb_NoLine is_NoLine ty_NoLine ss_NoLine⟩
  have OX_NoLine : OxC K C_NoLine "LookupError" "LookupError.__new__" "LookupError.__init__" [.type "LookupError", .type "Exception", .type "BaseException", .type "object"] := ⟨PySem.F.excBase_LookupError, PySem.F.store_LookupError, ⟨_, _, _, _, _, _, _, _, _, _, _, _, _, _, x_NoLine⟩, sa_NoLine, eb_NoLine, ty_NoLine, kk_NoLine⟩
  have EO_NoPlace : ErOk K C_NoPlace := ⟨⟨ga_NoPlace, gg_NoPlace, eb_NoPlace, hd_NoPlace, cl_NoPlace, hn, htk, ob_NoPlace⟩, ⟨ga_NoPlace, gg_NoPlace, eb_NoPlace, hd_NoPlace⟩, exm_self eb_NoPlace is_NoPlace ty_NoPlace ss_NoPlace⟩
  have OX_NoPlace : OxC K C_NoPlace "LookupError" "LookupError.__new__" "LookupError.__init__" [.type "LookupError", .type "Exception", .type "BaseException", .type "object"] := ⟨PySem.F.excBase_LookupError, PySem.F.store_LookupError, ⟨_, _, _, _, _, _, _, _, _, _, _, _, _, _, x_NoPlace⟩, sa_NoPlace, eb_NoPlace, ty_NoPlace, kk_NoPlace⟩
  have EO_NoWish : ErOk K C_NoWish := ⟨⟨ga_NoWish, gg_NoWish, eb_NoWish, hd_NoWish, cl_NoWish, hn, htk, ob_NoWish⟩, ⟨ga_NoWish, gg_NoWish, eb_NoWish, hd_NoWish⟩, exm_self eb_NoWish is_NoWish ty_NoWish ss_NoWish⟩
  have OX_NoWish : OxC K C_NoWish "ValueError" "ValueError.__new__" "ValueError.__init__" [.type "ValueError", .type "Exception", .type "BaseException", .type "object"] := ⟨PySem.F.excBase_ValueError, PySem.F.store_ValueError, ⟨_, _, _, _, _, _, _, _, _, _, _, _, _, _, x_NoWish⟩, sa_NoWish, eb_NoWish, ty_NoWish, kk_NoWish⟩
  let G : Gx K := ⟨fun c => if c = "Program" then some C else none, fun c C2 h2 => (by
    split at h2
    · cases h2; exact IO
    · cases h2), fun c => if c = ("NoLine" : Str) then some C_NoLine else if c = ("NoPlace" : Str) then some C_NoPlace else if c = ("NoWish" : Str) then some C_NoWish else none, fun c C2 h2 => (by
    split at h2
    · cases h2; exact EO_NoLine
    split at h2
    · cases h2; exact EO_NoPlace
    split at h2
    · cases h2; exact EO_NoWish
    · cases h2), fun y => none, some (l.prog, w)⟩
  have hG : G.pw = some (l.prog, w) := rfl
  have hGC : G.cls "Program" = some C := by
    show (if ("Program" : Str) = "Program" then some C else none) = some C
    exact if_pos rfl
  have hGA : ∀ c C2, G.cls c = some C2 → C2 = C := fun c C2 h2 => by
    have h2 : (if c = ("Program" : Str) then some C else none) = some C2 := h2
    split at h2
    · cases h2; rfl
    · cases h2
  have hGE_NoLine : G.exc "NoLine" = some C_NoLine := by
    show (if ("NoLine" : Str) = ("NoLine" : Str) then some C_NoLine else if ("NoLine" : Str) = ("NoPlace" : Str) then some C_NoPlace else if ("NoLine" : Str) = ("NoWish" : Str) then some C_NoWish else none) = some C_NoLine
    rw [if_pos rfl]
  have hGE_NoPlace : G.exc "NoPlace" = some C_NoPlace := by
    show (if ("NoPlace" : Str) = ("NoLine" : Str) then some C_NoLine else if ("NoPlace" : Str) = ("NoPlace" : Str) then some C_NoPlace else if ("NoPlace" : Str) = ("NoWish" : Str) then some C_NoWish else none) = some C_NoPlace
    rw [if_neg (by decide +kernel), if_pos rfl]
  have hGE_NoWish : G.exc "NoWish" = some C_NoWish := by
    show (if ("NoWish" : Str) = ("NoLine" : Str) then some C_NoLine else if ("NoWish" : Str) = ("NoPlace" : Str) then some C_NoPlace else if ("NoWish" : Str) = ("NoWish" : Str) then some C_NoWish else none) = some C_NoWish
    rw [if_neg (by decide +kernel), if_neg (by decide +kernel), if_pos rfl]
  have mgo : ∀ {x : Str} {f : Addr}, PySem.W.nsIn K mainGlobals x = some (some (.ref f)) → mg x = some (.ref f) := fun h => PySem.W.mg_of X G0 h
  have TIx : TI K mg C := ⟨cl, n_1, n_2, n_3⟩
  have FI : FunD K ("__init__" : Str) ("Program.__init__" : Str) (defArgs s_init) (defBody s_init) (defScope s_init) [.ref e0] [] f_i _ := ⟨⟨oc_i, od_i, .ref Tt, kV_i, dc_i, pm_i, an_i, cd_i, ct_i, sl_i, rfl, l_i, c_i, .inr ⟨List.cons_ne_nil _ _, Tt, _, [.ref e0], nT, rfl, l_T, rfl, .cons rfl .nil⟩, .inl rfl⟩, k_i⟩
  obtain ⟨dsI, vI, bI⟩ := FI.binds1 (ps := [("self" : Str), ("deeds" : Str)]) 2 1 (List.cons_ne_nil _ _) rfl (fun _ _ _ _ _ _ _ us its hu hi => match us, its, hu, hi with | [_, _], [_], _, _ => ⟨_, rfl, rfl⟩)
  cases vI
  obtain ⟨ds0, vI0, bI0⟩ := FI.binds1 (ps := [("self" : Str), ("deeds" : Str)]) 1 0 (List.cons_ne_nil _ _) rfl (fun _ _ _ _ _ _ _ us its hu hi => match us, its, hu, hi with | [_], [_], _, _ => ⟨_, rfl, rfl⟩)
  have eI0 : ds0 = [.ref e0] := by
    cases vI0 with
    | cons a b => cases b; cases a; rfl
  rw [eI0] at bI0
  have FO__deeds : FldOk G ("Program" : Str) ("_deeds" : Str) := fun C2 h2 => by rw [hGA _ _ h2]; exact ⟨cl, n_1⟩
  have FO__writes : FldOk G ("Program" : Str) ("_writes" : Str) := fun C2 h2 => by rw [hGA _ _ h2]; exact ⟨cl, n_2⟩
  have FO__lines : FldOk G ("Program" : Str) ("_lines" : Str) := fun C2 h2 => by rw [hGA _ _ h2]; exact ⟨cl, n_3⟩
  have HC : ∃ C, G.cls ("Program" : Str) = some C ∧ mg ("Program" : Str) = some (.ref C) := ⟨C, hGC, mgo a_C⟩
  have TK : TyC G ("Program" : Str) := fun C2 h2 => by rw [hGA _ _ h2]; exact ⟨is_C, ty_C⟩
  have CN : ClsNF G ("Program" : Str) := fun C2 h2 c3 C3 h3 => by rw [hGA _ _ h2, hGA _ _ h3]; exact nf_C
  have NO : NeObj G ("Program" : Str) := fun C2 h2 => by rw [hGA _ _ h2]; exact ne_C
  have SL : SubL G ("Program" : Str) := fun C2 h2 => by rw [hGA _ _ h2]; exact q_list
  have HE_NoLine : ∃ C, G.exc ("NoLine" : Str) = some C ∧ mg ("NoLine" : Str) = some (.ref C) := ⟨C_NoLine, hGE_NoLine, mgo a_NoLine⟩
  have XF_NoLine_line : ∀ C, G.exc ("NoLine" : Str) = some C → PySem.W.findIn K (.ref C) ("line" : Str) = some none := fun C2 h2 => by cases hGE_NoLine.symm.trans h2; exact no_NoLine
  have KI_NoLine_LookupError : ∀ C, G.exc ("NoLine" : Str) = some C → PySem.W.kitOne K (.ref C) (.type "LookupError") = some true := fun C2 h2 => by cases hGE_NoLine.symm.trans h2; exact kit_sub lu_NoLine (by decide +kernel)
  have HE_NoPlace : ∃ C, G.exc ("NoPlace" : Str) = some C ∧ mg ("NoPlace" : Str) = some (.ref C) := ⟨C_NoPlace, hGE_NoPlace, mgo a_NoPlace⟩
  have XF_NoPlace_place : ∀ C, G.exc ("NoPlace" : Str) = some C → PySem.W.findIn K (.ref C) ("place" : Str) = some none := fun C2 h2 => by cases hGE_NoPlace.symm.trans h2; exact no_NoPlace
  have KI_NoPlace_LookupError : ∀ C, G.exc ("NoPlace" : Str) = some C → PySem.W.kitOne K (.ref C) (.type "LookupError") = some true := fun C2 h2 => by cases hGE_NoPlace.symm.trans h2; exact kit_sub lu_NoPlace (by decide +kernel)
  have HE_NoWish : ∃ C, G.exc ("NoWish" : Str) = some C ∧ mg ("NoWish" : Str) = some (.ref C) := ⟨C_NoWish, hGE_NoWish, mgo a_NoWish⟩
  have XF_NoWish_wish : ∀ C, G.exc ("NoWish" : Str) = some C → PySem.W.findIn K (.ref C) ("wish" : Str) = some none := fun C2 h2 => by cases hGE_NoWish.symm.trans h2; exact no_NoWish
  have KI_NoWish_ValueError : ∀ C, G.exc ("NoWish" : Str) = some C → PySem.W.kitOne K (.ref C) (.type "ValueError") = some true := fun C2 h2 => by cases hGE_NoWish.symm.trans h2; exact kit_sub lu_NoWish (by decide +kernel)
  refine ⟨PySem.W.fnOf "law" "law" (defArgs s_law) (defBody s_law) (defScope s_law) .none kV_law dc_law pm_law an_law cd_law ct_law, fun s v => .of_eq rfl, fun base _ _ => ?_⟩
  have D_is_number : DefOk l.prog w mg base G "is_number" 1 1 F_is_number := ⟨_, _, _, ok_is_number T F_is_number_, mgo a_is_number, k_is_number, b_is_number⟩
  have D_is_pair : DefOk l.prog w mg base G "is_pair" 1 1 F_is_pair := ⟨_, _, _, ok_is_pair T F_is_pair_, mgo a_is_pair, k_is_pair, b_is_pair⟩
  have D_is_name : DefOk l.prog w mg base G "is_name" 1 1 F_is_name := ⟨_, _, _, ok_is_name T F_is_name_, mgo a_is_name, k_is_name, b_is_name⟩
  have D_is_line : DefOk l.prog w mg base G "is_line" 2 1 F_is_line := ⟨_, _, _, ok_is_line T F_is_line_ D_is_name D_is_number D_is_pair, mgo a_is_line, k_is_line, b_is_line⟩
  have D_tupled : DefOk l.prog w mg base G "tupled" 6 1 (FR_tupled 6) := ⟨_, _, _, okR_tupled T F_tupled_ (mgo a_tupled) b_tupled 6, mgo a_tupled, k_tupled, b_tupled⟩
  have D_numbered : DefOk l.prog w mg base G "numbered" 1 1 F_numbered := ⟨_, _, _, ok_numbered T F_numbered_, mgo a_numbered, k_numbered, b_numbered⟩
  have U_tupled := fn_or (okR_tupled (P := l.prog) (w := w) (base := base) (G := G) T F_tupled_ (mgo a_tupled) b_tupled 6) ((ok_tupled0 (P := l.prog) (w := w) (base := base) T F_tupled_ (mgo a_tupled)).mono (by decide))
  have hInit := ok_init (G := G) T TIx FI U_tupled (mgo a_tupled) k_tupled b_tupled D_numbered
  have D_Program : MakeOk l.prog w mg base G "Program" 7 1 F_Program := make_ok ⟨mk, a_i, i_i, kc⟩ hInit (mgo a_C) bI hGC
  have M0_Program : MakeOk l.prog w mg base G "Program" 7 0 F_Program0 := make0_ok ⟨mk, a_i, i_i, kc⟩ hInit (mgo a_C) l_E rfl (fun H => .inr ⟨_, _, _, l_E, rfl, rfl, by decide, .nil⟩) bI0 hGC
  have MK_Program : MakeK l.prog w mg base G "Program" [("deeds" : Str)] 7 F_Program := makeK_ok ⟨mk, a_i, i_i, kc⟩ hInit (mgo a_C) (kb_init FI) hGC
  have E_NoLine : ErMk l.prog w mg base G "NoLine" "line" 7 F_NoLine := ⟨C_NoLine, f_eNoLine, _, _, _, _, _, _, OX_NoLine, a_eNoLine, t_eNoLine, ok_NoLine___init__ T OX_NoLine no_NoLine F_eNoLine_ D_tupled, b_eNoLine, mgo a_NoLine, hGE_NoLine⟩
  have E_NoPlace : ErMk l.prog w mg base G "NoPlace" "place" 1 F_NoPlace := ⟨C_NoPlace, f_eNoPlace, _, _, _, _, _, _, OX_NoPlace, a_eNoPlace, t_eNoPlace, ok_NoPlace___init__ T OX_NoPlace no_NoPlace F_eNoPlace_, b_eNoPlace, mgo a_NoPlace, hGE_NoPlace⟩
  have E_NoWish : ErMk l.prog w mg base G "NoWish" "wish" 7 F_NoWish := ⟨C_NoWish, f_eNoWish, _, _, _, _, _, _, OX_NoWish, a_eNoWish, t_eNoWish, ok_NoWish___init__ T OX_NoWish no_NoWish F_eNoWish_ D_tupled, b_eNoWish, mgo a_NoWish, hGE_NoWish⟩
  have D_deed_in : DefOk l.prog w mg base G "deed_in" 2 1 F_deed_in := ⟨_, _, _, ok_deed_in T F_deed_in_ D_is_name, mgo a_deed_in, k_deed_in, b_deed_in⟩
  have P_deeds : PrpOk l.prog w mg base G "Program" "deeds" 1 F_Program_deeds := ⟨C, p_deeds, f_pdeeds, _, _, hGC, cl, ⟨a_pdeeds, g_pdeeds, t_pdeeds, ⟨_, r_pdeeds⟩⟩, ok_Program_deeds T F_pdeeds_ FO__deeds, b_pdeeds⟩
  have P_lines : PrpOk l.prog w mg base G "Program" "lines" 1 F_Program_lines := ⟨C, p_lines, f_plines, _, _, hGC, cl, ⟨a_plines, g_plines, t_plines, ⟨_, r_plines⟩⟩, ok_Program_lines T F_plines_ FO__lines, b_plines⟩
  have ST_of : StOk l.prog w mg base G "Program" "of" 9 1 F_Program_of := ⟨C, p_of, f_sof, _, _, mgo a_C, tg_C, rd_C, fc_of, ⟨_, r_sof⟩, ok_Program_of T F_sof_ D_Program M0_Program D_deed_in, k_sof, b_sof⟩
  have S___contains__ : SpcOk l.prog w mg base G "Program" "__contains__" 7 2 F_Program___contains__ := ⟨C, f_mcontains, _, _, hGC, a_mcontains, i_mcontains, f_mcontains_, ok_Program___contains__ T F_mcontains_ FO__lines D_is_line D_tupled, b_mcontains⟩
  have DX_written_at : DefOkX l.prog w mg base G "written_at" 9 2 F_written_at := ⟨_, _, _, ok_written_at T F_written_at_ E_NoLine P_deeds S___contains__, mgo a_written_at, k_written_at, b_written_at⟩
  have D_counted : DefOk l.prog w mg base G "counted" 1 1 F_counted := ⟨_, _, _, ok_counted T F_counted_, mgo a_counted, k_counted, b_counted⟩
  have D_told_by : DefOk l.prog w mg base G "told_by" 7 1 F_told_by := ⟨_, _, _, ok_told_by T F_told_by_ D_tupled hG, mgo a_told_by, k_told_by, b_told_by⟩
  have D_surely_before : DefOk l.prog w mg base G "surely_before" 1 3 F_surely_before := ⟨_, _, _, ok_surely_before T F_surely_before_ hG, mgo a_surely_before, k_surely_before, b_surely_before⟩
  have D_table_of : DefOk l.prog w mg base G "table_of" 3 1 F_table_of := ⟨_, _, _, ok_table_of T F_table_of_ P_deeds D_counted, mgo a_table_of, k_table_of, b_table_of⟩
  have D_told_in : DefOk l.prog w mg base G "told_in" 8 1 F_told_in := ⟨_, _, _, ok_told_in T F_told_in_ D_table_of D_told_by, mgo a_told_in, k_told_in, b_told_in⟩
  have D_is_wish : DefOk l.prog w mg base G "is_wish" 10 2 F_is_wish := ⟨_, _, _, ok_is_wish T F_is_wish_ S___contains__ DX_written_at D_is_line D_is_pair, mgo a_is_wish, k_is_wish, b_is_wish⟩
  have KP_is_wish_1_0 : DefKp l.prog w mg base G "is_wish" [("thing" : Str), ("program" : Str)] [1, 0] 10 F_is_wish := ⟨_, _, _, ok_is_wish T F_is_wish_ S___contains__ DX_written_at D_is_line D_is_pair, mgo a_is_wish, k_is_wish, fun s ws _ hl => match ws, hl with | [_, _], _ => .of_eq rfl⟩
  have DX_check_wishes : DefOkX l.prog w mg base G "check_wishes" 11 2 F_check_wishes := ⟨_, _, _, ok_check_wishes T F_check_wishes_ E_NoWish D_is_wish D_tupled, mgo a_check_wishes, k_check_wishes, b_check_wishes⟩
  have D_all_wishes : DefOk l.prog w mg base G "all_wishes" 3 1 F_all_wishes := ⟨_, _, _, ok_all_wishes T F_all_wishes_ P_lines, mgo a_all_wishes, k_all_wishes, b_all_wishes⟩
  have DX_kept : DefOkX l.prog w mg base G "kept" 12 2 F_kept := ⟨_, _, _, ok_kept T F_kept_ DX_check_wishes D_surely_before D_told_in D_tupled, mgo a_kept, k_kept, b_kept⟩
  have KP_kept_1_0 : DefKp l.prog w mg base G "kept" [("wishes" : Str), ("program" : Str)] [1, 0] 12 (okF F_kept) := ⟨_, _, _, fn_calm (ok_kept T F_kept_ DX_check_wishes D_surely_before D_told_in D_tupled), mgo a_kept, k_kept, fun s ws _ hl => match ws, hl with | [_, _], _ => .of_eq rfl⟩
  have D__law_box : DefOk l.prog w mg base G "_law_box" 1 2 F__law_box := ⟨_, _, _, ok__law_box T F__law_box_, mgo a__law_box, k__law_box, b__law_box⟩
  have D__law_take : DefOk l.prog w mg base G "_law_take" 1 2 F__law_take := ⟨_, _, _, ok__law_take T F__law_take_, mgo a__law_take, k__law_take, b__law_take⟩
  have D__law_of : DefOk l.prog w mg base G "_law_of" 2 2 F__law_of := ⟨_, _, _, ok__law_of T F__law_of_ D__law_take, mgo a__law_of, k__law_of, b__law_of⟩
  have D__law_same : DefOk l.prog w mg base G "_law_same" 6 2 (FR__law_same 6) := ⟨_, _, _, okR__law_same T F__law_same_ (mgo a__law_same) b__law_same 6, mgo a__law_same, k__law_same, b__law_same⟩
  have D__law_lists : DefOk l.prog w mg base G "_law_lists" 6 1 (FR__law_lists 6) := ⟨_, _, _, okR__law_lists T F__law_lists_ (mgo a__law_lists) b__law_lists 6, mgo a__law_lists, k__law_lists, b__law_lists⟩
  have D__law_pick : DefOk l.prog w mg base G "_law_pick" 2 3 F__law_pick := ⟨_, _, _, ok__law_pick T F__law_pick_ D__law_take, mgo a__law_pick, k__law_pick, b__law_pick⟩
  have D__law_tags : DefOk l.prog w mg base G "_law_tags" 3 2 F__law_tags := ⟨_, _, _, ok__law_tags T F__law_tags_ D__law_pick, mgo a__law_tags, k__law_tags, b__law_tags⟩
  have D__law_deeds : DefOk l.prog w mg base G "_law_deeds" 3 3 F__law_deeds := ⟨_, _, _, ok__law_deeds T F__law_deeds_ D__law_of D__law_take, mgo a__law_deeds, k__law_deeds, b__law_deeds⟩
  have D__law_born : DefOk l.prog w mg base G "_law_born" 1 1 F__law_born := ⟨_, _, _, ok__law_born T F__law_born_ hG, mgo a__law_born, k__law_born, b__law_born⟩
  have D__law_wished : DefOk l.prog w mg base G "_law_wished" 2 1 F__law_wished := ⟨_, _, _, ok__law_wished T F__law_wished_ D__law_born hG, mgo a__law_wished, k__law_wished, b__law_wished⟩
  have D__law_held : DefOk l.prog w mg base G "_law_held" 2 2 F__law_held := ⟨_, _, _, ok__law_held T F__law_held_ D__law_born hG, mgo a__law_held, k__law_held, b__law_held⟩
  have D__law_odd : DefOk l.prog w mg base G "_law_odd" 1 2 F__law_odd := ⟨_, _, _, ok__law_odd T F__law_odd_, mgo a__law_odd, k__law_odd, b__law_odd⟩
  have D__law_case_right : DefOk l.prog w mg base G "_law_case_right" 13 2 F__law_case_right := ⟨_, _, _, ok__law_case_right T F__law_case_right_ P_deeds D_Program DX_kept D__law_born D__law_held D__law_lists D__law_odd D__law_of D__law_same D__law_take D__law_wished D_all_wishes D_is_wish KP_is_wish_1_0 KP_kept_1_0 hG, mgo a__law_case_right, k__law_case_right, b__law_case_right⟩
  have D__law_deep_right : DefOk l.prog w mg base G "_law_deep_right" 11 0 F__law_deep_right := ⟨_, _, _, ok__law_deep_right T F__law_deep_right_ D__law_same D_is_wish ST_of, mgo a__law_deep_right, k__law_deep_right, b__law_deep_right⟩
  have D__law_by_hand_right : DefOk l.prog w mg base G "_law_by_hand_right" 13 0 F__law_by_hand_right := ⟨_, _, _, ok__law_by_hand_right T F__law_by_hand_right_ DX_kept D__law_deep_right D__law_same D_all_wishes D_is_wish ST_of, mgo a__law_by_hand_right, k__law_by_hand_right, b__law_by_hand_right⟩
  have D__law_right : DefOk l.prog w mg base G "_law_right" 14 1 F__law_right := ⟨_, _, _, ok__law_right T F__law_right_ D__law_case_right D__law_deeds D__law_tags D__law_take, mgo a__law_right, k__law_right, b__law_right⟩
  exact ok_law T F_law_ (ok__law_cells F__law_cells_ T.n_list T.n_enumerate T.n_int) (mgo a__law_cells) k__law_cells b__law_cells (D__law_by_hand_right.mono (by decide)) (D__law_right.mono (by decide)) (D__law_box.mono (by decide))
end Lw65
open PySem PySem.W PyProof.Rows
set_option maxHeartbeats 0 in
theorem PySem.Challenge.cw_lateshown_k65_wishes_or_none_kept_or_not_holds : PySem.Challenge.rw_lateshown_k65_wishes_or_none_kept_or_not.Holds := by
  w_on; o_law; k_head; (case hw => w_witness2)
  k_fill
  refine L2.walk_of (l := PySem.Challenge.rw_lateshown_k65_wishes_or_none_kept_or_not) (n := 63) (k := 15) (x := "_law_script") (CX := fun _ => L2.CX0) (sp := fun w => Lw65.spLaw _) rfl (by decide) rfl ⟨rfl, by decide, by decide⟩ (fun w h Y => PySem.W.kIn_of Y) ?F (fun _ _ a ns hl _ hS => ⟨a, ns, rfl, hS, hl, fun _ => rfl⟩) (fun _ _ _ _ _ h => h)
  case F =>
    intro w mg fa h KX G hmg
    refine' Lw65.all_mk KX G hmg ?a_is_number ?l_is_number ?c_is_number ?k_is_number ?a_is_pair ?l_is_pair ?c_is_pair ?k_is_pair ?a_is_name ?l_is_name ?c_is_name ?k_is_name ?a_is_line ?l_is_line ?c_is_line ?k_is_line ?a_tupled ?l_tupled ?c_tupled ?k_tupled ?a_deed_in ?l_deed_in ?c_deed_in ?k_deed_in ?a_written_at ?l_written_at ?c_written_at ?k_written_at ?a_counted ?l_counted ?c_counted ?k_counted ?a_told_by ?l_told_by ?c_told_by ?k_told_by ?a_surely_before ?l_surely_before ?c_surely_before ?k_surely_before ?a_table_of ?l_table_of ?c_table_of ?k_table_of ?a_told_in ?l_told_in ?c_told_in ?k_told_in ?a_is_wish ?l_is_wish ?c_is_wish ?k_is_wish ?a_check_wishes ?l_check_wishes ?c_check_wishes ?k_check_wishes ?a_all_wishes ?l_all_wishes ?c_all_wishes ?k_all_wishes ?a_kept ?l_kept ?c_kept ?k_kept ?a__law_box ?l__law_box ?c__law_box ?k__law_box ?a__law_take ?l__law_take ?c__law_take ?k__law_take ?a__law_of ?l__law_of ?c__law_of ?k__law_of ?a__law_same ?l__law_same ?c__law_same ?k__law_same ?a__law_lists ?l__law_lists ?c__law_lists ?k__law_lists ?a__law_pick ?l__law_pick ?c__law_pick ?k__law_pick ?a__law_tags ?l__law_tags ?c__law_tags ?k__law_tags ?a__law_deeds ?l__law_deeds ?c__law_deeds ?k__law_deeds ?a__law_born ?l__law_born ?c__law_born ?k__law_born ?a__law_wished ?l__law_wished ?c__law_wished ?k__law_wished ?a__law_held ?l__law_held ?c__law_held ?k__law_held ?a__law_odd ?l__law_odd ?c__law_odd ?k__law_odd ?a__law_case_right ?l__law_case_right ?c__law_case_right ?k__law_case_right ?a__law_deep_right ?l__law_deep_right ?c__law_deep_right ?k__law_deep_right ?a__law_by_hand_right ?l__law_by_hand_right ?c__law_by_hand_right ?k__law_by_hand_right ?a__law_right ?l__law_right ?c__law_right ?k__law_right ?a_numbered ?l_numbered ?c_numbered ?k_numbered ?a__law_cells ?l__law_cells ?c__law_cells ?k__law_cells ?a_law ?l_law ?c_law ?k_law ?a_C ?a_i ?i_i ?l_i ?c_i ?k_i ?l_T ?l_E ?pg ?hd ?po ?sa ?mk ?kc ?n_1 ?n_2 ?n_3 ?ha ?hn ?htk ?hm ?q_str ?q_int ?q_bool ?q_list ?q_tuple ?ne_C ?nf_C ?is_C ?ty_C ?a_mcontains ?i_mcontains ?f_mcontains_ ?l_mcontains ?c_mcontains ?k_mcontains ?tg_C ?rd_C ?fc_of ?r_sof ?l_sof ?c_sof ?k_sof ?a_pdeeds ?g_pdeeds ?t_pdeeds ?r_pdeeds ?l_pdeeds ?c_pdeeds ?k_pdeeds ?a_plines ?g_plines ?t_plines ?r_plines ?l_plines ?c_plines ?k_plines ?a_NoLine ?x_NoLine ?sa_NoLine ?ga_NoLine ?gg_NoLine ?no_NoLine ?a_eNoLine ?t_eNoLine ?l_eNoLine ?c_eNoLine ?k_eNoLine ?kk_NoLine ?eb_NoLine ?ty_NoLine ?hd_NoLine ?is_NoLine ?ss_NoLine ?cl_NoLine ?ob_NoLine ?lu_NoLine ?a_NoPlace ?x_NoPlace ?sa_NoPlace ?ga_NoPlace ?gg_NoPlace ?no_NoPlace ?a_eNoPlace ?t_eNoPlace ?l_eNoPlace ?c_eNoPlace ?k_eNoPlace ?kk_NoPlace ?eb_NoPlace ?ty_NoPlace ?hd_NoPlace ?is_NoPlace ?ss_NoPlace ?cl_NoPlace ?ob_NoPlace ?lu_NoPlace ?a_NoWish ?x_NoWish ?sa_NoWish ?ga_NoWish ?gg_NoWish ?no_NoWish ?a_eNoWish ?t_eNoWish ?l_eNoWish ?c_eNoWish ?k_eNoWish ?kk_NoWish ?eb_NoWish ?ty_NoWish ?hd_NoWish ?is_NoWish ?ss_NoWish ?cl_NoWish ?ob_NoWish ?lu_NoWish ?g_FLUSH ?g_LETTERS ?g_WRITE ?z_abs ?z_all ?z_bool ?z_dict ?z_enumerate ?z_int ?z_isinstance ?z_len ?z_list ?z_range ?z_set ?z_sorted ?z_str ?z_tuple ?z_zip
    (case a_is_number => k_is)
    (case l_is_number => k_is)
    (case c_is_number => k_is)
    (case k_is_number => k_is)
    (case a_is_pair => k_is)
    (case l_is_pair => k_is)
    (case c_is_pair => k_is)
    (case k_is_pair => k_is)
    (case a_is_name => k_is)
    (case l_is_name => k_is)
    (case c_is_name => k_is)
    (case k_is_name => k_is)
    (case a_is_line => k_is)
    (case l_is_line => k_is)
    (case c_is_line => k_is)
    (case k_is_line => k_is)
    (case a_tupled => k_is)
    (case l_tupled => k_is)
    (case c_tupled => k_is)
    (case k_tupled => k_is)
    (case a_deed_in => k_is)
    (case l_deed_in => k_is)
    (case c_deed_in => k_is)
    (case k_deed_in => k_is)
    (case a_written_at => k_is)
    (case l_written_at => k_is)
    (case c_written_at => k_is)
    (case k_written_at => k_is)
    (case a_counted => k_is)
    (case l_counted => k_is)
    (case c_counted => k_is)
    (case k_counted => k_is)
    (case a_told_by => k_is)
    (case l_told_by => k_is)
    (case c_told_by => k_is)
    (case k_told_by => k_is)
    (case a_surely_before => k_is)
    (case l_surely_before => k_is)
    (case c_surely_before => k_is)
    (case k_surely_before => k_is)
    (case a_table_of => k_is)
    (case l_table_of => k_is)
    (case c_table_of => k_is)
    (case k_table_of => k_is)
    (case a_told_in => k_is)
    (case l_told_in => k_is)
    (case c_told_in => k_is)
    (case k_told_in => k_is)
    (case a_is_wish => k_is)
    (case l_is_wish => k_is)
    (case c_is_wish => k_is)
    (case k_is_wish => k_is)
    (case a_check_wishes => k_is)
    (case l_check_wishes => k_is)
    (case c_check_wishes => k_is)
    (case k_check_wishes => k_is)
    (case a_all_wishes => k_is)
    (case l_all_wishes => k_is)
    (case c_all_wishes => k_is)
    (case k_all_wishes => k_is)
    (case a_kept => k_is)
    (case l_kept => k_is)
    (case c_kept => k_is)
    (case k_kept => k_is)
    (case a__law_box => k_is)
    (case l__law_box => k_is)
    (case c__law_box => k_is)
    (case k__law_box => k_is)
    (case a__law_take => k_is)
    (case l__law_take => k_is)
    (case c__law_take => k_is)
    (case k__law_take => k_is)
    (case a__law_of => k_is)
    (case l__law_of => k_is)
    (case c__law_of => k_is)
    (case k__law_of => k_is)
    (case a__law_same => k_is)
    (case l__law_same => k_is)
    (case c__law_same => k_is)
    (case k__law_same => k_is)
    (case a__law_lists => k_is)
    (case l__law_lists => k_is)
    (case c__law_lists => k_is)
    (case k__law_lists => k_is)
    (case a__law_pick => k_is)
    (case l__law_pick => k_is)
    (case c__law_pick => k_is)
    (case k__law_pick => k_is)
    (case a__law_tags => k_is)
    (case l__law_tags => k_is)
    (case c__law_tags => k_is)
    (case k__law_tags => k_is)
    (case a__law_deeds => k_is)
    (case l__law_deeds => k_is)
    (case c__law_deeds => k_is)
    (case k__law_deeds => k_is)
    (case a__law_born => k_is)
    (case l__law_born => k_is)
    (case c__law_born => k_is)
    (case k__law_born => k_is)
    (case a__law_wished => k_is)
    (case l__law_wished => k_is)
    (case c__law_wished => k_is)
    (case k__law_wished => k_is)
    (case a__law_held => k_is)
    (case l__law_held => k_is)
    (case c__law_held => k_is)
    (case k__law_held => k_is)
    (case a__law_odd => k_is)
    (case l__law_odd => k_is)
    (case c__law_odd => k_is)
    (case k__law_odd => k_is)
    (case a__law_case_right => k_is)
    (case l__law_case_right => k_is)
    (case c__law_case_right => k_is)
    (case k__law_case_right => k_is)
    (case a__law_deep_right => k_is)
    (case l__law_deep_right => k_is)
    (case c__law_deep_right => k_is)
    (case k__law_deep_right => k_is)
    (case a__law_by_hand_right => k_is)
    (case l__law_by_hand_right => k_is)
    (case c__law_by_hand_right => k_is)
    (case k__law_by_hand_right => k_is)
    (case a__law_right => k_is)
    (case l__law_right => k_is)
    (case c__law_right => k_is)
    (case k__law_right => k_is)
    (case a_numbered => k_is)
    (case l_numbered => k_is)
    (case c_numbered => k_is)
    (case k_numbered => k_is)
    (case a__law_cells => k_is)
    (case l__law_cells => k_is)
    (case c__law_cells => k_is)
    (case k__law_cells => k_is)
    (case a_law => k_is)
    (case l_law => k_is)
    (case c_law => k_is)
    (case k_law => k_is)
    (case a_C => k_is)
    (case a_i => k_is)
    (case i_i => k_is)
    (case l_i => k_is)
    (case c_i => k_is)
    (case k_i => k_is)
    (case l_T => k_is)
    (case l_E => k_is)
    (case pg => k_is)
    (case hd => k_is)
    (case po => k_is)
    (case sa => k_is)
    (case mk => k_is)
    (case kc => k_is)
    (case n_1 => k_is)
    (case n_2 => k_is)
    (case n_3 => k_is)
    (case ha => k_is)
    (case hn => k_is)
    (case htk => k_is)
    (case hm => k_is)
    (case q_str => k_is)
    (case q_int => k_is)
    (case q_bool => k_is)
    (case q_list => k_is)
    (case q_tuple => k_is)
    (case ne_C => k_is)
    (case nf_C => k_is)
    (case is_C => k_is)
    (case ty_C => k_is)
    (case a_mcontains => k_is)
    (case i_mcontains => k_is)
    (case f_mcontains_ => k_is)
    (case l_mcontains => k_is)
    (case c_mcontains => k_is)
    (case k_mcontains => k_is)
    (case tg_C => k_is)
    (case rd_C => k_is)
    (case fc_of => k_is)
    (case r_sof => k_is)
    (case l_sof => k_is)
    (case c_sof => k_is)
    (case k_sof => k_is)
    (case a_pdeeds => k_is)
    (case g_pdeeds => k_is)
    (case t_pdeeds => k_is)
    (case r_pdeeds => k_is)
    (case l_pdeeds => k_is)
    (case c_pdeeds => k_is)
    (case k_pdeeds => k_is)
    (case a_plines => k_is)
    (case g_plines => k_is)
    (case t_plines => k_is)
    (case r_plines => k_is)
    (case l_plines => k_is)
    (case c_plines => k_is)
    (case k_plines => k_is)
    (case a_NoLine => k_is)
    (case x_NoLine => k_is)
    (case sa_NoLine => k_is)
    (case ga_NoLine => k_is)
    (case gg_NoLine => k_is)
    (case no_NoLine => k_is)
    (case a_eNoLine => k_is)
    (case t_eNoLine => k_is)
    (case l_eNoLine => k_is)
    (case c_eNoLine => k_is)
    (case k_eNoLine => k_is)
    (case kk_NoLine => k_is)
    (case eb_NoLine => k_is)
    (case ty_NoLine => k_is)
    (case hd_NoLine => k_is)
    (case is_NoLine => k_is)
    (case ss_NoLine => first | rfl | k_is)
    (case cl_NoLine => k_is)
    (case ob_NoLine => k_is)
    (case lu_NoLine => k_is)
    (case a_NoPlace => k_is)
    (case x_NoPlace => k_is)
    (case sa_NoPlace => k_is)
    (case ga_NoPlace => k_is)
    (case gg_NoPlace => k_is)
    (case no_NoPlace => k_is)
    (case a_eNoPlace => k_is)
    (case t_eNoPlace => k_is)
    (case l_eNoPlace => k_is)
    (case c_eNoPlace => k_is)
    (case k_eNoPlace => k_is)
    (case kk_NoPlace => k_is)
    (case eb_NoPlace => k_is)
    (case ty_NoPlace => k_is)
    (case hd_NoPlace => k_is)
    (case is_NoPlace => k_is)
    (case ss_NoPlace => first | rfl | k_is)
    (case cl_NoPlace => k_is)
    (case ob_NoPlace => k_is)
    (case lu_NoPlace => k_is)
    (case a_NoWish => k_is)
    (case x_NoWish => k_is)
    (case sa_NoWish => k_is)
    (case ga_NoWish => k_is)
    (case gg_NoWish => k_is)
    (case no_NoWish => k_is)
    (case a_eNoWish => k_is)
    (case t_eNoWish => k_is)
    (case l_eNoWish => k_is)
    (case c_eNoWish => k_is)
    (case k_eNoWish => k_is)
    (case kk_NoWish => k_is)
    (case eb_NoWish => k_is)
    (case ty_NoWish => k_is)
    (case hd_NoWish => k_is)
    (case is_NoWish => k_is)
    (case ss_NoWish => first | rfl | k_is)
    (case cl_NoWish => k_is)
    (case ob_NoWish => k_is)
    (case lu_NoWish => k_is)
    (case g_FLUSH => k_is)
    (case g_LETTERS => k_is)
    (case g_WRITE => k_is)
    (case z_abs => k_is)
    (case z_all => k_is)
    (case z_bool => k_is)
    (case z_dict => k_is)
    (case z_enumerate => k_is)
    (case z_int => k_is)
    (case z_isinstance => k_is)
    (case z_len => k_is)
    (case z_list => k_is)
    (case z_range => k_is)
    (case z_set => k_is)
    (case z_sorted => k_is)
    (case z_str => k_is)
    (case z_tuple => k_is)
    (case z_zip => k_is)
