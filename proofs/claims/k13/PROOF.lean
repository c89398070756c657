import PyProof.Rows.All
import Wide.All
import OpenK.AllK
import Wide.FinOn
import HandS.ForMost
import HandS.Flow
import HandS.IsInst
import HandS.Deep
import HandS.TupAny
import HandS.TupMul
import HandS.Zip
import HandS.Wide
import HandS.ForExc
import HandS.ExcInit
import HandS.ExcIs
import HandS.ExcField
import KE.KExcInit
import HandS.Dict
import KE.KeyNested
import HandS.Defaults
import HandS.Property
import OpenK.KMeth
import OpenK.KOps
import PyProof.InstNe
import HandS.OwnEq
import HandS.Iter
import KE.SortData
import HandS.SetFor
import HandS.Strs
import HandS.SortInts
import HandS.Sort
import KE.GoesMore
import HandS.Words
import HandS.WordsExc
import HandS.Style
import HandS.MakeKwOnly
import HandS.StrMore
import PyProof.StrOps2
import HandS.TryOnly
import HandS.DictComp
import HandS.Text
import HandS.DictTup
import HandS.WordsDict
import HandS.Conv
import HandS.More
import KE.KDictPairs
import HandS.TupSets
import HandS.SetBool
import HandS.SortKw
import KE.DataMinMax
import HandS.ExcOwn
import KE.KDictZip
import KE.KItemsList
import KE.KDictCopyH
import PyProof.SumAny
import HandS.MapSum
import HandS.RepeatKit
import KE.GoesZip
import PyProof.AutoSeq1
import HandS.List
import HandS.Star
import KE.KDictList
import PyProof.CollectStr
import PySem.Challenge.RW_lateshown_k13_trees_of_streams
set_option Elab.async false
set_option linter.all false
set_option maxRecDepth 100000
set_option maxHeartbeats 8000000
namespace Dv
open PySem PySem.Spec PyProof.Rows L2
section
variable {X : Cx} {pins : List (Addr × Obj)} {σ : L2.St} {H : Hp} {s : Shared} {Q : VK}
/-- what a new tuple is asked for -/
def Tp (H : Hp) (xs : List V) (Q : VK) : Prop := ∀ (p : Addr) (o : Obj), H p = none → o.dict = none → Q (.ref p) (upd H p (.frz o (.tup xs)))
theorem tup_laid {its : List Value} {xs : List V} (I : Inv X pins σ H s) (r : Vals xs its) (z : xs.length ≤ sizeLine) (q : Tp H xs Q) : EP X pins σ Q (.ref s.heap.objs.size) { s with heap := s.heap.push { cls := .type "tuple", data := .seq its.toArray } } := by
  have hf : H s.heap.objs.size = none := I.hok.fresh (Nat.le_refl _)
  have new : ObjOk X.prog X.w (upd H s.heap.objs.size (.frz { cls := .type "tuple", data := .seq its.toArray } (.tup xs))) (s.heap.push { cls := .type "tuple", data := .seq its.toArray }) s.heap.objs.size (.frz { cls := .type "tuple", data := .seq its.toArray } (.tup xs)) :=
    ⟨Heap.get?_push_size _ rfl, z, its, r, IsTup.new _ _⟩
  exact ⟨.ref s.heap.objs.size, _, I.laid (t' := s.toks) (fun b u e => Heap.get?_push_of_some _ e) (Nat.le_refl _) new, rfl, q _ _ hf rfl⟩
end
section
variable {X : Cx} {es : List Expr} {t : TA} {pos : Pos}
def tTupF (t : TA) : TE := fun σ H Q => t σ H fun xs H1 => xs.length ≤ sizeLine ∧ Tp H1 xs Q
theorem pe_tupF {x1} (h : PA X es t) : PE X (.Tuple es x1 pos) (tTupF t) :=
  ⟨fun pins s σ H Q I hq => wpAny_Tuple_spliced (thn (h.run pos pins s σ H _ I hq) fun us s1 ⟨xs, H1, I1, r, z, q⟩ => ⟨by rw [← r.length]; exact z, tup_laid I1 r z q⟩)⟩
theorem call_tupF : CallR X (.type "tuple") (fun xs H Q => ∃ p ys, xs = [.ref p] ∧ ((SqL X.K H p ys ∧ Tp H ys Q) ∨ (SqT X.K H p ys ∧ Q (.ref p) H))) := by
  intro pins s σ H xs us Q I r h
  obtain ⟨p, ys, rfl, h⟩ := h
  obtain ⟨u, rfl, rx⟩ := vals1 r
  cases rx
  rcases h with ⟨hq, q⟩ | ⟨hq, q⟩
  · obtain ⟨its, rv, pl, hz⟩ := I.list hq
    have e := rv.length
    refine call_tuple_list pl.isList (fun h' kp => ?_) (by rw [List.size_toArray]; omega)
    have I1 : Inv X pins σ H { s with heap := h' } := I.kept (t' := s.toks) kp
    exact tup_laid I1 rv hz q
  · obtain ⟨its, _, pl, _⟩ := I.tuple hq
    exact call_tuple_same pl ⟨.ref p, H, I, rfl, q⟩
/-- t + u -/
def rCatF (K : PySem.W.Frag) : R2 := fun x y H Q => ∃ a b xs ys, x = .ref a ∧ y = .ref b ∧ SqT K H a xs ∧ SqT K H b ys ∧ xs.length + ys.length ≤ sizeLine ∧
  (xs = [] → Q (.ref b) H) ∧ (xs ≠ [] → ys = [] → Q (.ref a) H) ∧ (xs ≠ [] → ys ≠ [] → Tp H (xs ++ ys) Q)
theorem op_catF : OpR X (binaryOp .Add) (rCatF X.K) := by
  intro pins s σ H x y v u Q I rx ry h
  obtain ⟨a, b, xs, ys, rfl, rfl, ha, hb, hz, q0, q1, q2⟩ := h
  by_cases hx : xs = []
  · exact op_catA pins s σ H _ _ v u Q I rx ry ⟨a, b, xs, ys, rfl, rfl, ha, hb, hz, q0, q1, fun z => (z hx).elim⟩
  · cases rx
    cases ry
    obtain ⟨its, r1, p1, _⟩ := I.tuple ha
    obtain ⟨its2, r2, p2, _⟩ := I.tuple hb
    exact HT.cat_tup p1 p2 (fun z => hx (r1.nil_iff.mp z)) (fun z => ⟨.ref a, H, I, rfl, q1 hx (r2.nil_iff.mp z)⟩)
      (fun z => tup_laid I (r1.append r2) (by rw [List.length_append]; exact hz) (q2 hx fun w => z (r2.nil_iff.mpr w))) (by rw [← r1.length, ← r2.length]; exact hz)
/-- t[lo:hi] -/
def rSlF (K : PySem.W.Frag) : V → Option Int → Option Int → Hp → VK → Prop := fun x lo hi H Q => ∃ a xs, x = .ref a ∧ SqT K H a xs ∧
  (HT.sIx xs.length 0 lo = 0 ∧ HT.sIx xs.length xs.length hi = xs.length → Q (.ref a) H) ∧ (¬ (HT.sIx xs.length 0 lo = 0 ∧ HT.sIx xs.length xs.length hi = xs.length) → Tp H (cutV xs lo hi) Q)
theorem sl_tupF : SlR X (rSlF X.K) := by
  intro pins s σ H x v vl vu lo hi sl Q I rx hs pl pu h
  obtain ⟨a, xs, rfl, hx, q1, q2⟩ := h
  by_cases hw : HT.sIx xs.length 0 lo = 0 ∧ HT.sIx xs.length xs.length hi = xs.length
  · exact sl_tupA pins s σ H _ v vl vu lo hi sl Q I rx hs pl pu ⟨a, xs, rfl, hx, q1, fun z => (z hw).elim⟩
  · cases rx
    obtain ⟨its, r, ht, hz⟩ := I.tuple hx
    have e : its.toArray.size = xs.length := by rw [List.size_toArray]; exact r.length.symm
    refine ⟨"tuple", _, PyProof.Rows.slot_tuple_getitem.lookup, ht.typeIs, HT.getItem_tuple_cut ht hs pl pu (by rw [e]; exact hw) ?_ (by rw [e]; exact hz)⟩
    rw [e]
    exact tup_laid I ((r.drop (HT.sIx xs.length 0 lo)).take (HT.sIx xs.length xs.length hi - HT.sIx xs.length 0 lo)) (Nat.le_trans (cutV_length xs lo hi) hz) (q2 hw)
end
end Dv
namespace Dv
open PySem PySem.Spec PyProof.Rows L2
structure OxC (K : PySem.W.Frag) (C : Addr) (B newId initId : String) (bmB : List Value) : Prop where
  fb : ExcBaseFacts B newId initId bmB
  sf : StoreFacts B bmB "object.__setattr__" "object"
  row : ∃ nm q N bs sn sub ab col dd k0 k1 k2 k3 k5, K.lookup C = some (excClassObj nm q C N bs bmB true sn sub ab col dd k0 k1 k2 k3 k5 newId)
  put : PySem.W.findIn K (.ref C) "__setattr__" = some (some (.builtin "object.__setattr__"))
  isE : PySem.W.subIn K (.ref C) (.type "BaseException") = some true
  isT : PySem.W.typeIn K (.ref C) = some (.type "type")
  kp : PySem.W.keepIn K (.ref C) = true
section
open Builtin Builtin.ObjectAttr
variable {prog : Program} {w : World} {A : Around} {R : Result → Shared → Prop} {hp : Heap} {g : Array GenState} {d : Drawn} {t : Nat} {os : OsState}
variable {K : PySem.W.Frag} {B newId initId : String} {bmB : List Value} {C x : Addr} {f : Str} {tk : Tok} {v : Value} {fv : Array Value}
theorem first_store (T : OxC K C B newId initId bmB) (kin : K.In hp) (at_x : hp.get? x = some { cls := .ref C, data := .fields fv }) (hno : PySem.W.findIn K (.ref C) f = some none)
    (fin : ∀ (h2 : Heap) (tk2 : Nat) (dx : Addr), (∀ b o, b ≠ x → hp.get? b = some o → h2.get? b = some o) ∧ hp.objs.size ≤ dx ∧ dx ≠ x ∧ h2.get? x = some { cls := .ref C, dict := some dx, data := .fields fv } ∧ h2.Ns1 dx (fun y => if y = f then some v else none) →
      R (.ok (.ret .none)) ⟨h2, g, d, tk2, os⟩) :
    codeAny (model prog w) A (.call (.builtin "object.__setattr__") ⟨[.ref x, .str f tk, v], []⟩) R ⟨hp, g, d, t, os⟩ := by
  obtain ⟨nm, q, N, bs, sn, sub, ab, col, dd, k0, k1, k2, k3, k5, hC⟩ := T.row
  have cd : PySem.W.clsIn K C = some { name := nm, bases := bs, mro := .ref C :: bmB, ns := N, qualname := q, hasDict := true, slotNames := sn, subclasses := sub, abstract := ab, collection := col, hasDel := false } := by
    unfold PySem.W.clsIn; rw [hC] <;> rfl
  have J : PySem.W.InstAt hp x { cls := .ref C, data := .fields fv } C none := ⟨at_x, rfl, rfl, trivial⟩
  have far : x ≠ hp.objs.size := Nat.ne_of_lt (Heap.lt_size at_x)
  have S0 := F.store_object
  have obj : (Value.ref C :: bmB).contains (.type "object") = true := by rw [List.contains_cons, T.sf.hasOwner, Bool.or_true]
  have ty : PySem.W.Looks (model prog w) hp (isInstance (.ref x) (.type "object")) true := by
    refine J.type.andThen (PySem.W.looks_mroIn kin ?_)
    unfold PySem.W.mroIn
    rw [cd, Option.bind_some, if_neg (by simp)]
    exact congrArg some obj
  have L1 : PySem.W.Looks (model prog w) hp (mroOf (.ref C)) (.ref C :: bmB) := (PySem.W.looks_clsIn kin cd).andThen .now
  have L2' : PySem.W.Looks (model prog w) hp (storeTaker? none) none := .now
  have L3 := PySem.W.looks_clsIn (M := model prog w) kin cd
  refine codeAny_call_builtin S0.slot.plain S0.entry ?_
  refine @PySem.W.check_slot (model prog w) _ _ ⟨hp, g, d, t, os⟩ "object.__setattr__" "object" "__setattr__" (.ref x) [.str f tk, v] [] _ S0.kind S0.split ty (S0.args _ _ _) ?_
  rw [PySem.W.osa_eq, refuse_eq]
  refine wpAny_bind (wpAny_bind (J.type.at (wpAny_bind (L1.at ?_))))
  rw [refuseLoop_ref, T.sf.passes]
  refine wpAny_pure (wpAny_bind (J.type.at (wpAny_bind ?_)))
  refine (PySem.W.looks_findIn kin hno).at (wpAny_bind (L2'.at ?_))
  show wpAny _ _ (storeInOwnDict (.ref x) (.ref C) (.str f tk) f v false) _ _ _
  unfold storeInOwnDict ownDictForStores
  repeat (first | with_reducible refine PySem.HandSPX.store_in_new ?_ ?_ | with_reducible refine wpAny_loadPart_at at_x ?_ | with_reducible refine L3.at ?_ | wp_step)
  · exact ⟨_, #[], _, (Heap.get?_update_ne _ _ _ _ far.symm).trans (Heap.get?_push_at rfl rfl), rfl, fun e he => absurd he (by simp), fun _ => rfl⟩
  · intro h2 tk2 ns sb
    have x1 := Heap.get?_push_of_some (h := hp) { cls := .type "dict", data := .dict #[] } at_x
    refine fin h2 tk2 hp.objs.size ⟨fun b o nb hb => ?_, Nat.le_refl _, far.symm, (sb.2 x far).trans (Heap.get?_update_self _ x1 rfl), ns⟩
    have := sb.2 b (Nat.ne_of_lt (Heap.lt_size hb))
    rw [this, Heap.get?_update_ne _ _ _ _ nb]
    exact Heap.get?_push_of_some _ hb
end
section
variable {X : Cx} {pins : List (Addr × Obj)} {σ : L2.St} {H : Hp} {s : Shared} {a C : Addr} {f : Str} {y : V} {u : Value} {B newId initId : String} {bmB : List Value}
/-- self.f = y, on an error that has no dict yet -/
theorem store_first {Q : Unit → Shared → Prop} {E : Value → Shared → Prop} {A : Around} (T : OxC X.K C B newId initId bmB) (I : Inv X pins σ H s) (ha : H a = some (exo a C none)) (hno : PySem.W.findIn X.K (.ref C) f = some none) (ry : RelV y u)
    (fin : ∀ dx s', H dx = none → dx ≠ a → Inv X pins σ (upd (upd H dx (exd dx [(f, y)])) a (exo a C (some dx))) s' → Q () s') : wpAny (model X.prog X.w) A (setAttr (.ref a) f u) Q E s := by
  obtain ⟨t1, ho⟩ := exo_at I.hok ha
  obtain ⟨hp, g, d, t, os⟩ := s
  refine PySem.W.set_plain I.kIn (od := none) ⟨ho, rfl, rfl, trivial⟩ T.put (first_store T I.kIn ho hno fun h2 tk2 dx ⟨k, dn, da, hx, hn⟩ => ?_)
  have fresh : H dx = none := I.hok.fresh dn
  have old : ∀ {b : Addr} {o : Obj}, hp.get? b = some o → b ≠ dx := fun z => Nat.ne_of_lt (Nat.lt_of_lt_of_le (Heap.lt_size z) dn)
  have un_a : ∀ {b : Addr}, H b = none → b ≠ a := fun n z => by rw [z, ha] at n; cases n
  refine fin dx _ fresh da (I.un (t' := tk2) ⟨fun b o z n _ _ => k b o (un_a n) z, fun b o z n _ _ => ⟨o.slots, k b o (un_a n) z⟩, fun b o z n _ => ?_, fun b o z _ => ?_, fun b xs z => ?_, fun b o v z => ?_, fun b ps z => ⟨#[], ?_⟩⟩ fun b o z => ?_)
  · rw [upd_ne (un_a n), upd_ne (old z)]; exact n
  · by_cases hb : b = a
    · exact ⟨_, by rw [hb]; exact hx⟩
    · exact ⟨o, k b o hb z⟩
  · rw [upd_ne (at_ne ha z exo_tup), upd_ne (ne_of_none z fresh)]; exact z
  · rw [upd_ne (at_ne ha z exo_frz), upd_ne (ne_of_none z fresh)]; exact z
  · rw [upd_ne (at_ne ha z exo_tbl), upd_ne (ne_of_none z fresh), z]; simp
  · by_cases hb : b = a
    · subst hb
      rw [upd_same] at z; cases z
      exact exo_ok hx
    rw [upd_ne hb] at z
    by_cases hd : b = dx
    · subst hd
      rw [upd_same] at z; cases z
      exact exd_ok hn (relO_put (fs := []) ry fun _ => trivial)
    rw [upd_ne hd] at z
    refine (I.hok b o z).stay (fun c v hc z2 => k c v ?_ z2) (fun c hc => ?_) (fun c xs hc => ?_)
    · rcases hc with rfl | hc
      · exact hb
      · exact at_ne ha hc exo_own
    · rw [upd_ne (at_ne ha hc exo_own), upd_ne (ne_of_none hc fresh)]; exact hc
    · rw [upd_ne (at_ne ha hc exo_tup), upd_ne (ne_of_none hc fresh)]; exact hc
/-- the statement self.f = e in an error's __init__ -/
def tOx (a C : Addr) (f : Str) (te : TE) : TS := fun D σ H => te σ H fun y H1 => σ[0]? = some (some (.ref a)) ∧ H1 a = some (exo a C none) ∧ ∀ dx, H1 dx = none → dx ≠ a → D.nx σ (upd (upd H1 dx (exd dx [(f, y)])) a (exo a C (some dx)))
theorem ps_ox {e : Expr} {te : TE} {n : Str} {p' p1 pos : Pos} (T : OxC X.K C B newId initId bmB) (hno : PySem.W.findIn X.K (.ref C) f = some none) (hN : X.N[0]? = some n) (hv : Vis X.env.scope n) (hd : (n == ("__debug__" : Str)) = false) (hcd : (n == ("__classdict__" : Str)) = false) (he : PE X e te)
    (hs : swapsWith e (some (.Attribute (.Name n p1) f p')) pos.line X.env = pure false := by rfl) : PS X (.Assign [.Attribute (.Name n p1) f p'] e pos) (tOx a C f te) := by
  refine ⟨fun pins s σ H D I h => plainObj_wpAny_Assign_Attribute (thn (he.run pins s σ H _ I h) fun v s1 ⟨y, H1, I1, r1, hσ, ha, q⟩ => ?_) hs⟩
  refine thn ((pe_var (i := 0) hN hv hd hcd).run pins s1 σ H1 (fun x H2 => x = .ref a ∧ H2 = H1) I1 ⟨_, hσ, rfl, rfl⟩) fun u s2 ⟨x, H2, I2, r2, ex, eh⟩ => ?_
  subst ex eh
  cases r2
  exact store_first T I2 ha hno r1 fun dx s' n0 ne J => ⟨σ, _, J, q dx n0 ne⟩
/-- C(e), C an error class with an own __init__ -/
theorem pmk_ox {CX : CXT} {x : Str} {fI : Addr} {k : Nat} {fd : FuncData} {ps : List Str} {sp : Sp} {ta : TA} {e : Expr} {es : List Expr} {p pos : Pos} (T : OxC X.K C B newId initId bmB) (iC : PySem.W.findIn X.K (.ref C) "__init__" = some (some (.ref fI))) (tI : PySem.W.typeIn X.K (.ref fI) = some (.type "function"))
    (Fn : FnOk X.prog X.w X.K X.mg X.base CX k fI fd ps sp) (hr : Room (k + 1) X.A) (hb : Binds X.K fd ps []) (hx : Passes CX X (fun _ _ _ => False)) (hg : Gl X x) (hm : X.mg x = some (.ref C)) (ha : PA X (e :: es) ta)
    (hdb : (x == ("__debug__" : Str)) = false := by decide) (he : starEach (e :: es) X.env = (false, eval e X.env) :: starEach es X.env := by rfl) (hpl : (backTo pos (starEach es X.env)).any (·.1) = false := by rfl) :
    PMk X (.Call (.Name x p) (e :: es) [] pos) (tMkO C sp [] ta) := by
  intro pins s σ H Q I h
  obtain ⟨nm, q, N, bs, sn, sub, ab, col, dd, k0, k1, k2, k3, k5, hC⟩ := T.row
  refine wpAny_Call_Name_kw (ld_glob I hg hm (PySem.W.callWith_K (h₀ := X.base) I.ok.mod.kin T.kp (thn (ha.run pos pins s σ H _ I h) fun us s1 ⟨vs, H1, I1, r1, few, q1⟩ => ⟨I1.kIn, ?_⟩) he hpl) hdb)
  show wpAny _ _ (call (.ref C) us) _ _ _
  obtain ⟨hp, g, dr, tk, os⟩ := s1
  have fresh : H1 (hp.objs.size + 1) = none := I1.hok.fresh (Nat.le_succ _)
  have hq := q1 _ fresh
  let h2 := (hp.push (PySem.W.kdv_tup us)).push (PySem.HandSPX.excO C hp.objs.size)
  have kk : ∀ b o, hp.get? b = some o → h2.get? b = some o := fun b o z => Heap.get?_push_of_some _ (Heap.get?_push_of_some _ z)
  have there : h2.get? (hp.objs.size + 1) = some (PySem.HandSPX.excO C hp.objs.size) := by
    show ((hp.push (PySem.W.kdv_tup us)).push (PySem.HandSPX.excO C hp.objs.size)).get? (hp.objs.size + 1) = _
    heap_get
  have I2 : Inv X pins σ (upd H1 (hp.objs.size + 1) (exo (hp.objs.size + 1) C none)) ⟨h2, g, dr, tk, os⟩ := I1.laid (t' := tk) kk (Nat.le_succ _) (exo_ok there)
  rw [List.append_nil] at hq
  have r2 : Vals (V.ref (hp.objs.size + 1) :: vs) (Value.ref (hp.objs.size + 1) :: us) := .cons rfl r1
  have hl : (Value.ref (hp.objs.size + 1) :: us).length = ps.length := by rw [← r2.length]; exact Fn.len _ _ _ _ hq
  have room : us.length ≤ sizeLine := by
    have := Paired.length r1
    rw [sizeLine_eq]
    omega
  have bnd := hb ⟨h2, g, dr, tk, os⟩ (Value.ref (hp.objs.size + 1) :: us) I2.kIn (by rw [List.append_nil]; exact hl)
  rw [List.append_nil] at bnd
  have run := Fn.run _ X.stack _ _ ⟨Value.ref (hp.objs.size + 1) :: us, []⟩ _ _ _ (fun _ _ _ => False) (hr.make C us []) (I2.env0.make C us []) bnd r2 hq
  refine wpAny_call (PySem.HandSPX.call_own T.fb (fun _ => rfl) (I1.kIn _ _ hC) (PySem.W.looks_findIn I1.kIn iC) (fun self => PySem.W.bind_fn I1.kIn self tI) room (codeAny_mono run fun r s' hq' => ?_))
  cases r with
  | error er => exact hx pins σ _ _ er s' I2 hq'
  | ok fl =>
    cases fl with
    | ret z =>
      obtain ⟨v, H2, os2, bare2, un2, hok2, rv, rfl, d, fs, ea, ed, hd1, q2⟩ := hq'
      obtain ⟨h3, g3, d3, t3, os3⟩ := s'
      exact ⟨rv, mk_end (raises_own T.isE T.isT) I1 (Nat.le_succ _) kk un2 hok2 os2 bare2 ea ed hd1 q2⟩
    | next => exact False.elim hq'
    | brk => exact False.elim hq'
    | cont => exact False.elim hq'
end
end Dv
namespace Dv
open PySem PySem.Spec PyProof.Rows L2
/-- a caught error at a, its class, its dict -/
def Hx (a C : Addr) (d : Option Addr) : HO := .ext fun h => ∃ (oe : Obj) (vs : Array Value), h.get? a = some oe ∧ Zc (.ref C) d oe ∧ oe.data = .fields vs
theorem hx_at {P : Program} {w : World} {H : Hp} {h : Heap} {a C : Addr} {d : Option Addr} (hok : HOk P w H h) (ha : H a = some (Hx a C d)) : ∃ (oe : Obj) (vs : Array Value), h.get? a = some oe ∧ Zc (.ref C) d oe ∧ oe.data = .fields vs := by
  have x : ObjOk P w H h a (.ext fun h => ∃ (oe : Obj) (vs : Array Value), h.get? a = some oe ∧ Zc (.ref C) d oe ∧ oe.data = .fields vs) := hok a _ ha
  exact x.1
section
variable {X : Cx} {pins : List (Addr × Obj)} {σ : L2.St} {H : Hp} {s : Shared} {a : Addr}
theorem shown {o : HO} (I : Inv X pins σ H s) (new : ObjOk X.prog X.w (upd H a o) s.heap a o) (na : H a = none) (n0 : X.s_0.heap.get? a = none) (nL : a ≠ X.env.locals) (nC : ∀ x c, X.env.cells.lookup x = some c → c ≠ a) (np : ∀ p ∈ X.pn ++ pins, p.1 ≠ a) : Inv X pins σ (upd H a o) s := by
  have nt : ∀ {b : Addr} {u : HO}, H b = some u → b ≠ a := fun z => ne_of_none z na
  refine ⟨I.ok, I.os, I.bare, ⟨I.base.keep, I.base.slot, fun b ob z n hx => ?_, I.base.there, fun b xs z => ?_, fun b ob u z => ?_, fun b ps z => ?_⟩, I.loc, I.cell, by rw [upd_ne (fun z => nL z.symm)]; exact I.free, fun x c z => by rw [upd_ne (nC x c z)]; exact I.freeC x c z, fun p hp => ?_, fun b u z => ?_, I.len⟩
  · rw [upd_ne (fun e => by rw [e, n0] at z; cases z)]; exact I.base.free b ob z n hx
  · have := I.base.tups b xs z; rw [upd_ne (nt this)]; exact this
  · have := I.base.frzs b ob u z; rw [upd_ne (nt this)]; exact this
  · obtain ⟨m, this⟩ := I.base.tbls b ps z
    exact ⟨m, by rw [upd_ne (nt this)]; exact this⟩
  · obtain ⟨p1, p2, p3⟩ := I.pin p hp
    exact ⟨p1, by rw [upd_ne (np p hp)]; exact p2, p3⟩
  · by_cases hb : b = a
    · subst hb; rw [upd_same] at z; cases z; exact new
    · rw [upd_ne hb] at z
      exact (I.hok b u z).stay (fun _ _ _ q => q) (fun c q => by rw [upd_ne (nt q)]; exact q) fun c xs q => by rw [upd_ne (nt q)]; exact q
theorem toSuite (I : Inv X pins σ H s) (a : Addr) : Inv (X.suite a (X.pn ++ pins)) [] σ H s :=
  ⟨I.ok.suite _ _, I.os, I.bare, I.base, I.loc, I.cell, I.free, I.freeC, fun p hp => I.pin p (by rw [List.append_nil] at hp; exact hp), I.hok, I.len⟩
theorem ofSuite {pn2 : List (Addr × Obj)} (I : Inv (X.suite a (X.pn ++ pins)) pn2 σ H s) (ok : X.Ok) : Inv X pins σ H s :=
  ⟨ok, I.os, I.bare, I.base, I.loc, I.cell, I.free, I.freeC, fun p hp => I.pin p (List.mem_append_left _ hp), I.hok, I.len⟩
end
/-- the wish of a try's body: an error of the class that the clause names is held, and the suite is gone through with it in slot i -/
def wHold (K : PySem.W.Frag) (c : Value) (i : Nat) (ts : TS) (D : Ends) : WX := fun cls d σ H => ∃ C, cls = .ref C ∧ PySem.W.exmOne K cls c = some true ∧
  ∀ a, H a = none → ts { nx := fun σ' H' => D.nx (σ'.set i none) H', rt := D.rt, bk := fun σ' H' => D.bk (σ'.set i none) H', ct := fun σ' H' => D.ct (σ'.set i none) H' } (σ.set i (some (.ref a))) (upd H a (Hx a C d))
section
variable {X : Cx} {x n : Str} {c : Value} {i : Nat} {body suite : List Stmt} {b₀ : Stmt} {np pos pos' : Pos} {tb : WX → TS} {ts : TS}
theorem ps_try_hold (hs : X.stack = X.env :: X.outer) (hf : X.env.frame = some X.env.locals) (hex : X.ex = []) (hN : X.N.Nodup) (hi : X.N[i]? = some n) (hln : X.env.kindOf n = some .local) (hc : Names X x c)
    (hb : ∀ (W : WX) (pn : List (Addr × Obj)) (xe : Value → Shared → Prop), Takes (X.tr pn xe) W → PassesOwn (model X.prog X.w) X.A X.env xe → PSs (X.tr pn xe) body (tb W))
    (hsu : ∀ (a : Addr) (pn : List (Addr × Obj)), PSs (X.suite a pn) (b₀ :: suite) ts) :
    PS X (.Try body [.ExceptHandler (some (.Name x np)) (some n) (b₀ :: suite) pos'] [] [] pos) (fun D σ H => tb (wHold X.K c i ts D) D σ H) := by
  refine ⟨fun pins s σ H D I h => wpAny_Try_except ?_⟩
  have ok := I.ok
  have hfr : X.A.frames = some (X.env :: X.outer) := by rw [ok.frames, hs]
  have clause : ∀ u s', XE (X.tr (X.pn ++ pins) fun e s₁ => wpAny (model X.prog X.w) X.A (noteFrame e X.env) (fun _ s₂ => wpAny (model X.prog X.w) X.A (setFlight e none) (fun _ s₃ =>
      wpAny (model X.prog X.w) X.A (handleBy e X.env [.ExceptHandler (some (.Name x np)) (some n) (b₀ :: suite) pos']) (SP X pins D) X.xe s₃) X.xe s₂) X.xe s₁) (wHold X.K c i ts D) u s' →
      wpAny (model X.prog X.w) X.A (noteFrame u X.env) (fun _ s₂ => wpAny (model X.prog X.w) X.A (setFlight u none) (fun _ s₃ =>
      wpAny (model X.prog X.w) X.A (handleBy u X.env [.ExceptHandler (some (.Name x np)) (some n) (b₀ :: suite) pos']) (SP X pins D) X.xe s₃) X.xe s₂) X.xe s' := by
    intro u s' air
    obtain ⟨a, B, sI, pins', σ', H', cls, d, rfl, J', nb, up, sky, na, os, ag, C, rfl, hit, go⟩ := air
    have J : Inv X pins σ' H' sI := J'.ofTry ok
    have sky2 : Sky B (X.env :: X.outer) a (Zc (.ref C) d) X.env.locals s'.heap := by rw [← hs]; exact sky
    refine Sky.land Zc.steady hfr hf sky2 fun h3 fl3 up3 => ?_
    have J3 : Inv X pins σ' H' { s' with heap := h3 } := J.landed nb fl3.1 (up.trans up3) os ag
    obtain ⟨oe3, vs3, he3, hz3, hd3⟩ := fl3.there
    have out : a ∉ frs (X.env :: X.outer) := fun hm => by
      obtain ⟨_, o', e', hnf⟩ := fl3.2.2.1.mem hm
      rw [he3] at e'
      cases e'
      exact hnf _ hd3
    have nL : a ≠ X.env.locals := fun z => out (List.mem_filterMap.mpr ⟨X.env, List.mem_cons_self, by rw [hf, z]⟩)
    have gone : sI.heap.get? a = none := by
      cases e : sI.heap.get? a with
      | none => rfl
      | some o =>
        have := nb a o e (by show a ∉ frs X.stack; rw [hs]; exact out)
        rw [fl3.2.1] at this
        cases this
    have n0 : X.s_0.heap.get? a = none := by
      cases e : X.s_0.heap.get? a with
      | none => rfl
      | some o =>
        obtain ⟨o', q⟩ := J.base.there a o e (by rw [hex]; simp)
        rw [gone] at q
        cases q
    have np' : ∀ p ∈ X.pn ++ pins, p.1 ≠ a := fun p hp z => by
      have := (J.pin p hp).1
      rw [z, gone] at this
      cases this
    have show_ : ∀ (h : Heap) (oe : Obj) (vs : Array Value), Inv X pins σ' H' { s' with heap := h } → h.get? a = some oe → Zc (.ref C) d oe → oe.data = .fields vs → Inv X pins σ' (upd H' a (Hx a C d)) { s' with heap := h } := fun h oe vs J2 he hz hd =>
      shown J2 ⟨⟨oe, vs, he, hz, hd⟩, ⟨oe, he⟩, fun _ _ ⟨o, v, q, r⟩ k => ⟨o, v, k o q, r⟩⟩ na n0 nL (fun y b e z => by
        obtain ⟨v, o, h1, h2⟩ := J2.cell y b e
        subst z
        rw [he] at h1
        cases h1
        rw [hd] at h2
        cases h2) np'
    have S3 := toSuite (show_ h3 oe3 vs3 J3 he3 hz3 hd3) a
    have LT : PySem.W.Looks (model X.prog X.w) h3 (typeOf (.ref a)) (.ref C) := fun A Q E s k q => wpAny_typeOf_ref (k _ _ he3) (by rw [hz3.1]; exact q)
    have LM := PySem.W.exm_one (M := model X.prog X.w) J3.kIn LT hit
    have asks : ∀ {Q : Value → Shared → Prop} {E : Value → Shared → Prop}, Q c { s' with heap := h3 } → wpAny (model X.prog X.w) (X.A.mark (some (.ref a))) (eval (.Name x np) X.env) Q E { s' with heap := h3 } := fun q => by
      obtain ⟨hg, hdb, hm | ⟨hm, hv, hnn⟩⟩ := hc
      · exact ld_glob (X := X.suite a (X.pn ++ pins)) S3 hg hm q hdb
      · exact ld_blt (X := X.suite a (X.pn ++ pins)) S3 hg hm hv q hnn hdb
    refine wpAny_handleBy_cons (codeAny_handlers_test (asks (LM.here ?_))) (by intro q; cases q)
    refine codeAny_handlers_suite_as (HandSPX.lands_againZ fl3 fun h4 fl4 up4 => ?_)
    obtain ⟨oe4, vs4, he4, hz4, hd4⟩ := fl4.there
    have S4 := toSuite (show_ h4 oe4 vs4 (J.landed nb fl4.1 ((up.trans up3).trans up4) os ag) he4 hz4 hd4) a
    refine store_ok (X := X.suite a (X.pn ++ pins)) (v := .ref a) S4 hN hi (.inl hln) rfl (fun s5 S5 => ?_) (.inr hln)
    have fin : ∀ {σ6 : L2.St} {H6 : Hp} {s6 : Shared} {Q : Shared → Prop}, Inv (X.suite a (X.pn ++ pins)) [] σ6 H6 s6 → (∀ s7, Inv X pins (σ6.set i none) H6 s7 → Q s7) →
        wpAny (model X.prog X.w) X.A (do bindName X.env n .none; unbindBehindTheSuite X.env n pos') (fun _ s7 => Q s7) X.xe s6 := fun S6 hq => gone_ok (ofSuite S6 ok) hN hi hln hq
    refine wpAny_mono ((hsu a (X.pn ++ pins)).run [] s5 _ _ _ S5 (go a na)) (fun fl s6 hsp => ?_) fun _ _ z => False.elim z
    cases fl with
    | next => obtain ⟨_, _, S6, q6⟩ := hsp; exact fin S6 fun s7 J7 => ⟨_, _, J7, q6⟩
    | brk => obtain ⟨_, _, S6, q6⟩ := hsp; exact fin S6 fun s7 J7 => ⟨_, _, J7, q6⟩
    | cont => obtain ⟨_, _, S6, q6⟩ := hsp; exact fin S6 fun s7 J7 => ⟨_, _, J7, q6⟩
    | ret u => obtain ⟨_, _, _, S6, r6, q6⟩ := hsp; exact fin S6 fun s7 J7 => ⟨_, _, _, J7, r6, q6⟩
  refine wpAny_mono ((hb _ (X.pn ++ pins) _ clause PassesOwn.looking).run [] s σ H D (I.toTry _) h) (fun fl s1 hsp => ?_) fun _ _ z => z
  cases fl with
  | next => obtain ⟨σ', H', J', q⟩ := hsp; exact wpAny_execs_nil ⟨σ', H', J'.ofTry ok, q⟩
  | brk => obtain ⟨σ', H', J', q⟩ := hsp; exact ⟨σ', H', J'.ofTry ok, q⟩
  | cont => obtain ⟨σ', H', J', q⟩ := hsp; exact ⟨σ', H', J'.ofTry ok, q⟩
  | ret u => obtain ⟨v, σ', H', J', r, q⟩ := hsp; exact ⟨v, σ', H', J'.ofTry ok, r, q⟩
end
section
variable {X : Cx} {e : Expr} {te : TE} {f : Str} {pos : Pos}
theorem pe_hxf (he : PE X e te) (hb : attributeBase e f X.env (eval e X.env) = eval e X.env := by rfl) :
    PE X (.Attribute e f pos) (fun σ H Q => te σ H fun x H1 => ∃ (a C dd : Addr) (fs : List (Str × V)) (v : V), x = .ref a ∧ H1 a = some (Hx a C (some dd)) ∧ H1 dd = some (.xd fs) ∧ XfC X.K C ∧ PySem.W.findIn X.K (.ref C) f = some none ∧ fs.lookup f = some v ∧ Q v H1) := by
  refine ⟨fun pins s σ H Q I h => attr_of hb (thn (he.run pins s σ H _ I h) fun u s1 hh => ?_)⟩
  obtain ⟨x, H1, I1, rx, a, C, dd, fs, v, rfl, ha, hd, T, hno, l, q⟩ := hh
  cases rx
  obtain ⟨oe, vs, ho, hz, hdt⟩ := hx_at I1.hok ha
  obtain ⟨mA, hns, hr⟩ : ∃ mA, s1.heap.Ns1 dd mA ∧ ∀ f, RelO (fs.lookup f) (mA f) := I1.hok dd _ hd
  obtain ⟨od, hod, hl⟩ := lookIn_ns hns
  obtain ⟨w, hw, rw'⟩ := RelO.some_of (v := v) (o := mA f) (by rw [← l]; exact hr f)
  have J : PySem.W.InstAt s1.heap a oe C (some od) := ⟨ho, hz.1, by unfold PySem.W.notCls; rw [hdt] <;> rfl, by rw [hz.2]; exact hod⟩
  exact HandSPX.exc_get I1.kIn J T.ga T.gg T.exC (PySem.W.findObj_own T.hdC hno rfl (by rw [hl, hw])) (handed_of rw') ⟨v, H1, I1.tok _, rw', q⟩
end
section
open PySem.W PySem.Calls
variable {prog : Program} {w : World} {A : Around} {E : Value → Shared → Prop} {K : Frag} {x D : Addr} {ox : Obj} {od : Option Obj}
theorem hx_data {name : Str} {v g : Value} (hc : (clsIn K D).isSome = true) (ha : findIn K (.ref D) name = some (some v)) (hg : specialIn K v "__get__" = some (some g)) (ht : takesIn K v = some true) : findObj K D od name = some (.bind g v) := by
  obtain ⟨cd, hc⟩ := Option.isSome_iff_exists.mp hc
  unfold findObj
  rw [hc, Option.bind_some, ha, Option.bind_some]
  simp only [hg, ht, Option.bind_some]
theorem hx_class (T : L2.ExcC K D) {Q : Option Value → Shared → Prop} {s : Shared} (kin : K.In s.heap) (I : InstAt s.heap x ox D od) (h : Q (some (.ref D)) { s with toks := s.toks + 1 }) : wpAny (model prog w) A (getAttr? (.ref x) "__class__") Q E s := by
  have has : (clsIn K D).isSome = true := by
    obtain ⟨cd, hc, _⟩ := any_some T.hd
    rw [hc] <;> rfl
  obtain ⟨hp, g, d, t, os⟩ := s
  have ty := I.type (M := model prog w)
  have fnd := looks_find (M := model prog w) kin I (hx_data (od := od) has T.ha T.hn T.ht)
  have isE : Looks (model prog w) hp (isInstance (.ref x) (.type "BaseException")) true := ty.andThen (looks_subIn kin T.hs)
  have other : (Value.builtin "BaseException.__getattribute__" == Value.builtin "object.__getattribute__") = false := by decide +kernel
  unfold getAttr? getAttrBy? getAttrBy
  refine wpAny_bind (wpAny_mkText (wpAny_bind (wpAny_attempt (wpAny_holding (wpAny_bind (ty.at (wpAny_bind ((looks_findIn (M := model prog w) kin T.hg).at ?_))))))))
  show wpAny _ _ (if (onTheHeap (Value.ref D) && Value.builtin "BaseException.__getattribute__" == Value.builtin "object.__getattribute__") = true then _ else _) _ _ _
  rw [other, Bool.and_false, if_neg Bool.false_ne_true]
  unfold getAttrByItsOwn hookBefore
  refine wpAny_bind ?_
  rw [if_pos (show onTheHeap (Value.ref D) = true from rfl)]
  refine (looks_findIn (M := model prog w) kin T.hk).at (wpAny_bind (wpAny_attempt (wpAny_holding ?_)))
  unfold callGetattribute
  rw [Bool.false_and, if_neg Bool.false_ne_true]
  unfold boundAndCalled
  rw [F.excAttr_ValueError.ga.bind (.ref x)]
  refine wpAny_bind (wpAny_pure ?_)
  show wpAny _ _ (call (.builtin "BaseException.__getattribute__") [.ref x, .str "__class__" t]) _ _ _
  refine wpAny_call (codeAny_call_builtin F.excAttr_ValueError.ga.plain F.entry_bexc_ga (@check_slot (model prog w) _ _ ⟨hp, g, d, t + 1, os⟩ "BaseException.__getattribute__" "BaseException" "__getattribute__" (.ref x) [.str "__class__" t] [] _ (by decide +kernel) (by decide +kernel) isE (F.args_bexc_ga _ _) ?_))
  unfold Builtin.«object.__getattribute__»
  refine wpAny_bind (wpAny_of_eq (a := ((Value.ref x : Value), [Value.str "__class__" t])) (by first | rfl | (simp only [slotArgs]; rfl)) (wpAny_bind (wpAny_pure (wpAny_bind (ty.at (wpAny_bind (fnd.at ?_)))))))
  show wpAny _ _ (holding [Value.builtin "object.__class__"] (call (.builtin "getset_descriptor.__get__") [.builtin "object.__class__", .ref x, .ref D]) >>= ret) _ _ _
  refine wpAny_bind (wpAny_holding (wpAny_call (class_get (s := ⟨hp, g, d, t + 1, os⟩) (ox := ox) (od := od) kin I T.hm (wpAny_pure ?_))))
  show wpAny _ _ (handedOut (.ref D)) _ _ _
  rw [handedOut_of (v := .ref D) rfl]
  first
    | exact wpAny_pure (wpAny_pure h)
    | exact wpAny_pure h
    | exact wpAny_pure (wpAny_bind (wpAny_pure (wpAny_pure h)))
theorem hx_kit (T : L2.ExcC K D) : KitX K (.ref x) (.ref D) (fun h => InstAt h x ox D od) := by
  obtain ⟨cd, hc, _⟩ := any_some T.hd
  unfold clsIn at hc
  split at hc
  · rename_i c1 d1 cd1 sl1 ho
    refine ⟨fun _ _ _ I => I.type, fun _ _ kin _ => ?_, fun h tp dd its n sl kin htp => ?_, fun kin I k => hx_class T kin I k⟩
    · intro A' Q' E' s' k q
      unfold isType loadHead
      exact wpAny_bind (wpAny_loadPart (k _ _ (kin _ _ ho)) (wpAny_pure q))
    · refine Bool.eq_false_iff.mpr fun q => ?_
      have e := Value.ref.inj (beq_iff_eq.mp q)
      subst e
      have z := (kin _ _ ho).symm.trans htp
      cases z
  · cases hc
end
/-- isinstance(e, T) of a held error -/
theorem call_hx {X : Cx} : CallR X (.builtin "isinstance") (fun xs H Q => ∃ (a C : Addr) (d : Option Addr) (c : V) (cv : Value) (b : Bool), xs = [.ref a, c] ∧ H a = some (Hx a C d) ∧ (∀ dd, d = some dd → ∃ fs, H dd = some (.xd fs)) ∧ ExcC X.K C ∧ (∀ u, RelV c u → u = cv) ∧ PySem.W.kitOne X.K (.ref C) cv = some b ∧ Q (.bl b) H) := by
  intro pins s σ H xs us Q I r h
  obtain ⟨a, C, d, c, cv, b, rfl, ha, hd, T, hcv, e, q⟩ := h
  obtain ⟨oe, vs, ho, hz, hdt⟩ := hx_at I.hok ha
  cases r with
  | cons rx rr =>
    cases rr with
    | cons rt rr =>
      cases rr
      cases rx
      cases hcv _ rt
      have no : PySem.W.notCls oe = true := by unfold PySem.W.notCls; rw [hdt] <;> rfl
      obtain ⟨od, J⟩ : ∃ od, PySem.W.InstAt s.heap a oe C od := by
        cases d with
        | none => exact ⟨none, ho, hz.1, no, by rw [hz.2]; trivial⟩
        | some dd =>
          obtain ⟨fs, hf⟩ := hd dd rfl
          obtain ⟨mA, ⟨o, _, _, h1, _⟩, _⟩ : ∃ mA, s.heap.Ns1 dd mA ∧ ∀ f, RelO (fs.lookup f) (mA f) := I.hok dd _ hf
          exact ⟨some o, ho, hz.1, no, by rw [hz.2]; exact h1⟩
      exact PySem.W.kia_one (hx_kit T) I.kIn J e (fun z => nomatch z) fun tk => ⟨.bl b, H, I.kept (t' := tk) fun _ _ z => z, rfl, q⟩
end Dv
namespace Dv
open PySem PySem.Spec PyProof.Rows L2
/-- plain data; urn is the one mutable thing (three numbers), known by its place -/
inductive D where
  | non | bl (b : Bool) | int (i : Int) | str (x : Str) | lst (xs : List D) | tup (xs : List D) | pr (xs : List D) | ins (c : Str) (ns : List Str) (xs : List D) | exc (c : Str) (ns : List Str) (xs : List D) | fn (x : Str) | dct (ks : List Key) (xs : List D) | dtt (ks : List (List Key)) (xs : List D) | dtn (ks : List NestedKey) (xs : List D) | urn
structure U where
  a : Int
  b : Int
  c : Int
/-- what is fixed through a law -/
structure InsOk (K : PySem.W.Frag) (C : Addr) : Prop where
  cl : Cls K C
  ha : PySem.W.findIn K (.ref C) "__class__" = some (some (.builtin "object.__class__"))
  hn : PySem.W.specialIn K (.builtin "object.__class__") "__get__" = some (some (.builtin "getset_descriptor.__get__"))
  htk : PySem.W.takesIn K (.builtin "object.__class__") = some true
  hm : PySem.W.mroIn K C (.type "object") = some true
  kStr : PySem.W.kitOne K (.ref C) (.type "str") = some false
  kInt : PySem.W.kitOne K (.ref C) (.type "int") = some false
  kBool : PySem.W.kitOne K (.ref C) (.type "bool") = some false
  kList : PySem.W.kitOne K (.ref C) (.type "list") = some false
  kTup : PySem.W.kitOne K (.ref C) (.type "tuple") = some false
/-- an own error class that is caught and held -/
structure ErOk (K : PySem.W.Frag) (C : Addr) : Prop where
  isi : ExcC K C
  fld : XfC K C
  hit : PySem.W.exmOne K (.ref C) (.ref C) = some true
structure Gx (K : PySem.W.Frag) where
  cls : Str → Option Addr
  ok : ∀ c C, cls c = some C → InsOk K C
  exc : Str → Option Addr := fun _ => none
  eok : ∀ c C, exc c = some C → ErOk K C := by intro _ _ h; cases h
  fns : Str → Option Addr := fun _ => none
  pw : Option (Program × World) := none
/-- an error's dict: none without fields -/
def ErD (H : Hp) (ns : List Str) (vs : List V) (d : Option Addr) : Prop := ns.length = vs.length ∧ ((ns = [] ∧ d = none) ∨ ∃ dd, d = some dd ∧ H dd = some (.xd (ns.zip vs)))
theorem ErD.mono {H H' : Hp} {ns : List Str} {vs : List V} {d : Option Addr} (h : ErD H ns vs d) (s : Same H H') : ErD H' ns vs d := by
  obtain ⟨h1, h2 | ⟨dd, h2, h3⟩⟩ := h
  · exact ⟨h1, .inl h2⟩
  · exact ⟨h1, .inr ⟨dd, h2, s _ _ h3⟩⟩
/-- a tuple whose object is told: it has no dict -/
def TupB (H : Hp) (a : Addr) (vs : List V) : Prop := ∃ o : Obj, o.dict = none ∧ H a = some (.frz o (.tup vs))
theorem TupB.mono {H H' : Hp} {a : Addr} {vs : List V} (h : TupB H a vs) (s : Same H H') : TupB H' a vs := ⟨h.choose, h.choose_spec.1, s _ _ h.choose_spec.2⟩
theorem TupB.sq {K : PySem.W.Frag} {H : Hp} {a : Addr} {vs : List V} (h : TupB H a vs) : SqT K H a vs := .inl (.inr ⟨h.choose, h.choose_spec.2⟩)
/-- a dict that is shown to all: it stands still from then on -/
def DctB (H : Hp) (a : Addr) (kvs : List (Key × V)) : Prop := ∃ o, H a = some (.frz o (.dK kvs))
theorem DctB.mono {H H' : Hp} {a : Addr} {kvs : List (Key × V)} (h : DctB H a kvs) (s : Same H H') : DctB H' a kvs := by
  obtain ⟨o, h⟩ := h
  exact ⟨o, s _ _ h⟩
/-- the tuples that are told, as tuples -/
def tupH (B : Hp) : Hp := fun b => match B b with
  | some (.frz o (.tup vs)) => if o.dict.isNone = true then some (.tup vs) else none
  | _ => none
theorem tupH_of {B : Hp} {b : Addr} {vs : List V} (h : TupB B b vs) : tupH B b = some (.tup vs) := by
  obtain ⟨o, ho, h⟩ := h
  unfold tupH
  rw [h]
  show (if o.dict.isNone = true then some (HO.tup vs) else none) = _
  rw [ho]; rfl
theorem tupH_to {B : Hp} {b : Addr} {vs : List V} (h : tupH B b = some (.tup vs)) : TupB B b vs := by
  unfold tupH at h
  split at h
  · rename_i o ws hb
    split at h
    · rename_i hd
      cases h
      exact ⟨o, Option.isNone_iff_eq_none.mp hd, hb⟩
    · cases h
  · cases h
theorem tupH_mono {H H' : Hp} (s : Same H H') : ∀ b ys, tupH H b = some (.tup ys) → tupH H' b = some (.tup ys) := fun b ys h => tupH_of ((tupH_to h).mono s)
/-- a dict whose keys are tuples of ints and texts, by its object -/
def DTo (P : Program) (w : World) (a : Addr × Obj) (xs : List (List Key × Addr × Value)) : HO := .ext fun h => xs.length ≤ sizeLine ∧ (a.1 == sysModules) = false ∧ ∃ es ep, h.get? a.1 = some a.2 ∧ a.2.ExactDict ∧ a.2.data = .dict es ep ∧ es.toList = xs.map (entryOfKey (tupleKind (mixKind P w))) ∧ (xs.map (·.1)).Nodup
def DtB {K : PySem.W.Frag} (G : Gx K) (ks : List (List Key)) (vs : List V) (o : HO) (B : Hp) : Prop := ∃ P w a xs, G.pw = some (P, w) ∧ o = DTo P w a xs ∧ KT (tupH B) (ks.zip vs) xs ∧ ks.length = vs.length
theorem DtB.mono {K : PySem.W.Frag} {G : Gx K} {ks : List (List Key)} {vs : List V} {o : HO} {H H' : Hp} (h : DtB G ks vs o H) (s : Same H H') : DtB G ks vs o H' := by
  obtain ⟨P, w, a, xs, h1, h2, h3, h4⟩ := h
  exact ⟨P, w, a, xs, h1, h2, h3.keeps (tupH_mono s), h4⟩
mutual
/-- v is the key k, in the shown heap -/
def NKey (B : Hp) : NestedKey → V → Prop
  | .none, v => v = .non
  | .num i, v => v = .int i
  | .text x, v => v = .str x
  | .tup ks, v => ∃ a vs, v = .ref a ∧ TupB B a vs ∧ NKeys B ks vs
def NKeys (B : Hp) : List NestedKey → List V → Prop
  | [], vs => vs = []
  | k :: ks, vs => ∃ v r, vs = v :: r ∧ NKey B k v ∧ NKeys B ks r
end
mutual
theorem NKey.mono {B B' : Hp} (s : Same B B') : ∀ (k : NestedKey) (v : V), NKey B k v → NKey B' k v
  | .none, v, h => by unfold NKey at h ⊢; exact h
  | .num _, v, h => by unfold NKey at h ⊢; exact h
  | .text _, v, h => by unfold NKey at h ⊢; exact h
  | .tup ks, v, h => by
    unfold NKey at h ⊢
    obtain ⟨a, vs, e, q, r⟩ := h
    exact ⟨a, vs, e, q.mono s, NKeys.mono s ks vs r⟩
theorem NKeys.mono {B B' : Hp} (s : Same B B') : ∀ (ks : List NestedKey) (vs : List V), NKeys B ks vs → NKeys B' ks vs
  | [], vs, h => by unfold NKeys at h ⊢; exact h
  | k :: ks, vs, h => by
    unfold NKeys at h ⊢
    obtain ⟨v, r, e, q, t⟩ := h
    exact ⟨v, r, e, NKey.mono s k v q, NKeys.mono s ks r t⟩
end
/-- a dict whose keys are tuples, nested, by its object -/
def DNo (P : Program) (w : World) (a : Addr × Obj) (xs : List (NestedKey × Addr × Value)) : HO := .ext fun h => xs.length ≤ sizeLine ∧ (a.1 == sysModules) = false ∧ ∃ es ep, h.get? a.1 = some a.2 ∧ a.2.ExactDict ∧ a.2.data = .dict es ep ∧ es.toList = xs.map (entryOfKey (nestedKind P w)) ∧ (xs.map (·.1)).Nodup
/-- keys and values, by the shown heap -/
abbrev KN (B : Hp) : List (NestedKey × V) → List (NestedKey × Addr × Value) → Prop := Paired fun p q => p.1 = q.1 ∧ (NKey B p.1 (.ref q.2.1) ∧ p.1.depth ≤ 8) ∧ RelV p.2 q.2.2
theorem KN.mono {B B' : Hp} (s : Same B B') {ps : List (NestedKey × V)} {xs : List (NestedKey × Addr × Value)} (h : KN B ps xs) : KN B' ps xs := by
  induction h with
  | nil => exact .nil
  | cons h t ih => exact .cons ⟨h.1, ⟨NKey.mono s _ _ h.2.1.1, h.2.1.2⟩, h.2.2⟩ ih
def DnB {K : PySem.W.Frag} (G : Gx K) (ks : List NestedKey) (vs : List V) (o : HO) (B : Hp) : Prop := ∃ P w a xs, G.pw = some (P, w) ∧ o = DNo P w a xs ∧ KN B (ks.zip vs) xs ∧ ks.length = vs.length
theorem DnB.mono {K : PySem.W.Frag} {G : Gx K} {ks : List NestedKey} {vs : List V} {o : HO} {H H' : Hp} (h : DnB G ks vs o H) (s : Same H H') : DnB G ks vs o H' := by
  obtain ⟨P, w, a, xs, h1, h2, h3, h4⟩ := h
  exact ⟨P, w, a, xs, h1, h2, h3.mono s, h4⟩
mutual
def Rep {K : PySem.W.Frag} (G : Gx K) (ua : Option Addr) : D → V → Hp → Prop
  | .non, v, _ => v = .non
  | .bl b, v, _ => v = .bl b
  | .int i, v, _ => v = .int i
  | .str x, v, _ => v = .str x
  | .lst ds, v, H => ∃ a vs, v = .ref a ∧ H a = some (HO.lst vs) ∧ Reps G ua ds vs H
  | .tup ds, v, H => ∃ a vs, v = .ref a ∧ TupB H a vs ∧ Reps G ua ds vs H
  | .pr ds, v, H => ∃ a vs, v = .ref a ∧ H a = some (HO.tup vs) ∧ Reps G ua ds vs H
  | .ins c ns ds, v, H => ∃ a C dx vs, v = .ref a ∧ G.cls c = some C ∧ H a = some (HO.ins C dx (ns.zip vs)) ∧ ns.length = vs.length ∧ Reps G ua ds vs H
  | .exc c ns ds, v, H => ∃ a C d vs, v = .ref a ∧ G.exc c = some C ∧ H a = some (Hx a C d) ∧ ErD H ns vs d ∧ Reps G ua ds vs H
  | .fn x, v, _ => ∃ f, G.fns x = some f ∧ v = .ref f
  | .dct ks ds, v, H => ∃ a vs, v = .ref a ∧ DctB H a (ks.zip vs) ∧ ks.length = vs.length ∧ Reps G ua ds vs H
  | .dtt ks ds, v, H => ∃ a vs o, v = .ref a ∧ H a = some o ∧ DtB G ks vs o H ∧ Reps G ua ds vs H
  | .dtn ks ds, v, H => ∃ a vs o, v = .ref a ∧ H a = some o ∧ DnB G ks vs o H ∧ Reps G ua ds vs H
  | .urn, v, _ => ∃ a, ua = some a ∧ v = .ref a
def Reps {K : PySem.W.Frag} (G : Gx K) (ua : Option Addr) : List D → List V → Hp → Prop
  | [], vs, _ => vs = []
  | d :: ds, vs, H => ∃ v r, vs = v :: r ∧ Rep G ua d v H ∧ Reps G ua ds r H
end
section
variable {K : PySem.W.Frag} {G : Gx K} {ua : Option Addr}
mutual
theorem Rep.mono : ∀ (d : D) (v : V) {H H' : Hp}, Same H H' → Rep G ua d v H → Rep G ua d v H'
  | .non, v, H, H', s, h => by unfold Rep at h ⊢; exact h
  | .bl _, v, H, H', s, h => by unfold Rep at h ⊢; exact h
  | .int _, v, H, H', s, h => by unfold Rep at h ⊢; exact h
  | .str _, v, H, H', s, h => by unfold Rep at h ⊢; exact h
  | .lst ds, v, H, H', s, h => by
    unfold Rep at h ⊢
    obtain ⟨a, vs, e, q, r⟩ := h
    exact ⟨a, vs, e, s _ _ q, Reps.mono ds vs s r⟩
  | .tup ds, v, H, H', s, h => by
    unfold Rep at h ⊢
    obtain ⟨a, vs, e, q, r⟩ := h
    exact ⟨a, vs, e, q.mono s, Reps.mono ds vs s r⟩
  | .pr ds, v, H, H', s, h => by
    unfold Rep at h ⊢
    obtain ⟨a, vs, e, q, r⟩ := h
    exact ⟨a, vs, e, s _ _ q, Reps.mono ds vs s r⟩
  | .ins c ns ds, v, H, H', s, h => by
    unfold Rep at h ⊢
    obtain ⟨a, C, dx, vs, e, c1, q, l, r⟩ := h
    exact ⟨a, C, dx, vs, e, c1, s _ _ q, l, Reps.mono ds vs s r⟩
  | .exc c ns ds, v, H, H', s, h => by
    unfold Rep at h ⊢
    obtain ⟨a, C, d, vs, e, c1, q, l, r⟩ := h
    exact ⟨a, C, d, vs, e, c1, s _ _ q, l.mono s, Reps.mono ds vs s r⟩
  | .fn _, v, H, H', s, h => by unfold Rep at h ⊢; exact h
  | .dct ks ds, v, H, H', s, h => by
    unfold Rep at h ⊢
    obtain ⟨a, vs, e, q, l, r⟩ := h
    exact ⟨a, vs, e, q.mono s, l, Reps.mono ds vs s r⟩
  | .dtt ks ds, v, H, H', s, h => by
    unfold Rep at h ⊢
    obtain ⟨a, vs, o, e, q, l, r⟩ := h
    exact ⟨a, vs, o, e, s _ _ q, l.mono s, Reps.mono ds vs s r⟩
  | .dtn ks ds, v, H, H', s, h => by
    unfold Rep at h ⊢
    obtain ⟨a, vs, o, e, q, l, r⟩ := h
    exact ⟨a, vs, o, e, s _ _ q, l.mono s, Reps.mono ds vs s r⟩
  | .urn, v, H, H', s, h => by unfold Rep at h ⊢; exact h
theorem Reps.mono : ∀ (ds : List D) (vs : List V) {H H' : Hp}, Same H H' → Reps G ua ds vs H → Reps G ua ds vs H'
  | [], vs, H, H', s, h => by unfold Reps at h ⊢; exact h
  | d :: ds, vs, H, H', s, h => by
    unfold Reps at h ⊢
    obtain ⟨v, r, e, q, t⟩ := h
    exact ⟨v, r, e, Rep.mono d v s q, Reps.mono ds r s t⟩
end
variable {H H' : Hp} {ds es : List D} {vs ws : List V} {d : D} {v : V}
theorem Reps.nil : Reps G ua [] [] H := by unfold Reps; rfl
theorem Reps.cons (h : Rep G ua d v H) (t : Reps G ua ds vs H) : Reps G ua (d :: ds) (v :: vs) H := by unfold Reps; exact ⟨v, vs, rfl, h, t⟩
theorem Reps.of_nil (h : Reps G ua [] vs H) : vs = [] := by unfold Reps at h; exact h
theorem Reps.of_cons (h : Reps G ua (d :: ds) vs H) : ∃ v r, vs = v :: r ∧ Rep G ua d v H ∧ Reps G ua ds r H := by unfold Reps at h; exact h
theorem Reps.len : ∀ {ds : List D} {vs : List V}, Reps G ua ds vs H → ds.length = vs.length
  | [], vs, h => by rw [h.of_nil]; rfl
  | d :: ds, vs, h => by
    obtain ⟨v, r, rfl, _, t⟩ := h.of_cons
    rw [List.length_cons, List.length_cons, Reps.len t]
theorem Reps.append : ∀ {ds : List D} {vs : List V}, Reps G ua ds vs H → Reps G ua es ws H → Reps G ua (ds ++ es) (vs ++ ws) H
  | [], vs, h, g => by rw [h.of_nil]; exact g
  | d :: ds, vs, h, g => by
    obtain ⟨v, r, rfl, q, t⟩ := h.of_cons
    exact .cons q (Reps.append t g)
theorem Reps.get : ∀ {ds : List D} {vs : List V} {i : Nat} {d : D}, Reps G ua ds vs H → ds[i]? = some d → ∃ v, vs[i]? = some v ∧ Rep G ua d v H
  | [], vs, i, d, h, e => by simp at e
  | d :: ds, vs, 0, d', h, e => by
    obtain ⟨v, r, rfl, q, t⟩ := h.of_cons
    simp at e; subst e
    exact ⟨v, rfl, q⟩
  | d :: ds, vs, i + 1, d', h, e => by
    obtain ⟨v, r, rfl, q, t⟩ := h.of_cons
    exact Reps.get (i := i) t (by simpa using e)
theorem Reps.take : ∀ {ds : List D} {vs : List V} (n : Nat), Reps G ua ds vs H → Reps G ua (ds.take n) (vs.take n) H
  | _, _, 0, h => .nil
  | [], vs, n + 1, h => by rw [h.of_nil]; exact .nil
  | d :: ds, vs, n + 1, h => by
    obtain ⟨v, r, rfl, q, t⟩ := h.of_cons
    exact .cons q (Reps.take n t)
theorem Reps.drop : ∀ {ds : List D} {vs : List V} (n : Nat), Reps G ua ds vs H → Reps G ua (ds.drop n) (vs.drop n) H
  | _, _, 0, h => h
  | [], vs, n + 1, h => by rw [h.of_nil]; exact .nil
  | d :: ds, vs, n + 1, h => by
    obtain ⟨v, r, rfl, q, t⟩ := h.of_cons
    exact Reps.drop n t
theorem Reps.set : ∀ {ds : List D} {vs : List V} (n : Nat), Reps G ua ds vs H → Rep G ua d v H → Reps G ua (ds.set n d) (vs.set n v) H
  | [], vs, n, h, q => by rw [h.of_nil]; exact .nil
  | _ :: ds, vs, 0, h, q => by
    obtain ⟨_, r, rfl, _, t⟩ := h.of_cons
    exact .cons q t
  | _ :: ds, vs, n + 1, h, q => by
    obtain ⟨_, r, rfl, q', t⟩ := h.of_cons
    exact .cons q' (Reps.set n t q)
theorem Reps.replicate (n : Nat) (h : Reps G ua ds vs H) : Reps G ua (List.replicate n ds).flatten (List.replicate n vs).flatten H := by
  induction n with
  | zero => exact .nil
  | succ n ih => rw [List.replicate_succ, List.replicate_succ, List.flatten_cons, List.flatten_cons]; exact h.append ih
theorem Reps.ints : ∀ {ns : List Int}, Reps G ua (ns.map .int) (ns.map .int) H
  | [] => .nil
  | n :: ns => .cons (by unfold Rep; rfl) Reps.ints
theorem Reps.strs_of : ∀ {xs : List Str} {vs : List V}, Reps G ua (xs.map .str) vs H → vs = xs.map .str
  | [], vs, h => h.of_nil
  | x :: xs, vs, h => by
    obtain ⟨v, r, rfl, q, t⟩ := h.of_cons
    unfold Rep at q
    rw [q, Reps.strs_of t]; rfl
theorem Reps.strs : ∀ {xs : List Str}, Reps G ua (xs.map .str) (xs.map .str) H
  | [] => .nil
  | n :: ns => .cons (by unfold Rep; rfl) Reps.strs
theorem Reps.ints_of : ∀ {xs : List Int} {vs : List V}, Reps G ua (xs.map .int) vs H → vs = xs.map .int
  | [], vs, h => h.of_nil
  | x :: xs, vs, h => by
    obtain ⟨v, r, rfl, q, t⟩ := h.of_cons
    unfold Rep at q
    rw [q, Reps.ints_of t]; rfl
theorem Reps.bls_of : ∀ {xs : List Bool} {vs : List V}, Reps G ua (xs.map .bl) vs H → vs = xs.map .bl
  | [], vs, h => h.of_nil
  | x :: xs, vs, h => by
    obtain ⟨v, r, rfl, q, t⟩ := h.of_cons
    unfold Rep at q
    rw [q, Reps.bls_of t]; rfl
end
/-- B: the part of the heap that plain data may name; the urn stands beside it -/
structure Wd (ua : Option Addr) (u : U) (B H : Hp) : Prop where
  sub : Same B H
  urn : ∀ a, ua = some a → B a = none ∧ H a = some (.lst [.int u.a, .int u.b, .int u.c])
structure Grow (ua : Option Addr) (B H B' H' : Hp) : Prop where
  keep : ∀ a o, H a = some o → ua ≠ some a → H' a = some o
  live : ∀ a, H' a = none → H a = none
  pub : Same B B'
  new : ∀ a o, B' a = some o → B a = some o ∨ H a = none
theorem Grow.refl {ua : Option Addr} {B H : Hp} : Grow ua B H B H := ⟨fun _ _ h _ => h, fun _ h => h, fun _ _ h => h, fun _ _ h => .inl h⟩
theorem Grow.trans {ua : Option Addr} {B H B1 H1 B2 H2 : Hp} (x : Grow ua B H B1 H1) (y : Grow ua B1 H1 B2 H2) : Grow ua B H B2 H2 :=
  ⟨fun a o h n => y.keep a o (x.keep a o h n) n, fun a h => x.live a (y.live a h), fun a o h => y.pub a o (x.pub a o h), fun a o h => by
    rcases y.new a o h with h | h
    · exact x.new a o h
    · exact .inr (x.live a h)⟩
theorem same_new {H : Hp} {p : Addr} {o : HO} (h : H p = none) : Same H (upd H p o) := fun b x e => by
  rw [upd_ne (ne_of_none e h)]
  exact e
section
variable {ua : Option Addr} {u : U} {B H : Hp} {p : Addr} {o : HO}
theorem Wd.none_of (w : Wd ua u B H) (h : H p = none) : B p = none := by
  cases e : B p with
  | none => rfl
  | some o => rw [w.sub p o e] at h; cases h
theorem Wd.ne_urn (w : Wd ua u B H) (h : H p = none) : ua ≠ some p := fun e => by
  rw [(w.urn p e).2] at h; cases h
/-- a new object that anyone may see -/
theorem Grow.new1 (w : Wd ua u B H) (h : H p = none) : Grow ua B H (upd B p o) (upd H p o) := by
  have hp := w.none_of h
  refine ⟨fun a x e _ => same_new h a x e, fun a e => ?_, same_new hp, fun a x e => ?_⟩
  · by_cases q : a = p
    · subst q; exact h
    · rw [upd_ne q] at e; exact e
  · by_cases q : a = p
    · subst q; exact .inr h
    · rw [upd_ne q] at e; exact .inl e
theorem Wd.new1 (w : Wd ua u B H) (h : H p = none) : Wd ua u (upd B p o) (upd H p o) := by
  refine ⟨fun a x e => ?_, fun a e => ?_⟩
  · by_cases q : a = p
    · subst q; rw [upd_same] at e ⊢; exact e
    · rw [upd_ne q] at e ⊢; exact w.sub a x e
  · have := w.urn a e
    have q : a ≠ p := fun z => by subst z; rw [this.2] at h; cases h
    rw [upd_ne q, upd_ne q]; exact this
/-- a new object of one's own -/
theorem Grow.own1 (w : Wd ua u B H) (h : H p = none) : Grow ua B H B (upd H p o) := by
  refine ⟨fun a x e _ => same_new h a x e, fun a e => ?_, fun _ _ e => e, fun a x e => .inl e⟩
  by_cases q : a = p
  · subst q; exact h
  · rw [upd_ne q] at e; exact e
theorem Wd.own1 (w : Wd ua u B H) (h : H p = none) : Wd ua u B (upd H p o) := by
  refine ⟨fun a x e => same_new h a x (w.sub a x e), fun a e => ?_⟩
  have := w.urn a e
  have q : a ≠ p := fun z => by subst z; rw [this.2] at h; cases h
  rw [upd_ne q]; exact this
/-- one's own object is changed -/
theorem Wd.put (w : Wd ua u B H) (h : B p = none) (n : ua ≠ some p) : Wd ua u B (upd H p o) := by
  refine ⟨fun a x e => ?_, fun a e => ?_⟩
  · rw [upd_ne (ne_of_none e h)]; exact w.sub a x e
  · have := w.urn a e
    rw [upd_ne (fun z => n (by rw [← z]; exact e))]; exact this
end
/-- one's own things, that still change -/
inductive Oo where
  | lst (ds : List D) | dct (ks : List Key) (ds : List D) | dtt (ks : List (List Key)) (ds : List D) | dtn (ks : List NestedKey) (ds : List D)
def RepO {K : PySem.W.Frag} (G : Gx K) (ua : Option Addr) : Oo → HO → Hp → Prop
  | .lst ds, o, B => ∃ vs, o = .lst vs ∧ Reps G ua ds vs B
  | .dct ks ds, o, B => ∃ vs, o = .dK (ks.zip vs) ∧ ks.length = vs.length ∧ Reps G ua ds vs B ∧ ks.Nodup
  | .dtt ks ds, o, B => ∃ vs, DtB G ks vs o B ∧ Reps G ua ds vs B
  | .dtn ks ds, o, B => ∃ vs, DnB G ks vs o B ∧ Reps G ua ds vs B
theorem RepO.mono {K : PySem.W.Frag} {G : Gx K} {ua : Option Addr} {x : Oo} {o : HO} {B B' : Hp} (h : RepO G ua x o B) (s : Same B B') : RepO G ua x o B' := by
  cases x with
  | lst ds => obtain ⟨vs, e, r⟩ := h; exact ⟨vs, e, r.mono _ _ s⟩
  | dct ks ds => obtain ⟨vs, e, l, r, n⟩ := h; exact ⟨vs, e, l, r.mono _ _ s, n⟩
  | dtt ks ds => obtain ⟨vs, e, r⟩ := h; exact ⟨vs, e.mono s, r.mono _ _ s⟩
  | dtn ks ds => obtain ⟨vs, e, r⟩ := h; exact ⟨vs, e.mono s, r.mono _ _ s⟩
inductive Sl where
  | no | pub (d : D) | own (o : Oo)
structure EnvOk {K : PySem.W.Frag} (G : Gx K) (ua : Option Addr) (env : List Sl) (σ : List (Option V)) (B H : Hp) : Prop where
  len : env.length = σ.length
  pub : ∀ (i : Nat) d, env[i]? = some (Sl.pub d) → ∃ v, σ[i]? = some (some v) ∧ Rep G ua d v B
  own : ∀ (i : Nat) ds, env[i]? = some (Sl.own ds) → ∃ p ho, σ[i]? = some (some (V.ref p)) ∧ H p = some ho ∧ B p = none ∧ RepO G ua ds ho B ∧ ua ≠ some p
  inj : ∀ (i j : Nat) ds es p, env[i]? = some (Sl.own ds) → env[j]? = some (Sl.own es) → σ[i]? = some (some (V.ref p)) → σ[j]? = some (some (V.ref p)) → i = j
section
variable {K : PySem.W.Frag} {G : Gx K} {ua : Option Addr} {u : U} {env : List Sl} {σ : List (Option V)} {B H B' H' : Hp} {d : D} {v : V} {i : Nat}
theorem EnvOk.grow (e : EnvOk G ua env σ B H) (g : Grow ua B H B' H') : EnvOk G ua env σ B' H' := by
  refine ⟨e.len, fun i d h => ?_, fun i ds h => ?_, e.inj⟩
  · obtain ⟨v, h1, h2⟩ := e.pub i d h
    exact ⟨v, h1, h2.mono _ _ g.pub⟩
  · obtain ⟨p, vs, h1, h2, h3, h4, h5⟩ := e.own i ds h
    refine ⟨p, vs, h1, g.keep _ _ h2 h5, ?_, h4.mono g.pub, h5⟩
    cases q : B' p with
    | none => rfl
    | some o =>
      rcases g.new p o q with z | z
      · rw [z] at h3; cases h3
      · rw [z] at h2; cases h2
theorem get_set {α : Type} {l : List α} {i j : Nat} {a x : α} (h : (l.set i a)[j]? = some x) : (j = i ∧ x = a) ∨ (j ≠ i ∧ l[j]? = some x) := by
  by_cases q : i = j
  · subst q
    left
    by_cases hl : i < l.length
    · rw [List.getElem?_set_self hl] at h
      exact ⟨rfl, (Option.some.inj h).symm⟩
    · rw [List.getElem?_eq_none (by rw [List.length_set]; omega)] at h; cases h
  · rw [List.getElem?_set_ne q] at h
    exact .inr ⟨fun z => q z.symm, h⟩
theorem set_get {α : Type} {l : List α} {i : Nat} {a : α} (hl : i < l.length) : (l.set i a)[i]? = some a := by rw [List.getElem?_set_self hl]
theorem lt_of_get {α : Type} {l : List α} {i : Nat} {x : α} (h : l[i]? = some x) : i < l.length := (List.getElem?_eq_some_iff.mp h).1
theorem EnvOk.set (e : EnvOk G ua env σ B H) (r : Rep G ua d v B) (i : Nat) : EnvOk G ua (env.set i (Sl.pub d)) (σ.set i (some v)) B H := by
  refine ⟨by rw [List.length_set, List.length_set]; exact e.len, fun j d' h => ?_, fun j ds h => ?_, fun j k ds es p h1 h2 h3 h4 => ?_⟩
  · have hl := lt_of_get h
    rw [List.length_set, e.len] at hl
    rcases get_set h with ⟨rfl, q⟩ | ⟨q, h⟩
    · cases q; exact ⟨v, set_get hl, r⟩
    · rw [List.getElem?_set_ne (fun z => q z.symm)]; exact e.pub j d' h
  · rcases get_set h with ⟨rfl, q⟩ | ⟨q, h⟩
    · cases q
    · rw [List.getElem?_set_ne (fun z => q z.symm)]; exact e.own j ds h
  · rcases get_set h1 with ⟨rfl, q⟩ | ⟨q1, h1⟩
    · cases q
    · rcases get_set h2 with ⟨rfl, q⟩ | ⟨q2, h2⟩
      · cases q
      · rw [List.getElem?_set_ne (fun z => q1 z.symm)] at h3
        rw [List.getElem?_set_ne (fun z => q2 z.symm)] at h4
        exact e.inj j k ds es p h1 h2 h3 h4
theorem EnvOk.setOwn {p : Addr} {ds : Oo} {vs : HO} (e : EnvOk G ua env σ B H) (hp : H p = some vs) (np : B p = none) (r : RepO G ua ds vs B) (nu : ua ≠ some p)
    (far : ∀ (j : Nat) es q, env[j]? = some (Sl.own es) → σ[j]? = some (some (V.ref q)) → j ≠ i → q ≠ p) : EnvOk G ua (env.set i (Sl.own ds)) (σ.set i (some (V.ref p))) B H := by
  refine ⟨by rw [List.length_set, List.length_set]; exact e.len, fun j d' h => ?_, fun j ds' h => ?_, fun j k ds' es q h1 h2 h3 h4 => ?_⟩
  · rcases get_set h with ⟨rfl, q⟩ | ⟨q, h⟩
    · cases q
    · rw [List.getElem?_set_ne (fun z => q z.symm)]; exact e.pub j d' h
  · have hl := lt_of_get h
    rw [List.length_set, e.len] at hl
    rcases get_set h with ⟨rfl, q⟩ | ⟨q, h⟩
    · cases q; exact ⟨p, vs, set_get hl, hp, np, r, nu⟩
    · rw [List.getElem?_set_ne (fun z => q z.symm)]; exact e.own j ds' h
  · rcases get_set h1 with ⟨rfl, q1⟩ | ⟨q1, g1⟩
    · rcases get_set h2 with ⟨rfl, q2⟩ | ⟨q2, g2⟩
      · rfl
      · rw [List.getElem?_set_ne (fun z => q2 z.symm)] at h4
        have hl := lt_of_get h3
        rw [List.length_set] at hl
        rw [set_get hl] at h3
        cases h3
        exact absurd rfl (far k es p g2 h4 q2)
    · rcases get_set h2 with ⟨rfl, q2⟩ | ⟨q2, g2⟩
      · rw [List.getElem?_set_ne (fun z => q1 z.symm)] at h3
        have hl := lt_of_get h4
        rw [List.length_set] at hl
        rw [set_get hl] at h4
        cases h4
        exact absurd rfl (far j ds' p g1 h3 q1)
      · rw [List.getElem?_set_ne (fun z => q1 z.symm)] at h3
        rw [List.getElem?_set_ne (fun z => q2 z.symm)] at h4
        exact e.inj j k ds' es q g1 g2 h3 h4
/-- forgotten slots -/
def wipeE (env : List Sl) : List Nat → List Sl
  | [] => env
  | v :: vs => (wipeE env vs).set v Sl.no
theorem EnvOk.wipe1 (e : EnvOk G ua env σ B H) (i : Nat) (o : Option V) : EnvOk G ua (env.set i Sl.no) (σ.set i o) B H := by
  refine ⟨by rw [List.length_set, List.length_set]; exact e.len, fun j d' h => ?_, fun j ds h => ?_, fun j k ds es p h1 h2 h3 h4 => ?_⟩
  · rcases get_set h with ⟨rfl, q⟩ | ⟨q, h⟩
    · cases q
    · rw [List.getElem?_set_ne (fun z => q z.symm)]; exact e.pub j d' h
  · rcases get_set h with ⟨rfl, q⟩ | ⟨q, h⟩
    · cases q
    · rw [List.getElem?_set_ne (fun z => q z.symm)]; exact e.own j ds h
  · rcases get_set h1 with ⟨rfl, q⟩ | ⟨q1, h1⟩
    · cases q
    · rcases get_set h2 with ⟨rfl, q⟩ | ⟨q2, h2⟩
      · cases q
      · rw [List.getElem?_set_ne (fun z => q1 z.symm)] at h3
        rw [List.getElem?_set_ne (fun z => q2 z.symm)] at h4
        exact e.inj j k ds es p h1 h2 h3 h4
theorem EnvOk.wipe (e : EnvOk G ua env σ B H) : ∀ vs : List Nat, EnvOk G ua (wipeE env vs) (wipe σ vs) B H
  | [] => e
  | v :: vs => by unfold wipeE L2.wipe; exact (e.wipe vs).wipe1 v none
end
end Dv
namespace Dv
open PySem PySem.Spec PyProof.Rows L2
def Aft {K : PySem.W.Frag} (G : Gx K) (ua : Option Addr) (B H : Hp) (u' : U) (d : D) : V → Hp → Prop := fun v H' => ∃ B', Grow ua B H B' H' ∧ Wd ua u' B' H' ∧ Rep G ua d v B'
theorem Aft.up {K : PySem.W.Frag} {G : Gx K} {ua : Option Addr} {B H B1 H1 H' : Hp} {u' : U} {d : D} {v : V} (g : Grow ua B H B1 H1) (a : Aft G ua B1 H1 u' d v H') : Aft G ua B H u' d v H' := by
  obtain ⟨B', g', w, r⟩ := a
  exact ⟨B', g.trans g', w, r⟩
theorem Aft.here {K : PySem.W.Frag} {G : Gx K} {ua : Option Addr} {B H : Hp} {u : U} {d : D} {v : V} (w : Wd ua u B H) (r : Rep G ua d v B) : Aft G ua B H u d v H := ⟨B, .refl, w, r⟩
theorem Aft.lst {K : PySem.W.Frag} {G : Gx K} {ua : Option Addr} {B H : Hp} {u : U} {ds : List D} {vs : List V} {p : Addr} (w : Wd ua u B H) (h : H p = none) (r : Reps G ua ds vs B) : Aft G ua B H u (.lst ds) (.ref p) (upd H p (.lst vs)) :=
  ⟨upd B p (.lst vs), .new1 w h, w.new1 h, by unfold Rep; exact ⟨p, vs, rfl, upd_same, r.mono _ _ (same_new (w.none_of h))⟩⟩
theorem Aft.tup {K : PySem.W.Frag} {G : Gx K} {ua : Option Addr} {B H : Hp} {u : U} {ds : List D} {vs : List V} {p : Addr} {o : Obj} (w : Wd ua u B H) (h : H p = none) (ho : o.dict = none) (r : Reps G ua ds vs B) : Aft G ua B H u (.tup ds) (.ref p) (upd H p (.frz o (.tup vs))) :=
  ⟨upd B p (.frz o (.tup vs)), .new1 w h, w.new1 h, by unfold Rep; exact ⟨p, vs, rfl, ⟨o, ho, upd_same⟩, r.mono _ _ (same_new (w.none_of h))⟩⟩
theorem Aft.pr {K : PySem.W.Frag} {G : Gx K} {ua : Option Addr} {B H : Hp} {u : U} {ds : List D} {vs : List V} {p : Addr} (w : Wd ua u B H) (h : H p = none) (r : Reps G ua ds vs B) : Aft G ua B H u (.pr ds) (.ref p) (upd H p (.tup vs)) :=
  ⟨upd B p (.tup vs), .new1 w h, w.new1 h, by unfold Rep; exact ⟨p, vs, rfl, upd_same, r.mono _ _ (same_new (w.none_of h))⟩⟩
section
variable {K : PySem.W.Frag} {G : Gx K} {ua : Option Addr} {B H : Hp} {v : V}
theorem Rep.int {i : Int} (r : Rep G ua (.int i) v B) : v = .int i := by unfold Rep at r; exact r
theorem Rep.bl {i : Bool} (r : Rep G ua (.bl i) v B) : v = .bl i := by unfold Rep at r; exact r
theorem Rep.str {i : Str} (r : Rep G ua (.str i) v B) : v = .str i := by unfold Rep at r; exact r
theorem Rep.non (r : Rep G ua .non v B) : v = .non := by unfold Rep at r; exact r
theorem Rep.lst {ds : List D} (r : Rep G ua (.lst ds) v B) : ∃ a vs, v = .ref a ∧ B a = some (.lst vs) ∧ Reps G ua ds vs B := by unfold Rep at r; exact r
theorem Rep.tup {ds : List D} (r : Rep G ua (.tup ds) v B) : ∃ a vs, v = .ref a ∧ TupB B a vs ∧ Reps G ua ds vs B := by unfold Rep at r; exact r
theorem Rep.pr {ds : List D} (r : Rep G ua (.pr ds) v B) : ∃ a vs, v = .ref a ∧ B a = some (.tup vs) ∧ Reps G ua ds vs B := by unfold Rep at r; exact r
theorem rep_int {i : Int} : Rep G ua (.int i) (.int i) B := by unfold Rep; rfl
theorem rep_bl {i : Bool} : Rep G ua (.bl i) (.bl i) B := by unfold Rep; rfl
theorem rep_str {i : Str} : Rep G ua (.str i) (.str i) B := by unfold Rep; rfl
theorem rep_non : Rep G ua .non .non B := by unfold Rep; rfl
end
mutual
def toPy : D → Option PyData
  | .non => some .none
  | .bl b => some (.bool b)
  | .int i => some (.int i)
  | .str x => some (.str x)
  | .lst ds => (toPys ds).map .list
  | .tup ds => (toPys ds).map .tuple
  | .ins _ _ _ => none
  | .exc _ _ _ => none
  | .fn _ => none
  | .dct _ _ => none
  | .dtt _ _ => none
  | .dtn _ _ => none
  | .pr ds => (toPys ds).map .tuple
  | .urn => none
def toPys : List D → Option (List PyData)
  | [] => some []
  | d :: ds => (toPy d).bind fun p => (toPys ds).map fun ps => p :: ps
end
section
variable {K : PySem.W.Frag} {G : Gx K} {ua : Option Addr} {B H : Hp}
mutual
theorem rep_dp (s : Same B H) : ∀ (d : D) (v : V) (p : PyData), toPy d = some p → Rep G ua d v B → Dp K H v p
  | .non, v, p, e, r => by
    unfold toPy at e; cases e; cases r.non; exact .non
  | .bl b, v, p, e, r => by
    unfold toPy at e; cases e; cases r.bl; exact .bl b
  | .int i, v, p, e, r => by
    unfold toPy at e; cases e; cases r.int; exact .int i
  | .str x, v, p, e, r => by
    unfold toPy at e; cases e; cases r.str; exact .str x
  | .lst ds, v, p, e, r => by
    unfold toPy at e
    obtain ⟨a, vs, rfl, h, rs⟩ := r.lst
    cases q : toPys ds with
    | none => rw [q] at e; cases e
    | some ps => rw [q] at e; cases e; exact .lst (.of (s _ _ h)) (reps_dp s ds vs ps q rs)
  | .tup ds, v, p, e, r => by
    unfold toPy at e
    obtain ⟨a, vs, rfl, h, rs⟩ := r.tup
    cases q : toPys ds with
    | none => rw [q] at e; cases e
    | some ps => rw [q] at e; cases e; exact .tup (h.mono s).sq (reps_dp s ds vs ps q rs)
  | .pr ds, v, p, e, r => by
    unfold toPy at e
    obtain ⟨a, vs, rfl, h, rs⟩ := r.pr
    cases q : toPys ds with
    | none => rw [q] at e; cases e
    | some ps => rw [q] at e; cases e; exact .tup (.of (s _ _ h)) (reps_dp s ds vs ps q rs)
  | .ins _ _ _, v, p, e, r => by unfold toPy at e; cases e
  | .exc _ _ _, v, p, e, r => by unfold toPy at e; cases e
  | .fn _, v, p, e, r => by unfold toPy at e; cases e
  | .dct _ _, v, p, e, r => by unfold toPy at e; cases e
  | .dtt _ _, v, p, e, r => by unfold toPy at e; cases e
  | .dtn _ _, v, p, e, r => by unfold toPy at e; cases e
  | .urn, v, p, e, r => by unfold toPy at e; cases e
theorem reps_dp (s : Same B H) : ∀ (ds : List D) (vs : List V) (ps : List PyData), toPys ds = some ps → Reps G ua ds vs B → DpAll K H vs ps
  | [], vs, ps, e, r => by
    unfold toPys at e; cases e; rw [r.of_nil]; exact .nil
  | d :: ds, vs, ps, e, r => by
    unfold toPys at e
    obtain ⟨v, t, rfl, r1, r2⟩ := r.of_cons
    cases q : toPy d with
    | none => rw [q] at e; cases e
    | some p =>
      cases q2 : toPys ds with
      | none => rw [q, q2] at e; cases e
      | some ps' => rw [q, q2] at e; cases e; exact .cons (rep_dp s d v p q r1) (reps_dp s ds t ps' q2 r2)
end
end
def fAdd : D → D → Option D
  | .int i, .int j => some (.int (i + j))
  | .str a, .str b => if a.length + b.length ≤ sizeLine then some (.str (a ++ b)) else none
  | .lst a, .lst b => if a.length + b.length ≤ sizeLine then some (.lst (a ++ b)) else none
  | .tup a, .tup b => if a.length + b.length ≤ sizeLine then some (.tup (a ++ b)) else none
  | _, _ => none
def fMul : D → D → Option D
  | .int i, .int j => if (-(2 ^ 64) < i ∧ i < 2 ^ 64) ∨ (-(2 ^ 64) < j ∧ j < 2 ^ 64) then some (.int (i * j)) else none
  | .lst a, .int k => if -(2 ^ 63) ≤ k ∧ k < 2 ^ 63 ∧ a.length * k.toNat ≤ sizeLine then some (.lst (List.replicate k.toNat a).flatten) else none
  | _, _ => none
def fMod : D → D → Option D
  | .int i, .int j => if 0 < j then some (.int (i % j)) else none
  | _, _ => none
def fDiv : D → D → Option D
  | .int i, .int j => if 0 < j ∧ j < 1073741824 then some (.int (i / j)) else none
  | _, _ => none
def fPow : D → D → Option D
  | .int i, .int j => if 0 ≤ j ∧ j ≤ 1000000 ∧ i.natAbs < 2 ^ 64 then some (.int (i ^ j.toNat)) else none
  | _, _ => none
def BinOk {X : Cx} (G : Gx X.K) (F : Value → Value → Sem Value) (f : D → D → Option D) : Prop :=
  ∀ (ua : Option Addr) (u : U) (B H : Hp) (da db d : D) (va vb : V), f da db = some d → Rep G ua da va B → Rep G ua db vb B → Wd ua u B H → ∃ r : R2, OpR X F r ∧ r va vb H (Aft G ua B H u d)
section
variable {X : Cx} {G : Gx X.K}
theorem ok_add : BinOk G (binaryOp .Add) fAdd := by
  intro ua u B H da db d va vb e ra rb w
  unfold fAdd at e
  split at e
  · cases e; cases ra.int; cases rb.int
    exact ⟨_, op_add, _, _, rfl, rfl, .here w rep_int⟩
  · split at e
    · cases e; cases ra.str; cases rb.str
      exact ⟨_, op_add_str, _, _, rfl, rfl, ‹_›, .here w rep_str⟩
    · cases e
  · split at e
    · cases e
      obtain ⟨a, xs, rfl, h1, r1⟩ := ra.lst
      obtain ⟨b, ys, rfl, h2, r2⟩ := rb.lst
      refine ⟨_, op_cat, a, b, xs, ys, rfl, rfl, w.sub _ _ h1, w.sub _ _ h2, by rw [← r1.len, ← r2.len]; assumption, fun p hp => .lst w hp (r1.append r2)⟩
    · cases e
  · split at e
    · cases e
      have ra' := ra
      have rb' := rb
      obtain ⟨a, xs, rfl, h1, r1⟩ := ra.tup
      obtain ⟨b, ys, rfl, h2, r2⟩ := rb.tup
      refine ⟨_, op_catF, a, b, xs, ys, rfl, rfl, (h1.mono w.sub).sq, (h2.mono w.sub).sq, by rw [← r1.len, ← r2.len]; assumption, fun hx => ?_, fun _ hy => ?_, fun _ _ p o hp ho => .tup w hp ho (r1.append r2)⟩
      · subst hx
        have e1 := r1.len
        rw [List.length_nil] at e1
        rw [List.eq_nil_of_length_eq_zero e1]
        exact .here w rb'
      · subst hy
        have e1 := r2.len
        rw [List.length_nil] at e1
        rw [List.eq_nil_of_length_eq_zero e1, List.append_nil]
        exact .here w ra'
    · cases e
  · cases e
theorem ok_mul : BinOk G (binaryOp .Mult) fMul := by
  intro ua u B H da db d va vb e ra rb w
  unfold fMul at e
  split at e
  · split at e
    · cases e; cases ra.int; cases rb.int
      exact ⟨_, op_mul, _, _, rfl, rfl, ‹_›, .here w rep_int⟩
    · cases e
  · split at e
    · rename_i k hk
      cases e
      cases rb.int
      obtain ⟨a, xs, rfl, h1, r1⟩ := ra.lst
      exact ⟨_, op_rep, a, _, xs, rfl, rfl, w.sub _ _ h1, hk.1, hk.2.1, by rw [← r1.len]; exact hk.2.2, fun p hp => .lst w hp (r1.replicate _)⟩
    · cases e
  · cases e
theorem ok_mod : BinOk G (binaryOp .Mod) fMod := by
  intro ua u B H da db d va vb e ra rb w
  unfold fMod at e
  split at e
  · split at e
    · cases e; cases ra.int; cases rb.int
      exact ⟨_, op_mod, _, _, rfl, rfl, ‹_›, .here w rep_int⟩
    · cases e
  · cases e
theorem ok_div : BinOk G (binaryOp .FloorDiv) fDiv := by
  intro ua u B H da db d va vb e ra rb w
  unfold fDiv at e
  split at e
  · split at e
    · cases e; cases ra.int; cases rb.int
      exact ⟨_, op_fdiv, _, _, rfl, rfl, ‹_›, .here w rep_int⟩
    · cases e
  · cases e
theorem ok_pow : BinOk G (binaryOp .Pow) fPow := by
  intro ua u B H da db d va vb e ra rb w
  unfold fPow at e
  split at e
  · split at e
    · cases e; cases ra.int; cases rb.int
      exact ⟨_, op_pow, _, _, rfl, rfl, ‹_›, .here w rep_int⟩
    · cases e
  · cases e
end
def eqD (a b : D) : Option Bool :=
  match a, b with
  | .int i, .int j => some (decide (i = j))
  | .str i, .str j => some (decide (i = j))
  | .bl i, .bl j => some (decide (i = j))
  | .non, .non => some true
  | a, b => match toPy a, toPy b with
    | some x, some y => if SeqAt.shaped x = true ∧ SeqAt.shaped y = true then some (PyData.eqv x y) else none
    | _, _ => none
def cEq (a b : D) : Option D := (eqD a b).map .bl
def cNe (a b : D) : Option D := (eqD a b).map fun k => .bl (!k)
def cLt : D → D → Option D
  | .int i, .int j => some (.bl (decide (i < j)))
  | .str i, .str j => some (.bl (decide (i.cps.toList < j.cps.toList)))
  | _, _ => none
def cLe : D → D → Option D
  | .int i, .int j => some (.bl (decide (i ≤ j)))
  | _, _ => none
def cGt : D → D → Option D
  | .int i, .int j => some (.bl (decide (j < i)))
  | _, _ => none
def cGe : D → D → Option D
  | .int i, .int j => some (.bl (decide (j ≤ i)))
  | _, _ => none
def cIs : D → D → Option D
  | .non, .non => some (.bl true)
  | _, .non => some (.bl false)
  | _, _ => none
def inD (a : D) : D → Option Bool
  | .str z => match a with
    | .str c => match c.cps.toList with
      | [k] => some (decide (k ∈ z.cps.toList))
      | _ => none
    | _ => none
  | .lst ds => match toPy a, toPys ds with
    | some x, some ys => if SeqAt.shaped x = true ∧ SeqAt.shaped (.list ys) = true then some (ys.any fun z => PyData.eqv z x) else none
    | _, _ => none
  | .tup ds => match toPy a, toPys ds with
    | some x, some ys => if SeqAt.shaped x = true ∧ SeqAt.shaped (.tuple ys) = true then some (ys.any fun z => PyData.eqv z x) else none
    | _, _ => none
  | _ => none
def cIn (a b : D) : Option D := (inD a b).map .bl
def cNotIn (a b : D) : Option D := (inD a b).map fun k => .bl (!k)
section
variable {X : Cx} {G : Gx X.K}
theorem rep_eqD {ua : Option Addr} {u : U} {B H : Hp} {a b : D} {k : Bool} {va vb : V} (e : eqD a b = some k) (ra : Rep G ua a va B) (rb : Rep G ua b vb B) (w : Wd ua u B H) :
    (scal va vb = true ∧ k = decide (va = vb)) ∨ ∃ d e, Dp X.K H va d ∧ Dp X.K H vb e ∧ SeqAt.shaped d = true ∧ SeqAt.shaped e = true ∧ k = PyData.eqv d e := by
  unfold eqD at e
  split at e
  · cases e; cases ra.int; cases rb.int; exact .inl ⟨rfl, by simp⟩
  · cases e; cases ra.str; cases rb.str; exact .inl ⟨rfl, by simp⟩
  · cases e; cases ra.bl; cases rb.bl; exact .inl ⟨rfl, by simp⟩
  · cases e; cases ra.non; cases rb.non; exact .inl ⟨rfl, by simp⟩
  · split at e
    · rename_i x y h1 h2
      split at e
      · rename_i h
        cases e
        exact .inr ⟨x, y, rep_dp w.sub _ _ _ h1 ra, rep_dp w.sub _ _ _ h2 rb, h.1, h.2, rfl⟩
      · cases e
    · cases e
theorem ok_eq (hu : X.A.units + 64 < cLine) : BinOk G (compareOp .Eq) cEq := by
  intro ua u B H da db d va vb e ra rb w
  unfold cEq at e
  cases q : eqD da db with
  | none => rw [q] at e; cases e
  | some k =>
    rw [q] at e; cases e
    rcases rep_eqD q ra rb w with ⟨h1, rfl⟩ | ⟨x, y, h1, h2, h3, h4, rfl⟩
    · exact ⟨_, op_eq, h1, .here w rep_bl⟩
    · exact ⟨_, op_eqD hu, x, y, h1, h2, h3, h4, .here w rep_bl⟩
theorem ok_ne (hu : X.A.units + 64 < cLine) : BinOk G (compareOp .NotEq) cNe := by
  intro ua u B H da db d va vb e ra rb w
  unfold cNe at e
  cases q : eqD da db with
  | none => rw [q] at e; cases e
  | some k =>
    rw [q] at e; cases e
    rcases rep_eqD q ra rb w with ⟨h1, rfl⟩ | ⟨x, y, h1, h2, h3, h4, rfl⟩
    · exact ⟨_, op_ne, h1, .here w rep_bl⟩
    · exact ⟨_, op_neD hu, x, y, h1, h2, h3, h4, .here w rep_bl⟩
theorem ok_lt : BinOk G (compareOp .Lt) cLt := by
  intro ua u B H da db d va vb e ra rb w
  unfold cLt at e
  split at e
  · cases e; cases ra.int; cases rb.int
    exact ⟨_, op_lt, _, _, rfl, rfl, .here w rep_bl⟩
  · cases e; cases ra.str; cases rb.str
    exact ⟨_, op_lt_str, _, _, rfl, rfl, .here w rep_bl⟩
  · cases e
theorem ok_le : BinOk G (compareOp .LtE) cLe := by
  intro ua u B H da db d va vb e ra rb w
  unfold cLe at e
  split at e
  · cases e; cases ra.int; cases rb.int
    exact ⟨_, op_le, _, _, rfl, rfl, .here w rep_bl⟩
  · cases e
theorem ok_gt : BinOk G (compareOp .Gt) cGt := by
  intro ua u B H da db d va vb e ra rb w
  unfold cGt at e
  split at e
  · cases e; cases ra.int; cases rb.int
    exact ⟨_, op_gt, _, _, rfl, rfl, .here w rep_bl⟩
  · cases e
theorem ok_ge : BinOk G (compareOp .GtE) cGe := by
  intro ua u B H da db d va vb e ra rb w
  unfold cGe at e
  split at e
  · cases e; cases ra.int; cases rb.int
    exact ⟨_, op_ge, _, _, rfl, rfl, .here w rep_bl⟩
  · cases e
theorem rep_nn {ua : Option Addr} {B : Hp} {d : D} {v : V} (r : Rep G ua d v B) : v = .non ↔ d = .non := by
  cases d with
  | non => cases r.non; simp
  | bl b => cases r.bl; simp
  | int b => cases r.int; simp
  | str b => cases r.str; simp
  | lst b => obtain ⟨a, vs, rfl, _⟩ := r.lst; simp
  | tup b => obtain ⟨a, vs, rfl, _⟩ := r.tup; simp
  | pr b => obtain ⟨a, vs, rfl, _⟩ := r.pr; simp
  | ins c n x => unfold Rep at r; obtain ⟨a, C, dx, vs, rfl, _⟩ := r; simp
  | exc c n x => unfold Rep at r; obtain ⟨a, C, dx, vs, rfl, _⟩ := r; simp
  | fn x => unfold Rep at r; obtain ⟨a, _, rfl⟩ := r; simp
  | dct k x => unfold Rep at r; obtain ⟨a, vs, rfl, _⟩ := r; simp
  | dtt k x => unfold Rep at r; obtain ⟨a, vs, o, rfl, _⟩ := r; simp
  | dtn k x => unfold Rep at r; obtain ⟨a, vs, o, rfl, _⟩ := r; simp
  | urn => unfold Rep at r; obtain ⟨a, _, rfl⟩ := r; simp
theorem ok_is : BinOk G (compareOp .Is) cIs := by
  intro ua u B H da db d va vb e ra rb w
  unfold cIs at e
  split at e
  · cases e; cases ra.non; cases rb.non
    exact ⟨_, op_isN, rfl, .here w rep_bl⟩
  · rename_i hn
    cases e; cases rb.non
    refine ⟨_, op_isN, rfl, .here w ?_⟩
    rw [decide_eq_false (fun z => hn ((rep_nn ra).mp z))]
    exact rep_bl
  · cases e
def rInT (K : PySem.W.Frag) : R2 := fun x y H Q => ∃ d ds, Dp K H x d ∧ Dp K H y (.tuple ds) ∧ SeqAt.shaped d = true ∧ SeqAt.shaped (.tuple ds) = true ∧ Q (.bl (ds.any fun z => PyData.eqv z d)) H
def rNotInT (K : PySem.W.Frag) : R2 := fun x y H Q => ∃ d ds, Dp K H x d ∧ Dp K H y (.tuple ds) ∧ SeqAt.shaped d = true ∧ SeqAt.shaped (.tuple ds) = true ∧ Q (.bl (!ds.any fun z => PyData.eqv z d)) H
theorem op_inT (hu : X.A.units + 65 < cLine) : OpR X (compareOp .In) (rInT X.K) := by
  intro pins s σ H x y v u Q I rx ry h
  obtain ⟨d, ds, hd, he, sd, se, q⟩ := h
  obtain ⟨as, r1⟩ := Dp.reads I d x v hd rx
  obtain ⟨bs, r2⟩ := Dp.reads I (.tuple ds) y u he ry
  exact SeqAt.in_tuple_reads r2 r1 (SeqAt.canLay_of_shaped se) (SeqAt.canLay_of_shaped sd) (room_in_shaped sd hu) ⟨.bl _, H, I, rfl, q⟩
theorem op_notInT (hu : X.A.units + 65 < cLine) : OpR X (compareOp .NotIn) (rNotInT X.K) := by
  intro pins s σ H x y v u Q I rx ry h
  obtain ⟨d, ds, hd, he, sd, se, q⟩ := h
  obtain ⟨as, r1⟩ := Dp.reads I d x v hd rx
  obtain ⟨bs, r2⟩ := Dp.reads I (.tuple ds) y u he ry
  exact SeqAt.notIn_tuple_reads r2 r1 (SeqAt.canLay_of_shaped se) (SeqAt.canLay_of_shaped sd) (room_in_shaped sd hu) ⟨.bl _, H, I, rfl, q⟩
theorem rep_inD {ua : Option Addr} {u : U} {B H : Hp} {a b : D} {k : Bool} {va vb : V} (e : inD a b = some k) (ra : Rep G ua a va B) (rb : Rep G ua b vb B) (w : Wd ua u B H) :
    (∃ (c : Nat) (z : Str), va = .str ⟨#[c]⟩ ∧ vb = .str z ∧ k = decide (c ∈ z.cps.toList)) ∨
    (∃ d ds, Dp X.K H va d ∧ Dp X.K H vb (.list ds) ∧ SeqAt.shaped d = true ∧ SeqAt.shaped (.list ds) = true ∧ k = ds.any fun z => PyData.eqv z d) ∨
    (∃ d ds, Dp X.K H va d ∧ Dp X.K H vb (.tuple ds) ∧ SeqAt.shaped d = true ∧ SeqAt.shaped (.tuple ds) = true ∧ k = ds.any fun z => PyData.eqv z d) := by
  unfold inD at e
  split at e
  · split at e
    · split at e
      · rename_i c _ x hc
        cases e; cases ra.str; cases rb.str
        refine .inl ⟨x, _, ?_, rfl, rfl⟩
        obtain ⟨cp⟩ := c
        have : cp = #[x] := by
          have := congrArg List.toArray hc
          simpa using this
        rw [this]
      · cases e
    · cases e
  · split at e
    · rename_i ds _ _ x ys h1 h2
      split at e
      · rename_i h
        cases e
        refine .inr (.inl ⟨x, ys, rep_dp w.sub _ _ _ h1 ra, rep_dp w.sub (.lst ds) _ _ ?_ rb, h.1, h.2, rfl⟩)
        unfold toPy; rw [h2]; rfl
      · cases e
    · cases e
  · split at e
    · rename_i ds _ _ x ys h1 h2
      split at e
      · rename_i h
        cases e
        refine .inr (.inr ⟨x, ys, rep_dp w.sub _ _ _ h1 ra, rep_dp w.sub (.tup ds) _ _ ?_ rb, h.1, h.2, rfl⟩)
        unfold toPy; rw [h2]; rfl
      · cases e
    · cases e
  · cases e
theorem ok_in (hu : X.A.units + 65 < cLine) : BinOk G (compareOp .In) cIn := by
  intro ua u B H da db d va vb e ra rb w
  unfold cIn at e
  cases q : inD da db with
  | none => rw [q] at e; cases e
  | some k =>
    rw [q] at e; cases e
    rcases rep_inD q ra rb w with ⟨c, z, rfl, rfl, rfl⟩ | ⟨x, ys, h1, h2, h3, h4, rfl⟩ | ⟨x, ys, h1, h2, h3, h4, rfl⟩
    · exact ⟨_, op_in_sign, c, z, rfl, rfl, .here w rep_bl⟩
    · exact ⟨_, op_inD hu, x, ys, h1, h2, h3, h4, .here w rep_bl⟩
    · exact ⟨_, op_inT hu, x, ys, h1, h2, h3, h4, .here w rep_bl⟩
theorem ok_notin (hu : X.A.units + 65 < cLine) : BinOk G (compareOp .NotIn) cNotIn := by
  intro ua u B H da db d va vb e ra rb w
  unfold cNotIn at e
  cases q : inD da db with
  | none => rw [q] at e; cases e
  | some k =>
    rw [q] at e; cases e
    rcases rep_inD q ra rb w with ⟨c, z, rfl, rfl, rfl⟩ | ⟨x, ys, h1, h2, h3, h4, rfl⟩ | ⟨x, ys, h1, h2, h3, h4, rfl⟩
    · exact ⟨_, op_notIn_sign, c, z, rfl, rfl, .here w rep_bl⟩
    · exact ⟨_, op_notInD hu, x, ys, h1, h2, h3, h4, .here w rep_bl⟩
    · exact ⟨_, op_notInT hu, x, ys, h1, h2, h3, h4, .here w rep_bl⟩
end
def truD : D → Option Bool
  | .non => some false
  | .bl b => some b
  | .int i => some (i != 0)
  | .str x => if x.length ≤ sizeLine then some ((x.length : Int) != 0) else none
  | .lst ds => some (!ds.isEmpty)
  | .tup ds => some (!ds.isEmpty)
  | _ => none
theorem rep_tru {X : Cx} {G : Gx X.K} {ua : Option Addr} {u : U} {B H : Hp} {d : D} {k : Bool} {v : V} (e : truD d = some k) (r : Rep G ua d v B) (w : Wd ua u B H) : TruV X.K v H k := by
  cases d with
  | non => cases r.non; unfold truD at e; cases e; rfl
  | bl b => cases r.bl; unfold truD at e; cases e; rfl
  | int i => cases r.int; unfold truD at e; cases e; rfl
  | str x =>
    cases r.str
    simp only [truD] at e
    split at e
    · cases e; exact ⟨‹_›, rfl⟩
    · cases e
  | lst ds =>
    obtain ⟨a, vs, rfl, h, rs⟩ := r.lst
    unfold truD at e; cases e
    refine .inl ⟨vs, .of (w.sub _ _ h), ?_⟩
    have := rs.len
    cases ds <;> cases vs <;> simp_all
  | tup ds =>
    obtain ⟨a, vs, rfl, h, rs⟩ := r.tup
    unfold truD at e; cases e
    refine .inr (.inl ⟨vs, (h.mono w.sub).sq, ?_⟩)
    have := rs.len
    cases ds <;> cases vs <;> simp_all
  | pr ds => unfold truD at e; cases e
  | ins c n x => unfold truD at e; cases e
  | exc c n x => unfold truD at e; cases e
  | fn x => unfold truD at e; cases e
  | dct k x => unfold truD at e; cases e
  | dtt k x => unfold truD at e; cases e
  | dtn k x => unfold truD at e; cases e
  | urn => unfold truD at e; cases e
end Dv
namespace Dv
open PySem PySem.Spec PyProof.Rows L2
abbrev M := List Sl → U → Option (D × U)
abbrev Ms := List Sl → U → Option (List D × U)
abbrev MB := List Sl → U → Option (Bool × U)
def bnd {α β : Type} (m : Option (α × U)) (k : α → U → Option β) : Option β := match m with
  | none => none
  | some (a, u) => k a u
theorem bnd_some {α β : Type} {m : Option (α × U)} {k : α → U → Option β} {b : β} (h : bnd m k = some b) : ∃ a u, m = some (a, u) ∧ k a u = some b := by
  unfold bnd at h
  split at h
  · cases h
  · exact ⟨_, _, rfl, h⟩
def lft {α : Type} (o : Option α) (u : U) : Option (α × U) := match o with
  | none => none
  | some a => some (a, u)
theorem lft_some {α : Type} {o : Option α} {u u' : U} {a : α} (h : lft o u = some (a, u')) : o = some a ∧ u' = u := by
  unfold lft at h
  split at h
  · cases h
  · cases h; exact ⟨rfl, rfl⟩
theorem _root_.L2.PE.imp {X : Cx} {e : Expr} {t t' : TE} (h : PE X e t) (i : ∀ σ H Q, t' σ H Q → t σ H Q) : PE X e t' := ⟨fun pins s σ H Q I q => h.run pins s σ H Q I (i σ H Q q)⟩
theorem _root_.L2.PT.imp {X : Cx} {e : Expr} {t t' : TT} (h : PT X e t) (i : ∀ σ H Q, t' σ H Q → t σ H Q) : PT X e t' := ⟨fun pins s σ H Q I q => h.run pins s σ H Q I (i σ H Q q)⟩
theorem _root_.L2.PW.imp {X : Cx} {e : Expr} {t t' : TT} (h : PW X e t) (i : ∀ σ H Q, t' σ H Q → t σ H Q) : PW X e t' := ⟨fun wh pins s σ H Q I q => h.run wh pins s σ H Q I (i σ H Q q)⟩
theorem _root_.L2.PA.imp {X : Cx} {e : List Expr} {t t' : TA} (h : PA X e t) (i : ∀ σ H Q, t' σ H Q → t σ H Q) : PA X e t' := ⟨fun p pins s σ H Q I q => h.run p pins s σ H Q I (i σ H Q q)⟩
theorem _root_.L2.PI.imp {X : Cx} {g e : Expr} {t t' : TI} (h : PI X g e t) (i : ∀ σ H Q, t' σ H Q → t σ H Q) : PI X g e t' := ⟨fun pins s σ H Q I q => h.run pins s σ H Q I (i σ H Q q)⟩
theorem _root_.L2.PI.by {X : Cx} {g e : Expr} {t' : TI} (i : ∀ σ H Q, t' σ H Q → ∃ t, PI X g e t ∧ t σ H Q) : PI X g e t' := ⟨fun pins s σ H Q I q => by
  obtain ⟨t, h, q⟩ := i σ H Q q
  exact h.run pins s σ H Q I q⟩
theorem _root_.L2.PE.by {X : Cx} {e : Expr} {t' : TE} (i : ∀ σ H Q, t' σ H Q → ∃ t, PE X e t ∧ t σ H Q) : PE X e t' := ⟨fun pins s σ H Q I q => by
  obtain ⟨t, h, q⟩ := i σ H Q q
  exact h.run pins s σ H Q I q⟩
section
variable {K : PySem.W.Frag} (G : Gx K)
def tEv (m : M) : TE := fun σ H Q => ∃ ua u B env d u', EnvOk G ua env σ B H ∧ Wd ua u B H ∧ m env u = some (d, u') ∧ ∀ v H', Aft G ua B H u' d v H' → Q v H'
def Afts (ua : Option Addr) (B H : Hp) (u' : U) (ds : List D) : List V → Hp → Prop := fun vs H' => ∃ B', Grow ua B H B' H' ∧ Wd ua u' B' H' ∧ Reps G ua ds vs B'
def tEvs (m : Ms) : TA := fun σ H Q => ∃ ua u B env ds u', EnvOk G ua env σ B H ∧ Wd ua u B H ∧ m env u = some (ds, u') ∧ ∀ vs H', Afts G ua B H u' ds vs H' → Q vs H'
def AftB (ua : Option Addr) (B H : Hp) (u' : U) (H' : Hp) : Prop := ∃ B', Grow ua B H B' H' ∧ Wd ua u' B' H'
def tTst (m : MB) : TT := fun σ H Q => ∃ ua u B env b u', EnvOk G ua env σ B H ∧ Wd ua u B H ∧ m env u = some (b, u') ∧ ∀ H', AftB ua B H u' H' → Q b H'
end
section
variable {X : Cx} {G : Gx X.K} {a b c e : Expr} {es : List Expr} {ma mb mc : M} {ms : Ms} {pos : Pos}
def mVar (i : Nat) : M := fun env u => match env[i]? with
  | some (.pub d) => some (d, u)
  | _ => none
def mC (d : D) : M := fun _ u => some (d, u)
theorem dv_var (i : Nat) {x : Str} {pos : Pos} (hN : X.N[i]? = some x := by rfl) (hv : Vis X.env.scope x := by first | exact Or.inl rfl | exact Or.inr (Or.inl rfl) | exact Or.inr (Or.inr rfl)) (hd : (x == ("__debug__" : Str)) = false := by decide)
    (hcd : (x == ("__classdict__" : Str)) = false := by decide) : PE X (.Name x pos) (tEv G (mVar i)) := by
  refine (pe_var hN hv hd hcd).imp fun σ H Q h => ?_
  obtain ⟨ua, u, B, env, d, u', hE, hW, hm, q⟩ := h
  unfold mVar at hm
  split at hm
  · rename_i h
    cases hm
    obtain ⟨v, h1, h2⟩ := hE.pub _ _ h
    exact ⟨v, h1, q v H (.here hW h2)⟩
  · cases hm
/-- a constant's value stands for its data in any heap -/
theorem dv_c {t : TE} {v : V} {d : D} (h : PE X e (tC v)) (r : ∀ ua B, Rep G ua d v B) : PE X e (tEv G (mC d)) := by
  refine h.imp fun σ H Q h => ?_
  obtain ⟨ua, u, B, env, d', u', hE, hW, hm, q⟩ := h
  cases hm
  exact q v H (.here hW (r ua B))
theorem dv_int {i j} : PE X (.Constant (.int i) j pos) (tEv G (mC (.int i))) := dv_c (t := tC .non) pe_int fun _ _ => rep_int
theorem dv_bl {i j} : PE X (.Constant (.bool i) j pos) (tEv G (mC (.bl i))) := dv_c (t := tC .non) pe_bl fun _ _ => rep_bl
theorem dv_str {i j} : PE X (.Constant (.str i) j pos) (tEv G (mC (.str i))) := dv_c (t := tC .non) pe_str fun _ _ => rep_str
theorem dv_non {j} : PE X (.Constant .none j pos) (tEv G (mC .non)) := dv_c (t := tC .non) pe_non fun _ _ => rep_non
theorem dv_globS {x : Str} {z : Str} {t : Tok} {pos : Pos} (hg : Gl X x) (hm : X.mg x = some (.str z t)) (hd : (x == ("__debug__" : Str)) = false := by decide) : PE X (.Name x pos) (tEv G (mC (.str z))) :=
  dv_c (t := tC .non) (pe_glob (v := .str z) hg hm ⟨_, rfl⟩ hd) fun _ _ => rep_str
theorem dv_globI {x : Str} {z : Int} {t : Tok} {pos : Pos} (hg : Gl X x) (hm : X.mg x = some (.int z t)) (hd : (x == ("__debug__" : Str)) = false := by decide) : PE X (.Name x pos) (tEv G (mC (.int z))) :=
  dv_c (t := tC .non) (pe_glob (v := .int z) hg hm ⟨_, rfl⟩ hd) fun _ _ => rep_int
def mNil : Ms := fun _ u => some ([], u)
def mCons (m : M) (r : Ms) : Ms := fun env u => bnd (m env u) fun d u1 => bnd (r env u1) fun ds u2 => some (d :: ds, u2)
theorem dvs_nil : PA X [] (tEvs G mNil) := by
  refine pa_nil.imp fun σ H Q h => ?_
  obtain ⟨ua, u, B, env, ds, u', hE, hW, hm, q⟩ := h
  cases hm
  exact q [] H ⟨B, .refl, hW, .nil⟩
theorem dvs_cons (ha : PE X e (tEv G ma)) (hr : PA X es (tEvs G ms)) (hs : starEach (e :: es) X.env = (false, eval e X.env) :: starEach es X.env := by rfl) : PA X (e :: es) (tEvs G (mCons ma ms)) := by
  refine (pa_cons ha hr hs).imp fun σ H Q h => ?_
  obtain ⟨ua, u, B, env, ds, u', hE, hW, hm, q⟩ := h
  obtain ⟨d, u1, h1, h2⟩ := bnd_some hm
  obtain ⟨ds', u2, h2, h3⟩ := bnd_some h2
  cases h3
  refine ⟨ua, u, B, env, d, u1, hE, hW, h1, fun v H1 ⟨B1, g1, w1, r1⟩ => ⟨ua, u1, B1, env, ds', _, hE.grow g1, w1, h2, fun vs H2 ⟨B2, g2, w2, r2⟩ => q _ _ ⟨B2, g1.trans g2, w2, .cons (r1.mono _ _ g2.pub) r2⟩⟩⟩
def mLst (m : Ms) : M := fun env u => bnd (m env u) fun ds u1 => if ds.length ≤ sizeLine then some (.lst ds, u1) else none
def mTup (m : Ms) : M := fun env u => bnd (m env u) fun ds u1 => if ds.length ≤ sizeLine then some (.tup ds, u1) else none
theorem dv_lst (h : PA X es (tEvs G ms)) : PE X (.List es pos) (tEv G (mLst ms)) := by
  refine (pe_lst h).imp fun σ H Q h => ?_
  obtain ⟨ua, u, B, env, d, u', hE, hW, hm, q⟩ := h
  obtain ⟨ds, u1, h1, h2⟩ := bnd_some hm
  split at h2
  · cases h2
    refine ⟨ua, u, B, env, ds, _, hE, hW, h1, fun vs H1 ⟨B1, g1, w1, r1⟩ => ⟨by rw [← r1.len]; assumption, fun p hp => q _ _ (.up g1 (.lst w1 hp r1))⟩⟩
  · cases h2
theorem dv_tup {k : Nat} (h : PA X es (tEvs G ms)) : PE X (.Tuple es k pos) (tEv G (mTup ms)) := by
  refine (pe_tupF h).imp fun σ H Q h => ?_
  obtain ⟨ua, u, B, env, d, u', hE, hW, hm, q⟩ := h
  obtain ⟨ds, u1, h1, h2⟩ := bnd_some hm
  split at h2
  · cases h2
    refine ⟨ua, u, B, env, ds, _, hE, hW, h1, fun vs H1 ⟨B1, g1, w1, r1⟩ => ⟨by rw [← r1.len]; assumption, fun p o hp ho => q _ _ (.up g1 (.tup w1 hp ho r1))⟩⟩
  · cases h2
def rBin (G : Gx X.K) (f : D → D → Option D) : R2 := fun x y H Q => ∃ ua u B da db d, f da db = some d ∧ Rep G ua da x B ∧ Rep G ua db y B ∧ Wd ua u B H ∧ ∀ v H', Aft G ua B H u d v H' → Q v H'
theorem op_of {F : Value → Value → Sem Value} {f : D → D → Option D} (hf : BinOk G F f) : OpR X F (rBin G f) := by
  intro pins s σ H x y v u Q I rx ry h
  obtain ⟨ua, u0, B, da, db, d, e, ra, rb, w, q⟩ := h
  obtain ⟨r, ho, hr⟩ := hf ua u0 B H da db d x y e ra rb w
  exact thn (ho pins s σ H x y v u _ I rx ry hr) fun v s ⟨z, H', I', r', a⟩ => ⟨z, H', I', r', q _ _ a⟩
def mBin (f : D → D → Option D) (a b : M) : M := fun env u => bnd (a env u) fun x u1 => bnd (b env u1) fun y u2 => lft (f x y) u2
theorem bin_read {f : D → D → Option D} {σ : L2.St} {H : Hp} {Q : VK} (h : tEv G (mBin f ma mb) σ H Q) : tOp (rBin G f) (tEv G ma) (tEv G mb) σ H Q := by
  obtain ⟨ua, u, B, env, d, u', hE, hW, hm, q⟩ := h
  obtain ⟨x, u1, h1, h2⟩ := bnd_some hm
  obtain ⟨y, u2, h2, h3⟩ := bnd_some h2
  obtain ⟨l3, rfl⟩ := lft_some h3
  exact ⟨ua, u, B, env, x, u1, hE, hW, h1, fun v H1 ⟨B1, g1, w1, r1⟩ => ⟨ua, u1, B1, env, y, u', hE.grow g1, w1, h2, fun v2 H2 ⟨B2, g2, w2, r2⟩ =>
    ⟨ua, u', B2, x, y, d, l3, r1.mono _ _ g2.pub, r2, w2, fun v3 H3 a => q v3 H3 (.up g1 (.up g2 a))⟩⟩⟩
theorem dv_bin {op : Operator} {f : D → D → Option D} (hf : BinOk G (binaryOp op) f) (ha : PE X a (tEv G ma)) (hb : PE X b (tEv G mb)) : PE X (.BinOp a op b pos) (tEv G (mBin f ma mb)) :=
  (pe_op (op_of hf) ha hb).imp fun _ _ _ h => bin_read h
theorem dv_cmp {op : CmpOp} {f : D → D → Option D} (hf : BinOk G (compareOp op) f) (ha : PE X a (tEv G ma)) (hb : PE X b (tEv G mb)) (hm : behindInMarks op b = false := by rfl) : PE X (.Compare a [op] [b] pos) (tEv G (mBin f ma mb)) :=
  (pe_cmpR (op_of hf) ha hb hm).imp fun _ _ _ h => bin_read h
def mNeg (a : M) : M := fun env u => bnd (a env u) fun x u1 => match x with
  | .int i => some (.int (-i), u1)
  | _ => none
theorem dv_neg (ha : PE X a (tEv G ma)) : PE X (.UnaryOp .USub a pos) (tEv G (mNeg ma)) := by
  refine (pe_un un_neg ha).imp fun σ H Q h => ?_
  obtain ⟨ua, u, B, env, d, u', hE, hW, hm, q⟩ := h
  obtain ⟨x, u1, h1, h2⟩ := bnd_some hm
  split at h2
  · cases h2
    refine ⟨ua, u, B, env, _, _, hE, hW, h1, fun v H1 ⟨B1, g1, w1, r1⟩ => ?_⟩
    cases r1.int
    exact ⟨_, rfl, q _ _ ⟨B1, g1, w1, rep_int⟩⟩
  · cases h2
/-- what gives a bool -/
def BoolF (f : D → D → Option D) : Prop := ∀ x y d, f x y = some d → ∃ k, d = .bl k
theorem bf_eq : BoolF cEq := fun x y d h => by unfold cEq at h; cases q : eqD x y with | none => rw [q] at h; cases h | some k => rw [q] at h; cases h; exact ⟨_, rfl⟩
theorem bf_ne : BoolF cNe := fun x y d h => by unfold cNe at h; cases q : eqD x y with | none => rw [q] at h; cases h | some k => rw [q] at h; cases h; exact ⟨_, rfl⟩
theorem bf_in : BoolF cIn := fun x y d h => by unfold cIn at h; cases q : inD x y with | none => rw [q] at h; cases h | some k => rw [q] at h; cases h; exact ⟨_, rfl⟩
theorem bf_notin : BoolF cNotIn := fun x y d h => by unfold cNotIn at h; cases q : inD x y with | none => rw [q] at h; cases h | some k => rw [q] at h; cases h; exact ⟨_, rfl⟩
theorem bf_lt : BoolF cLt := fun x y d h => by unfold cLt at h; split at h <;> cases h <;> exact ⟨_, rfl⟩
theorem bf_le : BoolF cLe := fun x y d h => by unfold cLe at h; split at h <;> cases h <;> exact ⟨_, rfl⟩
theorem bf_gt : BoolF cGt := fun x y d h => by unfold cGt at h; split at h <;> cases h <;> exact ⟨_, rfl⟩
theorem bf_is : BoolF cIs := fun x y d h => by unfold cIs at h; split at h <;> cases h <;> exact ⟨_, rfl⟩
/-- a op b op' c -/
def mChain (f g : D → D → Option D) (a b c : M) : M := fun env u => bnd (a env u) fun x u1 => bnd (b env u1) fun y u2 => match f x y with
  | some (.bl true) => bnd (c env u2) fun z u3 => lft (g y z) u3
  | some (.bl false) => some (.bl false, u2)
  | _ => none
def mTru (a : M) : MB := fun env u => bnd (a env u) fun x u1 => lft (truD x) u1
theorem dt_val (ha : PE X a (tEv G ma)) (he : ∀ whole, isTrue a X.env whole = (do let v ← whole; standAt a.pos; holding [v] (truthy v)) := by intro _; rfl) : PT X a (tTst G (mTru ma)) := by
  refine (pt_truth ha he).imp fun σ H Q h => ?_
  obtain ⟨ua, u, B, env, d, u', hE, hW, hm, q⟩ := h
  obtain ⟨x, u1, h1, h2⟩ := bnd_some hm
  obtain ⟨l2, rfl⟩ := lft_some h2
  exact ⟨ua, u, B, env, x, u', hE, hW, h1, fun v H1 ⟨B1, g1, w1, r1⟩ => ⟨d, rep_tru l2 r1 w1, q _ ⟨B1, g1, w1⟩⟩⟩
theorem dt_cmp {op : CmpOp} {f : D → D → Option D} (hf : BinOk G (compareOp op) f) (bf : BoolF f) (ha : PE X a (tEv G ma)) (hb : PE X b (tEv G mb)) (hm : behindInMarks op b = false := by rfl) : PT X (.Compare a [op] [b] pos) (tTst G (mTru (mBin f ma mb))) := by
  refine (pt_cmpR (op_of hf) ha hb hm).imp fun σ H Q h => ?_
  obtain ⟨ua, u, B, env, d, u', hE, hW, hm, q⟩ := h
  obtain ⟨x, u1, h1, h2⟩ := bnd_some hm
  obtain ⟨l2, rfl⟩ := lft_some h2
  obtain ⟨k, rfl⟩ : ∃ k, x = .bl k := by
    obtain ⟨x1, u3, h3, h4⟩ := bnd_some h1
    obtain ⟨x2, u4, h4, h5⟩ := bnd_some h4
    exact bf _ _ _ (lft_some h5).1
  unfold truD at l2; cases l2
  refine bin_read ⟨ua, u, B, env, _, u', hE, hW, h1, fun v H1 ⟨B1, g1, w1, r1⟩ => ?_⟩
  cases r1.bl
  exact ⟨_, rfl, q _ ⟨B1, g1, w1⟩⟩
theorem dt_chain {op op' : CmpOp} {f g : D → D → Option D} (hf : BinOk G (compareOp op) f) (hg : BinOk G (compareOp op') g) (bg : BoolF g) (ha : PE X a (tEv G ma)) (hb : PE X b (tEv G mb)) (hc : PE X c (tEv G mc))
    (hm : lastMarks [op, op'] [b, c] = false := by with_unfolding_all rfl) : PT X (.Compare a [op, op'] [b, c] pos) (tTst G (mTru (mChain f g ma mb mc))) := by
  refine (pt_chain (op_of hf) (op_of hg) ha hb hc hm).imp fun σ H Q h => ?_
  obtain ⟨ua, u, B, env, d, u', hE, hW, hm, q⟩ := h
  obtain ⟨x0, u0, h1, h2⟩ := bnd_some hm
  obtain ⟨h0, rfl⟩ := lft_some h2
  obtain ⟨x, u1, h1, h2⟩ := bnd_some h1
  obtain ⟨y, u2, h2, h3⟩ := bnd_some h2
  refine ⟨ua, u, B, env, x, u1, hE, hW, h1, fun v H1 ⟨B1, g1, w1, r1⟩ => ⟨ua, u1, B1, env, y, u2, hE.grow g1, w1, h2, fun v2 H2 ⟨B2, g2, w2, r2⟩ => ?_⟩⟩
  split at h3
  · rename_i hk
    obtain ⟨z, u3, h4, h5⟩ := bnd_some h3
    obtain ⟨l5, rfl⟩ := lft_some h5
    refine ⟨ua, u2, B2, x, y, _, hk, r1.mono _ _ g2.pub, r2, w2, fun v3 H3 a3 => ?_⟩
    obtain ⟨B3, g3, w3, r3⟩ := a3
    cases r3.bl
    refine ⟨true, rfl, ?_⟩
    rw [if_pos rfl]
    refine ⟨ua, u2, B3, env, z, u', (hE.grow (g1.trans g2)).grow g3, w3, h4, fun v4 H4 ⟨B4, g4, w4, r4⟩ => ?_⟩
    refine ⟨ua, u', B4, y, z, x0, l5, (r2.mono _ _ g3.pub).mono _ _ g4.pub, r4, w4, fun v5 H5 a5 => ?_⟩
    obtain ⟨k, rfl⟩ := bg _ _ _ l5
    unfold truD at h0; cases h0
    obtain ⟨B5, g5, w5, r5⟩ := a5
    cases r5.bl
    exact ⟨_, rfl, q _ ⟨B5, g1.trans (g2.trans (g3.trans (g4.trans g5))), w5⟩⟩
  · rename_i hk
    cases h3
    unfold truD at h0; cases h0
    refine ⟨ua, _, B2, x, y, _, hk, r1.mono _ _ g2.pub, r2, w2, fun v3 H3 a3 => ?_⟩
    obtain ⟨B3, g3, w3, r3⟩ := a3
    cases r3.bl
    refine ⟨false, rfl, ?_⟩
    rw [if_neg Bool.false_ne_true]
    exact ⟨false, rfl, q _ ⟨B3, g1.trans (g2.trans g3), w3⟩⟩
  · cases h3
variable {na nb : MB} {rest : List Expr}
def mNotB (a : MB) : MB := fun env u => bnd (a env u) fun k u1 => some (!k, u1)
def mAndB (a b : MB) : MB := fun env u => bnd (a env u) fun k u1 => if k = true then b env u1 else some (false, u1)
def mOrB (a b : MB) : MB := fun env u => bnd (a env u) fun k u1 => if k = true then some (true, u1) else b env u1
theorem dt_not (ha : PT X a (tTst G na)) : PT X (.UnaryOp .Not a pos) (tTst G (mNotB na)) := by
  refine (pt_not ha).imp fun σ H Q h => ?_
  obtain ⟨ua, u, B, env, d, u', hE, hW, hm, q⟩ := h
  obtain ⟨k, u1, h1, h2⟩ := bnd_some hm
  cases h2
  exact ⟨ua, u, B, env, k, _, hE, hW, h1, fun H1 g => q _ g⟩
theorem dw_and1 (ha : PT X a (tTst G na)) : PW X (.BoolOp .And [a] pos) (tTst G na) := pw_and1 ha
theorem dw_or1 (ha : PT X a (tTst G na)) : PW X (.BoolOp .Or [a] pos) (tTst G na) := pw_or1 ha
theorem dw_and (ha : PT X a (tTst G na)) (hb : PW X (.BoolOp .And (b :: rest) pos) (tTst G nb)) : PW X (.BoolOp .And (a :: b :: rest) pos) (tTst G (mAndB na nb)) := by
  refine (pw_and ha hb).imp fun σ H Q h => ?_
  obtain ⟨ua, u, B, env, d, u', hE, hW, hm, q⟩ := h
  obtain ⟨k, u1, h1, h2⟩ := bnd_some hm
  refine ⟨ua, u, B, env, k, _, hE, hW, h1, fun H1 ⟨B1, g1, w1⟩ => ?_⟩
  cases k with
  | true => rw [if_pos rfl] at h2 ⊢; exact ⟨ua, u1, B1, env, d, u', hE.grow g1, w1, h2, fun H2 ⟨B2, g2, w2⟩ => q _ ⟨B2, g1.trans g2, w2⟩⟩
  | false => rw [if_neg Bool.false_ne_true] at h2 ⊢; cases h2; exact q _ ⟨B1, g1, w1⟩
theorem dw_or (ha : PT X a (tTst G na)) (hb : PW X (.BoolOp .Or (b :: rest) pos) (tTst G nb)) : PW X (.BoolOp .Or (a :: b :: rest) pos) (tTst G (mOrB na nb)) := by
  refine (pw_or ha hb).imp fun σ H Q h => ?_
  obtain ⟨ua, u, B, env, d, u', hE, hW, hm, q⟩ := h
  obtain ⟨k, u1, h1, h2⟩ := bnd_some hm
  refine ⟨ua, u, B, env, k, _, hE, hW, h1, fun H1 ⟨B1, g1, w1⟩ => ?_⟩
  cases k with
  | false => rw [if_neg Bool.false_ne_true] at h2 ⊢; exact ⟨ua, u1, B1, env, d, u', hE.grow g1, w1, h2, fun H2 ⟨B2, g2, w2⟩ => q _ ⟨B2, g1.trans g2, w2⟩⟩
  | true => rw [if_pos rfl] at h2 ⊢; cases h2; exact q _ ⟨B1, g1, w1⟩
def mNot (a : M) : M := fun env u => bnd (a env u) fun x u1 => bnd (lft (truD x) u1) fun k u2 => some (.bl (!k), u2)
def mAnd (a b : M) : M := fun env u => bnd (a env u) fun x u1 => bnd (lft (truD x) u1) fun k u2 => if k = true then b env u2 else some (x, u2)
def mOr (a b : M) : M := fun env u => bnd (a env u) fun x u1 => bnd (lft (truD x) u1) fun k u2 => if k = true then some (x, u2) else b env u2
theorem dv_not (ha : PE X a (tEv G ma)) : PE X (.UnaryOp .Not a pos) (tEv G (mNot ma)) := by
  refine (pe_notT ha).imp fun σ H Q h => ?_
  obtain ⟨ua, u, B, env, d, u', hE, hW, hm, q⟩ := h
  obtain ⟨x, u1, h1, h2⟩ := bnd_some hm
  obtain ⟨k, u2, h2, h3⟩ := bnd_some h2
  obtain ⟨l2, rfl⟩ := lft_some h2
  cases h3
  exact ⟨ua, u, B, env, x, _, hE, hW, h1, fun v H1 ⟨B1, g1, w1, r1⟩ => ⟨k, rep_tru l2 r1 w1, q _ _ ⟨B1, g1, w1, rep_bl⟩⟩⟩
theorem dv_one (op : PySem.BoolOp) (ha : PE X a (tEv G ma)) : PE X (.BoolOp op [a] pos) (tEv G ma) := pe_one ha
theorem dv_and (ha : PE X a (tEv G ma)) (hb : PE X (.BoolOp .And (b :: rest) pos) (tEv G mb)) : PE X (.BoolOp .And (a :: b :: rest) pos) (tEv G (mAnd ma mb)) := by
  refine (pe_andT ha hb).imp fun σ H Q h => ?_
  obtain ⟨ua, u, B, env, d, u', hE, hW, hm, q⟩ := h
  obtain ⟨x, u1, h1, h2⟩ := bnd_some hm
  obtain ⟨k, u2, h2, h3⟩ := bnd_some h2
  obtain ⟨l2, rfl⟩ := lft_some h2
  refine ⟨ua, u, B, env, x, _, hE, hW, h1, fun v H1 ⟨B1, g1, w1, r1⟩ => ⟨k, rep_tru l2 r1 w1, ?_⟩⟩
  cases k with
  | true => rw [if_pos rfl] at h3 ⊢; exact ⟨ua, _, B1, env, d, u', hE.grow g1, w1, h3, fun v2 H2 a2 => q _ _ (.up g1 a2)⟩
  | false => rw [if_neg Bool.false_ne_true] at h3 ⊢; cases h3; exact q _ _ ⟨B1, g1, w1, r1⟩
theorem dv_or (ha : PE X a (tEv G ma)) (hb : PE X (.BoolOp .Or (b :: rest) pos) (tEv G mb)) : PE X (.BoolOp .Or (a :: b :: rest) pos) (tEv G (mOr ma mb)) := by
  refine (pe_orT ha hb).imp fun σ H Q h => ?_
  obtain ⟨ua, u, B, env, d, u', hE, hW, hm, q⟩ := h
  obtain ⟨x, u1, h1, h2⟩ := bnd_some hm
  obtain ⟨k, u2, h2, h3⟩ := bnd_some h2
  obtain ⟨l2, rfl⟩ := lft_some h2
  refine ⟨ua, u, B, env, x, _, hE, hW, h1, fun v H1 ⟨B1, g1, w1, r1⟩ => ⟨k, rep_tru l2 r1 w1, ?_⟩⟩
  cases k with
  | false => rw [if_neg Bool.false_ne_true] at h3 ⊢; exact ⟨ua, _, B1, env, d, u', hE.grow g1, w1, h3, fun v2 H2 a2 => q _ _ (.up g1 a2)⟩
  | true => rw [if_pos rfl] at h3 ⊢; cases h3; exact q _ _ ⟨B1, g1, w1, r1⟩
def mIte (c : MB) (a b : M) : M := fun env u => bnd (c env u) fun k u1 => if k = true then a env u1 else b env u1
theorem dv_ite (hc : PT X c (tTst G na)) (ha : PE X a (tEv G ma)) (hb : PE X b (tEv G mb)) : PE X (.IfExp c a b pos) (tEv G (mIte na ma mb)) := by
  refine (pe_ifExp hc ha hb).imp fun σ H Q h => ?_
  obtain ⟨ua, u, B, env, d, u', hE, hW, hm, q⟩ := h
  obtain ⟨k, u1, h1, h2⟩ := bnd_some hm
  refine ⟨ua, u, B, env, k, _, hE, hW, h1, fun H1 ⟨B1, g1, w1⟩ => ?_⟩
  cases k with
  | true => rw [if_pos rfl] at h2 ⊢; exact ⟨ua, u1, B1, env, d, u', hE.grow g1, w1, h2, fun v2 H2 a2 => q _ _ (.up g1 a2)⟩
  | false => rw [if_neg Bool.false_ne_true] at h2 ⊢; exact ⟨ua, u1, B1, env, d, u', hE.grow g1, w1, h2, fun v2 H2 a2 => q _ _ (.up g1 a2)⟩
end
end Dv
namespace Dv
open PySem PySem.Spec PyProof.Rows L2
def spF {K : PySem.W.Frag} (G : Gx K) (F : List D → U → Option (D × U)) (n : Nat) : Sp := fun vs H Q _ => ∃ ua u B ds d u', Reps G ua ds vs B ∧ ds.length = n ∧ Wd ua u B H ∧ F ds u = some (d, u') ∧ ∀ v H', Aft G ua B H u' d v H' → Q v H'
/-- the def x of the module, called by place, does F -/
def DefOk (P : Program) (w : World) {K : PySem.W.Frag} (mg : Str → Option Value) (base : Heap) (G : Gx K) (x : Str) (k n : Nat) (F : List D → U → Option (D × U)) : Prop :=
  ∃ f fd ps, FnOk P w K mg base CX0 k f fd ps (spF G F n) ∧ mg x = some (.ref f) ∧ PySem.W.keepIn K (.ref f) = true ∧ Binds K fd ps []
theorem DefOk.mono {P : Program} {w : World} {K : PySem.W.Frag} {mg : Str → Option Value} {base : Heap} {G : Gx K} {x : Str} {j k n : Nat} {F : List D → U → Option (D × U)} (h : DefOk P w mg base G x j n F) (l : j ≤ k) : DefOk P w mg base G x k n F := by
  obtain ⟨f, fd, ps, h1, h2⟩ := h
  exact ⟨f, fd, ps, h1.mono l, h2⟩
def mCall (n : Nat) (F : List D → U → Option (D × U)) (m : Ms) : M := fun env u => bnd (m env u) fun ds u1 => if ds.length = n then F ds u1 else none
section
variable {X : Cx} {G : Gx X.K} {a b c e : Expr} {es : List Expr} {ma mb mc : M} {ms : Ms} {pos p : Pos}
theorem dv_call {x : Str} {k n : Nat} {F : List D → U → Option (D × U)} (D0 : DefOk X.prog X.w X.mg X.base G x k n F) (hr : Room k X.A) (hg : Gl X x) (ha : PA X (e :: es) (tEvs G ms))
    (hdb : (x == ("__debug__" : Str)) = false := by decide) (he : starEach (e :: es) X.env = (false, eval e X.env) :: starEach es X.env := by rfl) (hpl : (backTo pos (starEach es X.env)).any (·.1) = false := by rfl) :
    PE X (.Call (.Name x p) (e :: es) [] pos) (tEv G (mCall n F ms)) := by
  obtain ⟨f, fd, ps, hf, hm, hk, hb⟩ := D0
  refine (pe_call hf hr hg hm hk hb .nil pass0 ha hdb he hpl).imp fun σ H Q h => ?_
  obtain ⟨ua, u, B, env, d, u', hE, hW, hm, q⟩ := h
  obtain ⟨ds, u1, h1, h2⟩ := bnd_some hm
  split at h2
  · refine ⟨ua, u, B, env, ds, u1, hE, hW, h1, fun vs H1 ⟨B1, g1, w1, r1⟩ => ?_⟩
    show spF G F n (vs ++ []) H1 Q E0
    rw [List.append_nil]
    exact ⟨ua, u1, B1, ds, d, u', r1, ‹_›, w1, h2, fun v H2 a => q _ _ (.up g1 a)⟩
  · cases h2
theorem dv_call0 {x : Str} {k : Nat} {F : List D → U → Option (D × U)} (D0 : DefOk X.prog X.w X.mg X.base G x k 0 F) (hr : Room k X.A) (hg : Gl X x)
    (hdb : (x == ("__debug__" : Str)) = false := by decide) : PE X (.Call (.Name x p) [] [] pos) (tEv G (mCall 0 F mNil)) := by
  obtain ⟨f, fd, ps, hf, hm, hk, hb⟩ := D0
  refine (pe_call0 hf hr hg hm hk hb .nil pass0 hdb).imp fun σ H Q h => ?_
  obtain ⟨ua, u, B, env, d, u', hE, hW, hm, q⟩ := h
  obtain ⟨ds, u1, h1, h2⟩ := bnd_some hm
  cases h1
  have h2 : F [] u = some (d, u') := h2
  exact ⟨ua, u, B, [], d, u', .nil, rfl, hW, h2, fun v H2 a => q _ _ a⟩
def BiOk {X : Cx} (G : Gx X.K) (f : Value) (sem : List D → Option D) : Prop := ∀ (ua : Option Addr) (u : U) (B H : Hp) (ds : List D) (d : D) (vs : List V), sem ds = some d → Reps G ua ds vs B → Wd ua u B H →
  ∃ r, CallR X f r ∧ r vs H (Aft G ua B H u d)
def rBi (G : Gx X.K) (sem : List D → Option D) : List V → Hp → VK → Prop := fun vs H Q => ∃ ua u B ds d, sem ds = some d ∧ Reps G ua ds vs B ∧ Wd ua u B H ∧ ∀ v H', Aft G ua B H u d v H' → Q v H'
theorem call_of {f : Value} {sem : List D → Option D} (hf : BiOk G f sem) : CallR X f (rBi G sem) := by
  intro pins s σ H xs us Q I r h
  obtain ⟨ua, u0, B, ds, d, e, rs, w, q⟩ := h
  obtain ⟨r', hr, hc⟩ := hf ua u0 B H ds d xs e rs w
  exact thn (hr pins s σ H xs us _ I r hc) fun v s ⟨z, H', I', r', a⟩ => ⟨z, H', I', r', q _ _ a⟩
def mBi (sem : List D → Option D) (m : Ms) : M := fun env u => bnd (m env u) fun ds u1 => lft (sem ds) u1
theorem bi_read {sem : List D → Option D} {σ : L2.St} {H : Hp} {Q : VK} (h : tEv G (mBi sem ms) σ H Q) : tCB (rBi G sem) (tEvs G ms) σ H Q := by
  obtain ⟨ua, u, B, env, d, u', hE, hW, hm, q⟩ := h
  obtain ⟨ds, u1, h1, h2⟩ := bnd_some hm
  obtain ⟨l2, rfl⟩ := lft_some h2
  exact ⟨ua, u, B, env, ds, u', hE, hW, h1, fun vs H1 ⟨B1, g1, w1, r1⟩ => ⟨ua, u', B1, ds, d, l2, r1, w1, fun v H2 a => q _ _ (.up g1 a)⟩⟩
theorem dv_bi {x : Str} {id : String} {sem : List D → Option D} (hc : BiOk G (.builtin id) sem) (hg : Gl X x) (hm : X.mg x = none) (hv : bootBuiltins x = some (.builtin id)) (ha : PA X (e :: es) (tEvs G ms)) (hn : x ≠ "__name__" := by decide) (hdb : (x == ("__debug__" : Str)) = false := by decide)
    (he : starEach (e :: es) X.env = (false, eval e X.env) :: starEach es X.env := by rfl) (hpl : (backTo pos (starEach es X.env)).any (·.1) = false := by rfl) : PE X (.Call (.Name x p) (e :: es) [] pos) (tEv G (mBi sem ms)) :=
  (pe_callB (call_of hc) hg hm hv ha hn hdb he hpl).imp fun _ _ _ h => bi_read h
theorem dv_ty {x : Str} {T : String} {sem : List D → Option D} (hc : BiOk G (.type T) sem) (hg : Gl X x) (hm : X.mg x = none) (hv : bootBuiltins x = some (.type T)) (ha : PA X (e :: es) (tEvs G ms)) (hn : x ≠ "__name__" := by decide) (hdb : (x == ("__debug__" : Str)) = false := by decide)
    (he : starEach (e :: es) X.env = (false, eval e X.env) :: starEach es X.env := by rfl) (hpl : (backTo pos (starEach es X.env)).any (·.1) = false := by rfl) : PE X (.Call (.Name x p) (e :: es) [] pos) (tEv G (mBi sem ms)) :=
  (pe_callTy (call_of hc) hg hm hv ha hn hdb he hpl).imp fun _ _ _ h => bi_read h
def bLen : List D → Option D
  | [.lst ds] => some (.int ds.length)
  | [.tup ds] => some (.int ds.length)
  | [.str x] => if x.length ≤ sizeLine then some (.int x.length) else none
  | _ => none
def bAbs : List D → Option D
  | [.int i] => some (.int (if i < 0 then -i else i))
  | _ => none
def bInt : List D → Option D
  | [.int i] => some (.int i)
  | [.bl k] => some (.int (if k then 1 else 0))
  | _ => none
def bMax2 : List D → Option D
  | [.int i, .int j] => some (.int (if j > i then j else i))
  | _ => none
def blsOf : List D → Option (List Bool)
  | [] => some []
  | .bl b :: r => (blsOf r).map fun bs => b :: bs
  | _ :: _ => none
def strsOf : List D → Option (List Str)
  | [] => some []
  | .str b :: r => (strsOf r).map fun bs => b :: bs
  | _ :: _ => none
theorem blsOf_eq : ∀ {ds : List D} {bs : List Bool}, blsOf ds = some bs → ds = bs.map .bl
  | [], bs, h => by unfold blsOf at h; cases h; rfl
  | d :: ds, bs, h => by
    cases d with
    | bl b =>
      unfold blsOf at h
      cases q : blsOf ds with
      | none => rw [q] at h; cases h
      | some r => rw [q] at h; cases h; rw [blsOf_eq q]; rfl
    | _ => unfold blsOf at h; cases h
theorem strsOf_eq : ∀ {ds : List D} {bs : List Str}, strsOf ds = some bs → ds = bs.map .str
  | [], bs, h => by unfold strsOf at h; cases h; rfl
  | d :: ds, bs, h => by
    cases d with
    | str b =>
      unfold strsOf at h
      cases q : strsOf ds with
      | none => rw [q] at h; cases h
      | some r => rw [q] at h; cases h; rw [strsOf_eq q]; rfl
    | _ => unfold strsOf at h; cases h
def bAll : List D → Option D
  | [.lst ds] => (blsOf ds).map fun bs => .bl (bs.all id)
  | _ => none
def bList : List D → Option D
  | [.lst ds] => some (.lst ds)
  | [.tup ds] => some (.lst ds)
  | _ => none
def bTuple : List D → Option D
  | [.lst ds] => some (.tup ds)
  | [.tup ds] => some (.tup ds)
  | _ => none
/-- insertion by the texts' order -/
def insS (x : Str) : List Str → List Str
  | [] => [x]
  | y :: r => if y.cps.toList < x.cps.toList then y :: insS x r else x :: y :: r
def sortS : List Str → List Str
  | [] => []
  | x :: r => insS x (sortS r)
def leS (a b : Str) : Prop := a.cps.toList ≤ b.cps.toList
theorem leS_anti {a b : Str} (h : leS a b) (h' : leS b a) : a = b := by
  have e : a.cps.toList = b.cps.toList := List.le_antisymm h h'
  obtain ⟨⟨x⟩⟩ := a
  obtain ⟨⟨y⟩⟩ := b
  have e' : x = y := e
  rw [e']
theorem insS_perm (x : Str) : ∀ l : List Str, (insS x l).Perm (x :: l)
  | [] => .refl _
  | y :: r => by
    unfold insS
    split
    · exact ((insS_perm x r).cons y).trans (.swap x y r)
    · exact .refl _
theorem sortS_perm : ∀ l : List Str, (sortS l).Perm l
  | [] => .refl _
  | x :: r => (insS_perm x _).trans ((sortS_perm r).cons x)
theorem insS_sorted (x : Str) : ∀ l : List Str, l.Pairwise leS → (insS x l).Pairwise leS
  | [], _ => by unfold insS; exact List.pairwise_singleton _ _
  | y :: r, h => by
    have h1 := List.pairwise_cons.mp h
    unfold insS
    split
    · rename_i hl
      refine List.pairwise_cons.mpr ⟨fun z hz => ?_, insS_sorted x r h1.2⟩
      rcases List.mem_cons.mp ((insS_perm x r).subset hz) with rfl | hz
      · exact List.not_lt.mp (fun q => List.lt_irrefl _ (List.lt_trans hl q))
      · exact h1.1 z hz
    · rename_i hl
      have hxy : leS x y := List.not_lt.mp hl
      refine List.pairwise_cons.mpr ⟨fun z hz => ?_, h⟩
      rcases List.mem_cons.mp hz with rfl | hz
      · exact hxy
      · exact List.le_trans hxy (h1.1 z hz)
theorem sortS_sorted : ∀ l : List Str, (sortS l).Pairwise leS
  | [] => .nil
  | x :: r => insS_sorted x _ (sortS_sorted r)
theorem rising_pw : ∀ (p : Str) (l : List Str), risingS p l = true → (p :: l).Pairwise leS
  | p, [], _ => List.pairwise_singleton _ _
  | p, x :: r, h => by
    unfold risingS at h
    simp only [Bool.and_eq_true, Bool.not_eq_true'] at h
    have h1 : leS p x := by
      have := h.1
      rw [ltCps_eq] at this
      exact List.not_lt.mp (of_decide_eq_false this)
    have h2 := rising_pw x r h.2
    refine List.pairwise_cons.mpr ⟨fun z hz => ?_, h2⟩
    rcases List.mem_cons.mp hz with rfl | hz
    · exact h1
    · exact List.le_trans h1 ((List.pairwise_cons.mp h2).1 z hz)
theorem sorted_pw (l : List Str) (h : sortedS l = true) : l.Pairwise leS := by
  cases l with
  | nil => exact .nil
  | cons x r => exact rising_pw x r h
theorem sortS_uniq {xs ys : List Str} (p : ys.Perm xs) (h : sortedS ys = true) : ys = sortS xs :=
  List.Perm.eq_of_pairwise (fun _ _ _ _ h1 h2 => leS_anti h1 h2) (sorted_pw _ h) (sortS_sorted xs) (p.trans (sortS_perm xs).symm)
def bSorted : List D → Option D
  | [.lst ds] => (strsOf ds).bind fun xs => if xs.length < 64 then some (.lst ((sortS xs).map .str)) else none
  | _ => none
theorem ok_len : BiOk G (.builtin "len") bLen := by
  intro ua u B H ds d vs e rs w
  unfold bLen at e
  split at e
  · cases e
    obtain ⟨v, t, rfl, r1, r2⟩ := rs.of_cons
    rw [r2.of_nil]
    obtain ⟨a, ys, rfl, h, r3⟩ := r1.lst
    exact ⟨_, call_len_seq, a, ys, rfl, .inl (.of (w.sub _ _ h)), .here w (by rw [← r3.len]; exact rep_int)⟩
  · cases e
    obtain ⟨v, t, rfl, r1, r2⟩ := rs.of_cons
    rw [r2.of_nil]
    obtain ⟨a, ys, rfl, h, r3⟩ := r1.tup
    exact ⟨_, call_len_seq, a, ys, rfl, .inr (h.mono w.sub).sq, .here w (by rw [← r3.len]; exact rep_int)⟩
  · split at e
    · cases e
      obtain ⟨v, t, rfl, r1, r2⟩ := rs.of_cons
      rw [r2.of_nil]
      cases r1.str
      exact ⟨_, call_len_str, _, rfl, ‹_›, .here w rep_int⟩
    · cases e
  · cases e
theorem ok_abs : BiOk G (.builtin "abs") bAbs := by
  intro ua u B H ds d vs e rs w
  unfold bAbs at e
  split at e
  · cases e
    obtain ⟨v, t, rfl, r1, r2⟩ := rs.of_cons
    rw [r2.of_nil]
    cases r1.int
    exact ⟨_, call_abs, _, rfl, .here w rep_int⟩
  · cases e
theorem ok_int : BiOk G (.type "int") bInt := by
  intro ua u B H ds d vs e rs w
  unfold bInt at e
  split at e
  · cases e
    obtain ⟨v, t, rfl, r1, r2⟩ := rs.of_cons
    rw [r2.of_nil]
    cases r1.int
    exact ⟨_, call_int1, .inl ⟨_, rfl, .here w rep_int⟩⟩
  · cases e
    obtain ⟨v, t, rfl, r1, r2⟩ := rs.of_cons
    rw [r2.of_nil]
    cases r1.bl
    exact ⟨_, call_int1, .inr ⟨_, rfl, .here w rep_int⟩⟩
  · cases e
theorem ok_max2 (hc : X.calm = true) : BiOk G (.builtin "max") bMax2 := by
  intro ua u B H ds d vs e rs w
  unfold bMax2 at e
  split at e
  · cases e
    obtain ⟨v, t, rfl, r1, r2⟩ := rs.of_cons
    obtain ⟨v2, t, rfl, r2, r3⟩ := r2.of_cons
    rw [r3.of_nil]
    cases r1.int
    cases r2.int
    exact ⟨_, call_max2 hc, _, _, rfl, .here w rep_int⟩
  · cases e
theorem ok_all (hc : X.calm = true) : BiOk G (.builtin "all") bAll := by
  intro ua u B H ds d vs e rs w
  unfold bAll at e
  split at e
  · rename_i ds
    cases q : blsOf ds with
    | none => rw [q] at e; cases e
    | some bs =>
      rw [q] at e; cases e
      obtain ⟨v, t, rfl, r1, r2⟩ := rs.of_cons
      rw [r2.of_nil]
      obtain ⟨a, ys, rfl, h, r3⟩ := r1.lst
      rw [blsOf_eq q] at r3
      rw [r3.bls_of] at h
      exact ⟨_, cr_all hc, a, bs, rfl, .of (w.sub _ _ h), .here w rep_bl⟩
  · cases e
theorem ok_tuple : BiOk G (.type "tuple") bTuple := by
  intro ua u B H ds d vs e rs w
  unfold bTuple at e
  split at e
  · cases e
    obtain ⟨v, t, rfl, r1, r2⟩ := rs.of_cons
    rw [r2.of_nil]
    obtain ⟨a, ys, rfl, h, r3⟩ := r1.lst
    exact ⟨_, call_tupF, a, ys, rfl, .inl ⟨.of (w.sub _ _ h), fun l o hl ho => .tup w hl ho r3⟩⟩
  · cases e
    obtain ⟨v, t, rfl, r1, r2⟩ := rs.of_cons
    rw [r2.of_nil]
    have r1' := r1
    obtain ⟨a, ys, rfl, h, r3⟩ := r1.tup
    exact ⟨_, call_tupF, a, ys, rfl, .inr ⟨(h.mono w.sub).sq, .here w r1'⟩⟩
  · cases e
theorem ok_sorted : BiOk G (.builtin "sorted") bSorted := by
  intro ua u B H ds d vs e rs w
  unfold bSorted at e
  split at e
  · rename_i ds
    cases q : strsOf ds with
    | none => rw [q] at e; cases e
    | some xs =>
      rw [q] at e
      simp only [Option.bind_some] at e
      split at e
      · cases e
        obtain ⟨v, t, rfl, r1, r2⟩ := rs.of_cons
        rw [r2.of_nil]
        obtain ⟨a, ys, rfl, h, r3⟩ := r1.lst
        rw [strsOf_eq q] at r3
        rw [r3.strs_of] at h
        refine ⟨_, cr_sortedS, a, xs, rfl, .of (w.sub _ _ h), ‹_›, fun ys p hp hs hn => ?_⟩
        rw [sortS_uniq hp hs]
        exact .lst w hn Reps.strs
      · cases e
  · cases e
def tyN : D → Option String
  | .non => some "NoneType"
  | .bl _ => some "bool"
  | .int _ => some "int"
  | .str _ => some "str"
  | .lst _ => some "list"
  | .tup _ => some "tuple"
  | _ => none
def kitAnyB (t : String) : List String → Option Bool
  | [] => some false
  | n :: r => match kitB t n with
    | some true => some true
    | some false => kitAnyB t r
    | none => none
def plainTys : List String := ["str", "int", "bool", "list", "tuple"]
def isiD (d : D) (ts : List String) : Option Bool := match d with
  | .ins _ _ _ => if ts.all (plainTys.contains ·) then some false else none
  | d => (tyN d).bind fun t => kitAnyB t ts
theorem kitAny_of {K : PySem.W.Frag} {t : String} : ∀ {ts : List String} {b : Bool}, kitAnyB t ts = some b → PySem.W.kitAny K (.type t) (ts.map Value.type) = some b
  | [], b, h => by unfold kitAnyB at h; cases h; rfl
  | n :: r, b, h => by
    unfold kitAnyB at h
    show PySem.W.kitAny K (.type t) (.type n :: r.map Value.type) = some b
    split at h
    · rename_i q; cases h; exact kitAny_cons (kit_ty q) (fun z => nomatch z) (fun _ => rfl)
    · rename_i q; exact kitAny_cons (kit_ty q) (fun _ => kitAny_of h) (fun z => nomatch z)
    · cases h
theorem InsOk.one {K : PySem.W.Frag} {C : Addr} (h : InsOk K C) {n : String} (hn : plainTys.contains n = true) : PySem.W.kitOne K (.ref C) (.type n) = some false := by
  simp only [plainTys, List.contains_cons, List.contains_nil, Bool.or_eq_true, beq_iff_eq, Bool.or_false] at hn
  rcases hn with rfl | rfl | rfl | rfl | rfl
  · exact h.kStr
  · exact h.kInt
  · exact h.kBool
  · exact h.kList
  · exact h.kTup
theorem InsOk.any {K : PySem.W.Frag} {C : Addr} (h : InsOk K C) : ∀ {ts : List String}, ts.all (plainTys.contains ·) = true → PySem.W.kitAny K (.ref C) (ts.map Value.type) = some false
  | [], _ => rfl
  | n :: r, hn => by
    simp only [List.all_cons, Bool.and_eq_true] at hn
    exact kitAny_cons (h.one hn.1) (fun _ => InsOk.any h hn.2) (fun z => nomatch z)
theorem rep_isi {ua : Option Addr} {u : U} {B H : Hp} {d : D} {v : V} {ts : List String} {k : Bool} (e : isiD d ts = some k) (r : Rep G ua d v B) (w : Wd ua u B H) : ∃ t, TyX X.K H v t ∧ PySem.W.kitAny X.K t (ts.map Value.type) = some k := by
  unfold isiD at e
  cases d with
  | non => cases r.non; exact ⟨_, .base .non, kitAny_of e⟩
  | bl b => cases r.bl; exact ⟨_, .base (.bl b), kitAny_of e⟩
  | int b => cases r.int; exact ⟨_, .base (.int b), kitAny_of e⟩
  | str b => cases r.str; exact ⟨_, .base (.str b), kitAny_of e⟩
  | lst b => obtain ⟨a, vs, rfl, h, _⟩ := r.lst; exact ⟨_, .base (.lst (w.sub _ _ h)), kitAny_of e⟩
  | tup b => obtain ⟨a, vs, rfl, ⟨o, _, h⟩, _⟩ := r.tup; exact ⟨_, .fTuple (w.sub _ _ h), kitAny_of e⟩
  | pr b => exact absurd e (by simp [tyN])
  | ins c ns xs =>
    unfold Rep at r
    obtain ⟨a, C, dx, vs, rfl, hc, h, _⟩ := r
    have i := G.ok c C hc
    dsimp only at e
    split at e
    · cases e; exact ⟨_, .base (.ins (w.sub _ _ h) i.cl i.ha i.hn i.htk i.hm), i.any ‹_›⟩
    · cases e
  | exc c ns xs => exact absurd e (by simp [tyN])
  | fn x => exact absurd e (by simp [tyN])
  | dct k x => exact absurd e (by simp [tyN])
  | dtt k x => exact absurd e (by simp [tyN])
  | dtn k x => exact absurd e (by simp [tyN])
  | urn => exact absurd e (by simp [tyN])
def mIsi (ts : List String) (a : M) : M := fun env u => bnd (a env u) fun x u1 => lft ((isiD x ts).map .bl) u1
theorem map_some {α β : Type} {o : Option α} {f : α → β} {b : β} (h : o.map f = some b) : ∃ a, o = some a ∧ f a = b := by
  cases o with
  | none => cases h
  | some a => exact ⟨a, rfl, Option.some.inj h⟩
/-- isinstance(e, T) -/
theorem dv_isi {T : Str} {n : String} {pT : Pos} (hg : Gl X "isinstance") (hm : X.mg "isinstance" = none) (ha : PE X a (tEv G ma)) (hgT : Gl X T) (hmT : X.mg T = none) (hvT : bootBuiltins T = some (.type n)) (hnT : T ≠ "__name__" := by decide) (hdT : (T == ("__debug__" : Str)) = false := by decide)
    (hs : starEach (a :: [.Name T pT]) X.env = (false, eval a X.env) :: starEach [.Name T pT] X.env := by rfl) : PE X (.Call (.Name "isinstance" p) [a, .Name T pT] [] pos) (tEv G (mIsi [n] ma)) := by
  refine (pe_callB call_isi hg hm (by decide +kernel) (pa_cons ha (pa_cons (pe_bltn (v := .ty n) hgT hmT hvT rfl hnT hdT) pa_nil) hs) (he := hs)).imp fun σ H Q h => ?_
  obtain ⟨ua, u, B, env, d, u', hE, hW, hm, q⟩ := h
  obtain ⟨x, u1, h1, h2⟩ := bnd_some hm
  obtain ⟨l2, rfl⟩ := lft_some h2
  obtain ⟨k, e, rfl⟩ := map_some l2
  refine ⟨ua, u, B, env, x, u', hE, hW, h1, fun v H1 ⟨B1, g1, w1, r1⟩ => ?_⟩
  obtain ⟨t, ty, kk⟩ := rep_isi e r1 w1
  refine ⟨v, .ty n, t, .type n, k, rfl, .ty n, ty, ?_, q _ _ ⟨B1, g1, w1, rep_bl⟩⟩
  have kk : PySem.W.kitAny X.K t [Value.type n] = some k := kk
  unfold PySem.W.kitAny at kk
  split at kk
  · rename_i z; cases kk; exact z
  · rename_i z; cases kk; exact z
  · cases kk
theorem dv_isi2 {T T2 : Str} {n n2 : String} {pT pT2 pt : Pos} {kt : Nat} (hg : Gl X "isinstance") (hm : X.mg "isinstance" = none) (ha : PE X a (tEv G ma)) (hgT : Gl X T) (hmT : X.mg T = none) (hvT : bootBuiltins T = some (.type n)) (hgT2 : Gl X T2) (hmT2 : X.mg T2 = none) (hvT2 : bootBuiltins T2 = some (.type n2))
    (hnT : T ≠ "__name__" := by decide) (hdT : (T == ("__debug__" : Str)) = false := by decide) (hnT2 : T2 ≠ "__name__" := by decide) (hdT2 : (T2 == ("__debug__" : Str)) = false := by decide)
    (hs : starEach (a :: [.Tuple [.Name T pT, .Name T2 pT2] kt pt]) X.env = (false, eval a X.env) :: starEach [.Tuple [.Name T pT, .Name T2 pT2] kt pt] X.env := by rfl) :
    PE X (.Call (.Name "isinstance" p) [a, .Tuple [.Name T pT, .Name T2 pT2] kt pt] [] pos) (tEv G (mIsi [n, n2] ma)) := by
  refine (pe_callB call_isiT hg hm (by decide +kernel) (pa_cons ha (pa_cons (pe_tup (pa_cons (pe_bltn (v := .ty n) hgT hmT hvT rfl hnT hdT) (pa_cons (pe_bltn (v := .ty n2) hgT2 hmT2 hvT2 rfl hnT2 hdT2) pa_nil))) pa_nil) hs) (he := hs)).imp fun σ H Q h => ?_
  obtain ⟨ua, u, B, env, d, u', hE, hW, hm, q⟩ := h
  obtain ⟨x, u1, h1, h2⟩ := bnd_some hm
  obtain ⟨l2, rfl⟩ := lft_some h2
  obtain ⟨k, e, rfl⟩ := map_some l2
  refine ⟨ua, u, B, env, x, u', hE, hW, h1, fun v H1 ⟨B1, g1, w1, r1⟩ => ?_⟩
  refine ⟨by show 2 ≤ sizeLine; decide, fun tp htp => ?_⟩
  have w2 : Wd ua u' (upd B1 tp (.tup [.ty n, .ty n2])) (upd H1 tp (.tup [.ty n, .ty n2])) := w1.new1 htp
  have g2 : Grow ua B1 H1 (upd B1 tp (.tup [.ty n, .ty n2])) (upd H1 tp (.tup [.ty n, .ty n2])) := .new1 w1 htp
  obtain ⟨t, ty, kk⟩ := rep_isi e (r1.mono _ _ g2.pub) w2
  exact ⟨v, tp, [.ty n, .ty n2], t, [.type n, .type n2], k, rfl, upd_same, .cons (.ty n) (.cons (.ty n2) .nil), ty, kk, q _ _ ⟨_, g1.trans g2, w2, rep_bl⟩⟩
def ixD : D → D → Option D
  | .lst ds, .int i => atI ds i
  | .tup ds, .int i => atI ds i
  | .pr ds, .int i => atI ds i
  | .str z, .int i => if z.length ≤ sizeLine then (atI z.cps.toList i).map fun c => .str ⟨#[c]⟩ else none
  | _, _ => none
theorem Reps.at {ua : Option Addr} {B : Hp} {ds : List D} {vs : List V} {i : Int} {d : D} (r : Reps G ua ds vs B) (e : atI ds i = some d) : ∃ v, atI vs i = some v ∧ Rep G ua d v B := by
  unfold atI at e ⊢
  rw [← r.len]
  cases q : ixN ds.length i with
  | none => rw [q] at e; cases e
  | some j => rw [q] at e; exact r.get e
theorem dv_ix (ha : PE X a (tEv G ma)) (hb : PE X b (tEv G mb)) (hs : PlainIx b := by exact fun _ _ => rfl) : PE X (.Subscript a b pos) (tEv G (mBin ixD ma mb)) := by
  refine (pe_ix ix_seq ha hb hs).imp fun σ H Q h => ?_
  obtain ⟨ua, u, B, env, d, u', hE, hW, hm, q⟩ := h
  obtain ⟨x, u1, h1, h2⟩ := bnd_some hm
  obtain ⟨y, u2, h2, h3⟩ := bnd_some h2
  obtain ⟨l3, rfl⟩ := lft_some h3
  refine ⟨ua, u, B, env, x, u1, hE, hW, h1, fun v H1 ⟨B1, g1, w1, r1⟩ => ⟨ua, u1, B1, env, y, u', hE.grow g1, w1, h2, fun v2 H2 ⟨B2, g2, w2, r2⟩ => ?_⟩⟩
  have r1 := r1.mono _ _ g2.pub
  unfold ixD at l3
  split at l3
  · obtain ⟨p, xs, rfl, h, r3⟩ := r1.lst
    cases r2.int
    obtain ⟨z, e, r4⟩ := r3.at l3
    exact .inl ⟨p, xs, _, z, rfl, rfl, .of (w2.sub _ _ h), e, q _ _ ⟨B2, g1.trans g2, w2, r4⟩⟩
  · obtain ⟨p, xs, rfl, h, r3⟩ := r1.tup
    cases r2.int
    obtain ⟨z, e, r4⟩ := r3.at l3
    exact .inr (.inl ⟨p, xs, _, z, rfl, rfl, (h.mono w2.sub).sq, e, q _ _ ⟨B2, g1.trans g2, w2, r4⟩⟩)
  · obtain ⟨p, xs, rfl, h, r3⟩ := r1.pr
    cases r2.int
    obtain ⟨z, e, r4⟩ := r3.at l3
    exact .inr (.inl ⟨p, xs, _, z, rfl, rfl, .of (w2.sub _ _ h), e, q _ _ ⟨B2, g1.trans g2, w2, r4⟩⟩)
  · split at l3
    · cases r1.str
      cases r2.int
      obtain ⟨c, e, rfl⟩ := map_some l3
      exact .inr (.inr ⟨_, _, c, rfl, rfl, ‹_›, e, q _ _ ⟨B2, g1.trans g2, w2, rep_str⟩⟩)
    · cases l3
  · cases l3
abbrev MO := List Sl → U → Option (Option Int × U)
def tEvO (G : Gx X.K) (m : MO) : TO := fun σ H Q => ∃ ua u B env o u', EnvOk G ua env σ B H ∧ Wd ua u B H ∧ m env u = some (o, u') ∧ ∀ H', AftB ua B H u' H' → Q o H'
def moNo : MO := fun _ u => some (none, u)
def moAt (m : M) : MO := fun env u => bnd (m env u) fun d u1 => match d with
  | .int i => some (some i, u1)
  | _ => none
theorem _root_.L2.PO.imp {X : Cx} {e : Option Expr} {t t' : TO} (h : PO X e t) (i : ∀ σ H Q, t' σ H Q → t σ H Q) : PO X e t' := ⟨fun pins s σ H Q I q => h.run pins s σ H Q I (i σ H Q q)⟩
theorem do_no : PO X none (tEvO G moNo) := po_none.imp fun σ H Q h => by
  obtain ⟨ua, u, B, env, d, u', hE, hW, hm, q⟩ := h
  cases hm
  exact q _ ⟨B, .refl, hW⟩
theorem do_at (ha : PE X a (tEv G ma)) : PO X (some a) (tEvO G (moAt ma)) := (po_some ha).imp fun σ H Q h => by
  obtain ⟨ua, u, B, env, d, u', hE, hW, hm, q⟩ := h
  obtain ⟨x, u1, h1, h2⟩ := bnd_some hm
  split at h2
  · cases h2
    refine ⟨ua, u, B, env, _, _, hE, hW, h1, fun v H1 ⟨B1, g1, w1, r1⟩ => ?_⟩
    cases r1.int
    exact ⟨_, rfl, q _ ⟨B1, g1, w1⟩⟩
  · cases h2
def cutD (xs : List D) (lo hi : Option Int) : List D := (xs.drop (HT.sIx xs.length 0 lo)).take (HT.sIx xs.length xs.length hi - HT.sIx xs.length 0 lo)
def slD : D → Option Int → Option Int → Option D
  | .lst ds, lo, hi => some (.lst (cutD ds lo hi))
  | .tup ds, lo, hi => some (.tup (cutD ds lo hi))
  | .str z, lo, hi => if z.length ≤ sizeLine then some (.str (cutS z lo hi)) else none
  | _, _, _ => none
def mSl (a : M) (lo hi : MO) : M := fun env u => bnd (a env u) fun x u1 => bnd (lo env u1) fun l u2 => bnd (hi env u2) fun h u3 => lft (slD x l h) u3
theorem Reps.cut {ua : Option Addr} {B : Hp} {ds : List D} {vs : List V} (r : Reps G ua ds vs B) (lo hi : Option Int) : Reps G ua (cutD ds lo hi) (cutV vs lo hi) B := by
  unfold cutD cutV
  rw [← r.len]
  exact (r.drop _).take _
theorem dv_sl {lo hi : Option Expr} {ml mh : MO} {p2 : Pos} (ha : PE X a (tEv G ma)) (hl : PO X lo (tEvO G ml)) (hh : PO X hi (tEvO G mh)) : PE X (.Subscript a (.Slice lo hi none p2) pos) (tEv G (mSl ma ml mh)) := by
  refine (pe_slice (sl_list.or (sl_tupF.or sl_str)) ha hl hh).imp fun σ H Q h => ?_
  obtain ⟨ua, u, B, env, d, u', hE, hW, hm, q⟩ := h
  obtain ⟨x, u1, h1, h2⟩ := bnd_some hm
  obtain ⟨l, u2, h2, h3⟩ := bnd_some h2
  obtain ⟨h, u3, h3, h4⟩ := bnd_some h3
  obtain ⟨l4, rfl⟩ := lft_some h4
  refine ⟨ua, u, B, env, x, u1, hE, hW, h1, fun v H1 ⟨B1, g1, w1, r1⟩ => ⟨ua, u1, B1, env, l, u2, hE.grow g1, w1, h2, fun H2 ⟨B2, g2, w2⟩ => ⟨ua, u2, B2, env, h, u', (hE.grow g1).grow g2, w2, h3, fun H3 ⟨B3, g3, w3⟩ => ?_⟩⟩⟩
  have r1 := (r1.mono _ _ g2.pub).mono _ _ g3.pub
  have gg := g1.trans (g2.trans g3)
  unfold slD at l4
  split at l4
  · cases l4
    obtain ⟨p, xs, rfl, h, r3⟩ := r1.lst
    exact .inl ⟨p, xs, rfl, .of (w3.sub _ _ h), fun p hp => q _ _ (.up gg (.lst w3 hp (r3.cut _ _)))⟩
  · cases l4
    have r1' := r1
    obtain ⟨p, xs, rfl, h, r3⟩ := r1.tup
    refine .inr (.inl ⟨p, xs, rfl, (h.mono w3.sub).sq, fun hw => q _ _ ⟨B3, gg, w3, ?_⟩, fun _ p o hp ho => q _ _ (.up gg (.tup w3 hp ho (r3.cut _ _)))⟩)
    unfold cutD
    rw [r3.len, hw.1, hw.2, List.drop_zero, Nat.sub_zero, ← r3.len, List.take_length]
    exact r1'
  · split at l4
    · cases l4
      cases r1.str
      exact .inr (.inr ⟨_, rfl, ‹_›, q _ _ ⟨B3, gg, w3, rep_str⟩⟩)
    · cases l4
  · cases l4
def joinD : D → D → Option D
  | .str a, .lst ds => (strsOf ds).bind fun ys => if (ys.map (·.length)).sum + ys.length * a.length ≤ 16777216 then some (.str (Txt.join a ys)) else none
  | _, _ => none
theorem joinD_inv {x y d : D} (h : joinD x y = some d) : ∃ z ds ys, x = .str z ∧ y = .lst ds ∧ strsOf ds = some ys ∧ (ys.map (·.length)).sum + ys.length * z.length ≤ 16777216 ∧ d = .str (Txt.join z ys) := by
  unfold joinD at h
  split at h
  · rename_i z ds
    cases q2 : strsOf ds with
    | none => rw [q2] at h; cases h
    | some ys =>
      rw [q2] at h
      simp only [Option.bind_some] at h
      split at h
      · cases h; exact ⟨z, ds, ys, rfl, rfl, q2, ‹_›, rfl⟩
      · cases h
  · cases h
theorem dv_join {apos : Pos} (ha : PE X a (tEv G ma)) (hb : PE X b (tEv G mb)) (hs : starEach [b] X.env = [(false, eval b X.env)] := by rfl) (hbase : attributeBase a "join" X.env (eval a X.env) = eval a X.env := by rfl) (hline : (apos.endLine == pos.line) = true := by rfl) :
    PE X (.Call (.Attribute a "join" apos) [b] [] pos) (tEv G (mBin joinD ma mb)) := by
  refine (pe_join ha hb hs hbase hline).imp fun σ H Q h => ?_
  obtain ⟨ua, u, B, env, d, u', hE, hW, hm, q⟩ := h
  obtain ⟨x, u1, h1, h2⟩ := bnd_some hm
  obtain ⟨y, u2, h4, h3⟩ := bnd_some h2
  obtain ⟨l3, rfl⟩ := lft_some h3
  refine ⟨ua, u, B, env, x, u1, hE, hW, h1, fun v H1 ⟨B1, g1, w1, r1⟩ => ?_⟩
  obtain ⟨z, ds, ys, rfl, rfl, q2, hz, rfl⟩ := joinD_inv l3
  cases r1.str
  refine ⟨⟨_, rfl⟩, ua, u1, B1, env, _, u', hE.grow g1, w1, h4, fun v2 H2 ⟨B2, g2, w2, r2⟩ => ?_⟩
  obtain ⟨p, xs, rfl, h, r3⟩ := r2.lst
  rw [strsOf_eq q2] at r3
  rw [r3.strs_of] at h
  exact ⟨_, p, ys, rfl, rfl, .inl (.of (w2.sub _ _ h)), hz, q _ _ ⟨B2, g1.trans g2, w2, rep_str⟩⟩
end
end Dv
namespace Dv
open PySem PySem.Spec PyProof.Rows L2 RZ
def Wk {K : PySem.W.Frag} (G : Gx K) (ua : Option Addr) (J : It) (B0 : Hp) (ds : List D) : Prop := ∀ (i : Nat) (B H : Hp) (u : U), Same B0 B → Wd ua u B H →
  (∀ d, ds[i]? = some d → J.go i H ∧ ∀ x H', J.yld i H x H' → Aft G ua B H u d x H') ∧ (ds[i]? = none → J.stop i H)
abbrev MI := List Sl → U → Option (List D × U)
def tIt {K : PySem.W.Frag} (G : Gx K) (m : MI) : TI := fun σ H R => ∃ ua u B env ds u', EnvOk G ua env σ B H ∧ Wd ua u B H ∧ m env u = some (ds, u') ∧ ∀ J B' H', Grow ua B H B' H' → Wd ua u' B' H' → Wk G ua J B' ds → R J H'
def itemsD : D → Option (List D)
  | .lst ds => some ds
  | .tup ds => some ds
  | .str x => some (x.cps.toList.map fun c => .str ⟨#[c]⟩)
  | _ => none
def mItems (m : M) : MI := fun env u => bnd (m env u) fun d u1 => lft (itemsD d) u1
section
variable {X : Cx} {G : Gx X.K} {ua : Option Addr} {B H : Hp} {ds es : List D} {vs ws : List V}
theorem Reps.none {ua : Option Addr} {i : Nat} (r : Reps G ua ds vs B) (h : ds[i]? = none) : vs[i]? = none := by
  rw [List.getElem?_eq_none_iff] at h ⊢
  rw [← r.len]; exact h
theorem wk_lst {a : Addr} (h : B a = some (.lst vs)) (r : Reps G ua ds vs B) : Wk G ua (Itl X.K a) B ds := fun i B' H' u s w => by
  have hq : SqL X.K H' a vs := .of (w.sub _ _ (s _ _ h))
  refine ⟨fun d hd => ?_, fun hn => ⟨vs, hq, List.getElem?_eq_none_iff.mp (r.none hn)⟩⟩
  obtain ⟨v, hv, rv⟩ := r.get hd
  refine ⟨⟨vs, v, hq, hv⟩, fun x H2 y => ?_⟩
  obtain ⟨rfl, y⟩ := y
  have := y vs hq
  rw [hv] at this; cases this
  exact .here w (rv.mono _ _ s)
theorem wk_tup {a : Addr} (h : TupB B a vs) (r : Reps G ua ds vs B) : Wk G ua (Itt X.K a) B ds := fun i B' H' u s w => by
  have hq : SqT X.K H' a vs := ((h.mono s).mono w.sub).sq
  refine ⟨fun d hd => ?_, fun hn => ⟨vs, hq, List.getElem?_eq_none_iff.mp (r.none hn)⟩⟩
  obtain ⟨v, hv, rv⟩ := r.get hd
  refine ⟨⟨vs, v, hq, hv⟩, fun x H2 y => ?_⟩
  obtain ⟨rfl, y⟩ := y
  have := y vs hq
  rw [hv] at this; cases this
  exact .here w (rv.mono _ _ s)
theorem wk_str {x : Str} : Wk G ua (Its x) B (x.cps.toList.map fun c => .str ⟨#[c]⟩) := fun i B' H' u s w => by
  refine ⟨fun d hd => ?_, fun hn => ?_⟩
  · rw [List.getElem?_map] at hd
    obtain ⟨c, hc, rfl⟩ := map_some hd
    have hc' : x.cps[i]? = some c := by rw [← Array.getElem?_toList]; exact hc
    refine ⟨(Array.getElem?_eq_some_iff.mp hc').1, fun v H2 y => ?_⟩
    obtain ⟨rfl, c2, h2, rfl⟩ := y
    rw [hc'] at h2; cases h2
    exact .here w rep_str
  · rw [List.getElem?_eq_none_iff, List.length_map, Array.length_toList] at hn
    exact hn
theorem di_items {tg e : Expr} {m : M} (he : PE X e (tEv G m)) : PI X tg e (tIt G (mItems m)) := by
  refine PI.by fun σ H R h => ?_
  obtain ⟨ua, u, B, env, ds, u', hE, hW, hm, q⟩ := h
  obtain ⟨d, u1, h1, h2⟩ := bnd_some hm
  obtain ⟨l2, rfl⟩ := lft_some h2
  cases d with
  | lst xs =>
    cases l2
    refine ⟨_, pi_list he, ua, u, B, env, _, u', hE, hW, h1, fun v H1 ⟨B1, g1, w1, r1⟩ => ?_⟩
    obtain ⟨a, vs, rfl, h, rs⟩ := r1.lst
    exact ⟨a, rfl, ⟨vs, .of (w1.sub _ _ h)⟩, q _ _ _ g1 w1 (wk_lst h rs)⟩
  | tup xs =>
    cases l2
    refine ⟨_, pi_tup he, ua, u, B, env, _, u', hE, hW, h1, fun v H1 ⟨B1, g1, w1, r1⟩ => ?_⟩
    obtain ⟨a, vs, rfl, h, rs⟩ := r1.tup
    exact ⟨a, rfl, ⟨vs, (h.mono w1.sub).sq⟩, q _ _ _ g1 w1 (wk_tup h rs)⟩
  | str x =>
    cases l2
    refine ⟨_, pi_str he, ua, u, B, env, _, u', hE, hW, h1, fun v H1 ⟨B1, g1, w1, r1⟩ => ?_⟩
    cases r1.str
    exact ⟨_, rfl, q _ _ _ g1 w1 wk_str⟩
  | _ => cases l2
def rangeD (lo : Int) (n : Nat) : List D := (List.range n).map fun i => .int (lo + (i : Nat))
theorem wk_range {lo : Int} {n : Nat} : Wk G ua (Itr lo n) B (rangeD lo n) := fun i B' H' u s w => by
  unfold rangeD
  refine ⟨fun d hd => ?_, fun hn => ?_⟩
  · rw [List.getElem?_map] at hd
    obtain ⟨c, hc, rfl⟩ := map_some hd
    obtain ⟨hi, e⟩ := List.getElem?_eq_some_iff.mp hc
    rw [List.getElem_range] at e
    rw [List.length_range] at hi
    subst e
    refine ⟨hi, fun v H2 y => ?_⟩
    obtain ⟨rfl, rfl⟩ := y
    exact .here w rep_int
  · rw [List.getElem?_eq_none_iff, List.length_map, List.length_range] at hn
    exact hn
def mRange1 (m : M) : MI := fun env u => bnd (m env u) fun d u1 => match d with
  | .int j => if -(2 ^ 62) ≤ j ∧ j < 2 ^ 62 then some (rangeD 0 j.toNat, u1) else none
  | _ => none
theorem di_range1 {tg a : Expr} {m : M} {p pos : Pos} (hg : Gl X "range") (hm : X.mg "range" = none) (ha : PE X a (tEv G m)) (hs : starEach [a] X.env = [(false, eval a X.env)] := by rfl) : PI X tg (.Call (.Name "range" p) [a] [] pos) (tIt G (mRange1 m)) := by
  refine (pi_range1 hg hm (pa_cons ha pa_nil hs) hs).imp fun σ H R h => ?_
  obtain ⟨ua, u, B, env, ds, u', hE, hW, hm, q⟩ := h
  obtain ⟨d, u1, h1, h2⟩ := bnd_some hm
  refine ⟨ua, u, B, env, d, u1, hE, hW, h1, fun v H1 ⟨B1, g1, w1, r1⟩ => ?_⟩
  split at h2
  · split at h2
    · rename_i hj
      cases h2
      cases r1.int
      exact ⟨_, rfl, hj.1, hj.2, q _ _ _ g1 w1 wk_range⟩
    · cases h2
  · cases h2
/-- enumerate of a list -/
def enumD : Nat → List D → List D
  | _, [] => []
  | n, d :: r => .pr [.int n, d] :: enumD (n + 1) r
theorem enumD_get : ∀ (ds : List D) (n i : Nat), (enumD n ds)[i]? = (ds[i]?).map fun d => .pr [.int ((n + i : Nat) : Int), d]
  | [], n, i => by unfold enumD; simp
  | d :: r, n, 0 => by unfold enumD; simp
  | d :: r, n, i + 1 => by
    unfold enumD
    rw [List.getElem?_cons_succ, List.getElem?_cons_succ, enumD_get r (n + 1) i, show n + 1 + i = n + (i + 1) by omega]
theorem wk_enum {a : Addr} (h : B a = some (.lst vs)) (r : Reps G ua ds vs B) : Wk G ua (Ite X.K a) B (enumD 0 ds) := fun i B' H' u s w => by
  have hq : SqL X.K H' a vs := .of (w.sub _ _ (s _ _ h))
  rw [enumD_get]
  refine ⟨fun d hd => ?_, fun hn => ⟨vs, hq, List.getElem?_eq_none_iff.mp (r.none (Option.map_eq_none_iff.mp hn))⟩⟩
  obtain ⟨d', hd', rfl⟩ := map_some hd
  obtain ⟨v, hv, rv⟩ := r.get hd'
  refine ⟨⟨vs, v, hq, hv⟩, fun x H2 y => ?_⟩
  obtain ⟨T, x, rfl, hT, rfl, y⟩ := y
  have := y vs hq
  rw [hv] at this; cases this
  rw [Nat.zero_add]
  exact .pr w hT (.cons rep_int (.cons (rv.mono _ _ s) .nil))
/-- zip of two lists, of two tuples -/
def zipD (ds es : List D) : List D := List.zipWith (fun x y => .pr [x, y]) ds es
theorem zipD_get (ds es : List D) (i : Nat) : (zipD ds es)[i]? = match ds[i]?, es[i]? with | some x, some y => some (.pr [x, y]) | _, _ => none := by
  unfold zipD; rw [List.getElem?_zipWith]; cases ds[i]? <;> cases es[i]? <;> rfl
theorem wk_zipL {a b : Addr} (h : B a = some (.lst vs)) (r : Reps G ua ds vs B) (h2 : B b = some (.lst ws)) (r2 : Reps G ua es ws B) : Wk G ua (Itz X.K a b) B (zipD ds es) := fun i B' H' u s w => by
  have hq : SqL X.K H' a vs := .of (w.sub _ _ (s _ _ h))
  have hq2 : SqL X.K H' b ws := .of (w.sub _ _ (s _ _ h2))
  rw [zipD_get]
  refine ⟨fun d hd => ?_, fun hn => ⟨vs, ws, hq, hq2, ?_⟩⟩
  · split at hd
    · rename_i x y hx hy
      cases hd
      obtain ⟨v, hv, rv⟩ := r.get hx
      obtain ⟨v2, hv2, rv2⟩ := r2.get hy
      refine ⟨⟨vs, ws, v, v2, hq, hq2, hv, hv2⟩, fun x H2 y => ?_⟩
      obtain ⟨T, x, y, rfl, hT, rfl, y1, y2⟩ := y
      have e1 := y1 vs hq
      have e2 := y2 ws hq2
      rw [hv] at e1; cases e1
      rw [hv2] at e2; cases e2
      exact .pr w hT (.cons (rv.mono _ _ s) (.cons (rv2.mono _ _ s) .nil))
    · cases hd
  · cases q1 : ds[i]? with
    | none => exact .inl (List.getElem?_eq_none_iff.mp (r.none q1))
    | some x =>
      cases q2 : es[i]? with
      | none => exact .inr (List.getElem?_eq_none_iff.mp (r2.none q2))
      | some y => rw [q1, q2] at hn; cases hn
theorem wk_zipT {a b : Addr} (h : TupB B a vs) (r : Reps G ua ds vs B) (h2 : TupB B b ws) (r2 : Reps G ua es ws B) : Wk G ua (ItzT X.K a b) B (zipD ds es) := fun i B' H' u s w => by
  have hq : SqT X.K H' a vs := ((h.mono s).mono w.sub).sq
  have hq2 : SqT X.K H' b ws := ((h2.mono s).mono w.sub).sq
  rw [zipD_get]
  refine ⟨fun d hd => ?_, fun hn => ⟨vs, ws, hq, hq2, ?_⟩⟩
  · split at hd
    · rename_i x y hx hy
      cases hd
      obtain ⟨v, hv, rv⟩ := r.get hx
      obtain ⟨v2, hv2, rv2⟩ := r2.get hy
      refine ⟨⟨vs, ws, v, v2, hq, hq2, hv, hv2⟩, fun x H2 y => ?_⟩
      obtain ⟨T, x, y, rfl, hT, rfl, y1, y2⟩ := y
      have e1 := y1 vs hq
      have e2 := y2 ws hq2
      rw [hv] at e1; cases e1
      rw [hv2] at e2; cases e2
      exact .pr w hT (.cons (rv.mono _ _ s) (.cons (rv2.mono _ _ s) .nil))
    · cases hd
  · cases q1 : ds[i]? with
    | none => exact .inl (List.getElem?_eq_none_iff.mp (r.none q1))
    | some x =>
      cases q2 : es[i]? with
      | none => exact .inr (List.getElem?_eq_none_iff.mp (r2.none q2))
      | some y => rw [q1, q2] at hn; cases hn
def mZip (m m2 : M) : MI := fun env u => bnd (m env u) fun d u1 => bnd (m2 env u1) fun e u2 => match d, e with
  | .lst ds, .lst es => some (zipD ds es, u2)
  | .tup ds, .tup es => some (zipD ds es, u2)
  | _, _ => none
theorem di_zip {a b : Expr} {m m2 : M} {p pos tpos : Pos} {elts : List Expr} {kk : Nat} (hg : Gl X "zip") (hm : X.mg "zip" = none) (ha : PE X a (tEv G m)) (hb : PE X b (tEv G m2))
    (hs : starEach [a, b] X.env = (false, eval a X.env) :: starEach [b] X.env := by rfl) (hs2 : starEach [b] X.env = (false, eval b X.env) :: starEach [] X.env := by rfl) (hpl : (backTo pos (starEach [b] X.env)).any (·.1) = false := by rfl) :
    PI X (.Tuple elts kk tpos) (.Call (.Name "zip" p) [a, b] [] pos) (tIt G (mZip m m2)) := by
  refine (pi_zipA hg hm (pa_cons ha (pa_cons hb pa_nil hs2) hs) hs hpl).imp fun σ H R h => ?_
  obtain ⟨ua, u, B, env, ds, u', hE, hW, hm, q⟩ := h
  obtain ⟨d, u1, h1, h2⟩ := bnd_some hm
  obtain ⟨d2, u2, h3, h2⟩ := bnd_some h2
  refine ⟨ua, u, B, env, d, u1, hE, hW, h1, fun v H1 ⟨B1, g1, w1, r1⟩ => ⟨ua, u1, B1, env, d2, u2, hE.grow g1, w1, h3, fun v2 H2 ⟨B2, g2, w2, r2⟩ => ?_⟩⟩
  have r1 := r1.mono _ _ g2.pub
  split at h2
  · cases h2
    obtain ⟨a, vs, rfl, h, rs⟩ := r1.lst
    obtain ⟨b, ws, rfl, h', rs'⟩ := r2.lst
    exact ⟨a, b, vs, ws, rfl, .inl ⟨.of (w2.sub _ _ h), .of (w2.sub _ _ h'), q _ _ _ (g1.trans g2) w2 (wk_zipL h rs h' rs')⟩⟩
  · cases h2
    obtain ⟨a, vs, rfl, h, rs⟩ := r1.tup
    obtain ⟨b, ws, rfl, h', rs'⟩ := r2.tup
    exact ⟨a, b, vs, ws, rfl, .inr ⟨(h.mono w2.sub).sq, (h'.mono w2.sub).sq, q _ _ _ (g1.trans g2) w2 (wk_zipT h rs h' rs')⟩⟩
  · cases h2
end
inductive Tgt where
  | one (i : Nat) | many (is : List Nat) | tree (ts : List (Nat ⊕ List Nat)) | sq (is : List Nat)
def treeIds : List (Nat ⊕ List Nat) → List Nat
  | [] => []
  | .inl i :: r => i :: treeIds r
  | .inr is :: r => is ++ treeIds r
def Tgt.ids : Tgt → List Nat
  | .one i => [i]
  | .many is => is
  | .tree ts => treeIds ts
  | .sq is => is
def gNames : List Nat → TGs
  | [] => gNil
  | i :: r => gCons (gName i) (gNames r)
def gTrees (K : PySem.W.Frag) : List (Nat ⊕ List Nat) → TGs
  | [] => gNil
  | .inl i :: r => gCons (gName i) (gTrees K r)
  | .inr is :: r => gCons (gTup K is.length (gNames is)) (gTrees K r)
def gSq (K : PySem.W.Frag) (n : Nat) (t : TGs) : TG := fun v σ H Q => ∃ a xs, v = .ref a ∧ (SqT K H a xs ∨ SqL K H a xs) ∧ xs.length = n ∧ t xs σ H Q
def gOf (K : PySem.W.Frag) : Tgt → TG
  | .one i => gName i
  | .many is => gTup K is.length (gNames is)
  | .tree ts => gTup K ts.length (gTrees K ts)
  | .sq is => gSq K is.length (gNames is)
def setE : List Sl → List Nat → List D → List Sl
  | env, i :: is, d :: ds => setE (env.set i (Sl.pub d)) is ds
  | env, _, _ => env
def setV : List (Option V) → List Nat → List V → List (Option V)
  | σ, i :: is, v :: vs => setV (σ.set i (some v)) is vs
  | σ, _, _ => σ
theorem gNames_ok : ∀ (is : List Nat) (vs : List V) (σ : L2.St) (H : Hp) (Q : L2.St → Hp → Prop), vs.length = is.length → Q (setV σ is vs) H → gNames is vs σ H Q
  | [], [], σ, H, Q, _, q => ⟨rfl, q⟩
  | [], _ :: _, _, _, _, h, _ => by cases h
  | _ :: _, [], _, _, _, h, _ => by cases h
  | i :: is, v :: vs, σ, H, Q, h, q => ⟨v, vs, rfl, gNames_ok is vs _ H Q (by simpa using h) q⟩
section
variable {K : PySem.W.Frag} {G : Gx K} {ua : Option Addr} {B H : Hp}
theorem setE_ok : ∀ (is : List Nat) (ds : List D) (vs : List V) (env : List Sl) (σ : List (Option V)), EnvOk G ua env σ B H → Reps G ua ds vs B → EnvOk G ua (setE env is ds) (setV σ is vs) B H
  | [], ds, vs, env, σ, e, r => e
  | i :: is, [], vs, env, σ, e, r => by rw [r.of_nil]; exact e
  | i :: is, d :: ds, vs, env, σ, e, r => by
    obtain ⟨v, t, rfl, r1, r2⟩ := r.of_cons
    exact setE_ok is ds t _ _ (e.set r1 i) r2
end
theorem wipe_get (σ : List (Option V)) : ∀ (vs : List Nat) (j : Nat), (wipe σ vs)[j]? = if j ∈ vs then (σ[j]?).map (fun _ => none) else σ[j]?
  | [], j => by unfold wipe; simp
  | v :: vs, j => by
    unfold wipe
    by_cases h : v = j
    · subst h
      rw [if_pos List.mem_cons_self]
      by_cases hl : v < σ.length
      · rw [List.getElem?_set_self (by rw [wipe_length]; exact hl), List.getElem?_eq_getElem hl]; rfl
      · rw [List.getElem?_eq_none (by rw [List.length_set, wipe_length]; omega), List.getElem?_eq_none (by omega)]; rfl
    · rw [List.getElem?_set_ne h, wipe_get σ vs j]
      by_cases hj : j ∈ vs
      · rw [if_pos hj, if_pos (List.mem_cons_of_mem _ hj)]
      · rw [if_neg hj, if_neg (fun z => by rcases List.mem_cons.mp z with z | z; exact h z.symm; exact hj z)]
theorem wipe_set {σ : List (Option V)} {vs : List Nat} {i : Nat} {x : Option V} (h : i ∈ vs) : wipe (σ.set i x) vs = wipe σ vs := by
  apply List.ext_getElem?
  intro j
  rw [wipe_get, wipe_get]
  by_cases hj : j ∈ vs
  · rw [if_pos hj, if_pos hj]
    by_cases e : i = j
    · subst e
      by_cases hl : i < σ.length
      · rw [List.getElem?_set_self hl, List.getElem?_eq_getElem hl]; rfl
      · rw [List.getElem?_eq_none (by rw [List.length_set]; omega), List.getElem?_eq_none (by omega)]
    · rw [List.getElem?_set_ne e]
  · rw [if_neg hj, if_neg hj, List.getElem?_set_ne (fun z => hj (by rw [← z]; exact h))]
theorem wipe_wipe {σ : List (Option V)} {vs : List Nat} : wipe (wipe σ vs) vs = wipe σ vs := by
  apply List.ext_getElem?
  intro j
  rw [wipe_get, wipe_get]
  by_cases hj : j ∈ vs
  · rw [if_pos hj, if_pos hj]; cases σ[j]? <;> rfl
  · rw [if_neg hj, if_neg hj]
theorem wipe_setV {vs : List Nat} : ∀ {is : List Nat} {xs : List V} {σ : List (Option V)}, (∀ i ∈ is, i ∈ vs) → wipe (setV σ is xs) vs = wipe σ vs
  | [], _, _, _ => rfl
  | _ :: _, [], _, _ => rfl
  | i :: is, x :: xs, σ, h => by
    show wipe (setV (σ.set i (some x)) is xs) vs = _
    rw [wipe_setV fun j hj => h j (List.mem_cons_of_mem _ hj), wipe_set (h i List.mem_cons_self)]
theorem setV_keep : ∀ {is : List Nat} {vs : List V} {σ : List (Option V)} (j : Nat) (x : V), (setV σ is vs)[j]? = some (some x) → j ∉ is → σ[j]? = some (some x)
  | [], _, _, _, _, h, _ => h
  | _ :: _, [], _, _, _, h, _ => h
  | i :: is, v :: vs, σ, j, x, h, hj => by
    have := setV_keep (is := is) (vs := vs) (σ := σ.set i (some v)) j x h (fun z => hj (List.mem_cons_of_mem _ z))
    rw [List.getElem?_set_ne (fun z => hj (by rw [z]; exact List.mem_cons_self))] at this
    exact this
def flatN (n : Nat) : D → Option (List D)
  | .tup ds => if ds.length = n then some ds else none
  | .pr ds => if ds.length = n then some ds else none
  | _ => none
theorem flatN_ok {K : PySem.W.Frag} {G : Gx K} {ua : Option Addr} {u : U} {B H : Hp} {n : Nat} {d : D} {v : V} {ds : List D} (w : Wd ua u B H) (r : Rep G ua d v B) (h : flatN n d = some ds) : ∃ a vs, v = .ref a ∧ SqT K H a vs ∧ vs.length = n ∧ Reps G ua ds vs B := by
  cases d with
  | tup xs =>
    dsimp only [flatN] at h
    split at h
    · rename_i hl
      cases h
      obtain ⟨a, vs, rfl, h, rs⟩ := r.tup
      exact ⟨a, vs, rfl, (h.mono w.sub).sq, by rw [← rs.len]; exact hl, rs⟩
    · cases h
  | pr xs =>
    dsimp only [flatN] at h
    split at h
    · rename_i hl
      cases h
      obtain ⟨a, vs, rfl, h, rs⟩ := r.pr
      exact ⟨a, vs, rfl, .of (w.sub _ _ h), by rw [← rs.len]; exact hl, rs⟩
    · cases h
  | _ => cases h
def setT : List Sl → List (Nat ⊕ List Nat) → List D → Option (List Sl)
  | env, [], [] => some env
  | env, .inl i :: r, d :: ds => setT (env.set i (Sl.pub d)) r ds
  | env, .inr is :: r, d :: ds => match flatN is.length d with
    | some xs => setT (setE env is xs) r ds
    | none => none
  | _, _, _ => none
theorem tree_ok {K : PySem.W.Frag} {G : Gx K} {ua : Option Addr} {u : U} {B H : Hp} (w : Wd ua u B H) : ∀ (ts : List (Nat ⊕ List Nat)) (ds : List D) (vs : List V) (env env' : List Sl) (σ : List (Option V)) (Q : L2.St → Hp → Prop), EnvOk G ua env σ B H → Reps G ua ds vs B → setT env ts ds = some env' →
    (∀ σ' : List (Option V), EnvOk G ua env' σ' B H → (∀ vs, (∀ i ∈ treeIds ts, i ∈ vs) → wipe σ' vs = wipe σ vs) → (∀ (j : Nat) x, σ'[j]? = some (some x) → j ∉ treeIds ts → σ[j]? = some (some x)) → Q σ' H) → gTrees K ts vs σ H Q
  | [], [], vs, env, env', σ, Q, e, r, h, q => by
    cases h
    rw [r.of_nil]
    exact ⟨rfl, q σ e (fun _ _ => rfl) fun _ _ h _ => h⟩
  | [], _ :: _, vs, env, env', σ, Q, e, r, h, q => by cases h
  | .inl i :: ts, [], vs, env, env', σ, Q, e, r, h, q => by cases h
  | .inr is :: ts, [], vs, env, env', σ, Q, e, r, h, q => by cases h
  | .inl i :: ts, d :: ds, vs, env, env', σ, Q, e, r, h, q => by
    obtain ⟨v, t, rfl, r1, r2⟩ := r.of_cons
    refine ⟨v, t, rfl, ?_⟩
    refine tree_ok w ts ds t (env.set i (Sl.pub d)) env' (σ.set i (some v)) Q (e.set r1 i) r2 h fun σ' e' hw hk => q σ' e' (fun vs hv => ?_) fun j x hx hj => ?_
    · rw [hw vs (fun j hj => hv j (List.mem_cons_of_mem _ hj)), wipe_set (hv i List.mem_cons_self)]
    · have := hk j x hx (fun z => hj (List.mem_cons_of_mem _ z))
      rw [List.getElem?_set_ne (fun z => hj (by rw [z]; exact List.mem_cons_self))] at this
      exact this
  | .inr is :: ts, d :: ds, vs, env, env', σ, Q, e, r, h, q => by
    obtain ⟨v, t, rfl, r1, r2⟩ := r.of_cons
    have h : (match flatN is.length d with | some xs => setT (setE env is xs) ts ds | none => none) = some env' := h
    split at h
    · rename_i xs hf
      obtain ⟨a, ws, rfl, hs, hl, rs⟩ := flatN_ok w r1 hf
      refine ⟨_, t, rfl, a, ws, rfl, hs, hl, gNames_ok is ws σ H _ hl ?_⟩
      refine tree_ok w ts ds t (setE env is xs) env' (setV σ is ws) Q (setE_ok is xs ws env σ e rs) r2 h fun σ' e' hw hk => q σ' e' (fun vs hv => ?_) fun j x hx hj => ?_
      · rw [hw vs (fun j hj => hv j (List.mem_append_right _ hj)), wipe_setV fun j hj => hv j (List.mem_append_left _ hj)]
      · exact setV_keep j x (hk j x hx (fun z => hj (List.mem_append_right _ z))) fun z => hj (List.mem_append_left _ z)
    · cases h
def flatS (n : Nat) : D → Option (List D)
  | .tup ds => if ds.length = n then some ds else none
  | .lst ds => if ds.length = n then some ds else none
  | .pr ds => if ds.length = n then some ds else none
  | _ => none
theorem flatS_ok {K : PySem.W.Frag} {G : Gx K} {ua : Option Addr} {u : U} {B H : Hp} {n : Nat} {d : D} {v : V} {ds : List D} (w : Wd ua u B H) (r : Rep G ua d v B) (h : flatS n d = some ds) : ∃ a vs, v = .ref a ∧ (SqT K H a vs ∨ SqL K H a vs) ∧ vs.length = n ∧ Reps G ua ds vs B := by
  cases d with
  | tup xs =>
    dsimp only [flatS] at h
    split at h
    · rename_i hl
      cases h
      obtain ⟨a, vs, rfl, h, rs⟩ := r.tup
      exact ⟨a, vs, rfl, .inl (h.mono w.sub).sq, by rw [← rs.len]; exact hl, rs⟩
    · cases h
  | lst xs =>
    dsimp only [flatS] at h
    split at h
    · rename_i hl
      cases h
      obtain ⟨a, vs, rfl, h, rs⟩ := r.lst
      exact ⟨a, vs, rfl, .inr (.of (w.sub _ _ h)), by rw [← rs.len]; exact hl, rs⟩
    · cases h
  | pr xs =>
    dsimp only [flatS] at h
    split at h
    · rename_i hl
      cases h
      obtain ⟨a, vs, rfl, h, rs⟩ := r.pr
      exact ⟨a, vs, rfl, .inl (.of (w.sub _ _ h)), by rw [← rs.len]; exact hl, rs⟩
    · cases h
  | _ => cases h
def bindT : Tgt → D → List Sl → Option (List Sl)
  | .one i, d, env => some (env.set i (Sl.pub d))
  | .many is, .tup ds, env => if ds.length = is.length then some (setE env is ds) else none
  | .many is, .pr ds, env => if ds.length = is.length then some (setE env is ds) else none
  | .tree ts, d, env => match flatN ts.length d with
    | some ds => setT env ts ds
    | none => none
  | .sq is, d, env => match flatS is.length d with
    | some ds => some (setE env is ds)
    | none => none
  | _, _, _ => none
theorem bindT_ok {K : PySem.W.Frag} {G : Gx K} {ua : Option Addr} {u : U} {B H : Hp} {t : Tgt} {d : D} {v : V} {env env' : List Sl} {σ : List (Option V)} {Q : L2.St → Hp → Prop} (e : EnvOk G ua env σ B H) (w : Wd ua u B H) (r : Rep G ua d v B) (b : bindT t d env = some env')
    (q : ∀ σ' : List (Option V), EnvOk G ua env' σ' B H → (∀ vs, (∀ i ∈ t.ids, i ∈ vs) → wipe σ' vs = wipe σ vs) → (∀ (j : Nat) x, σ'[j]? = some (some x) → j ∉ t.ids → σ[j]? = some (some x)) → Q σ' H) : gOf K t v σ H Q := by
  cases t with
  | one i =>
    unfold bindT at b; cases b
    refine q (σ.set i (some v)) (e.set r i) (fun vs h => wipe_set (h i (by simp [Tgt.ids]))) fun j x hx hj => ?_
    rw [List.getElem?_set_ne (fun z => hj (by simp [Tgt.ids, z]))] at hx
    exact hx
  | many is =>
    cases d with
    | tup ds =>
      dsimp only [bindT] at b
      split at b
      · rename_i hl
        cases b
        obtain ⟨a, vs, rfl, h, rs⟩ := r.tup
        have hlv : vs.length = is.length := by rw [← rs.len]; exact hl
        refine ⟨a, vs, rfl, (h.mono w.sub).sq, hlv, gNames_ok is vs σ H Q hlv (q _ (setE_ok is ds vs env σ e rs) (fun ws h => wipe_setV h) ?_)⟩
        clear q e hl hlv h rs
        induction is generalizing σ vs with
        | nil => intro j x hx _; exact hx
        | cons i is ih =>
          intro j x hx hj
          cases vs with
          | nil => exact hx
          | cons v vs =>
            have hj' : j ∉ i :: is := hj
            have := ih (σ := σ.set i (some v)) (vs := vs) j x hx (fun z => hj' (List.mem_cons_of_mem _ z))
            rw [List.getElem?_set_ne (fun z => hj' (by rw [z]; exact List.mem_cons_self))] at this
            exact this
      · cases b
    | pr ds =>
      dsimp only [bindT] at b
      split at b
      · rename_i hl
        cases b
        obtain ⟨a, vs, rfl, h, rs⟩ := r.pr
        have hlv : vs.length = is.length := by rw [← rs.len]; exact hl
        refine ⟨a, vs, rfl, .of (w.sub _ _ h), hlv, gNames_ok is vs σ H Q hlv (q _ (setE_ok is ds vs env σ e rs) (fun ws h => wipe_setV h) ?_)⟩
        clear q e hl hlv h rs
        induction is generalizing σ vs with
        | nil => intro j x hx _; exact hx
        | cons i is ih =>
          intro j x hx hj
          cases vs with
          | nil => exact hx
          | cons v vs =>
            have hj' : j ∉ i :: is := hj
            have := ih (σ := σ.set i (some v)) (vs := vs) j x hx (fun z => hj' (List.mem_cons_of_mem _ z))
            rw [List.getElem?_set_ne (fun z => hj' (by rw [z]; exact List.mem_cons_self))] at this
            exact this
      · cases b
    | _ => cases b
  | tree ts =>
    unfold bindT at b
    dsimp only at b
    split at b
    · rename_i ds hf
      obtain ⟨a, vs, rfl, hs, hl, rs⟩ := flatN_ok w r hf
      exact ⟨a, vs, rfl, hs, hl, tree_ok w ts ds vs env env' σ Q e rs b q⟩
    · cases b
  | sq is =>
    unfold bindT at b
    dsimp only at b
    split at b
    · rename_i ds hf
      cases b
      obtain ⟨a, vs, rfl, hs, hl, rs⟩ := flatS_ok w r hf
      exact ⟨a, vs, rfl, hs, hl, gNames_ok is vs σ H Q hl (q _ (setE_ok is ds vs env σ e rs) (fun ws h => wipe_setV h) fun j x hx hj => setV_keep j x hx hj)⟩
    · cases b
end Dv
namespace Dv
open PySem PySem.Spec PyProof.Rows L2
def compL (f : D → U → Option (Option D × U)) : List D → U → Option (List D × U)
  | [], u => some ([], u)
  | d :: ds, u => bnd (f d u) fun o u1 => bnd (compL f ds u1) fun r u2 => some (match o with | some x => x :: r | none => r, u2)
def turnL (t : Tgt) (own : List Nat) (env : List Sl) (mc : MB) (me : M) : D → U → Option (Option D × U) := fun d u => match bindT t d (wipeE env own) with
  | none => none
  | some env' => bnd (mc env' u) fun b u1 => if b = true then bnd (me env' u1) fun x u2 => some (some x, u2) else some (none, u1)
def mLc (t : Tgt) (own : List Nat) (mi : MI) (mc : MB) (me : M) : M := fun env u => bnd (mi env u) fun ds u1 => bnd (compL (turnL t own env mc me) ds u1) fun r u2 => if r.length ≤ sizeLine then some (.lst r, u2) else none
def mYes : MB := fun _ u => some (true, u)
theorem Grow.put {ua : Option Addr} {B H B' H' : Hp} {p : Addr} {o : HO} (g : Grow ua B H B' H') (h : H p = none) : Grow ua B H B' (upd H' p o) := by
  refine ⟨fun a x e n => ?_, fun a e => ?_, g.pub, g.new⟩
  · rw [upd_ne (ne_of_none e h)]; exact g.keep a x e n
  · by_cases q : a = p
    · subst q; exact h
    · rw [upd_ne q] at e; exact g.live a e
/-- one's own object is shown to all -/
theorem Grow.show {ua : Option Addr} {B H B' H' : Hp} {p : Addr} {o : HO} (g : Grow ua B H B' H') (h : H p = none) (hb : B' p = none) : Grow ua B H (upd B' p o) H' := by
  refine ⟨g.keep, g.live, fun a x e => same_new hb a x (g.pub a x e), fun a x e => ?_⟩
  by_cases q : a = p
  · subst q; exact .inr h
  · rw [upd_ne q] at e; exact g.new a x e
theorem Wd.show {ua : Option Addr} {u : U} {B H : Hp} {p : Addr} {o : HO} (w : Wd ua u B H) (h : H p = some o) (n : ua ≠ some p) : Wd ua u (upd B p o) H := by
  refine ⟨fun a x e => ?_, fun a e => ?_⟩
  · by_cases q : a = p
    · subst q; rw [upd_same] at e; cases e; exact h
    · rw [upd_ne q] at e; exact w.sub a x e
  · rw [upd_ne (fun z => n (by rw [← z]; exact e))]; exact w.urn a e
theorem Grow.none_of {ua : Option Addr} {B H B' H' : Hp} {p : Addr} {o : HO} (g : Grow ua B H B' H') (h : H p = some o) (hb : B p = none) : B' p = none := by
  cases q : B' p with
  | none => rfl
  | some x =>
    rcases g.new p x q with z | z
    · rw [z] at hb; cases hb
    · rw [z] at h; cases h
section
variable {X : Cx} {G : Gx X.K} {mi : MI} {mc : MB} {me : M}
theorem lc_inner {t : Tgt} {own : List Nat} {σ : L2.St} {Q : VK} {ua : Option Addr} {u1 u' : U} {B1 H1 : Hp} {env : List Sl} {J : It} {ds r : List D} (ht : ∀ i ∈ t.ids, i ∈ own) (hE1 : EnvOk G ua env σ B1 H1) (w1 : Wd ua u1 B1 H1) (wk : Wk G ua J B1 ds)
    (h3 : compL (turnL t own env mc me) ds u1 = some (r, u')) (hr : r.length ≤ sizeLine) (q : ∀ v H', Aft G ua B1 H1 u' (.lst r) v H' → Q v H') :
    ∀ D, H1 D = none → ∃ W : Nat → Nat → Hp → Prop, (∃ m, W 0 m (upd H1 D (.lst []))) ∧ ∀ i m H, W i m H →
  (J.stop i H ∧ Q (.ref D) H) ∨ (J.go i H ∧ ∃ Nx : Hp → Prop, (∀ H', Nx H' → ∃ m', m' < m ∧ W (i + 1) m' H') ∧ ∀ x H', J.yld i H x H' → gOf X.K t x (wipe σ own) H' fun σ2 H2 => wipe σ2 own = wipe σ own ∧ tTst G mc σ2 H2 fun b H3 =>
    if b = true then tEv G me σ2 H3 fun y H4 => ∃ acc, H4 D = some (.lst acc) ∧ acc.length < sizeLine ∧ Nx (upd H4 D (.lst (acc ++ [y]))) else Nx H3) := by
  intro Dp hD
  refine ⟨fun i m H' => m = ds.length - i ∧ i ≤ ds.length ∧ ∃ B' uu done vs rest, Grow ua B1 H1 B' H' ∧ Wd ua uu B' H' ∧ H' Dp = some (.lst vs) ∧ B' Dp = none ∧ Reps G ua done vs B' ∧ compL (turnL t own env mc me) (ds.drop i) uu = some (rest, u') ∧ done ++ rest = r,
    ⟨ds.length, by omega, by omega, B1, u1, [], [], r, .own1 w1 hD, w1.own1 hD, upd_same, w1.none_of hD, .nil, h3, rfl⟩, ?_⟩
  rintro i m H' ⟨rfl, hi, B', uu, done, vs, rest, g2, w2, hv, hb, rs, hc, hcat⟩
  have sB : Same B1 B' := g2.pub
  have nu : ua ≠ some Dp := w1.ne_urn hD
  have hk := wk i B' H' uu sB w2
  by_cases hlt : i < ds.length
  · have hd : ds[i]? = some ds[i] := List.getElem?_eq_getElem hlt
    obtain ⟨hgo, hy⟩ := hk.1 _ hd
    rw [List.drop_eq_getElem_cons hlt] at hc
    obtain ⟨o, u3, c1, c2⟩ := bnd_some (show bnd (turnL t own env mc me ds[i] uu) _ = _ from hc)
    obtain ⟨rest', u4, c3, c4⟩ := bnd_some c2
    refine .inr ⟨hgo, fun H2 => ∃ B' uu done vs rest, Grow ua B1 H1 B' H2 ∧ Wd ua uu B' H2 ∧ H2 Dp = some (.lst vs) ∧ B' Dp = none ∧ Reps G ua done vs B' ∧ compL (turnL t own env mc me) (ds.drop (i + 1)) uu = some (rest, u') ∧ done ++ rest = r,
      fun H2 h2 => ⟨ds.length - (i + 1), by omega, rfl, hlt, h2⟩, fun x H2 y => ?_⟩
    obtain ⟨B2, g3, w3, r3⟩ := hy x H2 y
    have hv2 : H2 Dp = some (.lst vs) := g3.keep _ _ hv nu
    have hb2 : B2 Dp = none := g3.none_of hv hb
    have rs2 := rs.mono _ _ g3.pub
    have hE2 : EnvOk G ua (wipeE env own) (wipe σ own) B2 H2 := ((hE1.wipe own).grow g2).grow g3
    unfold turnL at c1
    split at c1
    · cases c1
    · rename_i env' hbt
      refine bindT_ok hE2 w3 r3 hbt fun σ' hE3 hwp hback => ⟨by rw [hwp own ht, wipe_wipe], ?_⟩
      obtain ⟨b, u5, c5, c6⟩ := bnd_some c1
      refine ⟨ua, uu, B2, env', b, u5, hE3, w3, c5, fun H3 ⟨B3, g4, w4⟩ => ?_⟩
      have hv3 : H3 Dp = some (.lst vs) := g4.keep _ _ hv2 nu
      have hb3 : B3 Dp = none := g4.none_of hv2 hb2
      have rs3 := rs2.mono _ _ g4.pub
      have gg := g2.trans (g3.trans g4)
      cases b with
      | true =>
        rw [if_pos rfl] at c6
        refine iteT ?_
        obtain ⟨x', u6, c7, c8⟩ := bnd_some c6
        cases c8
        cases c4
        refine ⟨ua, u5, B3, env', x', u3, hE3.grow g4, w4, c7, fun yv H4 ⟨B4, g5, w5, r5⟩ => ?_⟩
        have hv4 : H4 Dp = some (.lst vs) := g5.keep _ _ hv3 nu
        have hb4 : B4 Dp = none := g5.none_of hv3 hb3
        have rs4 := rs3.mono _ _ g5.pub
        refine ⟨vs, hv4, ?_, B4, u3, done ++ [x'], vs ++ [yv], rest', (gg.trans g5).put hD, w5.put hb4 nu, upd_same, hb4, rs4.append (.cons r5 .nil), c3, by rw [← hcat]; simp⟩
        have := congrArg List.length hcat
        rw [List.length_append, List.length_cons] at this
        rw [← rs4.len]
        omega
      | false =>
        rw [if_neg Bool.false_ne_true] at c6
        refine iteF ?_
        cases c6
        cases c4
        exact ⟨B3, _, done, vs, rest', gg, w4, hv3, hb3, rs3, c3, hcat⟩
  · have e : i = ds.length := by omega
    subst e
    rw [List.drop_length] at hc
    cases hc
    rw [List.append_nil] at hcat
    subst hcat
    refine .inl ⟨hk.2 (List.getElem?_eq_none (Nat.le_refl _)), q _ _ ⟨upd B' Dp (.lst vs), g2.show hD hb, w2.show hv nu, ?_⟩⟩
    unfold Rep
    exact ⟨Dp, vs, rfl, upd_same, rs.mono _ _ (same_new hb)⟩
theorem lc_read {t : Tgt} {own : List Nat} {σ : L2.St} {H : Hp} {Q : VK} (ht : ∀ i ∈ t.ids, i ∈ own) (h : tEv G (mLc t own mi mc me) σ H Q) : tLc (tIt G mi) (gOf X.K t) (tTst G mc) (tEv G me) own σ H Q := by
  obtain ⟨ua, u, B, env, d, u', hE, hW, hm, q⟩ := h
  obtain ⟨ds, u1, h1, h2⟩ := bnd_some hm
  obtain ⟨r, u2, h3, h4⟩ := bnd_some h2
  split at h4
  · cases h4
    exact ⟨ua, u, B, env, ds, u1, hE, hW, h1, fun J B1 H1 g1 w1 wk => lc_inner ht (hE.grow g1) w1 wk h3 ‹_› fun v H' a => q v H' (.up g1 a)⟩
  · cases h4
theorem dts_no : PTs X [] (tTst G mYes) := ⟨fun pins s σ H Q I h => by
  obtain ⟨ua, u, B, env, b, u', hE, hW, hm, q⟩ := h
  cases hm
  exact pts_nil.run pins s σ H Q I (q _ ⟨B, .refl, hW⟩)⟩
theorem dts_one {c : Expr} (h : PT X c (tTst G mc)) : PTs X [c] (tTst G mc) := pts_one h
variable {elt tg iter : Expr} {ifs : List Expr} {scope : Scope} {own : List (Str × Nat)} {pos : Pos}
theorem dv_lc (t : Tgt) (ids : List Nat) (hc : X.calm = true) (hN : X.N.Nodup) (hi : PI X tg iter (tIt G mi)) (ok : BlkOk X.N X.env.scope scope own) (hid : own.map (·.2) = ids) (ht : ∀ i ∈ t.ids, i ∈ ids)
    (hg : ∀ (s : Shared) (H : Hp) (C : Addr) (cl : List (Str × Addr)) (fp : List Addr), PG (X.blk s H scope (compEnvC scope cl C X.env) fp) tg (gOf X.K t)) (hq : ∀ (s : Shared) (H : Hp) (C : Addr) (cl : List (Str × Addr)) (fp : List Addr), PTs (X.blk s H scope (compEnvC scope cl C X.env) fp) ifs (tTst (K := X.K) G mc))
    (he : ∀ (s : Shared) (H : Hp) (C : Addr) (cl : List (Str × Addr)) (fp : List Addr), PE (X.blk s H scope (compEnvC scope cl C X.env) fp) elt (tEv (K := X.K) G me)) (hs : ∀ x, foldedSetIterable iter X.env x = pure x := by intro _; rfl) :
    PE X (.ListComp elt [⟨tg, iter, ifs, 0⟩] scope pos) (tEv G (mLc t ids mi mc me)) := by
  subst hid
  exact (pe_lc hc hN hi ok hg hq he hs).imp fun _ _ _ h => lc_read ht h
end
inductive Fl where
  | nx (env : List Sl) | rt (d : D) | er (env : List Sl) (c : Str) (ns : List Str) (xs : List D)
/-- an error in the air: its class, its dict, its fields -/
def ErR {K : PySem.W.Frag} (G : Gx K) (ua : Option Addr) (c : Str) (ns : List Str) (xs : List D) (cls : Value) (d : Option Addr) (B : Hp) : Prop := ∃ C vs, G.exc c = some C ∧ cls = .ref C ∧ ErD B ns vs d ∧ Reps G ua xs vs B
theorem ErR.mono {K : PySem.W.Frag} {G : Gx K} {ua : Option Addr} {c : Str} {ns : List Str} {xs : List D} {cls : Value} {d : Option Addr} {B B' : Hp} (h : ErR G ua c ns xs cls d B) (s : Same B B') : ErR G ua c ns xs cls d B' := by
  obtain ⟨C, vs, h1, h2, h3, h4⟩ := h
  exact ⟨C, vs, h1, h2, h3.mono s, h4.mono _ _ s⟩
abbrev MS := List Sl → U → Option (Fl × U)
def OwnNew (env : List Sl) (σ : List (Option V)) (H0 : Hp) : Prop := ∀ (i : Nat) ds p, env[i]? = some (Sl.own ds) → σ[i]? = some (some (V.ref p)) → H0 p = none
theorem OwnNew.set {env : List Sl} {σ : List (Option V)} {H0 : Hp} (h : OwnNew env σ H0) (i : Nat) (d : D) (v : V) : OwnNew (env.set i (Sl.pub d)) (σ.set i (some v)) H0 := fun j ds p h1 h2 => by
  rcases get_set h1 with ⟨rfl, q⟩ | ⟨q, h1⟩
  · cases q
  · rw [List.getElem?_set_ne (fun z => q z.symm)] at h2
    exact h j ds p h1 h2
def tSt {K : PySem.W.Frag} (G : Gx K) (W : WX) (m : MS) : TS := fun Dn σ H => ∃ ua u B env fl u' B0 H0, Grow ua B0 H0 B H ∧ OwnNew env σ H0 ∧ EnvOk G ua env σ B H ∧ Wd ua u B H ∧ m env u = some (fl, u') ∧ match fl with
  | .nx env' => ∀ (σ' : List (Option V)) B' H', Grow ua B0 H0 B' H' → OwnNew env' σ' H0 → EnvOk G ua env' σ' B' H' → Wd ua u' B' H' → Dn.nx σ' H'
  | .rt d => ∀ v B' H', Grow ua B0 H0 B' H' → Wd ua u' B' H' → Rep G ua d v B' → Dn.rt v H'
  | .er env' c ns xs => ∀ (σ' : List (Option V)) B' H' cls d, Grow ua B0 H0 B' H' → OwnNew env' σ' H0 → EnvOk G ua env' σ' B' H' → Wd ua u' B' H' → ErR G ua c ns xs cls d B' → W cls d σ' H'
theorem _root_.L2.PS.imp {X : Cx} {st : Stmt} {t t' : TS} (h : PS X st t) (i : ∀ Dn σ H, t' Dn σ H → t Dn σ H) : PS X st t' := ⟨fun pins s σ H Q I q => h.run pins s σ H Q I (i Q σ H q)⟩
theorem _root_.L2.PSs.imp {X : Cx} {st : List Stmt} {t t' : TS} (h : PSs X st t) (i : ∀ Dn σ H, t' Dn σ H → t Dn σ H) : PSs X st t' := ⟨fun pins s σ H Q I q => h.run pins s σ H Q I (i Q σ H q)⟩
section
variable {X : Cx} {G : Gx X.K} {W : WX} {a b e : Expr} {me ma mb : M} {mc : MB} {pos : Pos} {st : Stmt} {sts : List Stmt} {m1 m2 : MS}
def sNil : MS := fun env u => some (.nx env, u)
def sCons (a b : MS) : MS := fun env u => bnd (a env u) fun fl u1 => match fl with
  | .nx env' => b env' u1
  | fl => some (fl, u1)
theorem dss_nil : PSs X [] (tSt G W sNil) := pss_nil.imp fun Dn σ H h => by
  obtain ⟨ua, u, B, env, fl, u', B0, H0, hg, hO, hE, hW, hm, q⟩ := h
  cases hm
  exact q σ B H hg hO hE hW
theorem dss_cons (h1 : PS X st (tSt G W m1)) (h2 : PSs X sts (tSt G W m2)) : PSs X (st :: sts) (tSt G W (sCons m1 m2)) := (pss_cons h1 h2).imp fun Dn σ H h => by
  obtain ⟨ua, u, B, env, fl, u', B0, H0, hg, hO, hE, hW, hm, q⟩ := h
  obtain ⟨f1, u1, c1, c2⟩ := bnd_some hm
  refine ⟨ua, u, B, env, f1, u1, B0, H0, hg, hO, hE, hW, c1, ?_⟩
  cases f1 with
  | nx env' => exact fun σ' B' H' g o e w => ⟨ua, u1, B', env', fl, u', B0, H0, g, o, e, w, c2, q⟩
  | rt d => cases c2; exact q
  | er env' c ns xs => cases c2; exact q
def sSet (i : Nat) (m : M) : MS := fun env u => bnd (m env u) fun d u1 => some (.nx (env.set i (Sl.pub d)), u1)
theorem ds_set (i : Nat) {x : Str} {pos' : Pos} (hN : X.N.Nodup) (he : PE X e (tEv G me)) (hi : X.N[i]? = some x := by rfl) (hx : Loc X.env.scope x := by first | exact Or.inl rfl | exact Or.inr rfl) (hs : swapsWith e (some (.Name x pos')) pos.line X.env = pure false := by rfl)
    (hf : X.fn x = true ∨ X.env.scope.names.lookup x = some .local := by first | exact .inl rfl | exact .inr rfl | assumption) : PS X (.Assign [.Name x pos'] e pos) (tSt G W (sSet i me)) := (ps_set hN hi hx he hs hf).imp fun Dn σ H h => by
  obtain ⟨ua, u, B, env, fl, u', B0, H0, hg, hO, hE, hW, hm, q⟩ := h
  obtain ⟨d, u1, c1, c2⟩ := bnd_some hm
  cases c2
  exact ⟨ua, u, B, env, d, _, hE, hW, c1, fun v H1 ⟨B1, g1, w1, r1⟩ => q _ B1 H1 (hg.trans g1) (hO.set i d v) ((hE.grow g1).set r1 i) w1⟩
theorem ds_setLc (i : Nat) {y : Str} {py : Pos} {elt tg iter : Expr} {ifs : List Expr} {scope : Scope} {own : List (Str × Nat)} {spos : Pos} {mi : MI} (t : Tgt) (ids : List Nat) (hc : X.calm = true) (hN : X.N.Nodup)
    (hsw : swapsWith (.ListComp elt [⟨tg, iter, ifs, 0⟩] scope pos) (some (.Name y py)) spos.line X.env = pure true) (hi : PI X tg iter (tIt G mi)) (ok : BlkOk X.N X.env.scope scope own) (hid : own.map (·.2) = ids) (ht : ∀ i ∈ t.ids, i ∈ ids)
    (hg : ∀ (s : Shared) (H : Hp) (C : Addr) (cl : List (Str × Addr)) (fp : List Addr), PG (X.blk s H scope (compEnvC scope cl C X.env) fp) tg (gOf X.K t)) (hq : ∀ (s : Shared) (H : Hp) (C : Addr) (cl : List (Str × Addr)) (fp : List Addr), PTs (X.blk s H scope (compEnvC scope cl C X.env) fp) ifs (tTst (K := X.K) G mc))
    (he : ∀ (s : Shared) (H : Hp) (C : Addr) (cl : List (Str × Addr)) (fp : List Addr), PE (X.blk s H scope (compEnvC scope cl C X.env) fp) elt (tEv (K := X.K) G me)) (hy : X.N[i]? = some y := by rfl) (hyl : X.env.scope.names.lookup y = some .local := by rfl) (hs : ∀ x, foldedSetIterable iter X.env x = pure x := by intro _; rfl) :
    PS X (.Assign [.Name y py] (.ListComp elt [⟨tg, iter, ifs, 0⟩] scope pos) spos) (tSt G W (sSet i (mLc t ids mi mc me))) := by
  subst hid
  refine (ps_setLc hc hN hy hyl hsw hi ok hg hq he hs).imp fun Dn σ H h => ?_
  obtain ⟨ua, u, B, env, fl, u', B0, H0, hg, hO, hE, hW, hm, q⟩ := h
  obtain ⟨d, u1, c1, c2⟩ := bnd_some hm
  cases c2
  exact lc_read ht ⟨ua, u, B, env, d, _, hE, hW, c1, fun v H1 ⟨B1, g1, w1, r1⟩ => q _ B1 H1 (hg.trans g1) (hO.set i d v) ((hE.grow g1).set r1 i) w1⟩
/-- a, b = a tuple -/
def sTgt (t : Tgt) (m : M) : MS := fun env u => bnd (m env u) fun d u1 => match bindT t d env with
  | some env' => some (.nx env', u1)
  | none => none
theorem setE_own : ∀ {is : List Nat} {xs : List D} {env : List Sl} (j : Nat) (ds : Oo), (setE env is xs)[j]? = some (Sl.own ds) → xs.length = is.length → env[j]? = some (Sl.own ds) ∧ j ∉ is
  | [], _, _, _, _, h, _ => ⟨h, by simp⟩
  | _ :: _, [], _, _, _, _, hl => by cases hl
  | i :: is, x :: xs, env, j, ds, h, hl => by
    obtain ⟨h1, h2⟩ := setE_own (is := is) (xs := xs) (env := env.set i (Sl.pub x)) j ds h (by simpa using hl)
    rcases get_set h1 with ⟨rfl, q⟩ | ⟨q, h3⟩
    · cases q
    · exact ⟨h3, fun z => by rcases List.mem_cons.mp z with z | z; exact q z; exact h2 z⟩
theorem flatN_len {n : Nat} {d : D} {xs : List D} (h : flatN n d = some xs) : xs.length = n := by
  cases d with
  | tup ys => dsimp only [flatN] at h; split at h; (cases h; assumption); cases h
  | pr ys => dsimp only [flatN] at h; split at h; (cases h; assumption); cases h
  | _ => cases h
theorem flatS_len {n : Nat} {d : D} {xs : List D} (h : flatS n d = some xs) : xs.length = n := by
  cases d with
  | tup ys => dsimp only [flatS] at h; split at h; (cases h; assumption); cases h
  | lst ys => dsimp only [flatS] at h; split at h; (cases h; assumption); cases h
  | pr ys => dsimp only [flatS] at h; split at h; (cases h; assumption); cases h
  | _ => cases h
theorem setT_own : ∀ {ts : List (Nat ⊕ List Nat)} {xs : List D} {env env' : List Sl} (j : Nat) (ds : Oo), setT env ts xs = some env' → env'[j]? = some (Sl.own ds) → env[j]? = some (Sl.own ds) ∧ j ∉ treeIds ts
  | [], [], _, _, _, _, b, h => by cases b; exact ⟨h, by simp [treeIds]⟩
  | [], _ :: _, _, _, _, _, b, _ => by cases b
  | .inl _ :: _, [], _, _, _, _, b, _ => by cases b
  | .inr _ :: _, [], _, _, _, _, b, _ => by cases b
  | .inl i :: ts, x :: xs, env, env', j, ds, b, h => by
    obtain ⟨h1, h2⟩ := setT_own (ts := ts) (xs := xs) (env := env.set i (Sl.pub x)) j ds b h
    rcases get_set h1 with ⟨rfl, q⟩ | ⟨q, h3⟩
    · cases q
    · exact ⟨h3, fun z => by rcases List.mem_cons.mp z with z | z; exact q z; exact h2 z⟩
  | .inr is :: ts, x :: xs, env, env', j, ds, b, h => by
    have b : (match flatN is.length x with | some ys => setT (setE env is ys) ts xs | none => none) = some env' := b
    split at b
    · rename_i ys hf
      obtain ⟨h1, h2⟩ := setT_own (ts := ts) (xs := xs) (env := setE env is ys) j ds b h
      obtain ⟨h3, h4⟩ := setE_own j ds h1 (flatN_len hf)
      exact ⟨h3, fun z => (List.mem_append.mp z).elim h4 h2⟩
    · cases b
theorem bindT_own {t : Tgt} {d : D} {env env' : List Sl} (b : bindT t d env = some env') (j : Nat) (ds : Oo) (h : env'[j]? = some (Sl.own ds)) : env[j]? = some (Sl.own ds) ∧ j ∉ t.ids := by
  cases t with
  | one i =>
    unfold bindT at b; cases b
    rcases get_set h with ⟨rfl, q⟩ | ⟨q, h⟩
    · cases q
    · exact ⟨h, by simp [Tgt.ids, q]⟩
  | many is =>
    cases d with
    | tup xs =>
      dsimp only [bindT] at b
      split at b
      · rename_i hl
        cases b
        show env[j]? = some (Sl.own ds) ∧ j ∉ is
        induction is generalizing env xs with
        | nil => exact ⟨h, by simp⟩
        | cons i is ih =>
          cases xs with
          | nil => cases hl
          | cons x xs =>
            obtain ⟨h1, h2⟩ := ih (env := env.set i (Sl.pub x)) xs (by simpa using hl) h
            rcases get_set h1 with ⟨rfl, q⟩ | ⟨q, h3⟩
            · cases q
            · exact ⟨h3, fun z => by rcases List.mem_cons.mp z with z | z; exact q z; exact h2 z⟩
      · cases b
    | pr xs =>
      dsimp only [bindT] at b
      split at b
      · rename_i hl
        cases b
        show env[j]? = some (Sl.own ds) ∧ j ∉ is
        induction is generalizing env xs with
        | nil => exact ⟨h, by simp⟩
        | cons i is ih =>
          cases xs with
          | nil => cases hl
          | cons x xs =>
            obtain ⟨h1, h2⟩ := ih (env := env.set i (Sl.pub x)) xs (by simpa using hl) h
            rcases get_set h1 with ⟨rfl, q⟩ | ⟨q, h3⟩
            · cases q
            · exact ⟨h3, fun z => by rcases List.mem_cons.mp z with z | z; exact q z; exact h2 z⟩
      · cases b
    | _ => cases b
  | tree ts =>
    unfold bindT at b
    dsimp only at b
    split at b
    · exact setT_own j ds b h
    · cases b
  | sq is =>
    unfold bindT at b
    dsimp only at b
    split at b
    · rename_i xs hf
      cases b
      exact setE_own j ds h (flatS_len hf)
    · cases b
theorem ds_tgt (t : Tgt) {tg : Expr} (he : PE X e (tEv G me)) (hg : PG X tg (gOf X.K t)) (hs : swapsWithSole [tg] e pos.line X.env = pure false := by rfl) (hw : swappedStores [tg] e X.env = pure none := by rfl)
    (h1 : (assignEach [tg] X.env).map (·.2) = [assign tg X.env] := by rfl) : PS X (.Assign [tg] e pos) (tSt G W (sTgt t me)) := (ps_asg he hg hs hw h1).imp fun Dn σ H h => by
  obtain ⟨ua, u, B, env, fl, u', B0, H0, hg, hO, hE, hW, hm, q⟩ := h
  obtain ⟨d, u1, c1, c2⟩ := bnd_some hm
  split at c2
  · rename_i env' hb
    cases c2
    refine ⟨ua, u, B, env, d, _, hE, hW, c1, fun v H1 ⟨B1, g1, w1, r1⟩ => bindT_ok (hE.grow g1) w1 r1 hb fun σ' e' _ hk => q _ B1 H1 (hg.trans g1) (fun j ds p z1 z2 => ?_) e' w1⟩
    obtain ⟨z3, z4⟩ := bindT_own hb j ds z1
    exact hO j ds p z3 (hk j _ z2 z4)
  · cases c2
/-- a, b = x, y -/
def sPar (i j : Nat) (a b : M) : MS := fun env u => bnd (a env u) fun d u1 => bnd (b env u1) fun d2 u2 => some (.nx ((env.set i (Sl.pub d)).set j (Sl.pub d2)), u2)
def sRet (m : M) : MS := fun env u => bnd (m env u) fun d u1 => some (.rt d, u1)
theorem ds_ret (he : PE X e (tEv G me)) : PS X (.Return (some e) pos) (tSt G W (sRet me)) := (ps_ret he).imp fun Dn σ H h => by
  obtain ⟨ua, u, B, env, fl, u', B0, H0, hg, hO, hE, hW, hm, q⟩ := h
  obtain ⟨d, u1, c1, c2⟩ := bnd_some hm
  cases c2
  exact ⟨ua, u, B, env, d, _, hE, hW, c1, fun v H1 ⟨B1, g1, w1, r1⟩ => q v B1 H1 (hg.trans g1) w1 r1⟩
def sIf (c : MB) (a b : MS) : MS := fun env u => bnd (c env u) fun k u1 => if k = true then a env u1 else b env u1
theorem ds_if {c : Expr} {x y : List Stmt} (hc : PT X c (tTst G mc)) (ha : PSs X x (tSt G W m1)) (hb : PSs X y (tSt G W m2)) : PS X (.If c x y pos) (tSt G W (sIf mc m1 m2)) := (ps_if hc ha hb).imp fun Dn σ H h => by
  obtain ⟨ua, u, B, env, fl, u', B0, H0, hg, hO, hE, hW, hm, q⟩ := h
  obtain ⟨k, u1, c1, c2⟩ := bnd_some hm
  refine ⟨ua, u, B, env, k, u1, hE, hW, c1, fun H1 ⟨B1, g1, w1⟩ => ?_⟩
  cases k with
  | true => rw [if_pos rfl] at c2 ⊢; exact ⟨ua, u1, B1, env, fl, u', B0, H0, hg.trans g1, hO, hE.grow g1, w1, c2, q⟩
  | false => rw [if_neg Bool.false_ne_true] at c2 ⊢; exact ⟨ua, u1, B1, env, fl, u', B0, H0, hg.trans g1, hO, hE.grow g1, w1, c2, q⟩
def sDrop (m : M) : MS := fun env u => bnd (m env u) fun _ u1 => some (.nx env, u1)
/-- a loop; no break, no continue -/
def forL (t : Tgt) (f : MS) : List D → List Sl → U → Option (Fl × U)
  | [], env, u => some (.nx env, u)
  | d :: ds, env, u => match bindT t d env with
    | none => none
    | some env1 => bnd (f env1 u) fun fl u1 => match fl with
      | .nx env2 => forL t f ds env2 u1
      | fl => some (fl, u1)
def sFor (t : Tgt) (mi : MI) (f : MS) : MS := fun env u => bnd (mi env u) fun ds u1 => forL t f ds env u1
theorem Grow.mid {ua : Option Addr} {B0 H0 B1 B2 H1 H2 : Hp} (g1 : Grow ua B0 H0 B1 H1) (g2 : Grow ua B0 H0 B2 H2) (s : Same B1 B2) : Grow ua B1 H0 B2 H2 :=
  ⟨g2.keep, g2.live, s, fun a o h => by
    rcases g2.new a o h with z | z
    · exact .inl (by
        have z1 := g1.pub a o z
        exact z1)
    · exact .inr z⟩
theorem Grow.unmid {ua : Option Addr} {B0 H0 B1 B2 H1 H2 : Hp} (g1 : Grow ua B0 H0 B1 H1) (g2 : Grow ua B1 H0 B2 H2) : Grow ua B0 H0 B2 H2 :=
  ⟨g2.keep, g2.live, fun a o h => g2.pub a o (g1.pub a o h), fun a o h => by
    rcases g2.new a o h with z | z
    · exact g1.new a o z
    · exact .inr z⟩
theorem for_read {t : Tgt} {mi : MI} {Dn : Ends} {σ : L2.St} {H : Hp} (h : tSt G W (sFor t mi m1) Dn σ H) : tFor (tIt G mi) (gOf X.K t) (tSt G W m1) Dn σ H := by
  obtain ⟨ua, u, B, env, fl, u', B0, H0, hg, hO, hE, hW, hm, q⟩ := h
  obtain ⟨ds, u1, c1, c2⟩ := bnd_some hm
  refine ⟨ua, u, B, env, ds, u1, hE, hW, c1, fun J B1 H1 g1 w1 wk => ?_⟩
  have g01 : Grow ua B0 H0 B1 H1 := hg.trans g1
  refine ⟨fun i m σ2 H2 => m = ds.length - i ∧ i ≤ ds.length ∧ ∃ B2 u2 env2, Grow ua B1 H0 B2 H2 ∧ OwnNew env2 σ2 H0 ∧ EnvOk G ua env2 σ2 B2 H2 ∧ Wd ua u2 B2 H2 ∧ forL t m1 (ds.drop i) env2 u2 = some (fl, u'),
    ⟨ds.length, by omega, by omega, B1, u1, env, g01.mid g01 (fun _ _ z => z), hO, hE.grow g1, w1, c2⟩, ?_⟩
  rintro i m σ2 H2 ⟨rfl, hi, B2, u2, env2, g2, o2, e2, w2, hf⟩
  have hk := wk i B2 H2 u2 g2.pub w2
  by_cases hlt : i < ds.length
  · have hd : ds[i]? = some ds[i] := List.getElem?_eq_getElem hlt
    obtain ⟨hgo, hy⟩ := hk.1 _ hd
    rw [List.drop_eq_getElem_cons hlt] at hf
    refine .inr ⟨hgo, fun σ3 H3 => ∃ B3 u3 env3, Grow ua B1 H0 B3 H3 ∧ OwnNew env3 σ3 H0 ∧ EnvOk G ua env3 σ3 B3 H3 ∧ Wd ua u3 B3 H3 ∧ forL t m1 (ds.drop (i + 1)) env3 u3 = some (fl, u'),
      fun σ3 H3 z => ⟨ds.length - (i + 1), by omega, rfl, hlt, z⟩, fun x H3 y => ?_⟩
    obtain ⟨B3, g3, w3, r3⟩ := hy x H3 y
    unfold forL at hf
    split at hf
    · cases hf
    · rename_i env3 hb
      refine bindT_ok (e2.grow g3) w3 r3 hb fun σ3 e3 _ hkk => ?_
      obtain ⟨f1, u3, c3, c4⟩ := bnd_some hf
      have o3 : OwnNew env3 σ3 H0 := fun j es p z1 z2 => by
        obtain ⟨z3, z4⟩ := bindT_own hb j es z1
        exact o2 j es p z3 (hkk j _ z2 z4)
      refine ⟨ua, u2, B3, env3, f1, u3, B1, H0, g2.trans g3, o3, e3, w3, c3, ?_⟩
      cases f1 with
      | nx env4 => exact fun σ4 B4 H4 z1 z2 z3 z4 => ⟨B4, u3, env4, z1, z2, z3, z4, c4⟩
      | rt x =>
        cases c4
        exact fun v B4 H4 z1 z2 z3 => q v B4 H4 (g01.unmid z1) z2 z3
      | er env4 c ns xs =>
        cases c4
        exact fun σ4 B4 H4 cls d z1 z2 z3 z4 z5 => q σ4 B4 H4 cls d (g01.unmid z1) z2 z3 z4 z5
  · have e : i = ds.length := by omega
    subst e
    rw [List.drop_length] at hf
    cases hf
    exact .inl ⟨hk.2 (List.getElem?_eq_none (Nat.le_refl _)), q σ2 B2 H2 (g01.unmid g2) o2 e2 w2⟩
theorem ds_for (t : Tgt) {mi : MI} {tg it : Expr} {body : List Stmt} (hp : PassesOwn (model X.prog X.w) X.A X.env X.xe) (hc : X.calm = true) (hi : PI X tg it (tIt G mi)) (hg : PG X tg (gOf X.K t)) (hb : PSs X body (tSt G W m1)) (hs : ∀ x, foldedSetIterable it X.env x = pure x := by intro _; rfl) :
    PS X (.For tg it body [] pos) (tSt G W (sFor t mi m1)) := (ps_for hp hc hi hg hb hs).imp fun _ _ _ h => for_read h
end
def runB (m : MS) (L : Nat) (ds : List D) (u : U) : Option (D × U) := match m (ds.map Sl.pub ++ List.replicate (L - ds.length) Sl.no) u with
  | some (.rt d, u') => some (d, u')
  | some (.nx _, u') => some (.non, u')
  | _ => none
theorem start_ok {K : PySem.W.Frag} {G : Gx K} {ua : Option Addr} {B H : Hp} {ds : List D} {vs : List V} {N : List Str} (r : Reps G ua ds vs B) : EnvOk G ua (ds.map Sl.pub ++ List.replicate (N.length - ds.length) Sl.no) (L2.start N vs) B H := by
  have hpub : ∀ (i : Nat) x, (ds.map Sl.pub ++ List.replicate (N.length - ds.length) Sl.no)[i]? = some x → (∃ d, ds[i]? = some d ∧ x = Sl.pub d) ∨ x = Sl.no := fun i x h => by
    by_cases hi : i < ds.length
    · rw [List.getElem?_append_left (by rw [List.length_map]; exact hi), List.getElem?_map] at h
      obtain ⟨d, h1, h2⟩ := map_some h
      exact .inl ⟨d, h1, h2.symm⟩
    · rw [List.getElem?_append_right (by rw [List.length_map]; omega), List.getElem?_replicate] at h
      split at h
      · exact .inr (Option.some.inj h).symm
      · cases h
  refine ⟨?_, fun i d h => ?_, fun i es h => ?_, fun i j es fs p h => ?_⟩
  · unfold L2.start
    rw [List.length_append, List.length_append, List.length_map, List.length_map, List.length_replicate, List.length_replicate, r.len]
  · rcases hpub i _ h with ⟨d', h1, h2⟩ | h2
    · cases h2
      obtain ⟨v, h3, h4⟩ := r.get h1
      refine ⟨v, ?_, h4⟩
      unfold L2.start
      rw [List.getElem?_append_left (by rw [List.length_map]; exact lt_of_get h3), List.getElem?_map, h3]; rfl
    · cases h2
  · rcases hpub i _ h with ⟨d', h1, h2⟩ | h2 <;> cases h2
  · rcases hpub i _ h with ⟨d', h1, h2⟩ | h2 <;> cases h2
/-- no error is wished for -/
def W0 : WX := fun _ _ _ _ => False
theorem def_ok {P : Program} {w : World} {K : PySem.W.Frag} {mg : Str → Option Value} {base : Heap} {G : Gx K} {x qual : Str} {st : Stmt} {f : Addr} {fd : FuncData} {N ps : List Str} {k n : Nat} {m : MS} (F : Fun K x qual st f fd) (S : FnScope N ps (defScope st)) (hn : ps.length = n)
    (hb : ∀ (cdv : Value) (A : Around) (outer : List Env) (s : Shared) (H : Hp) (E : XK), Room k (A.deeper (envOfC qual (defScope st) s.heap.objs.size f cdv)) → PSs (cxOf CX0 P w K mg base N qual (defScope st) f cdv A outer s H E).nox (defBody st) (tSt G W0 m)) :
    FnOk P w K mg base CX0 (k + 1) f fd ps (spF G (runB m N.length) n) := by
  refine F.ok S (fun vs H Q E h => ?_) (fun cdv A outer s H vs Q E hr h => ⟨_, hb cdv A outer s H E hr, ?_⟩)
  · obtain ⟨ua, u, B, ds, d, u', r, hl, _⟩ := h
    rw [← r.len, hl, hn]
  · obtain ⟨ua, u, B, ds, d, u', r, hl, hw, hf, q⟩ := h
    unfold runB at hf
    split at hf
    · rename_i d0 u0 hm
      cases hf
      refine ⟨ua, u, B, _, _, _, B, H, .refl, fun i es p z _ => ?_, start_ok r, hw, hm, fun v B' H' g w' r' => q v H' ⟨B', g, w', r'⟩⟩
      obtain ⟨_, _, h1, _⟩ := (start_ok (N := N) (H := H) r).own i es z
      have z2 := (start_ok (N := N) (H := H) r).own i es z
      exfalso
      by_cases hi : i < ds.length
      · rw [List.getElem?_append_left (by rw [List.length_map]; exact hi), List.getElem?_map] at z
        obtain ⟨_, _, h2⟩ := map_some z
        cases h2
      · rw [List.getElem?_append_right (by rw [List.length_map]; omega), List.getElem?_replicate] at z
        split at z <;> cases z
    · rename_i e0 u0 hm
      cases hf
      refine ⟨ua, u, B, _, _, _, B, H, .refl, fun i es p z _ => ?_, start_ok r, hw, hm, fun σ' B' H' g o e w' => q _ H' ⟨B', g, w', rep_non⟩⟩
      exfalso
      by_cases hi : i < ds.length
      · rw [List.getElem?_append_left (by rw [List.length_map]; exact hi), List.getElem?_map] at z
        obtain ⟨_, _, h2⟩ := map_some z
        cases h2
      · rw [List.getElem?_append_right (by rw [List.length_map]; omega), List.getElem?_replicate] at z
        split at z <;> cases z
    · cases hf
end Dv
namespace Dv
open PySem PySem.Spec PyProof.Rows L2
theorem hU64 {A : Around} {k : Nat} (hr : Room k A) : A.units + 64 < cLine := hr.units
theorem hU65 {A : Around} {k : Nat} (hr : Room k A) : A.units + 65 < cLine := by have := hr.un; omega
section
variable {X : Cx} {G : Gx X.K} {W : WX} {e : Expr} {me : M} {pos : Pos}
def isUrn (env : List Sl) (i : Nat) : Bool := match env[i]? with
  | some (.pub .urn) => true
  | _ => false
theorem isUrn_pub {env : List Sl} {i : Nat} (h : isUrn env i = true) : env[i]? = some (.pub .urn) := by
  unfold isUrn at h
  split at h
  · assumption
  · cases h
def mUrn0 (i : Nat) : M := fun env u => if isUrn env i = true then some (.int u.a, u) else none
def mUrn1 (i : Nat) : M := fun env u => if isUrn env i = true then some (.int u.b, u) else none
def mUrn2 (i : Nat) : M := fun env u => if isUrn env i = true then some (.int u.c, u) else none
def sUrn0 (i : Nat) (m : M) : MS := fun env u => bnd (m env u) fun d u1 => match d with
  | .int z => if isUrn env i = true then some (.nx env, { u1 with a := z }) else none
  | _ => none
def sUrn2 (i : Nat) (m : M) : MS := fun env u => bnd (m env u) fun d u1 => match d with
  | .int z => if isUrn env i = true then some (.nx env, { u1 with c := z }) else none
  | _ => none
theorem urn_read {j : Nat} {z : U → Int} {i : Nat} {σ : L2.St} {H : Hp} {Q : VK} (hj : ∀ u : U, ([V.int u.a, .int u.b, .int u.c] : List V)[j]? = some (.int (z u))) (h : tEv G (fun env u => if isUrn env i = true then some (D.int (z u), u) else none) σ H Q) :
    tOp (rIx X.K) (tVar i) (tC (.int (j : Nat))) σ H Q := by
  obtain ⟨ua, u, B, env, d, u', hE, hW, hm, q⟩ := h
  dsimp only at hm
  split at hm
  · rename_i hi
    cases hm
    obtain ⟨v, hv, r⟩ := hE.pub _ _ (isUrn_pub hi)
    unfold Rep at r
    obtain ⟨p, e1, rfl⟩ := r
    have hw := hW.urn p e1
    exact ⟨_, hv, .inl ⟨p, _, _, _, rfl, rfl, .of hw.2, atI_nat (hj u), q _ _ ⟨B, .refl, hW, rep_int⟩⟩⟩
  · cases hm
section
variable {x : Str} {px pc : Pos} {k : Nat}
theorem dv_urn0 (i : Nat) (hN : X.N[i]? = some x := by rfl) (hv : Vis X.env.scope x := by first | exact Or.inl rfl | exact Or.inr (Or.inl rfl) | exact Or.inr (Or.inr rfl)) (hd : (x == ("__debug__" : Str)) = false := by decide)
    (hcd : (x == ("__classdict__" : Str)) = false := by decide) : PE X (.Subscript (.Name x px) (.Constant (.int 0) k pc) pos) (tEv G (mUrn0 i)) := (pe_ix ix_seq (pe_var hN hv hd hcd) pe_int fun _ _ => rfl).imp fun _ _ _ h => urn_read (j := 0) (z := fun u => u.a) (fun _ => rfl) h
theorem dv_urn1 (i : Nat) (hN : X.N[i]? = some x := by rfl) (hv : Vis X.env.scope x := by first | exact Or.inl rfl | exact Or.inr (Or.inl rfl) | exact Or.inr (Or.inr rfl)) (hd : (x == ("__debug__" : Str)) = false := by decide)
    (hcd : (x == ("__classdict__" : Str)) = false := by decide) : PE X (.Subscript (.Name x px) (.Constant (.int 1) k pc) pos) (tEv G (mUrn1 i)) := (pe_ix ix_seq (pe_var hN hv hd hcd) pe_int fun _ _ => rfl).imp fun _ _ _ h => urn_read (j := 1) (z := fun u => u.b) (fun _ => rfl) h
theorem dv_urn2 (i : Nat) (hN : X.N[i]? = some x := by rfl) (hv : Vis X.env.scope x := by first | exact Or.inl rfl | exact Or.inr (Or.inl rfl) | exact Or.inr (Or.inr rfl)) (hd : (x == ("__debug__" : Str)) = false := by decide)
    (hcd : (x == ("__classdict__" : Str)) = false := by decide) : PE X (.Subscript (.Name x px) (.Constant (.int 2) k pc) pos) (tEv G (mUrn2 i)) := (pe_ix ix_seq (pe_var hN hv hd hcd) pe_int fun _ _ => rfl).imp fun _ _ _ h => urn_read (j := 2) (z := fun u => u.c) (fun _ => rfl) h
theorem urn_put {j : Nat} {i : Nat} {f : U → Int → U} {Dn : Ends} {σ : L2.St} {H : Hp} (hj : ∀ (u : U) (z : Int), ([V.int u.a, .int u.b, .int u.c] : List V).set j (.int z) = [V.int (f u z).a, .int (f u z).b, .int (f u z).c]) (hj3 : j < 3)
    (h : tSt G W (fun env u => bnd (me env u) fun d u1 => match d with | .int z => if isUrn env i = true then some (.nx env, f u1 z) else none | _ => none) Dn σ H) :
    tAsg (tEv G me) (gSub (tVar i) (tC (.int (j : Nat))) rSetL) Dn σ H := by
  obtain ⟨ua, u, B, env, fl, u', B0, H0, hg, hO, hE, hW, hm, q⟩ := h
  obtain ⟨d, u1, c1, c2⟩ := bnd_some hm
  refine ⟨ua, u, B, env, d, u1, hE, hW, c1, fun v H1 ⟨B1, g1, w1, r1⟩ => ?_⟩
  split at c2
  · split at c2
    · rename_i z hi
      cases c2
      cases r1.int
      have hE1 := hE.grow g1
      obtain ⟨v, hv, r⟩ := hE1.pub _ _ (isUrn_pub hi)
      unfold Rep at r
      obtain ⟨p, e1, rfl⟩ := r
      have hw := w1.urn p e1
      refine ⟨_, hv, p, _, _, j, rfl, rfl, hw.2, ?_, ?_⟩
      · unfold ixN
        rw [if_pos (by omega), if_pos (by show (j : Int) < ((3 : Nat) : Int); omega)]
        rfl
      · rw [hj]
        have gg := hg.trans g1
        refine q σ B1 _ ⟨fun a o h n => ?_, fun a h => ?_, gg.pub, gg.new⟩ hO ⟨hE1.len, hE1.pub, fun k ds hk => ?_, hE1.inj⟩ ⟨fun a o h => ?_, fun a ha => ?_⟩
        · rw [upd_ne (fun z => n (by rw [z]; exact e1))]; exact gg.keep a o h n
        · refine gg.live a ?_
          by_cases z : a = p
          · subst z; rw [upd_same] at h; cases h
          · rw [upd_ne z] at h; exact h
        · obtain ⟨p2, vs, h1, h2, h3, h4, h5⟩ := hE1.own k ds hk
          refine ⟨p2, vs, h1, ?_, h3, h4, h5⟩
          rw [upd_ne (fun z => h5 (by rw [z]; exact e1))]; exact h2
        · rw [upd_ne (ne_of_none h hw.1)]; exact w1.sub a o h
        · rw [e1] at ha
          cases ha
          exact ⟨hw.1, upd_same⟩
    · cases c2
  · cases c2
theorem ds_urn0 (i : Nat) (he : PE X e (tEv G me)) (hN : X.N[i]? = some x := by rfl) (hv : Vis X.env.scope x := by first | exact Or.inl rfl | exact Or.inr (Or.inl rfl) | exact Or.inr (Or.inr rfl)) (hd : (x == ("__debug__" : Str)) = false := by decide) (hcd : (x == ("__classdict__" : Str)) = false := by decide)
    (hs : swapsWithSole [.Subscript (.Name x px) (.Constant (.int 0) k pc) pos] e pos.line X.env = pure false := by rfl) {pos2 : Pos} (hs : swapsWithSole [.Subscript (.Name x px) (.Constant (.int 0) k pc) pos] e pos2.line X.env = pure false := by rfl) (hw : swappedStores [.Subscript (.Name x px) (.Constant (.int 0) k pc) pos] e X.env = pure none := by rfl) :
    PS X (.Assign [.Subscript (.Name x px) (.Constant (.int 0) k pc) pos] e pos2) (tSt G W (sUrn0 i me)) := (ps_asg he (pg_sub (pe_var hN hv hd hcd) pe_int set_list) hs hw).imp fun _ _ _ h => urn_put (j := 0) (f := fun u z => { u with a := z }) (fun _ _ => rfl) (by decide) h
theorem ds_urn2 (i : Nat) (he : PE X e (tEv G me)) (hN : X.N[i]? = some x := by rfl) (hv : Vis X.env.scope x := by first | exact Or.inl rfl | exact Or.inr (Or.inl rfl) | exact Or.inr (Or.inr rfl)) (hd : (x == ("__debug__" : Str)) = false := by decide) (hcd : (x == ("__classdict__" : Str)) = false := by decide)
    {pos2 : Pos} (hs : swapsWithSole [.Subscript (.Name x px) (.Constant (.int 2) k pc) pos] e pos2.line X.env = pure false := by rfl) (hw : swappedStores [.Subscript (.Name x px) (.Constant (.int 2) k pc) pos] e X.env = pure none := by rfl) :
    PS X (.Assign [.Subscript (.Name x px) (.Constant (.int 2) k pc) pos] e pos2) (tSt G W (sUrn2 i me)) := (ps_asg he (pg_sub (pe_var hN hv hd hcd) pe_int set_list) hs hw).imp fun _ _ _ h => urn_put (j := 2) (f := fun u z => { u with c := z }) (fun _ _ => rfl) (by decide) h
end
def DefK (P : Program) (w : World) {K : PySem.W.Frag} (mg : Str → Option Value) (base : Heap) (G : Gx K) (x : Str) (ks : List Str) (k : Nat) (F : List D → U → Option (D × U)) : Prop :=
  ∃ f fd, FnOk P w K mg base CX0 k f fd ks (spF G F ks.length) ∧ mg x = some (.ref f) ∧ PySem.W.keepIn K (.ref f) = true ∧ ∀ (s : Shared) (ws : List Value), K.In s.heap → ws.length = ks.length → BindsTo s fd ⟨[], ks.zip ws⟩ (ks.zip ws)
theorem DefK.mono {P : Program} {w : World} {K : PySem.W.Frag} {mg : Str → Option Value} {base : Heap} {G : Gx K} {x : Str} {ks : List Str} {j k : Nat} {F : List D → U → Option (D × U)} (h : DefK P w mg base G x ks j F) (l : j ≤ k) : DefK P w mg base G x ks k F := by
  obtain ⟨f, fd, h1, h2⟩ := h
  exact ⟨f, fd, h1.mono l, h2⟩
variable {kws : List Keyword} {ms : Ms} {kpos p : Pos} {nm : Option Str}
theorem dks_nil : PK X [] (tEvs G mNil) := ⟨fun pos pins s σ H Q I h => by
  obtain ⟨ua, u, B, env, ds, u', hE, hW, hm, q⟩ := h
  cases hm
  exact pk_nil.run pos pins s σ H Q I (q [] H ⟨B, .refl, hW, .nil⟩)⟩
theorem dks_cons (ha : PE X e (tEv G me)) (hr : PK X kws (tEvs G ms)) : PK X (⟨nm, e, kpos⟩ :: kws) (tEvs G (mCons me ms)) := ⟨fun pos pins s σ H Q I h => by
  obtain ⟨ua, u, B, env, ds, u', hE, hW, hm, q⟩ := h
  obtain ⟨d, u1, h1, h2⟩ := bnd_some hm
  obtain ⟨ds', u2, h4, h3⟩ := bnd_some h2
  cases h3
  refine (pk_cons ha hr).run pos pins s σ H Q I ⟨ua, u, B, env, d, u1, hE, hW, h1, fun v H1 ⟨B1, g1, w1, r1⟩ => ⟨ua, u1, B1, env, ds', _, hE.grow g1, w1, h4, fun vs H2 ⟨B2, g2, w2, r2⟩ => q _ _ ⟨B2, g1.trans g2, w2, .cons (r1.mono _ _ g2.pub) r2⟩⟩⟩⟩
/-- C(d): a new instance with the fields that mk tells -/
def MakeOk (P : Program) (w : World) {K : PySem.W.Frag} (mg : Str → Option Value) (base : Heap) (G : Gx K) (x : Str) (k n : Nat) (F : List D → U → Option (D × U)) : Prop :=
  ∃ C f fd ps sp ds dvs, Mk K C f ∧ FnOk P w K mg base CX0 k f fd ps sp ∧ mg x = some (.ref C) ∧ Binds K fd ps ds ∧ Vals dvs ds ∧
    ∀ (ua : Option Addr) (u u' : U) (B H : Hp) (as : List D) (vs : List V) (d : D), as.length = n → F as u = some (d, u') → Reps G ua as vs B → Wd ua u B H → ∀ (y dx : Addr), H y = none → H dx = none → dx ≠ y →
      ∀ Q : VK, (∀ H', Aft G ua B H u' d (.ref y) H' → Q (.ref y) H') → sp (.ref y :: (vs ++ dvs)) (upd (upd H dx (.own y)) y (.ins C dx [])) (fun v H2 => v = .non ∧ Q (.ref y) H2) E0
theorem MakeOk.mono {P : Program} {w : World} {K : PySem.W.Frag} {mg : Str → Option Value} {base : Heap} {G : Gx K} {x : Str} {j k n : Nat} {F : List D → U → Option (D × U)} (h : MakeOk P w mg base G x j n F) (l : j ≤ k) : MakeOk P w mg base G x k n F := by
  obtain ⟨C, f, fd, ps, sp, ds, dvs, h1, h2, h3⟩ := h
  exact ⟨C, f, fd, ps, sp, ds, dvs, h1, h2.mono l, h3⟩
end
end Dv
namespace Dv
open PySem PySem.Spec PyProof.Rows L2
section
variable {X : Cx} {G : Gx X.K} {W : WX}
theorem dv_gS {x : Str} {z : Str} {pos : Pos} (hg : Gl X x) (hm : ∃ t, X.mg x = some (.str z t)) (hd : (x == ("__debug__" : Str)) = false := by decide) : PE X (.Name x pos) (tEv G (mC (.str z))) := by
  obtain ⟨t, hm⟩ := hm
  exact dv_globS hg hm hd
theorem dv_gI {x : Str} {z : Int} {pos : Pos} (hg : Gl X x) (hm : ∃ t, X.mg x = some (.int z t)) (hd : (x == ("__debug__" : Str)) = false := by decide) : PE X (.Name x pos) (tEv G (mC (.int z))) := by
  obtain ⟨t, hm⟩ := hm
  exact dv_globI hg hm hd
end
end Dv
namespace Dv
open PySem PySem.Spec PyProof.Rows L2
section
variable {env env' : List Sl} {u u1 u2 u3 : U} {m a b : M} {ms : Ms} {mi : MI} {mc na nb : MB} {me : M} {p q : MS} {d x y z : D} {ds r : List D} {i n : Nat} {fl : Fl} {k : Bool}
theorem runB_rt {m : MS} {L : Nat} (h : m (ds.map Sl.pub ++ List.replicate (L - ds.length) Sl.no) u = some (.rt d, u1)) : runB m L ds u = some (d, u1) := by
  unfold runB; rw [h]
theorem sc_nx (h : p env u = some (.nx env', u1)) (h2 : q env' u1 = some (fl, u2)) : sCons p q env u = some (fl, u2) := by
  unfold sCons; rw [h]; exact h2
theorem sc_rt (h : p env u = some (.rt d, u1)) : sCons p q env u = some (.rt d, u1) := by
  unfold sCons; rw [h]; rfl
theorem sSet_eq (h : m env u = some (d, u1)) : sSet i m env u = some (.nx (env.set i (Sl.pub d)), u1) := by
  unfold sSet; rw [h]; rfl
theorem sTgt_eq {t : Tgt} (h : m env u = some (d, u1)) (h2 : bindT t d env = some env') : sTgt t m env u = some (.nx env', u1) := by
  unfold sTgt; rw [h]; show (match bindT t d env with | some env' => some (Fl.nx env', u1) | none => none) = _; rw [h2]
theorem sRet_eq (h : m env u = some (d, u1)) : sRet m env u = some (.rt d, u1) := by
  unfold sRet; rw [h]; rfl
theorem sIf_t (h : mc env u = some (true, u1)) (h2 : p env u1 = some (fl, u2)) : sIf mc p q env u = some (fl, u2) := by
  unfold sIf; rw [h]; exact h2
theorem sIf_f (h : mc env u = some (false, u1)) (h2 : q env u1 = some (fl, u2)) : sIf mc p q env u = some (fl, u2) := by
  unfold sIf; rw [h]; exact h2
theorem mVar_eq (h : env[i]? = some (Sl.pub d)) : mVar i env u = some (d, u) := by
  unfold mVar; rw [h]
theorem mCons_eq (h : m env u = some (x, u1)) (h2 : ms env u1 = some (ds, u2)) : mCons m ms env u = some (x :: ds, u2) := by
  unfold mCons; rw [h]; show bnd (ms env u1) _ = _; rw [h2]; rfl
theorem mNil_eq : mNil env u = some ([], u) := rfl
theorem mC_eq : mC d env u = some (d, u) := rfl
theorem mLst_eq (h : ms env u = some (ds, u1)) (hl : ds.length ≤ sizeLine) : mLst ms env u = some (.lst ds, u1) := by
  unfold mLst; rw [h]; exact if_pos hl
theorem mTup_eq (h : ms env u = some (ds, u1)) (hl : ds.length ≤ sizeLine) : mTup ms env u = some (.tup ds, u1) := by
  unfold mTup; rw [h]; exact if_pos hl
theorem mBin_eq {f : D → D → Option D} (h : a env u = some (x, u1)) (h2 : b env u1 = some (y, u2)) (h3 : f x y = some z) : mBin f a b env u = some (z, u2) := by
  unfold mBin; rw [h]; show bnd (b env u1) _ = _; rw [h2]; show lft (f x y) u2 = _; rw [h3]; rfl
theorem mBi_eq {f : List D → Option D} (h : ms env u = some (ds, u1)) (h2 : f ds = some d) : mBi f ms env u = some (d, u1) := by
  unfold mBi; rw [h]; show lft (f ds) u1 = _; rw [h2]; rfl
theorem mCall_eq {F : List D → U → Option (D × U)} (h : ms env u = some (ds, u1)) (hl : ds.length = n) (h2 : F ds u1 = some (d, u2)) : mCall n F ms env u = some (d, u2) := by
  unfold mCall; rw [h]; show (if ds.length = n then F ds u1 else none) = _; rw [if_pos hl]; exact h2
theorem mTru_eq (h : a env u = some (x, u1)) (h2 : truD x = some k) : mTru a env u = some (k, u1) := by
  unfold mTru; rw [h]; show lft (truD x) u1 = _; rw [h2]; rfl
theorem mNotB_eq (h : na env u = some (k, u1)) : mNotB na env u = some (!k, u1) := by
  unfold mNotB; rw [h]; rfl
theorem mAndB_t (h : na env u = some (true, u1)) (h2 : nb env u1 = some (k, u2)) : mAndB na nb env u = some (k, u2) := by
  unfold mAndB; rw [h]; exact h2
theorem mAndB_f (h : na env u = some (false, u1)) : mAndB na nb env u = some (false, u1) := by
  unfold mAndB; rw [h]; rfl
theorem mOrB_t (h : na env u = some (true, u1)) : mOrB na nb env u = some (true, u1) := by
  unfold mOrB; rw [h]; rfl
theorem mOrB_f (h : na env u = some (false, u1)) (h2 : nb env u1 = some (k, u2)) : mOrB na nb env u = some (k, u2) := by
  unfold mOrB; rw [h]; exact h2
theorem mAnd_t (h : a env u = some (x, u1)) (ht : truD x = some true) (h2 : b env u1 = some (y, u2)) : mAnd a b env u = some (y, u2) := by
  unfold mAnd; rw [h]; show bnd (lft (truD x) u1) _ = _; rw [ht]; exact h2
theorem mAnd_f (h : a env u = some (x, u1)) (ht : truD x = some false) : mAnd a b env u = some (x, u1) := by
  unfold mAnd; rw [h]; show bnd (lft (truD x) u1) _ = _; rw [ht]; rfl
theorem mOr_t (h : a env u = some (x, u1)) (ht : truD x = some true) : mOr a b env u = some (x, u1) := by
  unfold mOr; rw [h]; show bnd (lft (truD x) u1) _ = _; rw [ht]; rfl
theorem mOr_f (h : a env u = some (x, u1)) (ht : truD x = some false) (h2 : b env u1 = some (y, u2)) : mOr a b env u = some (y, u2) := by
  unfold mOr; rw [h]; show bnd (lft (truD x) u1) _ = _; rw [ht]; exact h2
theorem mNot_eq (h : a env u = some (x, u1)) (ht : truD x = some k) : mNot a env u = some (.bl (!k), u1) := by
  unfold mNot; rw [h]; show bnd (lft (truD x) u1) _ = _; rw [ht]; rfl
theorem mIte_t (h : na env u = some (true, u1)) (h2 : a env u1 = some (d, u2)) : mIte na a b env u = some (d, u2) := by
  unfold mIte; rw [h]; exact h2
theorem mIte_f (h : na env u = some (false, u1)) (h2 : b env u1 = some (d, u2)) : mIte na a b env u = some (d, u2) := by
  unfold mIte; rw [h]; exact h2
theorem mSl_eq {lo hi : MO} {l h' : Option Int} (h : a env u = some (x, u1)) (h2 : lo env u1 = some (l, u2)) (h3 : hi env u2 = some (h', u3)) (h4 : slD x l h' = some z) : mSl a lo hi env u = some (z, u3) := by
  unfold mSl; rw [h]; show bnd (lo env u1) _ = _; rw [h2]; show bnd (hi env u2) _ = _; rw [h3]; show lft (slD x l h') u3 = _; rw [h4]; rfl
theorem moAt_eq {i : Int} (h : a env u = some (.int i, u1)) : moAt a env u = some (some i, u1) := by
  unfold moAt; rw [h]; rfl
theorem mIsi_eq {ts : List String} (h : a env u = some (x, u1)) (h2 : isiD x ts = some k) : mIsi ts a env u = some (.bl k, u1) := by
  unfold mIsi; rw [h]; show lft ((isiD x ts).map D.bl) u1 = _; rw [h2]; rfl
theorem mLc_eq {t : Tgt} {own : List Nat} (h : mi env u = some (ds, u1)) (h2 : compL (turnL t own env mc me) ds u1 = some (r, u2)) (hl : r.length ≤ sizeLine) : mLc t own mi mc me env u = some (.lst r, u2) := by
  unfold mLc; rw [h]; show bnd (compL (turnL t own env mc me) ds u1) _ = _; rw [h2]; exact if_pos hl
theorem mItems_eq (h : a env u = some (x, u1)) (h2 : itemsD x = some ds) : mItems a env u = some (ds, u1) := by
  unfold mItems; rw [h]; show lft (itemsD x) u1 = _; rw [h2]; rfl
theorem mRange1_eq {j : Int} (h : a env u = some (.int j, u1)) (h2 : -(2 ^ 62) ≤ j ∧ j < 2 ^ 62) : mRange1 a env u = some (rangeD 0 j.toNat, u1) := by
  unfold mRange1; rw [h]; exact if_pos h2
theorem turnL_eq {t : Tgt} {own : List Nat} (h : bindT t d (wipeE env own) = some env') (h2 : me env' u = some (x, u1)) : turnL t own env mYes me d u = some (some x, u1) := by
  unfold turnL; rw [h]; show bnd (me env' u) _ = _; rw [h2]; rfl
theorem turnL_c {t : Tgt} {own : List Nat} (h : bindT t d (wipeE env own) = some env') (hc : mc env' u = some (true, u1)) (h2 : me env' u1 = some (x, u2)) : turnL t own env mc me d u = some (some x, u2) := by
  unfold turnL; rw [h]; show bnd (mc env' u) _ = _; rw [hc]; show bnd (me env' u1) _ = _; rw [h2]; rfl
theorem turnL_n {t : Tgt} {own : List Nat} (h : bindT t d (wipeE env own) = some env') (hc : mc env' u = some (false, u1)) : turnL t own env mc me d u = some (none, u1) := by
  unfold turnL; rw [h]; show bnd (mc env' u) _ = _; rw [hc]; rfl
theorem sFor_eq {t : Tgt} (h : mi env u = some (ds, u1)) (h2 : forL t p ds env u1 = some (fl, u2)) : sFor t mi p env u = some (fl, u2) := by
  unfold sFor; rw [h]; exact h2
theorem mem_rangeD {lo : Int} (h : d ∈ rangeD lo n) : ∃ i : Nat, i < n ∧ d = .int (lo + i) := by
  unfold rangeD at h
  obtain ⟨i, hi, rfl⟩ := List.mem_map.mp h
  exact ⟨i, List.mem_range.mp hi, rfl⟩
theorem rangeD_len {lo : Int} : (rangeD lo n).length = n := by unfold rangeD; rw [List.length_map, List.length_range]
end
end Dv
namespace Dv
open PySem PySem.Spec PyProof.Rows L2
def cntS (x : Str) : List Str → Nat
  | [] => 0
  | y :: r => if y = x then cntS x r + 1 else cntS x r
/-- a dict of texts and numbers: what it holds -/
structure Tally (seen : List Str) (kvs : List (Key × V)) : Prop where
  val : ∀ x : Str, valV kvs (Sum.inr x) = if cntS x seen = 0 then none else some (.int (cntS x seen))
  len : kvs.length ≤ seen.length
theorem Tally.nil : Tally [] [] := ⟨fun _ => rfl, Nat.le_refl _⟩
theorem Tally.getD {seen : List Str} {kvs : List (Key × V)} (t : Tally seen kvs) (x : Str) : (valV kvs (Sum.inr x)).getD (.int 0) = .int (cntS x seen) := by
  rw [t.val]
  by_cases h : cntS x seen = 0
  · rw [if_pos h, h]; rfl
  · rw [if_neg h]; rfl
theorem Tally.put {seen : List Str} {kvs : List (Key × V)} (t : Tally seen kvs) (x : Str) : Tally (x :: seen) (putK kvs (Sum.inr x) (.int ((cntS x seen : Nat) + 1 : Int))) := by
  refine ⟨fun y => ?_, Nat.le_trans (length_putK _ _ _) (Nat.add_le_add_right t.len 1)⟩
  rw [valV_put]
  by_cases e : y = x
  · subst e
    rw [if_pos rfl]
    have : cntS y (y :: seen) = cntS y seen + 1 := if_pos rfl
    rw [this, if_neg (Nat.succ_ne_zero _)]; rfl
  · have h1 : ¬ (Sum.inr y : Key) = Sum.inr x := fun z => e (Sum.inr.inj z)
    have h2 : cntS y (x :: seen) = cntS y seen := if_neg fun z => e z.symm
    rw [if_neg h1, h2, t.val]
theorem Grow.putOwn {ua : Option Addr} {B H B2 H2 : Hp} {p : Addr} {o : HO} (g : Grow ua B H B2 H2) (hp : H p = none) : Grow ua B H B2 (upd H2 p o) := by
  refine ⟨fun b x e n => ?_, fun b e => ?_, g.pub, g.new⟩
  · rw [upd_ne (ne_of_none e hp)]; exact g.keep b x e n
  · by_cases q : b = p
    · subst q; exact hp
    · rw [upd_ne q] at e; exact g.live b e
end Dv
namespace Dv
open PySem PySem.Spec PyProof.Rows L2
theorem Reps.fld {K : PySem.W.Frag} {G : Gx K} {ua : Option Addr} {f : Str} {d : D} {B : Hp} : ∀ {ns : List Str} {ds : List D} {vs : List V}, Reps G ua ds vs B → (ns.zip ds).lookup f = some d → ∃ v, (ns.zip vs).lookup f = some v ∧ Rep G ua d v B
  | [], ds, vs, r, h => by cases h
  | n :: ns, [], vs, r, h => by cases h
  | n :: ns, x :: ds, vs, r, h => by
    obtain ⟨v, t, rfl, q, t'⟩ := r.of_cons
    rw [List.zip_cons_cons, List.lookup_cons] at h ⊢
    cases e : f == n with
    | true => rw [e] at h; cases h; exact ⟨v, rfl, q⟩
    | false => rw [e] at h; exact Reps.fld t' h
/-- the property f of the class c does F -/
def PrpOk (P : Program) (w : World) {K : PySem.W.Frag} (mg : Str → Option Value) (base : Heap) (G : Gx K) (c f : Str) (k : Nat) (F : List D → U → Option (D × U)) : Prop :=
  ∃ C p g fd ps, G.cls c = some C ∧ Cls K C ∧ PropOf K C f p g ∧ FnOk P w K mg base CX0 k g fd ps (spF G F 1) ∧ Binds K fd ps []
theorem PrpOk.mono {P : Program} {w : World} {K : PySem.W.Frag} {mg : Str → Option Value} {base : Heap} {G : Gx K} {c f : Str} {j k : Nat} {F : List D → U → Option (D × U)} (h : PrpOk P w mg base G c f j F) (l : j ≤ k) : PrpOk P w mg base G c f k F := by
  obtain ⟨C, p, g, fd, ps, h1, h2, h3, h4, h5⟩ := h
  exact ⟨C, p, g, fd, ps, h1, h2, h3, h4.mono l, h5⟩
end Dv
namespace Dv
open PySem PySem.Spec PyProof.Rows L2
/-- the special method of the class c does F -/
def SpcOk (P : Program) (w : World) {K : PySem.W.Frag} (mg : Str → Option Value) (base : Heap) (G : Gx K) (c name : Str) (k n : Nat) (F : List D → U → Option (D × U)) : Prop :=
  ∃ C f fd ps, G.cls c = some C ∧ PySem.W.findIn K (.ref C) name = some (some (.ref f)) ∧ PySem.W.isFn K (.ref f) = true ∧ PySem.W.fnIn K f = true ∧ FnOk P w K mg base CX0 k f fd ps (spF G F n) ∧ Binds K fd ps []
theorem SpcOk.mono {P : Program} {w : World} {K : PySem.W.Frag} {mg : Str → Option Value} {base : Heap} {G : Gx K} {c name : Str} {j k n : Nat} {F : List D → U → Option (D × U)} (h : SpcOk P w mg base G c name j n F) (l : j ≤ k) : SpcOk P w mg base G c name k n F := by
  obtain ⟨C, f, fd, ps, h1, h2, h3, h4, h5, h6⟩ := h
  exact ⟨C, f, fd, ps, h1, h2, h3, h4, h5.mono l, h6⟩
section
variable {X : Cx} {G : Gx X.K}
variable {a b e : Expr} {ma mb : M} {pos : Pos}
def blO (r : Option (D × U)) (n : Bool) : Option (D × U) := match r with
  | some (.bl b, u) => some (.bl (if n then !b else b), u)
  | _ => none
/-- x in y -/
def inO (c : Str) (F : List D → U → Option (D × U)) (f : D → D → Option D) (n : Bool) (x y : D) (u : U) : Option (D × U) := match y with
  | .ins c' ns xs => if c' = c then blO (F [.ins c' ns xs, x] u) n else none
  | y => lft (f x y) u
end
end Dv
namespace Dv
open PySem PySem.Spec PyProof.Rows L2
end Dv
namespace Dv
open PySem PySem.Spec PyProof.Rows L2
end Dv
namespace Dv
open PySem PySem.Spec PyProof.Rows L2
end Dv
namespace Dv
open PySem PySem.Spec PyProof.Rows L2
end Dv
namespace Dv
open PySem PySem.Spec PyProof.Rows L2
end Dv
namespace Dv
open PySem PySem.Spec PyProof.Rows L2
end Dv
namespace Dv
open PySem PySem.Spec PyProof.Rows L2
theorem upd_id {H : Hp} {a : Addr} {o : HO} (h : H a = some o) : upd H a o = H := by
  funext b
  by_cases e : b = a
  · rw [e, upd_same, h]
  · rw [upd_ne e]
section
variable {K : PySem.W.Frag} {G : Gx K} {ua : Option Addr} {u : U} {env : List Sl} {σ : List (Option V)} {B H H0 : Hp} {i : Nat} {o o' : Oo} {l : Addr} {ho ho' : HO} {d : D}
/-- one's own thing is changed -/
theorem EnvOk.chg (e : EnvOk G ua env σ B H) (hi : env[i]? = some (.own o)) (hs : σ[i]? = some (some (.ref l))) (hb : B l = none) (nu : ua ≠ some l) (r : RepO G ua o' ho' B) : EnvOk G ua (env.set i (.own o')) σ B (upd H l ho') := by
  refine ⟨by rw [List.length_set]; exact e.len, fun j x hj => ?_, fun j x hj => ?_, fun j k x y p a1 a2 a3 a4 => ?_⟩
  · rcases get_set hj with ⟨_, z⟩ | ⟨_, hj⟩
    · cases z
    · exact e.pub j x hj
  · rcases get_set hj with ⟨rfl, z⟩ | ⟨hne, hj⟩
    · cases z
      exact ⟨l, _, hs, upd_same, hb, r, nu⟩
    · obtain ⟨p, ws, b1, b2, b3, b4, b5⟩ := e.own j x hj
      refine ⟨p, ws, b1, ?_, b3, b4, b5⟩
      rw [upd_ne (fun z => hne (by subst z; exact e.inj j i x o p hj hi b1 hs))]
      exact b2
  · have o1 : ∃ x', env[j]? = some (Sl.own x') := by
      rcases get_set a1 with ⟨rfl, _⟩ | ⟨_, a1⟩
      · exact ⟨o, hi⟩
      · exact ⟨x, a1⟩
    have o2 : ∃ x', env[k]? = some (Sl.own x') := by
      rcases get_set a2 with ⟨rfl, _⟩ | ⟨_, a2⟩
      · exact ⟨o, hi⟩
      · exact ⟨y, a2⟩
    exact e.inj j k _ _ p o1.choose_spec o2.choose_spec a3 a4
theorem OwnNew.chg (h : OwnNew env σ H0) (hi : env[i]? = some (.own o)) : OwnNew (env.set i (.own o')) σ H0 := fun j es p' h1 h2 => by
  rcases get_set h1 with ⟨rfl, _⟩ | ⟨_, h1'⟩
  · exact h _ o p' hi h2
  · exact h j es p' h1' h2
theorem OwnNew.pub (h : OwnNew env σ H0) (i : Nat) (d : D) : OwnNew (env.set i (.pub d)) σ H0 := fun j es p' h1 h2 => by
  rcases get_set h1 with ⟨_, z⟩ | ⟨_, h1'⟩
  · cases z
  · exact h j es p' h1' h2
/-- a new thing of one's own -/
theorem EnvOk.newOwn {p : Addr} (e : EnvOk G ua env σ B H) (hn : ∀ q o2, H q = some o2 → ∀ (j : Nat) es, env[j]? = some (Sl.own es) → σ[j]? = some (some (V.ref q)) → q ≠ p) (hp : H p = some ho) (hb : B p = none) (nu : ua ≠ some p) (r : RepO G ua o ho B) : EnvOk G ua (env.set i (.own o)) (σ.set i (some (.ref p))) B H :=
  e.setOwn hp hb r nu fun j es q h1 h2 hj => by
    obtain ⟨p2, vs2, a1, a2, _⟩ := e.own j es h1
    rw [h2] at a1
    cases a1
    exact hn q _ a2 j es h1 h2
theorem OwnNew.newOwn {p : Addr} (h : OwnNew env σ H0) (h0 : H0 p = none) : OwnNew (env.set i (.own o)) (σ.set i (some (.ref p))) H0 := fun j es' p' h1 h2 => by
  rcases get_set h1 with ⟨rfl, _⟩ | ⟨hj, h1'⟩
  · have hl := lt_of_get h2
    rw [List.length_set] at hl
    rw [set_get hl] at h2
    cases h2
    exact h0
  · rw [List.getElem?_set_ne (fun z => hj z.symm)] at h2
    exact h j es' p' h1' h2
/-- one's own thing is shown -/
theorem EnvOk.show (e : EnvOk G ua env σ B H) (hi : env[i]? = some (.own o)) (hs : σ[i]? = some (some (.ref l))) (hb : B l = none) (r : Rep G ua d (.ref l) (upd B l ho')) : EnvOk G ua (env.set i (.pub d)) σ (upd B l ho') (upd H l ho') := by
  have sB : Same B (upd B l ho') := same_new hb
  refine ⟨by rw [List.length_set]; exact e.len, fun j x hj => ?_, fun j x hj => ?_, fun j k x y p a1 a2 a3 a4 => ?_⟩
  · rcases get_set hj with ⟨rfl, z⟩ | ⟨_, hj⟩
    · cases z
      exact ⟨_, hs, r⟩
    · obtain ⟨v, b1, b2⟩ := e.pub j x hj
      exact ⟨v, b1, b2.mono _ _ sB⟩
  · rcases get_set hj with ⟨_, z⟩ | ⟨hne, hj⟩
    · cases z
    · obtain ⟨p, ws, b1, b2, b3, b4, b5⟩ := e.own j x hj
      have np : p ≠ l := fun z => hne (by subst z; exact e.inj j i x o p hj hi b1 hs)
      exact ⟨p, ws, b1, by rw [upd_ne np]; exact b2, by rw [upd_ne np]; exact b3, b4.mono sB, b5⟩
  · rcases get_set a1 with ⟨_, z⟩ | ⟨_, a1⟩
    · cases z
    · rcases get_set a2 with ⟨_, z⟩ | ⟨_, a2⟩
      · cases z
      · exact e.inj j k x y p a1 a2 a3 a4
theorem Wd.showU (w : Wd ua u B H) (hb : B l = none) (nu : ua ≠ some l) : Wd ua u (upd B l ho') (upd H l ho') := by
  refine ⟨fun a x z => ?_, fun a z => ?_⟩
  · by_cases c : a = l
    · subst c; rw [upd_same] at z ⊢; exact z
    · rw [upd_ne c] at z ⊢; exact w.sub a x z
  · have := w.urn a z
    have c : a ≠ l := fun c => nu (by rw [← c]; exact z)
    rw [upd_ne c, upd_ne c]; exact this
/-- what is shown: a list as it is, a dict frozen -/
def ooD : Oo → D
  | .lst ds => .lst ds
  | .dct ks ds => .dct ks ds
  | .dtt ks ds => .dtt ks ds
  | .dtn ks ds => .dtn ks ds
def isDk : Oo → Bool
  | .dct _ _ => true
  | _ => false
theorem RepO.show (r : RepO G ua o ho B) (hb : B l = none) : (isDk o = false ∧ Rep G ua (ooD o) (.ref l) (upd B l ho)) ∨ ∃ ks ds, o = .dct ks ds ∧ Mut (some ho) ∧ ∀ od, Rep G ua (.dct ks ds) (.ref l) (upd B l (.frz od ho)) := by
  cases o with
  | lst ds =>
    obtain ⟨vs, rfl, rs⟩ := r
    refine .inl ⟨rfl, ?_⟩
    unfold ooD Rep
    exact ⟨l, vs, rfl, upd_same, rs.mono _ _ (same_new hb)⟩
  | dtt ks ds =>
    obtain ⟨vs, hd, rs⟩ := r
    refine .inl ⟨rfl, ?_⟩
    unfold ooD Rep
    exact ⟨l, vs, ho, rfl, upd_same, hd.mono (same_new hb), rs.mono _ _ (same_new hb)⟩
  | dtn ks ds =>
    obtain ⟨vs, hd, rs⟩ := r
    refine .inl ⟨rfl, ?_⟩
    unfold ooD Rep
    exact ⟨l, vs, ho, rfl, upd_same, hd.mono (same_new hb), rs.mono _ _ (same_new hb)⟩
  | dct ks ds =>
    obtain ⟨vs, rfl, hl, rs, _⟩ := r
    refine .inr ⟨ks, ds, rfl, trivial, fun od => ?_⟩
    unfold Rep
    exact ⟨l, vs, rfl, ⟨od, upd_same⟩, hl, rs.mono _ _ (same_new hb)⟩
end
abbrev MSl := List Sl → U → Option (Sl × U)
section
variable {K : PySem.W.Frag} (G : Gx K)
/-- v stands for s; Hs: the heap from which it came -/
def SlR (ua : Option Addr) (Hs : Hp) : Sl → V → Hp → Hp → Prop
  | .pub d => fun v B _ => Rep G ua d v B
  | .own o => fun v B H => ∃ p ho, v = .ref p ∧ Hs p = none ∧ H p = some ho ∧ B p = none ∧ ua ≠ some p ∧ RepO G ua o ho B
  | .no => fun _ _ _ => False
def AftS (ua : Option Addr) (B H : Hp) (u' : U) (s : Sl) : V → Hp → Prop := fun v H' => ∃ B', Grow ua B H B' H' ∧ Wd ua u' B' H' ∧ SlR G ua H s v B' H'
def tSv (m : MSl) : TE := fun σ H Q => ∃ ua u B env s u', EnvOk G ua env σ B H ∧ Wd ua u B H ∧ m env u = some (s, u') ∧ ∀ v H', AftS G ua B H u' s v H' → Q v H'
end
section
variable {K : PySem.W.Frag} {G : Gx K} {ua : Option Addr} {u u' : U} {env : List Sl} {σ : List (Option V)} {B H B1 H1 H0 B0 Hs : Hp} {i : Nat} {s : Sl} {v : V}
theorem SlR.grow (r : SlR G ua Hs s v B H) (g : Grow ua B H B1 H1) : SlR G ua Hs s v B1 H1 := by
  cases s with
  | no => exact r.elim
  | pub d => exact Rep.mono _ _ g.pub r
  | own o =>
    obtain ⟨p, ho, e, h1, h2, h3, h4, h5⟩ := r
    exact ⟨p, ho, e, h1, g.keep _ _ h2 h4, g.none_of h2 h3, h4, h5.mono g.pub⟩
/-- such a value is stored -/
theorem SlR.store (r : SlR G ua Hs s v B H) (e : EnvOk G ua env σ B H) (i : Nat) (far : ∀ (j : Nat) es q, env[j]? = some (Sl.own es) → σ[j]? = some (some (V.ref q)) → Hs q ≠ none) : EnvOk G ua (env.set i s) (σ.set i (some v)) B H := by
  cases s with
  | no => exact r.elim
  | pub d => exact e.set r i
  | own o =>
    obtain ⟨p, ho, rfl, h1, h2, h3, h4, h5⟩ := r
    exact e.setOwn h2 h3 h5 h4 fun j es q z1 z2 hj z => far j es q z1 z2 (by rw [z]; exact h1)
theorem SlR.news (r : SlR G ua Hs s v B H) (hO : OwnNew env σ H0) (live : ∀ a, Hs a = none → H0 a = none) (i : Nat) : OwnNew (env.set i s) (σ.set i (some v)) H0 := by
  cases s with
  | no => exact r.elim
  | pub d => exact hO.set i d v
  | own o =>
    obtain ⟨p, ho, rfl, h1, _⟩ := r
    exact hO.newOwn (live _ h1)
theorem EnvOk.far (e : EnvOk G ua env σ B H) : ∀ (j : Nat) es q, env[j]? = some (Sl.own es) → σ[j]? = some (some (V.ref q)) → H q ≠ none := fun j es q z1 z2 z => by
  obtain ⟨p2, vs2, a1, a2, _⟩ := e.own j es z1
  rw [z2] at a1
  cases a1
  rw [z] at a2
  cases a2
end
section
variable {X : Cx} {G : Gx X.K} {W : WX} {e f : Expr} {es : List Expr} {me : M} {ms : Ms} {pos apos cpos p : Pos} {sts : List Stmt} {m : MS} {mv mv2 : MSl}
def vP (m : M) : MSl := fun env u => bnd (m env u) fun d u1 => some (.pub d, u1)
theorem dv_P (h : PE X e (tEv G me)) : PE X e (tSv G (vP me)) := h.imp fun σ H Q z => by
  obtain ⟨ua, u, B, env, s, u', hE, hW, hm, q⟩ := z
  obtain ⟨d, u1, c1, c2⟩ := bnd_some hm
  cases c2
  exact ⟨ua, u, B, env, d, _, hE, hW, c1, q⟩
/-- [..] -/
def vLst (ms : Ms) : MSl := fun env u => bnd (ms env u) fun ds u1 => if ds.length ≤ sizeLine then some (.own (.lst ds), u1) else none
theorem dv_oLst (h : PA X es (tEvs G ms)) : PE X (.List es pos) (tSv G (vLst ms)) := (pe_lst h).imp fun σ H Q z => by
  obtain ⟨ua, u, B, env, s, u', hE, hW, hm, q⟩ := z
  obtain ⟨ds, u1, c1, c2⟩ := bnd_some hm
  split at c2
  · cases c2
    exact ⟨ua, u, B, env, ds, _, hE, hW, c1, fun vs H1 ⟨B1, g1, w1, r1⟩ => ⟨by rw [← r1.len]; assumption, fun p hp =>
      q _ _ ⟨B1, g1.trans (.own1 w1 hp), w1.own1 hp, p, _, rfl, g1.live _ hp, upd_same, w1.none_of hp, w1.ne_urn hp, _, rfl, r1⟩⟩⟩
  · cases c2
/-- list(e) -/
def vList (m : M) : MSl := fun env u => bnd (m env u) fun d u1 => match bList [d] with
  | some (.lst ds) => some (.own (.lst ds), u1)
  | _ => none
theorem dv_oList (hg : Gl X "list") (hm : X.mg "list" = none) (ha : PE X e (tEv G me)) (he : starEach (e :: []) X.env = (false, eval e X.env) :: starEach [] X.env := by rfl) (hpl : (backTo pos (starEach [] X.env)).any (·.1) = false := by rfl) :
    PE X (.Call (.Name "list" p) [e] [] pos) (tSv G (vList me)) :=
  (pe_callTy call_list_of hg hm (by decide +kernel) (pa_cons ha pa_nil he) (by decide) (by decide) he hpl).imp fun σ H Q z => by
    obtain ⟨ua, u, B, env, s, u', hE, hW, hm, q⟩ := z
    obtain ⟨d, u1, c1, c2⟩ := bnd_some hm
    refine ⟨ua, u, B, env, d, u1, hE, hW, c1, fun v H1 ⟨B1, g1, w1, r1⟩ => ?_⟩
    cases d with
    | lst ds =>
      cases c2
      obtain ⟨a, ys, rfl, h, r3⟩ := r1.lst
      exact ⟨a, ys, rfl, .inl (.of (w1.sub _ _ h)), fun l hl => q _ _ ⟨B1, g1.trans (.own1 w1 hl), w1.own1 hl, l, _, rfl, g1.live _ hl, upd_same, w1.none_of hl, w1.ne_urn hl, _, rfl, r3⟩⟩
    | tup ds =>
      cases c2
      obtain ⟨a, ys, rfl, h, r3⟩ := r1.tup
      exact ⟨a, ys, rfl, .inr (h.mono w1.sub).sq, fun l hl => q _ _ ⟨B1, g1.trans (.own1 w1 hl), w1.own1 hl, l, _, rfl, g1.live _ hl, upd_same, w1.none_of hl, w1.ne_urn hl, _, rfl, r3⟩⟩
    | _ => cases c2
def sSv (i : Nat) (m : MSl) : MS := fun env u => bnd (m env u) fun s u1 => some (.nx (env.set i s), u1)
theorem ds_setv (i : Nat) {x : Str} {pos' : Pos} (hN : X.N.Nodup) (he : PE X e (tSv G mv)) (hi : X.N[i]? = some x := by rfl) (hx : Loc X.env.scope x := by first | exact Or.inl rfl | exact Or.inr rfl) (hs : swapsWith e (some (.Name x pos')) pos.line X.env = pure false := by rfl)
    (hf : X.fn x = true ∨ X.env.scope.names.lookup x = some .local := by first | exact .inl rfl | exact .inr rfl | assumption) : PS X (.Assign [.Name x pos'] e pos) (tSt G W (sSv i mv)) := (ps_set hN hi hx he hs hf).imp fun Dn σ H h => by
  obtain ⟨ua, u, B, env, fl, u', B0, H0, hg, hO, hE, hW, hm, q⟩ := h
  obtain ⟨s, u1, c1, c2⟩ := bnd_some hm
  cases c2
  refine ⟨ua, u, B, env, s, _, hE, hW, c1, fun v H1 a => ?_⟩
  obtain ⟨B', g, w, r⟩ := a
  exact q _ B' H1 (hg.trans g) (r.news hO hg.live i) (r.store (hE.grow g) i hE.far) w
def sParv (i j : Nat) (a b : MSl) : MS := fun env u => bnd (a env u) fun s u1 => bnd (b env u1) fun s2 u2 => some (.nx ((env.set i s).set j s2), u2)
theorem ds_parv (i j : Nat) {a b : Expr} {ma mb : MSl} {x y : Str} {px py pt pt2 : Pos} {kt k2 : Nat} (ha : PE X a (tSv G ma)) (hb : PE X b (tSv G mb)) (h : ∀ {ta : TA}, PA X [a, b] ta → PS X (.Assign [.Tuple [.Name x px, .Name y py] kt pt] (.Tuple [a, b] k2 pt2) pos) (tPar i j ta))
    (hs : starEach (a :: [b]) X.env = (false, eval a X.env) :: starEach [b] X.env := by rfl) (hs2 : starEach (b :: []) X.env = (false, eval b X.env) :: starEach [] X.env := by rfl) :
    PS X (.Assign [.Tuple [.Name x px, .Name y py] kt pt] (.Tuple [a, b] k2 pt2) pos) (tSt G W (sParv i j ma mb)) := (h (pa_cons ha (pa_cons hb pa_nil hs2) hs)).imp fun Dn σ H h => by
  obtain ⟨ua, u, B, env, fl, u', B0, H0, hg, hO, hE, hW, hm, q⟩ := h
  obtain ⟨s, u1, c1, c2⟩ := bnd_some hm
  obtain ⟨s2, u2, c3, c4⟩ := bnd_some c2
  cases c4
  refine ⟨ua, u, B, env, s, u1, hE, hW, c1, fun v H1 ⟨B1, g1, w1, r1⟩ => ⟨ua, u1, B1, env, s2, _, hE.grow g1, w1, c3, fun v2 H2 ⟨B2, g2, w2, r2⟩ => ⟨v, v2, rfl, ?_⟩⟩⟩
  have gg := g1.trans g2
  have ea := (r1.grow g2).store (hE.grow gg) i hE.far
  have oa := r1.news hO hg.live i
  refine q _ B2 H2 (hg.trans gg) (r2.news oa (fun a z => hg.live _ (g1.live _ z)) j) (r2.store ea j fun k es p z1 z2 => ?_) w2
  exact ((r1.store (hE.grow g1) i hE.far).far k es p z1 z2)
/-- x.append(e), x one's own list -/
def sApp (i : Nat) (m : M) : MS := fun env u => match env[i]? with
  | some (.own (.lst ds)) => bnd (m env u) fun d u1 => if ds.length < sizeLine then some (.nx (env.set i (.own (.lst (ds ++ [d])))), u1) else none
  | _ => none
theorem ds_app (i : Nat) {x : Str} {px : Pos} (he : PE X e (tEv G me)) (hN : X.N[i]? = some x := by rfl) (hv : Vis X.env.scope x := by first | exact Or.inl rfl | exact Or.inr (Or.inl rfl) | exact Or.inr (Or.inr rfl)) (hd : (x == ("__debug__" : Str)) = false := by decide) (hcd : (x == ("__classdict__" : Str)) = false := by decide)
    (hbase : attributeBase (.Name x px) "append" X.env (eval (.Name x px) X.env) = eval (.Name x px) X.env := by rfl)
    (hfew : ((backTo cpos (starEach [e] X.env)).all (fun x => !x.1) && (backToKw cpos (keywordEach [] X.env)).all (fun x => x.1.isSome)
      && decide ([e].length + ([] : List Keyword).length + (if ([] : List Keyword).isEmpty then 0 else 1) < 30)) = true := by rfl)
    (hline : (apos.endLine == cpos.line) = true := by rfl) (hs : starEach [e] X.env = (false, eval e X.env) :: starEach [] X.env := by rfl) (hp : (backTo cpos (starEach [] X.env)).any (·.1) = false := by rfl)
    (hsw : swapsWith (.Call (.Attribute (.Name x px) "append" apos) [e] [] cpos) none pos.line X.env = pure false := by rfl) :
    PS X (.Expr (.Call (.Attribute (.Name x px) "append" apos) [e] [] cpos) pos) (tSt G W (sApp i me)) :=
  (ps_expr (pe_bm PySem.F.plainAttrs_list PySem.F.slot_list_append PySem.F.type_list_append mt_append (pe_var hN hv hd hcd) (pa_cons he pa_nil hs) hbase hfew hline hs hp) hsw).imp fun Dn σ H h => by
  obtain ⟨ua, u, B, env, fl, u', B0, H0, hg, hO, hE, hW, hm, q⟩ := h
  unfold sApp at hm
  split at hm
  · rename_i ds hi
    obtain ⟨d, u1, c1, c2⟩ := bnd_some hm
    split at c2
    · rename_i hz
      cases c2
      obtain ⟨l, ho, s1, s2, s3, ⟨vs, rfl, s4⟩, s5⟩ := hE.own i _ hi
      refine ⟨_, s1, .inl ⟨rfl, _, SqL.of s2⟩, ua, u, B, env, d, _, hE, hW, c1, fun v H1 ⟨B1, g1, w1, r1⟩ => ?_⟩
      have e1 := hE.grow g1
      obtain ⟨l', ho', t1, t2, t3, ⟨vs', rfl, t4⟩, t5⟩ := e1.own i _ hi
      rw [s1] at t1
      cases t1
      refine ⟨l, vs', v, rfl, rfl, t2, by rw [← t4.len]; exact hz, ?_⟩
      exact q σ B1 _ ((hg.trans g1).putOwn (hO i _ l hi s1)) (hO.chg hi) (e1.chg hi s1 t3 t5 ⟨_, rfl, t4.append (.cons r1 .nil)⟩) (w1.put t3 t5)
    · cases c2
  · cases hm
/-- x[k] = e, x one's own dict -/
def keyOf : D → Option Key
  | .int i => some (.inl i)
  | .str x => some (.inr x)
  | _ => none
theorem keyOf_rep {K : PySem.W.Frag} {G : Gx K} {ua : Option Addr} {B : Hp} {d : D} {v : V} {k : Key} (h : keyOf d = some k) (r : Rep G ua d v B) : v = kV k := by
  unfold keyOf at h
  split at h
  · cases h; cases r.int; rfl
  · cases h; cases r.str; rfl
  · cases h
/-- in its place, or at the end -/
def putD : List Key → List D → Key → D → List Key × List D
  | k :: ks, d :: ds, j, x => if k = j then (k :: ks, x :: ds) else let r := putD ks ds j x; (k :: r.1, d :: r.2)
  | ks, ds, j, x => (ks ++ [j], ds ++ [x])
theorem putK_cons {κ : Type} [DecidableEq κ] (p : κ × V) (r : List (κ × V)) (k : κ) (v : V) (hn : k ∉ r.map (·.1) ∨ p.1 ≠ k) : putK (p :: r) k v = if p.1 = k then (p.1, v) :: r else p :: putK r k v := by
  by_cases e : p.1 = k
  · rw [if_pos e]
    unfold putK
    have h1 : ((p :: r).any fun kv => decide (kv.1 = k)) = true := by simp [e]
    rw [if_pos h1, List.map_cons, if_pos e]
    congr 1
    rcases hn with hn | hn
    · conv => rhs; rw [← List.map_id r]
      refine List.map_congr_left fun q hq => ?_
      rw [if_neg (fun z => hn (List.mem_map.mpr ⟨q, hq, z⟩))]; rfl
    · exact (hn e).elim
  · rw [if_neg e]
    unfold putK
    rw [List.any_cons, decide_eq_false e, Bool.false_or]
    split
    · rw [List.map_cons, if_neg e]
    · rfl
theorem putD_rep {K : PySem.W.Frag} {G : Gx K} {ua : Option Addr} {B : Hp} {j : Key} {x : D} {w : V} (rx : Rep G ua x w B) : ∀ {ks : List Key} {ds : List D} {vs : List V}, ks.Nodup → ks.length = vs.length → Reps G ua ds vs B →
    ∃ ws, putK (ks.zip vs) j w = (putD ks ds j x).1.zip ws ∧ (putD ks ds j x).1.length = ws.length ∧ Reps G ua (putD ks ds j x).2 ws B ∧ (∀ k ∈ (putD ks ds j x).1, k ∈ ks ∨ k = j) ∧ (putD ks ds j x).1.Nodup
  | [], ds, vs, hn, hl, r => by
    cases vs with
    | cons v vs => cases hl
    | nil =>
      cases ds with
      | cons d ds => obtain ⟨_, _, h, _⟩ := r.of_cons; cases h
      | nil => exact ⟨[w], rfl, rfl, .cons rx .nil, fun k hk => .inr (by simpa [putD] using hk), by simp [putD]⟩
  | k :: ks, ds, vs, hn, hl, r => by
    cases vs with
    | nil => cases hl
    | cons v vs =>
      cases ds with
      | nil => have := r.of_nil; cases this
      | cons d ds =>
        obtain ⟨v', t, hv, r1, r2⟩ := r.of_cons
        cases hv
        obtain ⟨h1, h2⟩ := List.nodup_cons.mp hn
        have hl' : ks.length = vs.length := Nat.succ.inj hl
        rw [List.zip_cons_cons]
        unfold putD
        by_cases e : k = j
        · subst e
          rw [if_pos rfl, putK_cons (k, v) (ks.zip vs) k w (.inl fun z => h1 (by
            obtain ⟨q, hq, e⟩ := List.mem_map.mp z
            rw [← e]; exact (List.of_mem_zip hq).1)), if_pos rfl]
          exact ⟨w :: vs, rfl, hl, .cons rx r2, fun k' hk => .inl hk, hn⟩
        · rw [if_neg e]
          rw [putK_cons (k, v) (ks.zip vs) j w (.inr e), if_neg e]
          obtain ⟨ws, q1, q2, q3, q4, q5⟩ := putD_rep rx h2 hl' r2
          refine ⟨v :: ws, by rw [q1]; rfl, by show _ + 1 = _ + 1; rw [q2], .cons r1 q3, fun k' hk => ?_, List.nodup_cons.mpr ⟨fun z => ?_, q5⟩⟩
          · rcases List.mem_cons.mp hk with rfl | hk
            · exact .inl List.mem_cons_self
            · rcases q4 k' hk with z | z
              · exact .inl (List.mem_cons_of_mem _ z)
              · exact .inr z
          · rcases q4 k z with z | z
            · exact h1 z
            · exact e z
end
end Dv
namespace Dv
open PySem PySem.Spec PyProof.Rows L2
section
variable {X : Cx} {e : Expr} {t : TT}
theorem pss_frz {sts : List Stmt} {t : TS} (h : PSs X sts t) : PSs X sts (fun Dn σ H => t Dn σ H ∨ ∃ d u, H d = some u ∧ Mut (some u) ∧ ∀ od, t Dn σ (upd H d (.frz od u))) := by
  refine ⟨fun pins s σ H D I hw => ?_⟩
  rcases hw with hw | ⟨d, u, hd, mu, hw⟩
  · exact h.run pins s σ H D I hw
  · obtain ⟨od, I1⟩ := I.lock hd mu
    exact h.run pins s σ _ D I1 (hw od)
end
section
variable {K : PySem.W.Frag} {G : Gx K} {ua : Option Addr} {u : U} {env : List Sl} {σ : List (Option V)} {B H B0 H0 B1 H1 : Hp} {i : Nat} {o : Oo} {l : Addr} {ho ho' : HO} {d : D} {v : V}
theorem Grow.showU (g : Grow ua B0 H0 B H) (h0 : H0 l = none) (hb : B l = none) : Grow ua B0 H0 (upd B l ho') (upd H l ho') := by
  refine ⟨fun a x e n => ?_, fun a e => ?_, fun a x e => same_new hb a x (g.pub a x e), fun a x e => ?_⟩
  · rw [upd_ne (fun z => by rw [z, h0] at e; cases e)]; exact g.keep a x e n
  · by_cases q : a = l
    · rw [q]; exact h0
    · rw [upd_ne q] at e; exact g.live a e
  · by_cases q : a = l
    · rw [q]; exact .inr h0
    · rw [upd_ne q] at e; exact g.new a x e
/-- data without objects -/
def scalD : D → Bool
  | .non => true
  | .bl _ => true
  | .int _ => true
  | .str _ => true
  | _ => false
theorem Rep.scal (h : scalD d = true) (r : Rep G ua d v B) : Rep G ua d v B1 := by
  cases d <;> first | (unfold Rep at r ⊢; exact r) | cases h
/-- behind a look into one's own thing -/
theorem peek_back (w : Wd ua u B H) (hl : H l = some ho) (hb : B l = none) (nu : ua ≠ some l) {u' : U} (g : Grow ua (upd B l ho') (upd H l ho') B1 H1) (w1 : Wd ua u' B1 H1) : Grow ua B H B (upd H1 l ho) ∧ Wd ua u' B (upd H1 l ho) := by
  have key : ∀ a x, H a = some x → a ≠ l → ua ≠ some a → H1 a = some x := fun a x e n m => g.keep a x (by rw [upd_ne n]; exact e) m
  refine ⟨⟨fun a x e n => ?_, fun a e => ?_, fun _ _ e => e, fun _ _ e => .inl e⟩, ⟨fun a x e => ?_, fun a e => ?_⟩⟩
  · by_cases q : a = l
    · subst q; rw [hl] at e; cases e; exact upd_same
    · rw [upd_ne q]; exact key a x e q n
  · by_cases q : a = l
    · subst q; rw [upd_same] at e; cases e
    · rw [upd_ne q] at e
      have := g.live a e
      rw [upd_ne q] at this
      exact this
  · have q : a ≠ l := fun z => by rw [z, hb] at e; cases e
    rw [upd_ne q]
    exact key a x (w.sub a x e) q (fun z => by rw [(w.urn a z).1] at e; cases e)
  · have q : a ≠ l := fun z => nu (by rw [← z]; exact e)
    rw [upd_ne q]
    exact ⟨(w.urn a e).1, (w1.urn a e).2⟩
end
section
variable {X : Cx} {G : Gx X.K} {W : WX} {e f : Expr} {es : List Expr} {me mk : M} {mb : MB} {ms : Ms} {pos apos cpos p : Pos} {sts : List Stmt} {m : MS}
/-- one's own thing is let out -/
def sPub (i : Nat) (m : MS) : MS := fun env u => match env[i]? with
  | some (.own o) => m (env.set i (.pub (ooD o))) u
  | _ => none
theorem dss_pub (i : Nat) (h : PSs X sts (tSt G W m)) : PSs X sts (tSt G W (sPub i m)) := (pss_frz h).imp fun Dn σ H h => by
  obtain ⟨ua, u, B, env, fl, u', B0, H0, hg, hO, hE, hW, hm, q⟩ := h
  unfold sPub at hm
  split at hm
  · rename_i o hi
    obtain ⟨l, ho, s1, s2, s3, s4, s5⟩ := hE.own i o hi
    have h0 : H0 l = none := hO i o l hi s1
    rcases s4.show s3 with ⟨_, r⟩ | ⟨ks, ds, rfl, mu, r⟩
    · left
      have eS := hE.show hi s1 s3 r
      have gS := hg.showU (ho' := ho) h0 s3
      have wS := hW.showU (ho' := ho) s3 s5
      rw [upd_id s2] at eS gS wS
      exact ⟨ua, u, _, _, fl, u', B0, H0, gS, hO.pub i _, eS, wS, hm, q⟩
    · right
      exact ⟨l, ho, s2, mu, fun od => ⟨ua, u, _, _, fl, u', B0, H0, hg.showU h0 s3, hO.pub i _, hE.show hi s1 s3 (r od), hW.showU s3 s5, hm, q⟩⟩
  · cases hm
/-- an expression without objects looks into one's own list, one's own dict -/
def mPeek (i : Nat) (m : M) : M := fun env u => match env[i]? with
  | some (.own o) => bnd (m (env.set i (.pub (ooD o))) u) fun d u1 => if scalD d = true then some (d, u1) else none
  | _ => none
theorem dv_peek (i : Nat) (h : PE X e (tEv G me)) : PE X e (tEv G (mPeek i me)) := by
  refine PE.by fun σ H Q z => ?_
  obtain ⟨ua, u, B, env, d, u', hE, hW, hm, q⟩ := z
  unfold mPeek at hm
  split at hm
  · rename_i o hi
    obtain ⟨d, u1, c1, c2⟩ := bnd_some hm
    split at c2
    · rename_i hsc
      cases c2
      obtain ⟨l, ho, s1, s2, s3, s4, s5⟩ := hE.own i o hi
      rcases s4.show s3 with ⟨_, r⟩ | ⟨ks, ds, rfl, mu, r⟩
      · refine ⟨_, h, ?_⟩
        have eS := hE.show hi s1 s3 r
        have wS := hW.showU (ho' := ho) s3 s5
        have id := upd_id s2
        rw [id] at eS wS
        refine ⟨ua, u, _, _, d, _, eS, wS, c1, fun v H1 ⟨B1, g1, w1, r1⟩ => ?_⟩
        have g1' : Grow ua (upd B l ho) (upd H l ho) B1 H1 := by rw [id]; exact g1
        obtain ⟨g2, w2⟩ := peek_back hW s2 s3 s5 g1' w1
        have k1 : H1 l = some ho := g1.keep _ _ s2 s5
        rw [upd_id k1] at g2 w2
        exact q v H1 ⟨B, g2, w2, r1.scal hsc⟩
      · refine ⟨_, pe_lock h, l, ho, s2, mu, fun od => ?_⟩
        refine ⟨ua, u, _, _, d, _, hE.show hi s1 s3 (r od), hW.showU s3 s5, c1, fun v H1 ⟨B1, g1, w1, r1⟩ => ?_⟩
        obtain ⟨g2, w2⟩ := peek_back hW s2 s3 s5 g1 w1
        exact ⟨g1.keep _ _ upd_same s5, q v _ ⟨B, g2, w2, r1.scal hsc⟩⟩
    · cases c2
  · cases hm
end
section
variable {X : Cx} {G : Gx X.K} {W : WX} {e f : Expr} {me : M} {pos apos cpos apos2 cpos2 p : Pos}
/-- x.append(y.pop(e)), both one's own lists -/
def sAppPop (i j : Nat) (m : M) : MS := fun env u => match env[i]?, env[j]? with
  | some (.own (.lst ds)), some (.own (.lst es)) => bnd (m env u) fun k u1 => match k with
    | .int n => if 0 ≤ n ∧ n < es.length ∧ es.length ≤ 2 ^ 62 ∧ ds.length < sizeLine ∧ i ≠ j then (match es[n.toNat]? with
      | some d => some (.nx ((env.set j (.own (.lst (es.eraseIdx n.toNat)))).set i (.own (.lst (ds ++ [d])))), u1)
      | none => none) else none
    | _ => none
  | _, _ => none
theorem Reps.erase {K : PySem.W.Frag} {G : Gx K} {ua : Option Addr} {B : Hp} : ∀ {ds : List D} {vs : List V} (n : Nat), Reps G ua ds vs B → Reps G ua (ds.eraseIdx n) (vs.eraseIdx n) B
  | [], vs, n, h => by rw [h.of_nil]; exact .nil
  | d :: ds, vs, 0, h => by
    obtain ⟨v, r, rfl, q, t⟩ := h.of_cons
    exact t
  | d :: ds, vs, n + 1, h => by
    obtain ⟨v, r, rfl, q, t⟩ := h.of_cons
    exact .cons q (Reps.erase n t)
theorem ds_appPop (i j : Nat) {x y : Str} {px py : Pos} (he : PE X e (tEv G me)) (hN : X.N[i]? = some x := by rfl) (hNj : X.N[j]? = some y := by rfl) (hv : Vis X.env.scope x := by first | exact Or.inl rfl | exact Or.inr (Or.inl rfl) | exact Or.inr (Or.inr rfl)) (hvy : Vis X.env.scope y := by first | exact Or.inl rfl | exact Or.inr (Or.inl rfl) | exact Or.inr (Or.inr rfl))
    (hd : (x == ("__debug__" : Str)) = false := by decide) (hcd : (x == ("__classdict__" : Str)) = false := by decide) (hdy : (y == ("__debug__" : Str)) = false := by decide) (hcdy : (y == ("__classdict__" : Str)) = false := by decide)
    (hbase : attributeBase (.Name x px) "append" X.env (eval (.Name x px) X.env) = eval (.Name x px) X.env := by rfl) (hbasey : attributeBase (.Name y py) "pop" X.env (eval (.Name y py) X.env) = eval (.Name y py) X.env := by rfl)
    (hfew : ((backTo cpos (starEach [.Call (.Attribute (.Name y py) "pop" apos2) [e] [] cpos2] X.env)).all (fun x => !x.1) && (backToKw cpos (keywordEach [] X.env)).all (fun x => x.1.isSome)
      && decide ([Expr.Call (.Attribute (.Name y py) "pop" apos2) [e] [] cpos2].length + ([] : List Keyword).length + (if ([] : List Keyword).isEmpty then 0 else 1) < 30)) = true := by rfl)
    (hfewy : ((backTo cpos2 (starEach [e] X.env)).all (fun x => !x.1) && (backToKw cpos2 (keywordEach [] X.env)).all (fun x => x.1.isSome)
      && decide ([e].length + ([] : List Keyword).length + (if ([] : List Keyword).isEmpty then 0 else 1) < 30)) = true := by rfl)
    (hline : (apos.endLine == cpos.line) = true := by rfl) (hliney : (apos2.endLine == cpos2.line) = true := by rfl) (hs : starEach [.Call (.Attribute (.Name y py) "pop" apos2) [e] [] cpos2] X.env = (false, eval (.Call (.Attribute (.Name y py) "pop" apos2) [e] [] cpos2) X.env) :: starEach [] X.env := by rfl) (hsy : starEach [e] X.env = (false, eval e X.env) :: starEach [] X.env := by rfl)
    (hp : (backTo cpos (starEach [] X.env)).any (·.1) = false := by rfl) (hpy : (backTo cpos2 (starEach [] X.env)).any (·.1) = false := by rfl)
    (hsw : swapsWith (.Call (.Attribute (.Name x px) "append" apos) [.Call (.Attribute (.Name y py) "pop" apos2) [e] [] cpos2] [] cpos) none pos.line X.env = pure false := by rfl) :
    PS X (.Expr (.Call (.Attribute (.Name x px) "append" apos) [.Call (.Attribute (.Name y py) "pop" apos2) [e] [] cpos2] [] cpos) pos) (tSt G W (sAppPop i j me)) :=
  (ps_expr (pe_bm PySem.F.plainAttrs_list PySem.F.slot_list_append PySem.F.type_list_append mt_append (pe_var hN hv hd hcd) (pa_cons (pe_bm PySem.F.plainAttrs_list PySem.F.slot_list_pop PySem.F.type_list_pop mt_popAt (pe_var hNj hvy hdy hcdy) (pa_cons he pa_nil hsy) hbasey hfewy hliney hsy hpy) pa_nil hs) hbase hfew hline hs hp) hsw).imp fun Dn σ H h => by
  obtain ⟨ua, u, B, env, fl, u', B0, H0, hg, hO, hE, hW, hm, q⟩ := h
  unfold sAppPop at hm
  split at hm
  · rename_i ds es hi hj
    obtain ⟨k, u1, c1, c2⟩ := bnd_some hm
    split at c2
    · rename_i n
      split at c2
      · rename_i hz
        obtain ⟨z0, z1, z2, z3, z4⟩ := hz
        split at c2
        · rename_i dd hdd
          cases c2
          obtain ⟨l, ho, s1, s2, s3, ⟨vs, rfl, s4⟩, s5⟩ := hE.own i _ hi
          obtain ⟨l2, ho2, y1, y2, y3, ⟨vs2, rfl, y4⟩, y5⟩ := hE.own j _ hj
          refine ⟨_, s1, .inl ⟨rfl, _, SqL.of s2⟩, _, y1, .inl ⟨rfl, _, SqL.of y2⟩, ua, u, B, env, _, _, hE, hW, c1, fun v H1 ⟨B1, g1, w1, r1⟩ => ?_⟩
          cases r1.int
          have e1 := hE.grow g1
          obtain ⟨l', ho', t1, t2, t3, ⟨vs', rfl, t4⟩, t5⟩ := e1.own i _ hi
          rw [s1] at t1
          cases t1
          obtain ⟨l2', ho2', x1, x2, x3, ⟨vs2', rfl, x4⟩, x5⟩ := e1.own j _ hj
          rw [y1] at x1
          cases x1
          obtain ⟨yv, hy, ry⟩ := x4.get hdd
          have nl : l ≠ l2 := fun z => z4 (e1.inj i j _ _ l hi hj s1 (by rw [z]; exact y1))
          have hlen : vs2'.length = es.length := x4.len.symm
          have ha : seqIndex? n vs2'.length = some n.toNat := by
            unfold seqIndex?
            have h1 : ¬ n < 0 := by omega
            simp only [h1, if_false]
            rw [if_pos (by simp; omega)]
          refine ⟨l2, vs2', n, n.toNat, yv, rfl, rfl, x2, by omega, by omega, ha, hy, ?_⟩
          refine ⟨l, vs', yv, rfl, rfl, by rw [upd_ne nl]; exact t2, by rw [← t4.len]; exact z3, ?_⟩
          have ej := e1.chg hj y1 x3 x5 (o' := .lst (es.eraseIdx n.toNat)) ⟨_, rfl, x4.erase n.toNat⟩
          have hi' : (env.set j (.own (.lst (es.eraseIdx n.toNat))))[i]? = some (.own (.lst ds)) := by rw [List.getElem?_set_ne (fun z => z4 z.symm)]; exact hi
          have oj := hO.chg hj (o' := .lst (es.eraseIdx n.toNat))
          exact q σ B1 _ (((hg.trans g1).putOwn (hO j _ l2 hj y1)).putOwn (hO i _ l hi s1)) (oj.chg hi') (ej.chg hi' s1 t3 t5 ⟨_, rfl, t4.append (.cons ry .nil)⟩) ((w1.put x3 x5).put t3 t5)
        · cases c2
      · cases c2
    · cases c2
  · cases hm
end
end Dv
namespace Dv
open PySem PySem.Spec PyProof.Rows L2
def ltK : Key → Key → Bool
  | .inl i, .inl j => decide (i < j)
  | .inr x, .inr y => decide (x.cps.toList < y.cps.toList)
  | .inl _, .inr _ => true
  | .inr _, .inl _ => false
theorem ltK_irr (a : Key) : ltK a a = false := by
  cases a with
  | inl i => exact decide_eq_false (Int.lt_irrefl _)
  | inr x => exact decide_eq_false (List.lt_irrefl _)
theorem ltK_trans {a b c : Key} (h : ltK a b = true) (g : ltK b c = true) : ltK a c = true := by
  cases a <;> cases b <;> cases c <;> simp only [ltK, decide_eq_true_eq, Bool.false_eq_true] at h g ⊢
  · omega
  · exact List.lt_trans h g
theorem ltK_tri (a b : Key) : ltK a b = true ∨ a = b ∨ ltK b a = true := by
  cases a with
  | inl i =>
    cases b with
    | inl j =>
      rcases Int.lt_trichotomy i j with h | h | h
      · exact .inl (decide_eq_true h)
      · exact .inr (.inl (by rw [h]))
      · exact .inr (.inr (decide_eq_true h))
    | inr y => exact .inl rfl
  | inr x =>
    cases b with
    | inl j => exact .inr (.inr rfl)
    | inr y =>
      by_cases h : x.cps.toList < y.cps.toList
      · exact .inl (decide_eq_true h)
      · by_cases g : y.cps.toList < x.cps.toList
        · exact .inr (.inr (decide_eq_true g))
        · exact .inr (.inl (by rw [leS_anti (List.not_lt.mp g) (List.not_lt.mp h)]))
def leR : List Key → List Key → Bool
  | [], _ => true
  | _ :: _, [] => false
  | a :: as, b :: bs => if a = b then leR as bs else ltK a b
theorem leR_cons (a b : Key) (as bs : List Key) : leR (a :: as) (b :: bs) = if a = b then leR as bs else ltK a b := by rw [leR]
theorem leR_trans : ∀ {a b c : List Key}, leR a b = true → leR b c = true → leR a c = true
  | [], _, _, _, _ => by unfold leR; rfl
  | _ :: _, [], _, h, _ => by unfold leR at h; cases h
  | _ :: _, _ :: _, [], _, h => by unfold leR at h; cases h
  | a :: as, b :: bs, c :: cs, h, g => by
    unfold leR at h g ⊢
    by_cases e : a = b
    · subst e
      rw [if_pos rfl] at h
      by_cases f : a = c
      · rw [if_pos f] at g ⊢; exact leR_trans h g
      · rw [if_neg f] at g ⊢; exact g
    · rw [if_neg e] at h
      by_cases f : b = c
      · subst f
        rw [if_neg e]; exact h
      · rw [if_neg f] at g
        have t := ltK_trans h g
        by_cases k : a = c
        · subst k; rw [ltK_irr] at t; cases t
        · rw [if_neg k]; exact t
theorem leR_total : ∀ a b : List Key, leR a b = true ∨ leR b a = true
  | [], _ => .inl (by unfold leR; rfl)
  | _ :: _, [] => .inr (by unfold leR; rfl)
  | a :: as, b :: bs => by
    unfold leR
    by_cases e : a = b
    · rw [if_pos e, if_pos e.symm]; exact leR_total as bs
    · rw [if_neg e, if_neg (fun z => e z.symm)]
      rcases ltK_tri a b with h | h | h
      · exact .inl h
      · exact absurd h e
      · exact .inr h
theorem leR_anti : ∀ {a b : List Key}, leR a b = true → leR b a = true → a = b
  | [], [], _, _ => rfl
  | [], _ :: _, _, h => by unfold leR at h; cases h
  | _ :: _, [], h, _ => by unfold leR at h; cases h
  | a :: as, b :: bs, h, g => by
    unfold leR at h g
    by_cases e : a = b
    · subst e
      rw [if_pos rfl] at h g
      rw [leR_anti h g]
    · rw [if_neg e] at h
      rw [if_neg (fun z => e z.symm)] at g
      have := ltK_trans h g
      rw [ltK_irr] at this; cases this
def insR (x : List Key) : List (List Key) → List (List Key)
  | [] => [x]
  | y :: r => if leR x y = true then x :: y :: r else y :: insR x r
def sortR : List (List Key) → List (List Key)
  | [] => []
  | x :: r => insR x (sortR r)
theorem insR_perm (x : List Key) : ∀ l, (insR x l).Perm (x :: l)
  | [] => .refl _
  | y :: r => by
    unfold insR
    split
    · exact .refl _
    · exact ((insR_perm x r).cons y).trans (.swap x y r)
theorem sortR_perm : ∀ l, (sortR l).Perm l
  | [] => .refl _
  | x :: r => (insR_perm x _).trans ((sortR_perm r).cons x)
abbrev LeR (a b : List Key) : Prop := leR a b = true
theorem insR_sorted (x : List Key) : ∀ l : List (List Key), l.Pairwise LeR → (insR x l).Pairwise LeR
  | [], _ => List.pairwise_singleton _ _
  | y :: r, h => by
    have h1 := List.pairwise_cons.mp h
    unfold insR
    split
    · rename_i hl
      refine List.pairwise_cons.mpr ⟨fun z hz => ?_, h⟩
      rcases List.mem_cons.mp hz with rfl | hz
      · exact hl
      · exact leR_trans hl (h1.1 z hz)
    · rename_i hl
      refine List.pairwise_cons.mpr ⟨fun z hz => ?_, insR_sorted x r h1.2⟩
      rcases List.mem_cons.mp ((insR_perm x r).subset hz) with rfl | hz
      · exact (leR_total _ _).resolve_left hl
      · exact h1.1 z hz
theorem sortR_sorted : ∀ l : List (List Key), (sortR l).Pairwise LeR
  | [] => .nil
  | x :: r => insR_sorted x _ (sortR_sorted r)
theorem sortR_uniq {xs ys : List (List Key)} (p : ys.Perm xs) (h : ys.Pairwise LeR) : ys = sortR xs :=
  List.Perm.eq_of_pairwise (fun _ _ _ _ h1 h2 => leR_anti h1 h2) h (sortR_sorted xs) (p.trans (sortR_perm xs).symm)
def keyPy : Key → PyData
  | .inl i => .int i
  | .inr x => .str x
def rowPy (ks : List Key) : PyData := .tuple (ks.map keyPy)
def kindK : Key → Bool
  | .inl _ => true
  | .inr _ => false
abbrev shapeR (ks : List Key) : List Bool := ks.map kindK
theorem key_alike {a b : Key} (h : kindK a = kindK b) : W.alike (keyPy a) (keyPy b) = true := by
  cases a <;> cases b <;> simp_all [kindK, keyPy, W.alike]
theorem key_eqv {a b : Key} (h : kindK a = kindK b) : PyData.eqv (keyPy a) (keyPy b) = decide (a = b) := by
  cases a <;> cases b <;> simp_all [kindK, keyPy, PyData.eqv]
  · rename_i i j; by_cases e : i = j <;> simp [e]
  · rename_i i j; by_cases e : i = j <;> simp [e]
theorem key_lt {a b : Key} (h : kindK a = kindK b) : W.dataLt (keyPy a) (keyPy b) = ltK a b := by
  cases a <;> cases b <;> simp only [kindK, Bool.false_eq_true, Bool.true_eq_false] at h <;> unfold keyPy ltK
  · exact W.dataLt_int _ _
  · exact W.dataLt_str _ _
theorem row_alike : ∀ {a b : List Key}, shapeR a = shapeR b → W.alikeAll (a.map keyPy) (b.map keyPy) = true
  | [], _, _ => by simp [W.alikeAll]
  | _ :: _, [], h => by cases h
  | a :: as, b :: bs, h => by
    obtain ⟨h1, h2⟩ := List.cons.inj h
    show W.alikeAll (keyPy a :: as.map keyPy) (keyPy b :: bs.map keyPy) = true
    rw [W.alikeAll, key_alike h1, row_alike h2]; rfl
theorem row_lt : ∀ {a b : List Key}, shapeR a = shapeR b → W.rowLt (b.map keyPy) (a.map keyPy) = !leR a b
  | [], [], _ => by
    have e : W.rowLt [] [] = false := PyProof.Rows.lex_irrefl _
    unfold leR; exact e
  | [], _ :: _, h => by cases h
  | _ :: _, [], h => by cases h
  | a :: as, b :: bs, h => by
    obtain ⟨h1, h2⟩ := List.cons.inj h
    have e : W.rowLt ((b :: bs).map keyPy) ((a :: as).map keyPy) = if PyData.eqv (keyPy b) (keyPy a) = true then W.rowLt (bs.map keyPy) (as.map keyPy) else W.dataLt (keyPy b) (keyPy a) := W.dataLt_cons (key_alike h1.symm) _ _
    rw [e, key_eqv h1.symm, key_lt h1.symm, row_lt h2, leR_cons]
    by_cases f : a = b
    · subst f; simp
    · rw [if_neg (by simpa using fun z => f z.symm), if_neg f]
      rcases ltK_tri a b with h | h | h
      · rw [h]
        cases q : ltK b a with
        | false => rfl
        | true => have := ltK_trans h q; rw [ltK_irr] at this; cases this
      · exact absurd h f
      · rw [h]
        cases q : ltK a b with
        | false => rfl
        | true => have := ltK_trans h q; rw [ltK_irr] at this; cases this
theorem row_depth : ∀ ks : List Key, PyData.depthAll (ks.map keyPy) = 0
  | [] => by simp [PyData.depthAll]
  | k :: ks => by
    show PyData.depthAll (keyPy k :: ks.map keyPy) = 0
    rw [PyData.depthAll, row_depth ks]
    cases k <;> simp [keyPy, PyData.depth]
def keyD : Key → D
  | .inl i => .int i
  | .inr x => .str x
def rowD (ks : List Key) : D := .tup (ks.map keyD)
def keysOf : List D → Option (List Key)
  | [] => some []
  | d :: ds => (keyOf d).bind fun k => (keysOf ds).map fun ks => k :: ks
def rowOf : D → Option (List Key)
  | .tup ds => keysOf ds
  | _ => none
def rowsOf : List D → Option (List (List Key))
  | [] => some []
  | d :: ds => (rowOf d).bind fun k => (rowsOf ds).map fun ks => k :: ks
theorem keyOf_eq {d : D} {k : Key} (h : keyOf d = some k) : d = keyD k := by
  unfold keyOf at h
  split at h
  · cases h; rfl
  · cases h; rfl
  · cases h
theorem keysOf_eq : ∀ {ds : List D} {ks : List Key}, keysOf ds = some ks → ds = ks.map keyD
  | [], ks, h => by cases h; rfl
  | d :: ds, ks, h => by
    unfold keysOf at h
    cases q : keyOf d with
    | none => rw [q] at h; cases h
    | some k =>
      rw [q] at h
      cases q2 : keysOf ds with
      | none => rw [q2] at h; cases h
      | some r => rw [q2] at h; cases h; rw [keyOf_eq q, keysOf_eq q2]; rfl
theorem rowsOf_eq : ∀ {ds : List D} {ks : List (List Key)}, rowsOf ds = some ks → ds = ks.map rowD
  | [], ks, h => by cases h; rfl
  | d :: ds, ks, h => by
    unfold rowsOf at h
    cases q : rowOf d with
    | none => rw [q] at h; cases h
    | some k =>
      rw [q] at h
      cases q2 : rowsOf ds with
      | none => rw [q2] at h; cases h
      | some r =>
        rw [q2] at h; cases h
        unfold rowOf at q
        split at q
        · rw [keysOf_eq q, rowsOf_eq q2]; rfl
        · cases q
theorem keyD_of (k : Key) : keyOf (keyD k) = some k := by cases k <;> rfl
theorem keysOf_map : ∀ ks : List Key, keysOf (ks.map keyD) = some ks
  | [] => rfl
  | k :: ks => by
    show (keyOf (keyD k)).bind _ = _
    rw [keyD_of]
    show (keysOf (ks.map keyD)).map _ = _
    rw [keysOf_map ks]; rfl
theorem rowsOf_map : ∀ ks : List (List Key), rowsOf (ks.map rowD) = some ks
  | [] => rfl
  | k :: ks => by
    show (keysOf (k.map keyD)).bind _ = _
    rw [keysOf_map]
    show (rowsOf (ks.map rowD)).map _ = _
    rw [rowsOf_map ks]; rfl
theorem key_py (k : Key) : toPy (keyD k) = some (keyPy k) := by cases k <;> (unfold keyD toPy; rfl)
theorem keys_py : ∀ ks : List Key, toPys (ks.map keyD) = some (ks.map keyPy)
  | [] => by unfold toPys; rfl
  | k :: ks => by
    show toPys (keyD k :: ks.map keyD) = _
    unfold toPys
    rw [key_py, keys_py ks]; rfl
theorem row_py (ks : List Key) : toPy (rowD ks) = some (rowPy ks) := by
  unfold rowD toPy
  rw [keys_py]; rfl
def rSortedD (X : Cx) : List V → Hp → VK → Prop := fun vs H Q => ∃ (a : Addr) (zs : List (V × List Key)) (sh : List Bool), vs = [.ref a] ∧ SqL X.K H a (zs.map (·.1)) ∧ (∀ z ∈ zs, Dp X.K H z.1 (rowPy z.2)) ∧ (∀ z ∈ zs, shapeR z.2 = sh) ∧ sh ≠ [] ∧
  ∀ (p : Addr) (ys : List (V × List Key)), ys.Perm zs → (ys.map (·.2)).Pairwise LeR → H p = none → Q (.ref p) (upd H p (.lst (ys.map (·.1))))
theorem vals_each {R : Value → V × List Key → Prop} (hR : ∀ u z, R u z → RelV z.1 u) : ∀ {us : List Value} {zs : List (V × List Key)}, W.EachIs R us zs → Vals (zs.map (·.1)) us
  | _, _, .nil => .nil
  | _, _, .cons h t => .cons (hR _ _ h) (vals_each hR t)
theorem each_vals : ∀ {zs : List (V × List Key)} {us : List Value}, Vals (zs.map (·.1)) us → W.EachIs (fun u (z : V × List Key) => RelV z.1 u) us zs
  | [], us, h => by cases us with
    | nil => exact .nil
    | cons u us => cases h
  | z :: zs, us, h => by cases us with
    | nil => cases h
    | cons u us => cases h with
      | cons h1 h2 => exact .cons h1 (each_vals h2)
theorem each_reads {R S : Value → V × List Key → Prop} : ∀ {us : List Value} {zs : List (V × List Key)}, W.EachIs R us zs → (∀ u z, z ∈ zs → R u z → S u z) → W.EachIs S us zs
  | _, _, .nil, _ => .nil
  | _, _, .cons h t, f => .cons (f _ _ List.mem_cons_self h) (each_reads t fun u z hz => f u z (List.mem_cons_of_mem _ hz))
theorem shaped_ne {sh : List Bool} {k : List Key} (h : shapeR k = sh) (hn : sh ≠ []) : ∃ a r, k = a :: r := by
  cases k with
  | nil => exact absurd h.symm hn
  | cons a r => exact ⟨a, r, rfl⟩
theorem cr_sortedD {X : Cx} (hu : X.A.units + 64 < cLine) : CallR X (.builtin "sorted") (rSortedD X) := by
  intro pins s σ H vs us Q I r h
  obtain ⟨a, zs, sh, rfl, hs, hd, hsh, hne, q⟩ := h
  obtain ⟨its, rv, hl, hz⟩ := I.list hs
  obtain ⟨u, rfl, ru⟩ := vals1 r
  obtain rfl : u = Value.ref a := ru
  have e0 := each_vals rv
  have er : W.EachIs (fun u (z : V × List Key) => ∃ as, Reads s.heap u (rowPy z.2) as) its zs := each_reads e0 fun u z hz' ru => Dp.reads I _ _ _ (hd z hz') ru
  have hal : W.AllAlike (zs.map fun z => rowPy z.2) := by
    intro d hd1 d' hd2
    obtain ⟨z, hz1, rfl⟩ := List.mem_map.mp hd1
    obtain ⟨z', hz2, rfl⟩ := List.mem_map.mp hd2
    show W.alike (.tuple _) (.tuple _) = true
    rw [W.alike]
    exact row_alike ((hsh z hz1).trans (hsh z' hz2).symm)
  have hk : W.Sortable (zs.map fun z => rowPy z.2) := .inl fun d hd1 => by
    obtain ⟨z, hz1, rfl⟩ := List.mem_map.mp hd1
    obtain ⟨x, r, e⟩ := shaped_ne (hsh z hz1) hne
    exact ⟨keyPy x, r.map keyPy, by show PyData.tuple (z.2.map keyPy) = _; rw [e]; rfl⟩
  have hlen : its.length = zs.length := by rw [← rv.length, List.length_map]
  refine W.sorted_data (enc := fun z : V × List Key => rowPy z.2) (R := fun u z => RelV z.1 u) hl.isList e0 er hal hk (by rw [← hlen, ← rv.length]; exact hz) (fun b _ => by
    have : (rowPy b.2).depth = 1 := by show PyData.depth (.tuple (b.2.map keyPy)) = 1; rw [PyData.depth, row_depth]
    rw [this]; omega) fun out ho eo => ?_
  have hle : ∀ x ∈ zs, ∀ y ∈ zs, W.dataLe false (fun z : V × List Key => rowPy z.2) x y = leR x.2 y.2 := fun x hx y hy => by
    show (!W.dataLt (rowPy y.2) (rowPy x.2)) = _
    have : W.dataLt (rowPy y.2) (rowPy x.2) = W.rowLt (y.2.map keyPy) (x.2.map keyPy) := W.dataLt_tuple _ _
    rw [this, row_lt ((hsh x hx).trans (hsh y hy).symm), Bool.not_not]
  obtain ⟨ys, hys⟩ : ∃ ys, ys = zs.mergeSort (W.dataLe false fun z : V × List Key => rowPy z.2) := ⟨_, rfl⟩
  have hperm : ys.Perm zs := by rw [hys]; exact List.mergeSort_perm _ _
  rw [← hys] at eo
  obtain ⟨c, hc⟩ := PyProof.Rows.sortedAll_at s.heap its out.toArray
  refine ⟨.ref (s.heap.objs.size + 1), upd H (s.heap.objs.size + 1) (.lst (ys.map (·.1))), I.laid (t' := s.toks) (fun b o e => PyProof.Rows.sortedAll_old e) (Nat.le_succ _) ⟨?_, out, c, vals_each (fun _ _ h => h) eo, hc⟩, rfl, q _ ys hperm ?_ (I.hok.fresh (Nat.le_succ _))⟩
  · rw [List.length_map, hperm.length_eq, ← hlen, ← rv.length]; exact hz
  · rw [List.pairwise_map]
    rw [hys, W.sort_congr (s := fun x y : V × List Key => leR x.2 y.2) hle]
    exact W.sort_pairwise (le := fun x y : V × List Key => leR x.2 y.2) ⟨fun _ _ _ h g => leR_trans h g, fun _ _ => leR_total _ _⟩ zs
def sameShape (sh : List Bool) (ks : List (List Key)) : Bool := ks.all fun k => decide (shapeR k = sh)
def sortKs : List (List Key) → Option D
  | [] => some (.lst [])
  | k :: r => if sameShape (shapeR k) r = true ∧ k ≠ [] then some (.lst ((sortR (k :: r)).map rowD)) else none
def sortT (ds : List D) : Option D := (rowsOf ds).bind sortKs
def bSortA : List D → Option D
  | [.lst ds] => match bSorted [.lst ds] with
    | some d => some d
    | none => sortT ds
  | _ => none
theorem rep_rows {K : PySem.W.Frag} {G : Gx K} {ua : Option Addr} {B H : Hp} (sub : Same B H) : ∀ {ks : List (List Key)} {vs : List V}, Reps G ua (ks.map rowD) vs B → ∃ zs : List (V × List Key), zs.map (·.1) = vs ∧ zs.map (·.2) = ks ∧ ∀ z ∈ zs, Rep G ua (rowD z.2) z.1 B ∧ Dp K H z.1 (rowPy z.2)
  | [], vs, r => by
    have r : Reps G ua [] vs B := r
    exact ⟨[], by rw [r.of_nil]; rfl, rfl, fun z hz => by cases hz⟩
  | k :: ks, vs, r => by
    obtain ⟨v, t, rfl, r1, r2⟩ := (show Reps G ua (rowD k :: ks.map rowD) vs B from r).of_cons
    obtain ⟨zs, h1, h2, h3⟩ := rep_rows sub r2
    refine ⟨(v, k) :: zs, by rw [List.map_cons, h1], by rw [List.map_cons, h2], fun z hz => ?_⟩
    rcases List.mem_cons.mp hz with rfl | hz
    · exact ⟨r1, rep_dp sub _ _ _ (row_py k) r1⟩
    · exact h3 z hz
theorem reps_of {K : PySem.W.Frag} {G : Gx K} {ua : Option Addr} {B : Hp} : ∀ {zs : List (V × List Key)}, (∀ z ∈ zs, Rep G ua (rowD z.2) z.1 B) → Reps G ua ((zs.map (·.2)).map rowD) (zs.map (·.1)) B
  | [], _ => .nil
  | z :: zs, h => .cons (h z List.mem_cons_self) (reps_of fun y hy => h y (List.mem_cons_of_mem _ hy))
theorem ok_sortA {X : Cx} {G : Gx X.K} (hu : X.A.units + 64 < cLine) : BiOk G (.builtin "sorted") bSortA := by
  intro ua u B H ds d vs e rs w
  unfold bSortA at e
  split at e
  · rename_i ds
    split at e
    · rename_i d' hd
      cases e
      exact ok_sorted ua u B H _ _ vs hd rs w
    · rename_i hno
      unfold sortT at e
      cases q : rowsOf ds with
      | none => rw [q] at e; cases e
      | some ks =>
        rw [q] at e
        have e : sortKs ks = some d := e
        obtain ⟨v, t, rfl, r1, r2⟩ := rs.of_cons
        rw [r2.of_nil]
        obtain ⟨a, ys, rfl, h, r3⟩ := r1.lst
        rw [rowsOf_eq q] at r3
        cases ks with
        | nil =>
          rw [rowsOf_eq q] at hno
          cases (show (some (D.lst []) : Option D) = none from hno)
        | cons k r =>
          have e : (if sameShape (shapeR k) r = true ∧ k ≠ [] then some (D.lst ((sortR (k :: r)).map rowD)) else none) = some d := e
          split at e
          · rename_i hh
            cases e
            obtain ⟨zs, h1, h2, h3⟩ := rep_rows w.sub r3
            refine ⟨_, cr_sortedD hu, a, zs, shapeR k, rfl, by rw [h1]; exact .of (w.sub _ _ h), fun z hz => (h3 z hz).2, fun z hz => ?_, fun z => hh.2 (List.map_eq_nil_iff.mp z), fun p zs' hp hs hn => ?_⟩
            · have : z.2 ∈ k :: r := by rw [← h2]; exact List.mem_map.mpr ⟨z, hz, rfl⟩
              rcases List.mem_cons.mp this with e | m
              · rw [e]
              · exact of_decide_eq_true (List.all_eq_true.mp hh.1 _ m)
            · have : zs'.map (·.2) = sortR (k :: r) := sortR_uniq (by rw [← h2]; exact hp.map _) hs
              rw [← this]
              exact .lst w hn (reps_of fun z hz => (h3 z (hp.mem_iff.mp hz)).1)
          · cases e
  · cases e
theorem sortA_s {xs : List Str} (h : xs.length < 64) : bSortA [.lst (xs.map .str)] = some (.lst ((sortS xs).map .str)) := by
  have : bSorted [.lst (xs.map .str)] = some (.lst ((sortS xs).map .str)) := by
    show (strsOf (xs.map D.str)).bind _ = _
    have e : ∀ ys : List Str, strsOf (ys.map D.str) = some ys := fun ys => by
      induction ys with
      | nil => rfl
      | cons y r ih => show (strsOf (r.map D.str)).map _ = _; rw [ih]; rfl
    rw [e]
    exact if_pos h
  show (match bSorted [.lst (xs.map .str)] with | some d => some d | none => sortT (xs.map .str)) = _
  rw [this]
theorem sortA_r {ks : List (List Key)} {sh : List Bool} (h : ∀ k ∈ ks, shapeR k = sh) (hn : sh ≠ []) : bSortA [.lst (ks.map rowD)] = some (.lst ((sortR ks).map rowD)) := by
  cases ks with
  | nil => rfl
  | cons k r =>
    have e : bSorted [.lst ((k :: r).map rowD)] = none := rfl
    show (match bSorted [.lst ((k :: r).map rowD)] with | some d => some d | none => sortT ((k :: r).map rowD)) = _
    rw [e]
    show (rowsOf ((k :: r).map rowD)).bind _ = _
    rw [rowsOf_map]
    show (if _ then _ else _) = _
    rw [if_pos]
    refine ⟨List.all_eq_true.mpr fun z hz => decide_eq_true ((h z (List.mem_cons_of_mem _ hz)).trans (h k List.mem_cons_self).symm), fun z => hn ?_⟩
    rw [← h k List.mem_cons_self, z]; rfl
end Dv
namespace Dv
open PySem PySem.Spec PyProof.Rows L2
def txtOf (e : Int × Value) : Str := match e.2 with
  | .str x _ => x
  | _ => Str.ofString ""
def TxtE (w : World) (e : Int × Value) : Prop := ∃ x tk, e.2 = Value.str x tk ∧ e.1 = hashStr w x
/-- at a: the set of the texts ks; its table can be walked -/
def TxtSet (w : World) (h : Heap) (a : Addr) (ks : List Str) : Prop := ∃ o es ep t, h.get? a = some o ∧ o.ExactSet ∧ o.data = .set es ep t ∧ (∀ e ∈ es.toList, TxtE w e) ∧ (es.toList.map txtOf).Perm ks ∧ ks.Nodup ∧
  es.size < scanBound ∧ t.fits es.size = true ∧ Ris t.place.toList ∧ (w.params.followText "set-order" = true ∨ t.led = true)
section
variable {P : Program} {w : World} {A : Around} {E : Value → Shared → Prop} {s : Shared} {h h' : Heap} {a : Addr} {ks : List Str}
theorem TxtSet.at (R : TxtSet w h a ks) (k : ∀ o, h.get? a = some o → h'.get? a = some o) : TxtSet w h' a ks := by
  obtain ⟨o, es, ep, t, ho, r⟩ := R
  exact ⟨o, es, ep, t, k o ho, r⟩
theorem txt_elems {l : List (Int × Value)} (g : ∀ e ∈ l, TxtE w e) : ElemsOf (PySem.strKind P w) l := fun e he => by
  obtain ⟨x, tk, h1, h2⟩ := g e he
  refine ⟨⟨x, ?_, h2⟩, by rw [h1] <;> rfl⟩
  rw [h1]
  show Value.isStrOf x (.str x tk) = true
  simp [Value.isStrOf]
theorem txt_is {e : Int × Value} (g : TxtE w e) (x : Str) : (PySem.strKind P w).is x e.2 = true ↔ txtOf e = x := by
  obtain ⟨y, tk, h1, _⟩ := g
  unfold txtOf
  rw [h1]
  show Value.isStrOf x (.str y tk) = true ↔ y = x
  simp only [Value.isStrOf, beq_iff_eq]
  first
    | done
    | exact ⟨fun z => z.symm, fun z => z.symm⟩
    | exact Iff.rfl
/-- an element is laid into the table -/
theorem txt_tail {g : Bool → Sem Unit} (hg : ∀ (b : Bool) (s1 : Shared) (Q1 : Unit → Shared → Prop), Q1 () s1 → wpAny (model P w) A (g b) Q1 E s1) {o : Obj} {es es1 : Array (Int × Value)} {ep : Nat} {t t2 : SetTable} (ho : s.heap.get? a = some o) (hex : o.ExactSet) (hd : o.data = .set es ep t)
    (g1 : ∀ e ∈ es1.toList, TxtE w e) (pm1 : (es1.toList.map txtOf).Perm ks) (nd : ks.Nodup) (few : es1.size < scanBound) (fit : t2.fits es1.size = true) (ris : Ris t2.place.toList) (led : w.params.followText "set-order" = true ∨ t2.led = true) {old : Bool} {R : Option Bool → Shared → Prop}
    (fin : ∀ h2, Heap.SameBut a s.heap h2 → TxtSet w h2 a ks → R (some true) { s with heap := h2 }) :
    wpAny (model P w) A (do
        storeSet a es1 t2
        if (!old && t2.tooFull) = true then do
            g (relayAll t2 es1 (SetTable.grown es1.size)).2.2
            storeSet a (relayAll t2 es1 (SetTable.grown es1.size)).1 (relayAll t2 es1 (SetTable.grown es1.size)).2.1
            pure (some true)
          else pure (some true)) R E s := by
  have here := store_at (es' := es1) (t' := t2) ho hd
  refine wpAny_bind (wpAny_storeSet_of ho hd ?_ (fits_of_scanBound few))
  split
  · have q1 := relayAll_perm t2 es1 (SetTable.grown es1.size)
    have q2 := relayAll_fits t2 es1 (SetTable.grown es1.size)
    have q3 := relayAll_ris t2 es1 (SetTable.grown es1.size)
    have q4 := relayAll_led t2 es1 (SetTable.grown es1.size)
    generalize relayAll t2 es1 (SetTable.grown es1.size) = Z at q1 q2 q3 q4 ⊢
    obtain ⟨es2, t3, gave⟩ := Z
    dsimp only at q1 q2 q3 q4 ⊢
    have few2 : es2.size < scanBound := by
      have := q1.length_eq
      rw [Array.length_toList, Array.length_toList] at this
      omega
    refine wpAny_bind (hg _ _ _ (wpAny_bind (wpAny_storeSet_of here rfl (wpAny_pure (fin _ ((Heap.SameBut.update s.heap a _).trans (Heap.SameBut.update _ a _)) ?_)) (fits_of_scanBound few2))))
    refine ⟨_, es2, _, t3, store_at (es' := es2) (t' := t3) here rfl, hex, rfl, fun e he => g1 e (q1.mem_iff.mp he), (q1.map txtOf).trans pm1, nd, few2, q2, q3, ?_⟩
    rcases led with z | z
    · exact .inl z
    · exact .inr (q4.trans z)
  · exact wpAny_pure (fin _ (Heap.SameBut.update s.heap a _) ⟨_, es1, _, t2, here, hex, rfl, g1, pm1, nd, few, fit, ris, led⟩)
theorem txt_add {x : Str} {tk : Tok} {Q : Bool → Shared → Prop} (R : TxtSet w s.heap a ks) (room : ks.length + 1 < scanBound)
    (fin : ∀ b h2, Heap.SameBut a s.heap h2 → TxtSet w h2 a (if x ∈ ks then ks else x :: ks) → Q b { s with heap := h2 }) :
    wpAny (model P w) A (setAddHashed a (.str x tk) (hashStr w x)) Q E s := by
  obtain ⟨o, es, ep, t, ho, hex, hd, g, pm, nd, few, fit, ris, led⟩ := R
  have own : (PySem.strKind P w).is x (.str x tk) = true := by
    show Value.isStrOf x (.str x tk) = true
    simp [Value.isStrOf]
  have scan : (Value.str x tk).scannable = true := rfl
  have els : ElemsOf (PySem.strKind P w) es.toList := txt_elems g
  have count : es.size = ks.length := by rw [← pm.length_eq, List.length_map, Array.length_toList]
  have quiet : ∀ (b : Bool) (s1 : Shared) (Q1 : Unit → Shared → Prop), Q1 () s1 → wpAny (model P w) A (match b with | true => rule "set.scan.the-table-gave-way" | false => pure ()) Q1 E s1 := fun b s1 Q1 q => by
    cases b
    · exact wpAny_pure q
    · exact wpAny_rule q
  show wpAny (model P w) A (setAddHashed a (.str x tk) ((PySem.strKind P w).hash x)) Q E s
  unfold setAddHashed setAddHashedIn
  refine wpAny_holding (wpAny_bind (wpAny_setState_of ho hd fit ?_))
  dsimp only
  rw [byScan_of scan few els]
  simp only [↓reduceIte]
  unfold setAddByScan
  refine wpAny_bind (wpAny_bind (wpAny_rule (wpAny_bind (wpAny_setScan_of own ho hd fit els ?_))))
  cases hfi : List.findIdx? (fun e => (PySem.strKind P w).is x e.2) es.toList with
  | some j =>
    dsimp only
    obtain ⟨hj, pj, _⟩ := List.findIdx?_eq_some_iff_getElem.mp hfi
    have hm : x ∈ ks := pm.mem_iff.mp (List.mem_map.mpr ⟨es.toList[j], List.getElem_mem hj, (txt_is (g _ (List.getElem_mem hj)) x).mp pj⟩)
    refine wpAny_pure (wpAny_pure (fin false s.heap (Heap.SameBut.refl a s.heap) ?_))
    rw [if_pos hm]
    exact ⟨o, es, ep, t, ho, hex, hd, g, pm, nd, few, fit, ris, led⟩
  | none =>
    dsimp only
    have hm : x ∉ ks := fun z => by
      obtain ⟨e, he, q⟩ := List.mem_map.mp (pm.mem_iff.mpr z)
      have := List.findIdx?_eq_none_iff.mp hfi e he
      rw [(txt_is (g e he) x).mpr q] at this
      cases this
    have q1 := layNew_perm t es ((PySem.strKind P w).hash x) (.str x tk)
    have q2 := layNew_fits t es ((PySem.strKind P w).hash x) (.str x tk)
    have q3 := layNew_ris t es ((PySem.strKind P w).hash x) (.str x tk) ris
    have q4 := layNew_led t es ((PySem.strKind P w).hash x) (.str x tk)
    generalize layNew t es ((PySem.strKind P w).hash x) (.str x tk) = Z at q1 q2 q3 q4 ⊢
    obtain ⟨es1, t1, old, gave⟩ := Z
    dsimp only at q1 q2 q3 q4 ⊢
    rw [Array.toList_push] at q1
    have pc : es1.toList.Perm (((PySem.strKind P w).hash x, Value.str x tk) :: es.toList) := q1.trans (List.perm_append_singleton _ _)
    have g1 : ∀ e ∈ es1.toList, TxtE w e := fun e he => by
      rcases List.mem_cons.mp (pc.mem_iff.mp he) with z | z
      · rw [z]; exact ⟨x, tk, rfl, rfl⟩
      · exact g e z
    have pm1 : (es1.toList.map txtOf).Perm (x :: ks) := (pc.map txtOf).trans (pm.cons x)
    have nd1 : (x :: ks).Nodup := List.nodup_cons.mpr ⟨hm, nd⟩
    have few1 : es1.size < scanBound := by
      have := pc.length_eq
      rw [Array.length_toList, List.length_cons, Array.length_toList] at this
      omega
    have led1 : w.params.followText "set-order" = true ∨ t1.led = true := led.imp id fun z => q4.trans z
    have fin1 : ∀ h2, Heap.SameBut a s.heap h2 → TxtSet w h2 a (x :: ks) → Q true { s with heap := h2 } := fun h2 sb r => fin true h2 sb (by rw [if_neg hm]; exact r)
    refine wpAny_bind (quiet _ _ _ ?_)
    split
    · refine wpAny_bind ?_
      rw [hashByValue_scannable 8 scan]
      refine wpAny_pure (txt_tail (ks := x :: ks) quiet ho hex hd g1 pm1 nd1 few1 ?_ ?_ ?_ fun h2 sb r => ?_)
      · first | (split <;> first | exact q2 | exact SetTable.fits_plain_off q2) | exact q2
      · first | (split <;> exact q3) | exact q3
      · first | (split <;> exact led1) | exact led1
      · dsimp only
        exact wpAny_pure (fin1 h2 sb r)
    · refine wpAny_bind (wpAny_pure ?_)
      simp only [↓reduceIte]
      refine txt_tail (ks := x :: ks) quiet ho hex hd g1 pm1 nd1 few1 q2 q3 led1 fun h2 sb r => ?_
      dsimp only
      exact wpAny_pure (fin1 h2 sb r)
end
end Dv
namespace Dv
open PySem PySem.Spec PyProof.Rows L2
/-- without repeats: each at its last place -/
def nubS : List Str → List Str
  | [] => []
  | x :: r => if x ∈ nubS r then nubS r else x :: nubS r
theorem mem_nubS {z : Str} : ∀ {l : List Str}, z ∈ nubS l ↔ z ∈ l
  | [] => Iff.rfl
  | x :: r => by
    unfold nubS
    split
    · rename_i h
      rw [List.mem_cons, mem_nubS (l := r)]
      exact ⟨.inr, fun q => q.elim (fun e => by rw [e]; exact mem_nubS.mp h) id⟩
    · rw [List.mem_cons, List.mem_cons, mem_nubS (l := r)]
theorem nodup_nubS : ∀ l : List Str, (nubS l).Nodup
  | [] => List.nodup_nil
  | x :: r => by
    unfold nubS
    split
    · exact nodup_nubS r
    · exact List.nodup_cons.mpr ⟨‹_›, nodup_nubS r⟩
theorem len_nubS : ∀ l : List Str, (nubS l).length ≤ l.length
  | [] => Nat.le_refl _
  | x :: r => by
    have := len_nubS r
    unfold nubS
    split <;> (try simp only [List.length_cons]) <;> omega
def TxtAll (w : World) (h : Heap) (a : Addr) (l : List Str) : Prop := ∃ ks, TxtSet w h a ks ∧ (∀ z, z ∈ ks ↔ z ∈ l) ∧ ks.length ≤ l.length
section
variable {P : Program} {w : World} {A : Around} {E : Value → Shared → Prop} {s : Shared}
theorem txt_fresh {h : Heap} {a : Addr} (ho : h.get? a = some { cls := .type "set", dict := none, data := .set #[] 0 (.fresh 0 0 (!w.params.followText "set-order")) }) : TxtSet w h a [] := by
  refine ⟨_, #[], 0, _, ho, ⟨rfl, rfl, rfl⟩, rfl, fun e he => by simp at he, .nil, List.nodup_nil, by decide, rfl, List.Pairwise.nil, ?_⟩
  show _ ∨ (!w.params.followText "set-order") = true
  cases w.params.followText "set-order" <;> simp
/-- the items of a walk are put in, from the i-th on -/
theorem txt_fill {I S : Addr} {fp wr : List Addr} {G : Array GenState → Array GenState → Prop} {n : Nat} {Pv : Nat → Value → Prop} {St : Nat → Shared → Prop} {R : Result → Shared → Prop} (W : WalksS P w A.in1 I fp wr G n Pv St) (far : S ∉ fp) (l : List Str) (hn : n = l.length) (few : l.length + 1 < scanBound)
    (val : ∀ i v, Pv i v → ∃ x t, l[i]? = some x ∧ v = .str x t) : ∀ (k i : Nat) (s : Shared), n - i = k → i ≤ n → St i s → TxtAll w s.heap S (l.take i) →
      (∀ s', Moved (S :: wr) G s s' → TxtAll w s'.heap S l → R (.ok (.ret .none)) s') → codeAny (model P w) A (.builtin "set.update.loop" ⟨[.ref S, .ref I], []⟩) R s := by
  have nw : S ∉ wr := fun h => far (W.sub _ h)
  have up : ∀ b ∈ wr, b ∈ S :: wr := fun b hb => List.mem_cons_of_mem _ hb
  intro k
  induction k with
  | zero =>
    intro i s hk hi st ⟨ks, R0, mem, le⟩ fin
    obtain rfl : i = n := by omega
    refine codeAny_builtin F.entry_set_update_loop ?_
    rw [Around.under_plainId F.plain_set_update_loop _]
    show wpAny _ A.in1 (pyNext (.ref I) >>= _) _ _ s
    refine wpAny_bind (W.done s _ _ st fun s' hm => ?_)
    show wpAny _ A.in1 (ret Value.none) _ _ s'
    rw [List.take_of_length_le (by omega)] at mem le
    exact wpAny_pure (fin s' (hm.mono up) ⟨ks, R0.at fun o e => hm.heap S o nw e, mem, le⟩)
  | succ k ih =>
    intro i s hk hi st ⟨ks, R0, mem, le⟩ fin
    have lt : i < n := by omega
    refine codeAny_builtin F.entry_set_update_loop ?_
    rw [Around.under_plainId F.plain_set_update_loop _]
    show wpAny _ A.in1 (pyNext (.ref I) >>= _) _ _ s
    refine wpAny_bind (W.item i s _ _ lt st fun v s' hP st' hm => ?_)
    obtain ⟨x, t, hx, rfl⟩ := val i v hP
    have R1 : TxtSet w s'.heap S ks := R0.at fun o e => hm.heap S o nw e
    show wpAny _ A.in1 (holding [Value.str x t] (setAdd S (.str x t)) >>= _) _ _ s'
    refine wpAny_bind (wpAny_holding ?_)
    unfold setAdd
    refine wpAny_holding (wpAny_bind ((PySem.strKind P w).pyHash (k := x) (by show Value.isStrOf x (.str x t) = true; simp [Value.isStrOf]) ?_))
    have le2 : ks.length ≤ i := by rw [List.length_take] at le; omega
    refine txt_add (s := { s' with toks := s'.toks + 1 }) R1 (by omega) fun b h2 sb R2 => ?_
    have all : TxtAll w h2 S (l.take (i + 1)) := by
      refine ⟨_, R2, fun z => ?_, ?_⟩
      · rw [List.take_add_one, hx, List.mem_append, ← mem z]
        split
        · rename_i hxk
          exact ⟨.inl, fun q => q.elim id fun q => by rw [List.mem_singleton.mp (show z ∈ [x] from q)]; exact hxk⟩
        · show z ∈ x :: ks ↔ z ∈ ks ∨ z ∈ [x]
          rw [List.mem_cons, List.mem_singleton]
          exact Or.comm
      · rw [List.length_take]
        split <;> (try simp only [List.length_cons]) <;> omega
    refine wpAny_pure ⟨plainId_quiet F.plain_set_update_loop _, ih (i + 1) _ (by omega) lt (W.frame _ s' _ _ st' (Nat.le_succ _) fun b hb o e => ?_) all fun s'' hm2 hS => fin s'' (Moved.trans W.gtrans ((hm.mono up).then_heap (Nat.le_succ _) fun b o hb e => ?_) hm2) hS⟩
    · rw [sb.2 b (fun z => far (by rw [← z]; exact hb))]; exact e
    · rw [sb.2 b (fun z => hb (by rw [z]; exact List.mem_cons_self))]; exact e
theorem strs_at : ∀ {us : List Value} {xs : List Str} {i : Nat} {v : Value}, StrsAre us xs → us[i]? = some v → ∃ x t, xs[i]? = some x ∧ v = .str x t
  | _, _, _, _, .nil, e => by simp at e
  | _, _, 0, _, .cons x t r, e => by simp at e; exact ⟨x, t, rfl, e.symm⟩
  | _, _, i + 1, _, .cons x t r, e => by
    obtain ⟨y, k, h1, h2⟩ := strs_at (i := i) r (by simpa using e)
    exact ⟨y, k, by simpa using h1, h2⟩
theorem txt_set_tuple {l : Addr} {items : Array Value} (xs : List Str) {Q : Value → Shared → Prop} (hh : A.handled = none) (hl : s.heap.IsTuple l items) (hit : StrsAre items.toList xs) (few : xs.length + 1 < scanBound)
    (fin : ∀ (h2 : Heap) (tk : Nat), TxtAll w h2 s.heap.objs.size xs → (∀ b o, s.heap.get? b = some o → h2.get? b = some o) → Q (.ref s.heap.objs.size) { s with heap := h2, toks := tk }) :
    wpAny (model P w) A (call (.type "set") [.ref l]) Q E s := by
  have count : items.size = xs.length := by
    have q := StrsAre.length hit
    rw [Array.length_toList] at q
    exact q
  obtain ⟨c, tl, hmro⟩ := F.called_set.mro
  have f1 := F.called_set.made
  have f2 := F.called_set.sub
  have f3 := F.called_set.notType
  have f4 := F.called_set.canCreate
  have f5 := F.typeCall_set_1 (.ref l)
  let o0 : Obj := { cls := .type "set", dict := none, data := .set #[] 0 (.fresh 0 0 (!w.params.followText "set-order")) }
  refine wpAny_call (codeAny_of_tree ?_)
  show wpAny _ _ (callAny (.type "set") _) _ _ _
  refine wpAny_pure ⟨Code.quiet_builtin _ (by decide +kernel), codeAny_builtin F.entry_type_call ?_⟩
  rw [Around.under_plain (weight_type_call_type "set" [.ref l] []) rfl]
  repeat (any_goals (first | assumption | wp_step))
  refine codeAny_mono (code_set_led1 (.ref l) (E := E) (Q₁ := fun obj s1 => obj = .ref s.heap.objs.size ∧ s1 = { s with heap := s.heap.push o0 }) ⟨rfl, rfl⟩) fun r s1 hr => ?_
  cases r with
  | error e => exact hr
  | ok fl =>
    cases fl with
    | ret obj =>
      obtain ⟨rfl, rfl⟩ := hr
      have at0 : (s.heap.push o0).get? s.heap.objs.size = some o0 := Heap.get?_push_size _ rfl
      have ty0 : Shared.TypeIs { s with heap := s.heap.push o0 } (.ref s.heap.objs.size) "set" := ⟨_, at0, rfl⟩
      have f6 := F.called_set.init.lookup
      have f7 := F.called_set.init.bind (.ref s.heap.objs.size)
      repeat (any_goals (first | assumption | wp_step))
      refine codeAny_mono (codeAny_call_builtin (R := wants (fun r s2 => r = .none ∧ ∃ h2 tk, s2 = { s with heap := h2, toks := tk } ∧ TxtAll w h2 s.heap.objs.size xs ∧ (∀ b o, s.heap.get? b = some o → h2.get? b = some o)) E) F.called_set.init.plain F.entry_set_init (check_set_init_1 ty0 ?_)) fun r2 s2 hr2 => ?_
      · obtain ⟨ol, hol, hcl, nl, hdl⟩ := hl
        obtain ⟨oc, od, oda, osl⟩ := ol
        dsimp only at hcl hdl
        subst hcl
        subst hdl
        have at_l : (s.heap.push o0).get? l = some { cls := .type "tuple", dict := od, data := .seq items nl, slots := osl } := Heap.get?_push_of_some _ hol
        have g1 := F.sub_tuple_set
        have g2 := F.sub_tuple_frozenset
        have g3 : (Value.type "tuple" == Value.type "dict") = false := by decide
        have seq1 : (s.heap.push o0).IsTuple l items := ⟨_, at_l, rfl, nl, rfl⟩
        unfold Builtin.«set.__init__» noKeywords Builtin.Frozenset.updateFrom
        generalize hPI : pyIter = PI
        wp_walk
        subst hPI
        refine wpAny_pyIter_tuple seq1 (wpAny_bind (wpAny_runValue ?_))
        have lt : l < s.heap.objs.size := Heap.lt_size hol
        have calm3 : A.in1.in1.in1.handled = none := by simp [hh]
        have apart : l ≠ (s.heap.push o0).objs.size := by rw [Heap.size_push]; exact Nat.ne_of_lt (Nat.lt_succ_of_lt lt)
        have far : s.heap.objs.size ∉ [(s.heap.push o0).objs.size, l] := by
          rw [Heap.size_push]
          simp only [List.mem_cons, List.mem_singleton, List.not_mem_nil, or_false, not_or]
          exact ⟨Nat.ne_of_lt (Nat.lt_succ_self _), Nat.ne_of_gt lt⟩
        have val : ∀ (i : Nat) (v : Value), items[i]? = some v → ∃ x t, xs[i]? = some x ∧ v = .str x t := fun i v hv => strs_at hit (by rw [Array.getElem?_toList]; exact hv)
        refine txt_fill ((Walks.tuple calm3 _ l apart items).toS) far xs count few val (items.size - 0) 0 _ (by omega) (Nat.zero_le _) ⟨⟨_, Heap.get?_push_size _ rfl, rfl, rfl⟩, seq1.push _⟩
          ⟨[], txt_fresh (Heap.get?_push_of_some _ at0), fun z => by simp, Nat.zero_le _⟩ fun s' hm all => ?_
        obtain ⟨h2, g2', d', tk', os'⟩ := s'
        obtain rfl : g2' = s.gens := hm.gens
        obtain rfl : d' = s.drawn := hm.drawn
        obtain rfl : os' = s.os := hm.os
        show wpAny _ _ _ _ _ _
        refine wpAny_pure ?_
        show wpAny _ _ (ret Value.none) _ _ _
        refine wpAny_pure ⟨rfl, h2, tk', rfl, all, fun b o e => ?_⟩
        have b0 : b < s.heap.objs.size := Heap.lt_size e
        refine hm.heap b o ?_ (Heap.get?_push_of_some _ (Heap.get?_push_of_some _ e))
        rw [Heap.size_push]
        simp only [List.mem_cons, List.mem_singleton, List.not_mem_nil, or_false, not_or]
        exact ⟨Nat.ne_of_lt b0, Nat.ne_of_lt (Nat.lt_succ_of_lt b0)⟩
      · cases r2 with
        | error e => exact hr2
        | ok fl2 =>
          cases fl2 with
          | ret r =>
            obtain ⟨rfl, h2, tk, rfl, all, keep⟩ := hr2
            repeat (any_goals (first | assumption | wp_step))
            exact fin _ _ all keep
          | _ => exact hr2.elim
    | _ => exact hr.elim
theorem txt_set_list {l : Addr} {items : Array Value} (xs : List Str) {Q : Value → Shared → Prop} (hh : A.handled = none) (hl : s.heap.IsList l items) (hit : StrsAre items.toList xs) (few : xs.length + 1 < scanBound)
    (fin : ∀ (h2 : Heap) (tk : Nat), TxtAll w h2 s.heap.objs.size xs → (∀ b o, s.heap.get? b = some o → h2.get? b = some o) → Q (.ref s.heap.objs.size) { s with heap := h2, toks := tk }) :
    wpAny (model P w) A (call (.type "set") [.ref l]) Q E s := by
  have count : items.size = xs.length := by
    have q := StrsAre.length hit
    rw [Array.length_toList] at q
    exact q
  obtain ⟨c, tl, hmro⟩ := F.called_set.mro
  have f1 := F.called_set.made
  have f2 := F.called_set.sub
  have f3 := F.called_set.notType
  have f4 := F.called_set.canCreate
  have f5 := F.typeCall_set_1 (.ref l)
  let o0 : Obj := { cls := .type "set", dict := none, data := .set #[] 0 (.fresh 0 0 (!w.params.followText "set-order")) }
  refine wpAny_call (codeAny_of_tree ?_)
  show wpAny _ _ (callAny (.type "set") _) _ _ _
  refine wpAny_pure ⟨Code.quiet_builtin _ (by decide +kernel), codeAny_builtin F.entry_type_call ?_⟩
  rw [Around.under_plain (weight_type_call_type "set" [.ref l] []) rfl]
  repeat (any_goals (first | assumption | wp_step))
  refine codeAny_mono (code_set_led1 (.ref l) (E := E) (Q₁ := fun obj s1 => obj = .ref s.heap.objs.size ∧ s1 = { s with heap := s.heap.push o0 }) ⟨rfl, rfl⟩) fun r s1 hr => ?_
  cases r with
  | error e => exact hr
  | ok fl =>
    cases fl with
    | ret obj =>
      obtain ⟨rfl, rfl⟩ := hr
      have at0 : (s.heap.push o0).get? s.heap.objs.size = some o0 := Heap.get?_push_size _ rfl
      have ty0 : Shared.TypeIs { s with heap := s.heap.push o0 } (.ref s.heap.objs.size) "set" := ⟨_, at0, rfl⟩
      have f6 := F.called_set.init.lookup
      have f7 := F.called_set.init.bind (.ref s.heap.objs.size)
      repeat (any_goals (first | assumption | wp_step))
      refine codeAny_mono (codeAny_call_builtin (R := wants (fun r s2 => r = .none ∧ ∃ h2 tk, s2 = { s with heap := h2, toks := tk } ∧ TxtAll w h2 s.heap.objs.size xs ∧ (∀ b o, s.heap.get? b = some o → h2.get? b = some o)) E) F.called_set.init.plain F.entry_set_init (check_set_init_1 ty0 ?_)) fun r2 s2 hr2 => ?_
      · obtain ⟨ol, hol, hcl, nl, hdl⟩ := hl
        obtain ⟨oc, od, oda, osl⟩ := ol
        dsimp only at hcl hdl
        subst hcl
        subst hdl
        have at_l : (s.heap.push o0).get? l = some { cls := .type "list", dict := od, data := .seq items nl, slots := osl } := Heap.get?_push_of_some _ hol
        have g1 := F.sub_list_set
        have g2 := F.sub_list_frozenset
        have g3 : (Value.type "list" == Value.type "dict") = false := by decide
        have seq1 : (s.heap.push o0).IsList l items := ⟨_, at_l, rfl, nl, rfl⟩
        unfold Builtin.«set.__init__» noKeywords Builtin.Frozenset.updateFrom
        generalize hPI : pyIter = PI
        wp_walk
        subst hPI
        refine wpAny_pyIter_list seq1 (wpAny_bind (wpAny_runValue ?_))
        have lt : l < s.heap.objs.size := Heap.lt_size hol
        have calm3 : A.in1.in1.in1.handled = none := by simp [hh]
        have apart : l ≠ (s.heap.push o0).objs.size := by rw [Heap.size_push]; exact Nat.ne_of_lt (Nat.lt_succ_of_lt lt)
        have far : s.heap.objs.size ∉ [(s.heap.push o0).objs.size, l] := by
          rw [Heap.size_push]
          simp only [List.mem_cons, List.mem_singleton, List.not_mem_nil, or_false, not_or]
          exact ⟨Nat.ne_of_lt (Nat.lt_succ_self _), Nat.ne_of_gt lt⟩
        have val : ∀ (i : Nat) (v : Value), items[i]? = some v → ∃ x t, xs[i]? = some x ∧ v = .str x t := fun i v hv => strs_at hit (by rw [Array.getElem?_toList]; exact hv)
        refine txt_fill ((Walks.list calm3 _ l apart items).toS) far xs count few val (items.size - 0) 0 _ (by omega) (Nat.zero_le _) ⟨⟨_, Heap.get?_push_size _ rfl, rfl, rfl⟩, seq1.push _⟩
          ⟨[], txt_fresh (Heap.get?_push_of_some _ at0), fun z => by simp, Nat.zero_le _⟩ fun s' hm all => ?_
        obtain ⟨h2, g2', d', tk', os'⟩ := s'
        obtain rfl : g2' = s.gens := hm.gens
        obtain rfl : d' = s.drawn := hm.drawn
        obtain rfl : os' = s.os := hm.os
        show wpAny _ _ _ _ _ _
        refine wpAny_pure ?_
        show wpAny _ _ (ret Value.none) _ _ _
        refine wpAny_pure ⟨rfl, h2, tk', rfl, all, fun b o e => ?_⟩
        have b0 : b < s.heap.objs.size := Heap.lt_size e
        refine hm.heap b o ?_ (Heap.get?_push_of_some _ (Heap.get?_push_of_some _ e))
        rw [Heap.size_push]
        simp only [List.mem_cons, List.mem_singleton, List.not_mem_nil, or_false, not_or]
        exact ⟨Nat.ne_of_lt b0, Nat.ne_of_lt (Nat.lt_succ_of_lt b0)⟩
      · cases r2 with
        | error e => exact hr2
        | ok fl2 =>
          cases fl2 with
          | ret r =>
            obtain ⟨rfl, h2, tk, rfl, all, keep⟩ := hr2
            repeat (any_goals (first | assumption | wp_step))
            exact fin _ _ all keep
          | _ => exact hr2.elim
    | _ => exact hr.elim
end
end Dv
namespace Dv
open PySem PySem.Spec PyProof.Rows L2
end Dv
namespace PySem
open Builtin
theorem enumT_new (t : Addr) (o : Obj) (items : Array Value) (n : Nat) :
    Meets (Builtin.«enumerate.__new__» ⟨[.type "enumerate", .ref t], []⟩) (fun _ R s => (s.heap.get? t = some o ∧ o.cls = .type "tuple" ∧ o.data = .seq items n) ∧
      R (.ok (.ret (.ref (s.heap.objs.size + 1)))) { s with heap := (s.heap.push { cls := .type "tuple_iterator", data := .fields #[.ref t, .int 0 0] }).push { cls := .type "enumerate", data := .fields #[.none, .bool false, .ref s.heap.objs.size, rawInt 0, .none, .none] } }) :=
  .of_wp fun prog w A R s h => by
    obtain ⟨hh, g, d, tk, os⟩ := s
    obtain ⟨⟨hl, hc, hd⟩, q⟩ := h
    have sb := sub_enumerate
    have ht : Heap.IsTuple (Shared.heap ⟨hh, g, d, tk, os⟩) t items := ⟨_, hl, hc, n, hd⟩
    obtain ⟨oc, od, odt, osl⟩ := o
    dsimp only at hc hd
    subst hc
    subst hd
    have e : (hh.push { cls := .type "tuple_iterator", data := .fields #[.ref t, .int 0 0] }).objs.size = hh.objs.size + 1 := Heap.size_push ..
    wp_walk using wpAny_loadPart' hl
    refine wpAny_stack_any fun st => wpAny_pure ?_
    have fin : R (.ok (.ret (.ref (hh.push { cls := .type "tuple_iterator", data := .fields #[.ref t, .int 0 0] }).objs.size))) ⟨(hh.push { cls := .type "tuple_iterator", data := .fields #[.ref t, .int 0 0] }).push { cls := .type "enumerate", data := .fields #[.none, .bool false, .ref hh.objs.size, rawInt 0, .none, .none] }, g, d, tk, os⟩ := by rw [e]; exact q
    split
    · rename_i c _ _ _ _ _
      cases (c == Value.type "enumerate") <;> (wp_walk using wpAny_loadPart' hl, wpAny_pyIter_tuple ht; exact ⟨_, rfl, fin⟩)
    · wp_walk using wpAny_loadPart' hl, wpAny_pyIter_tuple ht
      exact ⟨_, rfl, fin⟩
end PySem
namespace PySem
open Builtin
section
variable {prog : Program} {w : World} {A : Around} {E : Value → Shared → Prop} {s : Shared}
theorem call_enumT {t : Addr} {items : Array Value} {Q : Value → Shared → Prop} (ht : s.heap.IsTuple t items)
    (h : ∀ h', IsEnum h' (s.heap.objs.size + 1) s.heap.objs.size 0 .none → h'.IsTupleIter s.heap.objs.size t 0 → (∀ b o, s.heap.get? b = some o → h'.get? b = some o) → Q (.ref (s.heap.objs.size + 1)) { s with heap := h' }) :
    wpAny (model prog w) A (call (.type "enumerate") [.ref t]) Q E s := by
  obtain ⟨o, hl, hc, n, hd⟩ := ht
  refine callType_new F.called_enumerate (by decide) (F.typeCall_enumerate_1 _) (F.newCall_enumerate_1 _) (fun obj => F.args_object_init_2 obj _) F.entry_enumerate_new (enumT_new t o items n) ⟨⟨hl, hc, hd⟩, ?_⟩
  have e : (s.heap.push { cls := .type "tuple_iterator", data := .fields #[.ref t, .int 0 0] }).objs.size = s.heap.objs.size + 1 := Heap.size_push ..
  have g1 : IsEnum ((s.heap.push { cls := .type "tuple_iterator", data := .fields #[.ref t, .int 0 0] }).push { cls := .type "enumerate", data := .fields #[.none, .bool false, .ref s.heap.objs.size, rawInt 0, .none, .none] }) (s.heap.objs.size + 1) s.heap.objs.size 0 .none := by
    have := Heap.get?_push_size (s.heap.push { cls := .type "tuple_iterator", data := .fields #[.ref t, .int 0 0] }) (o := { cls := .type "enumerate", data := .fields #[.none, .bool false, .ref s.heap.objs.size, rawInt 0, .none, .none] }) rfl
    rw [e] at this
    exact this
  exact ⟨⟨_, g1, rfl⟩, h _ g1 ⟨_, Heap.get?_push_of_some _ (Heap.get?_push_size _ rfl), rfl, rfl⟩ fun b o x => Heap.get?_push_of_some _ (Heap.get?_push_of_some _ x)⟩
end
end PySem
namespace Dv
open PySem PySem.Spec PyProof.Rows L2
/-- the tuple at a, each item in a new pair -/
def IteT (a : Addr) : It :=
  ⟨fun i H => ∃ (xs : List V) (x : V), TupB H a xs ∧ xs[i]? = some x, fun i H v H' => ∃ T x, v = .ref T ∧ H T = none ∧ H' = upd H T (.tup [.int (i : Nat), x]) ∧ ∀ xs, TupB H a xs → xs[i]? = some x, fun i H => ∃ xs : List V, TupB H a xs ∧ xs.length ≤ i⟩
theorem TupB.inj {H : Hp} {a : Addr} {xs ys : List V} (h : TupB H a xs) (h' : TupB H a ys) : xs = ys := by
  obtain ⟨o, _, e⟩ := h
  obtain ⟨o', _, e'⟩ := h'
  rw [e] at e'
  cases e'
  rfl
theorem TupB.some_ {H : Hp} {a : Addr} {xs : List V} (h : TupB H a xs) : ∃ u, H a = some u := ⟨_, h.choose_spec.2⟩
theorem Draws.ended {prog : Program} {w : World} {A : Around} (hh : A.handled = none) (it t : Addr) (items : Array Value) (i : Nat) (hx : items[i]? = none) :
    Draws prog w A it [it, t] i (fun _ _ => False) (fun j h => j = i ∧ h.IsTupleIter it t i ∧ h.IsTuple t items) where
  live := fun _ _ st => let ⟨o, ho, _⟩ := st.2.1; ⟨o, ho⟩
  frame := fun _ _ _ st hk => ⟨st.1, st.2.1.at fun o e => hk it (by simp) o e, st.2.2.at fun o e => hk t (by simp) o e⟩
  item := fun j s Q E hj st hQ => absurd hj (by rw [st.1]; exact Nat.lt_irrefl _)
  done := fun s Q E st hE => wpAny_nextOf_tuple_end hh st.2.1 st.2.2 hx hE
theorem turn_enumT {P : Program} {w : World} {K : PySem.W.Frag} {elts : List Expr} {kk : Nat} {tpos : Pos} (a e it : Addr) :
    Turn P w K (.Tuple elts kk tpos) (IteT a) [e, it] e (fun i h => (∃ old, IsEnum h e it ((i : Nat) : Int) old) ∧ h.IsTupleIter it a i ∧ e ≠ it) where
  mem := List.mem_cons_self
  obj := fun i h ⟨⟨old, he⟩, ⟨o, ho, hc, hd⟩, _⟩ b hb => by
    rcases (show b = e ∨ b = it by simpa using hb) with rfl | rfl
    · exact ⟨_, he, fun v q => nomatch q⟩
    · exact ⟨o, ho, fun v q => by rw [hd] at q; cases q⟩
  keep := fun i h h' ⟨⟨old, he⟩, hi, hne⟩ k => ⟨⟨old, k e (by simp) _ he⟩, hi.at fun o q => k it (by simp) o q, hne⟩
  item := by
    intro X hP hw hK hc i pins s σ H E I hf ⟨⟨old, he⟩, hit, hne⟩ ⟨xs, x, hq, hx⟩
    subst hP hw hK
    obtain ⟨its, rv, p, hz⟩ := I.tuple (hq.sq (K := X.K))
    obtain ⟨u, hu, ru⟩ := rv.get hx
    obtain ⟨ob, hob⟩ := hq.some_
    have hel : e < s.heap.objs.size := Heap.lt_size he
    have hil : it < s.heap.objs.size := by obtain ⟨_, q, _⟩ := hit; exact Heap.lt_size q
    have nof : ∀ b ∈ [e, it], a ≠ b := fun b hb z => by
      have q := (hf b hb).1
      rw [← z, hob] at q
      cases q
    have hai : a ≠ it := nof it (by simp)
    have hae : e ≠ a := fun z => nof e (by simp) z.symm
    have hlt : i < its.toArray.size := by
      have := (List.getElem?_eq_some_iff.mp hu).1
      rw [List.size_toArray]; exact this
    refine wpAny_pyNext_enum_itemD (Draws.tuple (A := X.A.in1) (I.ok.hd hc) it a hai its.toArray) he ⟨hit, p⟩ hlt hne (by simp [hne, hae]) fun v h' tk hv ho hst hT hsz hk => ?_
    have ev : v = u := by
      have h1 : its.toArray[i]? = some v := hv
      rw [List.getElem?_toArray, hu] at h1
      exact (Option.some.inj h1).symm
    subst ev
    refine ⟨_, rfl, wpAny_letOwnedTupleGo_enum (s := { s with heap := h', toks := tk + 1 }) ho fun h2 he2 sb => ?_⟩
    have hT2 : h2.get? s.heap.objs.size = some { cls := .type "tuple", data := .seq #[.int i tk, v] } := (sb.2 _ (Nat.ne_of_gt hel)).trans hT
    have new : ObjOk X.prog X.w (upd H s.heap.objs.size (.tup [.int (i : Nat), x])) h2 s.heap.objs.size (.tup [.int (i : Nat), x]) :=
      ⟨by show 2 ≤ sizeLine; decide, [.int i tk, v], .cons ⟨_, rfl⟩ (.cons ru .nil), ⟨_, hT2, rfl, _, rfl⟩⟩
    have J : Inv X pins σ (upd H s.heap.objs.size (.tup [.int (i : Nat), x])) { s with heap := h2, toks := tk + 1 } :=
      I.turnedNew (ch := [e, it]) (fun b ob2 hb q => (sb.2 b (fun z => hb (by simp [z]))).trans (hk b ob2 (fun z => hb (by simp [z])) (fun z => hb (by simp [z])) q)) hf (Nat.le_refl _) new
    refine ⟨.ref s.heap.objs.size, _, J, rfl, ⟨_, x, rfl, I.hok.fresh (Nat.le_refl _), rfl, fun ys hy => by rw [hy.inj hq]; exact hx⟩, ⟨⟨v, ?_⟩, hst.1.at fun o q => (sb.2 it (Ne.symm hne)).trans q, hne⟩, fun b hb => ?_⟩
    · rw [show ((i + 1 : Nat) : Int) = (i : Int) + 1 by omega]; exact he2
    · have hb' : b < s.heap.objs.size := by
        rcases (show b = e ∨ b = it by simpa using hb) with z | z <;> rw [z] <;> assumption
      rw [upd_ne (Nat.ne_of_lt hb')]
      exact (hf b hb).1
  done := by
    intro X hP hw hK hc i pins s σ H E I hf ⟨⟨old, he⟩, hit, hne⟩ ⟨xs, hq, hx⟩
    subst hP hw hK
    obtain ⟨its, rv, p, hz⟩ := I.tuple (hq.sq (K := X.K))
    obtain ⟨ob, hob⟩ := hq.some_
    obtain ⟨f0, f1, f2, f3, f4, f5⟩ := hf it (by simp)
    have hai : a ≠ it := fun z => by rw [← z, hob] at f0; cases f0
    have hn : its.toArray[i]? = none := by
      rw [List.getElem?_toArray, List.getElem?_eq_none_iff, ← rv.length]; exact hx
    exact wpAny_pyNext_enum_endD (Draws.ended (A := X.A.in1) (I.ok.hd hc) it a its.toArray i hn) he ⟨rfl, hit, p⟩ fun h' eb => ⟨rfl, I.turned (t' := s.toks) (fun b o hb q => eb b o hb q) f0 f1 f3 f4 f5⟩
  self := fun A i s Q E ⟨⟨_, he⟩, _⟩ h => wpAny_pyIter_enum he h
section
variable {X : Cx} {G : Gx X.K} {ua : Option Addr} {B H : Hp} {ds : List D} {vs : List V}
def iEnumT (ta : TA) : TI := fun σ H R => ta σ H fun vs H1 => ∃ a xs, vs = [.ref a] ∧ TupB H1 a xs ∧ R (IteT a) H1
theorem pi_enumT {e : Expr} {ta : TA} {p pos tpos : Pos} {elts : List Expr} {kk : Nat} (hg : Gl X "enumerate") (hm : X.mg "enumerate" = none) (ha : PA X [e] ta) (hs : starEach [e] X.env = [(false, eval e X.env)] := by rfl) :
    PI X (.Tuple elts kk tpos) (.Call (.Name "enumerate" p) [e] [] pos) (iEnumT ta) := by
  refine ⟨fun pins s σ H R I h => Call_ (ld_blt I hg hm boot_enumerate (PyProof.Rows.callWith_type1 (thn (ha.run pos pins s σ H _ I h) fun us s1 ⟨vs, H1, I1, r1, a, xs, ex, hq, q⟩ => ?_) hs rfl))⟩
  subst ex
  obtain ⟨u, rfl, ru⟩ := vals1 r1
  cases ru
  obtain ⟨its, rv, p', hz⟩ := I1.tuple (hq.sq (K := X.K))
  refine call_enumT p' fun h' he hit hk => wpAny_pyIter_enum he ?_
  refine ⟨s1.heap.objs.size + 1, [s1.heap.objs.size + 1, s1.heap.objs.size], _, _, H1, rfl, I1.kept (t' := s1.toks) hk, turn_enumT a (s1.heap.objs.size + 1) s1.heap.objs.size, ⟨⟨.none, he⟩, hit, Nat.succ_ne_self _⟩, fun b hb => ?_, q⟩
  have hle : s1.heap.objs.size ≤ b := by
    rcases (show b = s1.heap.objs.size + 1 ∨ b = s1.heap.objs.size by simpa using hb) with z | z
    · rw [z]; exact Nat.le_succ _
    · rw [z]; exact Nat.le_refl _
  exact I1.fpOk hle (I1.hok.fresh hle)
theorem wk_enumT {a : Addr} (h : TupB B a vs) (r : Reps G ua ds vs B) : Wk G ua (IteT a) B (enumD 0 ds) := fun i B' H' u s w => by
  have hq : TupB H' a vs := (h.mono s).mono w.sub
  rw [enumD_get]
  refine ⟨fun d hd => ?_, fun hn => ⟨vs, hq, List.getElem?_eq_none_iff.mp (r.none (Option.map_eq_none_iff.mp hn))⟩⟩
  obtain ⟨d', hd', rfl⟩ := map_some hd
  obtain ⟨v, hv, rv⟩ := r.get hd'
  refine ⟨⟨vs, v, hq, hv⟩, fun x H2 y => ?_⟩
  obtain ⟨T, x, rfl, hT, rfl, y⟩ := y
  have := y vs hq
  rw [hv] at this; cases this
  rw [Nat.zero_add]
  exact .pr w hT (.cons rep_int (.cons (rv.mono _ _ s) .nil))
/-- enumerate of a list or a tuple -/
def mEnumA (m : M) : MI := fun env u => bnd (m env u) fun d u1 => match d with
  | .lst ds => some (enumD 0 ds, u1)
  | .tup ds => some (enumD 0 ds, u1)
  | _ => none
theorem di_enumA {a : Expr} {m : M} {p pos tpos : Pos} {elts : List Expr} {kk : Nat} (hg : Gl X "enumerate") (hm : X.mg "enumerate" = none) (ha : PE X a (tEv G m)) (hs : starEach [a] X.env = [(false, eval a X.env)] := by rfl) :
    PI X (.Tuple elts kk tpos) (.Call (.Name "enumerate" p) [a] [] pos) (tIt G (mEnumA m)) := by
  refine PI.by fun σ H R h => ?_
  obtain ⟨ua, u, B, env, ds, u', hE, hW, hm2, q⟩ := h
  obtain ⟨d, u1, h1, h2⟩ := bnd_some hm2
  split at h2
  · cases h2
    refine ⟨_, pi_enum hg hm (pa_cons ha pa_nil hs) hs, ua, u, B, env, _, _, hE, hW, h1, fun v H1 ⟨B1, g1, w1, r1⟩ => ?_⟩
    obtain ⟨a, vs, rfl, h, rs⟩ := r1.lst
    exact ⟨a, vs, rfl, .of (w1.sub _ _ h), q _ _ _ g1 w1 (wk_enum h rs)⟩
  · cases h2
    refine ⟨_, pi_enumT hg hm (pa_cons ha pa_nil hs) hs, ua, u, B, env, _, _, hE, hW, h1, fun v H1 ⟨B1, g1, w1, r1⟩ => ?_⟩
    obtain ⟨a, vs, rfl, h, rs⟩ := r1.tup
    exact ⟨a, vs, rfl, h.mono w1.sub, q _ _ _ g1 w1 (wk_enumT h rs)⟩
  · cases h2
end
end Dv
namespace Dv
open PySem PySem.Spec PyProof.Rows L2
/-- what a def gives -/
inductive R where
  | ok (d : D) | er (c : Str) (ns : List Str) (xs : List D)
abbrev MX := List Sl → U → Option (R × U)
def AftE {K : PySem.W.Frag} (G : Gx K) (ua : Option Addr) (B H : Hp) (u' : U) (c : Str) (ns : List Str) (xs : List D) : Value → Option Addr → Hp → Prop := fun cls d H' => ∃ B', Grow ua B H B' H' ∧ Wd ua u' B' H' ∧ ErR G ua c ns xs cls d B'
theorem AftE.up {K : PySem.W.Frag} {G : Gx K} {ua : Option Addr} {B H B1 H1 H' : Hp} {u' : U} {c : Str} {ns : List Str} {xs : List D} {cls : Value} {d : Option Addr} (g : Grow ua B H B1 H1) (a : AftE G ua B1 H1 u' c ns xs cls d H') : AftE G ua B H u' c ns xs cls d H' := by
  obtain ⟨B', g', w, r⟩ := a
  exact ⟨B', g.trans g', w, r⟩
def OutR {K : PySem.W.Frag} (G : Gx K) (ua : Option Addr) (B H : Hp) (u' : U) (Q : VK) (E : XK) : R → Prop
  | .ok d => ∀ v H', Aft G ua B H u' d v H' → Q v H'
  | .er c ns xs => ∀ cls d H', AftE G ua B H u' c ns xs cls d H' → E cls d H'
theorem OutR.up {K : PySem.W.Frag} {G : Gx K} {ua : Option Addr} {B H B1 H1 : Hp} {u' : U} {Q : VK} {E : XK} {r : R} (g : Grow ua B H B1 H1) (a : OutR G ua B H u' Q E r) : OutR G ua B1 H1 u' Q E r := by
  cases r with
  | ok d => exact fun v H' z => a v H' (.up g z)
  | er c ns xs => exact fun cls d H' z => a cls d H' (.up g z)
theorem OutR.imp {K : PySem.W.Frag} {G : Gx K} {ua : Option Addr} {B H : Hp} {u' : U} {Q Q' : VK} {E E' : XK} {r : R} (a : OutR G ua B H u' Q E r) (q : ∀ v H', Q v H' → Q' v H') (e : ∀ c d H', E c d H' → E' c d H') : OutR G ua B H u' Q' E' r := by
  cases r with
  | ok d => exact fun v H' z => q _ _ (a v H' z)
  | er c ns xs => exact fun cls d H' z => e _ _ _ (a cls d H' z)
def spX {K : PySem.W.Frag} (G : Gx K) (F : List D → U → Option (R × U)) (n : Nat) : Sp := fun vs H Q E => ∃ ua u B ds r u', Reps G ua ds vs B ∧ ds.length = n ∧ Wd ua u B H ∧ F ds u = some (r, u') ∧ OutR G ua B H u' Q E r
def DefOkX (P : Program) (w : World) {K : PySem.W.Frag} (mg : Str → Option Value) (base : Heap) (G : Gx K) (x : Str) (k n : Nat) (F : List D → U → Option (R × U)) : Prop :=
  ∃ f fd ps, FnOk P w K mg base (L2.CX P w) k f fd ps (spX G F n) ∧ mg x = some (.ref f) ∧ PySem.W.keepIn K (.ref f) = true ∧ Binds K fd ps []
theorem DefOkX.mono {P : Program} {w : World} {K : PySem.W.Frag} {mg : Str → Option Value} {base : Heap} {G : Gx K} {x : Str} {j k n : Nat} {F : List D → U → Option (R × U)} (h : DefOkX P w mg base G x j n F) (l : j ≤ k) : DefOkX P w mg base G x k n F := by
  obtain ⟨f, fd, ps, h1, h2⟩ := h
  exact ⟨f, fd, ps, h1.mono l, h2⟩
/-- where it doesn't raise -/
def okF (F : List D → U → Option (R × U)) : List D → U → Option (D × U) := fun ds u => match F ds u with
  | some (.ok d, u') => some (d, u')
  | _ => none
theorem okF_some {F : List D → U → Option (R × U)} {ds : List D} {u u' : U} {d : D} (h : okF F ds u = some (d, u')) : F ds u = some (.ok d, u') := by
  unfold okF at h
  split at h
  · cases h; assumption
  · cases h
theorem fn_calm {P : Program} {w : World} {K : PySem.W.Frag} {mg : Str → Option Value} {base : Heap} {G : Gx K} {k n : Nat} {f : Addr} {fd : FuncData} {ps : List Str} {F : List D → U → Option (R × U)} (h : FnOk P w K mg base (L2.CX P w) k f fd ps (spX G F n)) :
    FnOk P w K mg base CX0 k f fd ps (spF G (okF F) n) := by
  have key : ∀ {vs H Q E}, spF G (okF F) n vs H Q E → spX G F n vs H Q (fun _ _ _ => False) := fun ⟨ua, u, B, ds, d, u', r, l, w, e, q⟩ => ⟨ua, u, B, ds, .ok d, u', r, l, w, okF_some e, q⟩
  refine ⟨fun vs H Q E z => h.len _ _ _ _ (key z), fun A outer s H args us vs Q E hr he hb hv z => codeAny_mono (h.run A outer s H args us vs Q _ hr he hb hv (key z)) fun r s' c => ?_⟩
  cases r with
  | ok fl => cases fl <;> exact c
  | error e =>
    obtain ⟨_, _, _, _, _, _, _, _, _, _, _, _, z⟩ := c
    exact z.elim
theorem DefOkX.calm {P : Program} {w : World} {K : PySem.W.Frag} {mg : Str → Option Value} {base : Heap} {G : Gx K} {x : Str} {k n : Nat} {F : List D → U → Option (R × U)} (h : DefOkX P w mg base G x k n F) : DefOk P w mg base G x k n (okF F) := by
  obtain ⟨f, fd, ps, h1, h2⟩ := h
  exact ⟨f, fd, ps, fn_calm h1, h2⟩
def runBX (m : MS) (L : Nat) (ds : List D) (u : U) : Option (R × U) := match m (ds.map Sl.pub ++ List.replicate (L - ds.length) Sl.no) u with
  | some (.rt d, u') => some (.ok d, u')
  | some (.nx _, u') => some (.ok .non, u')
  | some (.er _ c ns xs, u') => some (.er c ns xs, u')
  | none => none
abbrev WofE (E : XK) : WX := fun cls d _ H => E cls d H
theorem own_none {K : PySem.W.Frag} {G : Gx K} {ua : Option Addr} {B H0 : Hp} {ds : List D} {vs : List V} {N : List Str} (r : Reps G ua ds vs B) : OwnNew (ds.map Sl.pub ++ List.replicate (N.length - ds.length) Sl.no) (L2.start N vs) H0 := fun i es p z _ => by
  exfalso
  by_cases hi : i < ds.length
  · rw [List.getElem?_append_left (by rw [List.length_map]; exact hi), List.getElem?_map] at z
    obtain ⟨_, _, h2⟩ := map_some z
    cases h2
  · rw [List.getElem?_append_right (by rw [List.length_map]; omega), List.getElem?_replicate] at z
    split at z <;> cases z
theorem def_okX {P : Program} {w : World} {K : PySem.W.Frag} {mg : Str → Option Value} {base : Heap} {G : Gx K} {x qual : Str} {st : Stmt} {f : Addr} {fd : FuncData} {N ps : List Str} {k n : Nat} {m : MS} (F : Fun K x qual st f fd) (S : FnScope N ps (defScope st)) (hn : ps.length = n)
    (hb : ∀ (cdv : Value) (A : Around) (outer : List Env) (s : Shared) (H : Hp) (E : XK), Room k (A.deeper (envOfC qual (defScope st) s.heap.objs.size f cdv)) →
      Takes (cxOf (L2.CX P w) P w K mg base N qual (defScope st) f cdv A outer s H E) (WofE E) →
      PassesOwn (model P w) (cxOf (L2.CX P w) P w K mg base N qual (defScope st) f cdv A outer s H E).A (cxOf (L2.CX P w) P w K mg base N qual (defScope st) f cdv A outer s H E).env (cxOf (L2.CX P w) P w K mg base N qual (defScope st) f cdv A outer s H E).xe →
      PSs (cxOf (L2.CX P w) P w K mg base N qual (defScope st) f cdv A outer s H E) (defBody st) (tSt G (WofE E) m)) :
    FnOk P w K mg base (L2.CX P w) (k + 1) f fd ps (spX G (runBX m N.length) n) := by
  refine F.okX S (fun vs H Q E h => ?_) (fun cdv A outer s H vs Q E hr h => ⟨_, hb cdv A outer s H E hr (takes_of rfl rfl rfl rfl) (passes_of rfl), ?_⟩)
  · obtain ⟨ua, u, B, ds, d, u', r, hl, _⟩ := h
    rw [← r.len, hl, hn]
  · obtain ⟨ua, u, B, ds, r, u', rs, hl, hw, hf, q⟩ := h
    unfold runBX at hf
    split at hf
    · cases hf
      exact ⟨ua, u, B, _, _, _, B, H, .refl, own_none rs, start_ok rs, hw, ‹_›, fun v B' H' g w' r' => q v H' ⟨B', g, w', r'⟩⟩
    · cases hf
      exact ⟨ua, u, B, _, _, _, B, H, .refl, own_none rs, start_ok rs, hw, ‹_›, fun σ' B' H' g o e w' => q _ H' ⟨B', g, w', rep_non⟩⟩
    · cases hf
      exact ⟨ua, u, B, _, _, _, B, H, .refl, own_none rs, start_ok rs, hw, ‹_›, fun σ' B' H' cls d g o e w' r' => q cls d H' ⟨B', g, w', r'⟩⟩
    · cases hf
section
variable {X : Cx} {G : Gx X.K} {W : WX} {e a b : Expr} {es : List Expr} {m ma mb : M} {ms : Ms} {mx : MX} {pos p pc : Pos}
def tEvX (G : Gx X.K) (W : WX) (m : MX) : TE := fun σ H Q => ∃ ua u B env r u', EnvOk G ua env σ B H ∧ Wd ua u B H ∧ m env u = some (r, u') ∧ OutR G ua B H u' Q (fun c d H' => W c d σ H') r
def xUp (m : M) : MX := fun env u => match m env u with
  | some (d, u') => some (.ok d, u')
  | none => none
theorem dx_up (h : PE X e (tEv G m)) : PE X e (tEvX G W (xUp m)) := h.imp fun σ H Q z => by
  obtain ⟨ua, u, B, env, r, u', hE, hW, hm, q⟩ := z
  unfold xUp at hm
  split at hm
  · cases hm; exact ⟨ua, u, B, env, _, _, hE, hW, ‹_›, q⟩
  · cases hm
def xCall (n : Nat) (F : List D → U → Option (R × U)) (ms : Ms) : MX := fun env u => bnd (ms env u) fun ds u1 => if ds.length = n then F ds u1 else none
theorem dx_call {x : Str} {k n : Nat} {F : List D → U → Option (R × U)} (D0 : DefOkX X.prog X.w X.mg X.base G x k n F) (tk : Takes X W) (hr : Room k X.A) (hg : Gl X x) (ha : PA X (e :: es) (tEvs G ms))
    (hdb : (x == ("__debug__" : Str)) = false := by decide) (he : starEach (e :: es) X.env = (false, eval e X.env) :: starEach es X.env := by rfl) (hpl : (backTo pos (starEach es X.env)).any (·.1) = false := by rfl) :
    PE X (.Call (.Name x p) (e :: es) [] pos) (tEvX G W (xCall n F ms)) := by
  obtain ⟨f, fd, ps, hf, hm, hk, hb⟩ := D0
  refine (pe_callS hf hr hg hm hk hb (fun σ => passAt tk σ) ha hdb he hpl).imp fun σ H Q h => ?_
  obtain ⟨ua, u, B, env, r, u', hE, hW, hm, q⟩ := h
  obtain ⟨ds, u1, h1, h2⟩ := bnd_some hm
  split at h2
  · exact ⟨ua, u, B, env, ds, u1, hE, hW, h1, fun vs H1 ⟨B1, g1, w1, r1⟩ => ⟨ua, u1, B1, ds, r, u', r1, ‹_›, w1, h2, q.up g1⟩⟩
  · cases h2
def SpcOkX (P : Program) (w : World) {K : PySem.W.Frag} (mg : Str → Option Value) (base : Heap) (G : Gx K) (c name : Str) (k n : Nat) (F : List D → U → Option (R × U)) : Prop :=
  ∃ C f fd ps, G.cls c = some C ∧ PySem.W.findIn K (.ref C) name = some (some (.ref f)) ∧ PySem.W.isFn K (.ref f) = true ∧ PySem.W.fnIn K f = true ∧ FnOk P w K mg base (L2.CX P w) k f fd ps (spX G F n) ∧ Binds K fd ps []
theorem SpcOkX.mono {P : Program} {w : World} {K : PySem.W.Frag} {mg : Str → Option Value} {base : Heap} {G : Gx K} {c name : Str} {j k n : Nat} {F : List D → U → Option (R × U)} (h : SpcOkX P w mg base G c name j n F) (l : j ≤ k) : SpcOkX P w mg base G c name k n F := by
  obtain ⟨C, f, fd, ps, h1, h2, h3, h4, h5, h6⟩ := h
  exact ⟨C, f, fd, ps, h1, h2, h3, h4, h5.mono l, h6⟩
theorem SpcOkX.calm {P : Program} {w : World} {K : PySem.W.Frag} {mg : Str → Option Value} {base : Heap} {G : Gx K} {c name : Str} {k n : Nat} {F : List D → U → Option (R × U)} (h : SpcOkX P w mg base G c name k n F) : SpcOk P w mg base G c name k n (okF F) := by
  obtain ⟨C, f, fd, ps, h1, h2, h3, h4, h5, h6⟩ := h
  exact ⟨C, f, fd, ps, h1, h2, h3, h4, fn_calm h5, h6⟩
def sUpX (m : MX) (k : List Sl → D → U → Option (Fl × U)) : MS := fun env u => match m env u with
  | some (.ok d, u1) => k env d u1
  | some (.er c ns xs, u1) => some (.er env c ns xs, u1)
  | none => none
theorem up_read {Dn : Ends} {σ : L2.St} {H : Hp} {k : List Sl → D → U → Option (Fl × U)} {Q : VK} (h : tSt G W (sUpX mx k) Dn σ H)
    (q : ∀ (ua : Option Addr) (u1 : U) (H0 B0 B1 H1 : Hp) (env : List Sl) (fl : Fl) (u' : U) (d : D) (v : V), Grow ua B0 H0 B1 H1 → OwnNew env σ H0 → EnvOk G ua env σ B1 H1 → Wd ua u1 B1 H1 → Rep G ua d v B1 → k env d u1 = some (fl, u') →
      (match fl with
        | .nx env' => ∀ (σ' : List (Option V)) B' H', Grow ua B0 H0 B' H' → OwnNew env' σ' H0 → EnvOk G ua env' σ' B' H' → Wd ua u' B' H' → Dn.nx σ' H'
        | .rt d => ∀ v B' H', Grow ua B0 H0 B' H' → Wd ua u' B' H' → Rep G ua d v B' → Dn.rt v H'
        | .er env' c ns xs => ∀ (σ' : List (Option V)) B' H' cls d, Grow ua B0 H0 B' H' → OwnNew env' σ' H0 → EnvOk G ua env' σ' B' H' → Wd ua u' B' H' → ErR G ua c ns xs cls d B' → W cls d σ' H') → Q v H1) :
    tEvX G W mx σ H Q := by
  obtain ⟨ua, u, B, env, fl, u', B0, H0, hg, hO, hE, hW, hm, z⟩ := h
  unfold sUpX at hm
  split at hm
  · rename_i d u1 hx
    exact ⟨ua, u, B, env, _, u1, hE, hW, hx, fun v H1 ⟨B1, g1, w1, r1⟩ => q ua u1 H0 B0 B1 H1 env fl u' d v (hg.trans g1) hO (hE.grow g1) w1 r1 hm z⟩
  · rename_i c ns xs u1 hx
    cases hm
    exact ⟨ua, u, B, env, _, _, hE, hW, hx, fun cls d H1 ⟨B1, g1, w1, r1⟩ => z σ B1 H1 cls d (hg.trans g1) hO (hE.grow g1) w1 r1⟩
  · cases hm
def sDropX (m : MX) : MS := sUpX m fun env _ u => some (.nx env, u)
theorem dsx_drop (he : PE X e (tEvX G W mx)) (hs : swapsWith e none pos.line X.env = pure false := by rfl) : PS X (.Expr e pos) (tSt G W (sDropX mx)) := (ps_expr he hs).imp fun Dn σ H h =>
  up_read h fun ua u1 H0 B0 B1 H1 env fl u' d v g o e w r k z => by
    cases k
    exact z σ B1 H1 g o e w
def sRetX (m : MX) : MS := sUpX m fun _ d u => some (.rt d, u)
theorem dsx_ret (he : PE X e (tEvX G W mx)) : PS X (.Return (some e) pos) (tSt G W (sRetX mx)) := (ps_ret he).imp fun Dn σ H h =>
  up_read h fun ua u1 H0 B0 B1 H1 env fl u' d v g o e w r k z => by
    cases k
    exact z v B1 H1 g w r
def sTgtX (t : Tgt) (m : MX) : MS := sUpX m fun env d u => match bindT t d env with
  | some env' => some (.nx env', u)
  | none => none
theorem dsx_tgt (t : Tgt) {tg : Expr} (he : PE X e (tEvX G W mx)) (hg : PG X tg (gOf X.K t)) (hs : swapsWithSole [tg] e pos.line X.env = pure false := by rfl) (hw : swappedStores [tg] e X.env = pure none := by rfl)
    (h1 : (assignEach [tg] X.env).map (·.2) = [assign tg X.env] := by rfl) : PS X (.Assign [tg] e pos) (tSt G W (sTgtX t mx)) := (ps_asg he hg hs hw h1).imp fun Dn σ H h =>
  up_read h fun ua u1 H0 B0 B1 H1 env fl u' d v g o e w r k z => by
    split at k
    · rename_i env' hb
      cases k
      refine bindT_ok e w r hb fun σ' e' _ hk => z _ B1 H1 g (fun j ds p z1 z2 => ?_) e' w
      obtain ⟨z3, z4⟩ := bindT_own hb j ds z1
      exact o j ds p z3 (hk j _ z2 z4)
    · cases k
end
def spEr {K : PySem.W.Frag} (G : Gx K) (C : Addr) (f : Str) (F : List D → U → Option (D × U)) : Sp := fun vs H Q _ => ∃ ua u B a v d0 d u', vs = [.ref a, v] ∧ Rep G ua d0 v B ∧ Wd ua u B H ∧ B a = none ∧ ua ≠ some a ∧ H a = some (exo a C none) ∧ F [d0] u = some (d, u') ∧
  ∀ y dx B' H', Grow ua B H B' H' → Wd ua u' B' H' → Rep G ua d y B' → H' dx = none → dx ≠ a → Q .non (upd (upd H' dx (exd dx [(f, y)])) a (exo a C (some dx)))
/-- the error class x keeps F of what it is made with in its field f -/
def ErMk (P : Program) (w : World) {K : PySem.W.Frag} (mg : Str → Option Value) (base : Heap) (G : Gx K) (x f : Str) (k : Nat) (F : List D → U → Option (D × U)) : Prop :=
  ∃ C fI fd ps B newId initId bmB, OxC K C B newId initId bmB ∧ PySem.W.findIn K (.ref C) "__init__" = some (some (.ref fI)) ∧ PySem.W.typeIn K (.ref fI) = some (.type "function") ∧ FnOk P w K mg base CX0 k fI fd ps (spEr G C f F) ∧ Binds K fd ps [] ∧ mg x = some (.ref C) ∧ G.exc x = some C
theorem ErMk.mono {P : Program} {w : World} {K : PySem.W.Frag} {mg : Str → Option Value} {base : Heap} {G : Gx K} {x f : Str} {j k : Nat} {F : List D → U → Option (D × U)} (h : ErMk P w mg base G x f j F) (l : j ≤ k) : ErMk P w mg base G x f k F := by
  obtain ⟨C, fI, fd, ps, B, n1, n2, bm, h1, h2, h3, h4, h5⟩ := h
  exact ⟨C, fI, fd, ps, B, n1, n2, bm, h1, h2, h3, h4.mono l, h5⟩
/-- its __init__ by its body -/
theorem erInit_ok {P : Program} {w : World} {K : PySem.W.Frag} {mg : Str → Option Value} {base : Heap} {G : Gx K} {qual fl n1 n2 : Str} {st : Stmt} {fI C : Addr} {fd : FuncData} {k : Nat} {e : Expr} {p' p1 pa : Pos} {m : M} {B newId initId : String} {bmB : List Value} (T : OxC K C B newId initId bmB)
    (hno : PySem.W.findIn K (.ref C) fl = some none) (F : Fun K "__init__" qual st fI fd) (S : FnScope [n1, n2] [n1, n2] (defScope st)) (hbody : defBody st = [.Assign [.Attribute (.Name n1 p1) fl p'] e pa])
    (he : ∀ (cdv : Value) (A : Around) (outer : List Env) (s : Shared) (H : Hp) (E : XK), Room k (A.deeper (envOfC qual (defScope st) s.heap.objs.size fI cdv)) → PE (cxOf CX0 P w K mg base [n1, n2] qual (defScope st) fI cdv A outer s H E).nox e (tEv G m))
    (hv : ∀ (cdv : Value) (A : Around) (outer : List Env) (s : Shared) (H : Hp) (E : XK), Vis (cxOf CX0 P w K mg base [n1, n2] qual (defScope st) fI cdv A outer s H E).nox.env.scope n1)
    (hs : ∀ (cdv : Value) (A : Around) (outer : List Env) (s : Shared) (H : Hp) (E : XK), swapsWith e (some (.Attribute (.Name n1 p1) fl p')) pa.line (cxOf CX0 P w K mg base [n1, n2] qual (defScope st) fI cdv A outer s H E).nox.env = pure false)
    (hd : (n1 == ("__debug__" : Str)) = false) (hcd : (n1 == ("__classdict__" : Str)) = false) :
    FnOk P w K mg base CX0 (k + 1) fI fd [n1, n2] (spEr G C fl fun ds u => m (Sl.no :: ds.map Sl.pub) u) := by
  refine F.ok S (fun vs H Q E h => ?_) (fun cdv A outer s H vs Q E hr h => ?_)
  · obtain ⟨ua, u, B, a, v, d0, d, u', rfl, _⟩ := h
    rfl
  · obtain ⟨ua, u, B, a, v, d0, d, u', rfl, hrep, hw, hB, hua, ha, hf, q⟩ := h
    rw [hbody]
    refine ⟨_, pss_one (ps_ox (X := (cxOf CX0 P w K mg base [n1, n2] qual (defScope st) fI cdv A outer s H E).nox) (a := a) T hno rfl (hv cdv A outer s H E) hd hcd (he cdv A outer s H E hr) (hs cdv A outer s H E)), ?_⟩
    refine ⟨ua, u, B, [.no, .pub d0], d, u', ⟨rfl, fun i x hi => ?_, fun i x hi => ?_, fun i j x y p hi => ?_⟩, hw, hf, fun y H1 ⟨B1, g1, w1, r1⟩ => ⟨rfl, g1.keep _ _ ha hua, fun dx hdx hne => q y dx B1 H1 g1 w1 r1 hdx hne⟩⟩
    · match i, hi with
      | 1, hi => cases hi; exact ⟨v, rfl, hrep⟩
      | i + 2, hi => simp at hi
    · match i, hi with
      | i + 2, hi => simp at hi
    · match i, hi with
      | i + 2, hi => simp at hi
section
variable {X : Cx} {G : Gx X.K} {W : WX} {e : Expr} {me : M} {pos p pc : Pos}
def sRaise (x f : Str) (F : List D → U → Option (D × U)) (m : M) : MS := fun env u => bnd (m env u) fun d u1 => bnd (F [d] u1) fun y u2 => some (.er env x [f] [y], u2)
theorem ds_raise {x f : Str} {k : Nat} {F : List D → U → Option (D × U)} (M0 : ErMk X.prog X.w X.mg X.base G x f k F) (hc : X.calm = true) (tk : Takes X W) (hr : Room (k + 1) X.A) (hg : Gl X x) (he : PE X e (tEv G me))
    (hdb : (x == ("__debug__" : Str)) = false := by decide) (hs : starEach [e] X.env = (false, eval e X.env) :: starEach [] X.env := by rfl) (hpl : (backTo pc (starEach [] X.env)).any (·.1) = false := by rfl) :
    PS X (.Raise (some (.Call (.Name x p) [e] [] pc)) none pos) (tSt G W (sRaise x f F me)) := by
  obtain ⟨C, fI, fd, ps, B, newId, initId, bmB, T, iC, tI, Fn, hb, hm, hG⟩ := M0
  refine (ps_raise hc tk (pmk_ox T iC tI Fn hr hb pass0 hg hm (pa_cons he pa_nil hs) hdb hs hpl)).imp fun Dn σ H h => ?_
  obtain ⟨ua, u, B, env, fl, u', B0, H0, hgr, hO, hE, hW, hm, q⟩ := h
  obtain ⟨d, u1, h1, h2⟩ := bnd_some hm
  obtain ⟨y, u2, h3, h4⟩ := bnd_some h2
  cases h4
  refine ⟨ua, u, B, env, d, u1, hE, hW, h1, fun v H1 ⟨B1, g1, w1, r1⟩ => ⟨Nat.le_of_ble_eq_true rfl, fun a ha => ?_⟩⟩
  have ga := Grow.own1 (o := exo a C none) w1 ha
  have wa := w1.own1 (o := exo a C none) ha
  refine ⟨ua, u1, B1, a, v, d, y, _, rfl, r1, wa, w1.none_of ha, w1.ne_urn ha, upd_same, h3, fun yv dx B2 H2 g2 w2 r2 hdx hne => ⟨rfl, dx, [(f, yv)], upd_same, by rw [upd_ne hne]; exact upd_same, ?_, ?_⟩⟩
  · have := g2.live _ hdx
    rw [upd_ne hne] at this
    exact this
  · have ea : upd (del (upd (upd H2 dx (exd dx [(f, yv)])) a (exo a C (some dx))) a) dx (.xd [(f, yv)]) = upd (del H2 a) dx (.xd [(f, yv)]) := by
      funext b
      by_cases hbd : b = dx
      · rw [hbd, upd_same, upd_same]
      · rw [upd_ne hbd, upd_ne hbd]
        by_cases hba : b = a
        · rw [hba, del_same, del_same]
        · rw [del_ne hba, del_ne hba, upd_ne hba, upd_ne hbd]
    show W (.ref C) (some dx) σ (upd (del (upd (upd H2 dx (exd dx [(f, yv)])) a (exo a C (some dx))) a) dx (.xd [(f, yv)]))
    rw [ea]
    have hB2a : B2 a = none := g2.none_of (o := exo a C none) upd_same (w1.none_of ha)
    have nba : ∀ {b : Addr} {o : HO}, B2 b = some o → b ≠ a := fun z1 z2 => by rw [z2, hB2a] at z1; cases z1
    have nxa : ∀ {b : Addr} {o : HO}, H1 b = some o → b ≠ a := fun z1 z2 => by rw [z2, ha] at z1; cases z1
    have hB2d : B2 dx = none := w2.none_of hdx
    have g3 : Grow ua B1 H1 (upd B2 dx (.xd [(f, yv)])) (upd (del H2 a) dx (.xd [(f, yv)])) := by
      refine ⟨fun b o hb hu => ?_, fun b hb => ?_, fun b o hb => ?_, fun b o hb => ?_⟩
      · have z := g2.keep b o (by rw [upd_ne (nxa hb)]; exact hb) hu
        rw [upd_ne (fun e => by rw [e, hdx] at z; cases z), del_ne (nxa hb)]
        exact z
      · by_cases hba : b = a
        · rw [hba]; exact ha
        · by_cases hbd : b = dx
          · rw [hbd, upd_same] at hb; cases hb
          · rw [upd_ne hbd, del_ne hba] at hb
            have z := g2.live b hb
            rw [upd_ne hba] at z
            exact z
      · exact same_new hB2d b o (g2.pub b o hb)
      · by_cases hbd : b = dx
        · refine .inr ?_
          have z := g2.live dx hdx
          rw [upd_ne hne] at z
          rw [hbd]; exact z
        · rw [upd_ne hbd] at hb
          rcases g2.new b o hb with z | z
          · exact .inl z
          · rw [upd_ne (nba hb)] at z
            exact .inr z
    have w3 : Wd ua u' (upd B2 dx (.xd [(f, yv)])) (upd (del H2 a) dx (.xd [(f, yv)])) := by
      refine ⟨fun b o hb => ?_, fun b hb => ?_⟩
      · by_cases hbd : b = dx
        · rw [hbd, upd_same] at hb ⊢; exact hb
        · rw [upd_ne hbd] at hb ⊢
          rw [del_ne (nba hb)]
          exact w2.sub b o hb
      · obtain ⟨z1, z2⟩ := w2.urn b hb
        have hbd : b ≠ dx := fun e => by rw [e, hdx] at z2; cases z2
        have hba : b ≠ a := fun e => w1.ne_urn ha (by rw [← e]; exact hb)
        rw [upd_ne hbd, upd_ne hbd, del_ne hba]
        exact ⟨z1, z2⟩
    refine q σ _ _ (.ref C) (some dx) (hgr.trans (g1.trans g3)) hO ((hE.grow g1).grow g3) w3 ⟨C, [yv], hG, rfl, ⟨rfl, .inr ⟨dx, rfl, upd_same⟩⟩, .cons (r2.mono _ _ (same_new hB2d)) .nil⟩
def sTry (c : Str) (i : Nat) (body suite : MS) : MS := fun env u => match body env u with
  | some (.er env1 c' ns xs, u1) => if c' = c then (match suite (env1.set i (.pub (.exc c' ns xs))) u1 with
      | some (.nx env2, u2) => some (.nx (env2.set i .no), u2)
      | some (.rt d, u2) => some (.rt d, u2)
      | _ => none) else none
  | r => r
theorem ds_try {x n : Str} {i : Nat} {body suite : List Stmt} {b₀ : Stmt} {np pos' : Pos} {mb ms : MS} (hs : X.stack = X.env :: X.outer) (hf : X.env.frame = some X.env.locals) (hex : X.ex = []) (hN : X.N.Nodup) (hi : X.N[i]? = some n) (hln : X.env.kindOf n = some .local)
    (hE0 : ∃ C, G.exc x = some C ∧ X.mg x = some (.ref C)) (hg : Gl X x) (hdb : (x == ("__debug__" : Str)) = false)
    (hb : ∀ (W : WX) (pn : List (Addr × Obj)) (xe : Value → Shared → Prop), Takes (X.tr pn xe) W → PassesOwn (model X.prog X.w) X.A X.env xe → PSs (X.tr pn xe) body (tSt (K := X.K) G W mb))
    (hsu : ∀ (a : Addr) (pn : List (Addr × Obj)), PSs (X.suite a pn) (b₀ :: suite) (tSt (K := X.K) G W0 ms)) :
    PS X (.Try body [.ExceptHandler (some (.Name x np)) (some n) (b₀ :: suite) pos'] [] [] pos) (tSt G W (sTry x i mb ms)) := by
  obtain ⟨C, hC, hmC⟩ := hE0
  have hit := (G.eok x C hC).hit
  refine (ps_try_hold (c := .ref C) hs hf hex hN hi hln ⟨hg, hdb, .inl hmC⟩ hb hsu).imp fun Dn σ H h => ?_
  obtain ⟨ua, u, B, env, fl, u', B0, H0, hgr, hO, hE, hW, hm, q⟩ := h
  have hW0 := hm
  unfold sTry at hm
  split at hm
  · rename_i env1 c' ns xs u1 hbody
    split at hm
    · rename_i hc
      subst hc
      refine ⟨ua, u, B, env, _, u1, B0, H0, hgr, hO, hE, hW, hbody, fun σ' B' H' cls d g o e w ⟨C2, vs, e1, e2, e3, e4⟩ => ?_⟩
      rw [hC] at e1
      cases e1
      subst e2
      refine ⟨C, rfl, hit, fun a ha => ?_⟩
      have g2 := Grow.new1 (o := Hx a C d) w ha
      have w2 := w.new1 (o := Hx a C d) ha
      have sB : Same B' (upd B' a (Hx a C d)) := same_new (w.none_of ha)
      have rx : Rep G ua (.exc c' ns xs) (.ref a) (upd B' a (Hx a C d)) := by
        unfold Rep
        exact ⟨a, C, d, vs, rfl, hC, upd_same, e3.mono sB, e4.mono _ _ sB⟩
      split at hm
      · rename_i env2 u2 hsuite
        cases hm
        exact ⟨ua, u1, _, _, _, _, B0, H0, g.trans g2, o.set i _ _, (e.grow g2).set rx i, w2, hsuite, fun σ3 B3 H3 g3 o3 e3 w3 => q (σ3.set i none) B3 H3 g3 (fun j ds p z1 z2 => by
          rcases get_set z1 with ⟨_, z⟩ | ⟨hj, z1⟩
          · cases z
          · rw [List.getElem?_set_ne (fun z => hj z.symm)] at z2
            exact o3 j ds p z1 z2) (e3.wipe1 i none) w3⟩
      · rename_i d2 u2 hsuite
        cases hm
        exact ⟨ua, u1, _, _, _, _, B0, H0, g.trans g2, o.set i _ _, (e.grow g2).set rx i, w2, hsuite, q⟩
      · cases hm
    · cases hm
  · rename_i hno
    refine ⟨ua, u, B, env, fl, u', B0, H0, hgr, hO, hE, hW, hm, ?_⟩
    cases fl with
    | nx env' => exact q
    | rt d => exact q
    | er env1 c' ns xs => exact (hno env1 c' ns xs u' hm).elim
def mXf (c f : Str) (m : M) : M := fun env u => bnd (m env u) fun d u1 => match d with
  | .exc c' ns xs => if c' = c then lft ((ns.zip xs).lookup f) u1 else none
  | _ => none
theorem dv_xf {c f : Str} (hno : ∀ C, G.exc c = some C → PySem.W.findIn X.K (.ref C) f = some none) (he : PE X e (tEv G me)) (hab : attributeBase e f X.env (eval e X.env) = eval e X.env := by rfl) : PE X (.Attribute e f pos) (tEv G (mXf c f me)) :=
  (pe_hxf he hab).imp fun σ H Q h => by
    obtain ⟨ua, u, B, env, d, u', hE, hW, hm, q⟩ := h
    obtain ⟨d0, u1, h1, h2⟩ := bnd_some hm
    split at h2
    · rename_i c' ns xs
      split at h2
      · rename_i hc
        subst hc
        obtain ⟨h3, rfl⟩ := lft_some h2
        refine ⟨ua, u, B, env, _, _, hE, hW, h1, fun v H1 ⟨B1, g1, w1, r1⟩ => ?_⟩
        unfold Rep at r1
        obtain ⟨a, C, d2, vs, rfl, hC, ha, ⟨hl, hd⟩, rs⟩ := r1
        obtain ⟨y, l, r⟩ := rs.fld h3
        rcases hd with ⟨rfl, _⟩ | ⟨dd, rfl, hdd⟩
        · cases h3
        · exact ⟨a, C, dd, _, y, rfl, w1.sub _ _ ha, w1.sub _ _ hdd, (G.eok _ C hC).fld, hno C hC, l, q _ _ ⟨B1, g1, w1, r⟩⟩
      · cases h2
    · cases h2
def mIsE (c : Str) (b : Bool) (m : M) : M := fun env u => bnd (m env u) fun d u1 => match d with
  | .exc c' _ _ => if c' = c then some (.bl b, u1) else none
  | _ => none
/-- isinstance(e, T), e a held error of the class c -/
theorem dv_isE {c T : Str} {n : String} {b : Bool} {pT : Pos} (hk : ∀ C, G.exc c = some C → PySem.W.kitOne X.K (.ref C) (.type n) = some b) (hg : Gl X "isinstance") (hm : X.mg "isinstance" = none) (ha : PE X e (tEv G me)) (hgT : Gl X T) (hmT : X.mg T = none) (hvT : bootBuiltins T = some (.type n)) (hnT : T ≠ "__name__" := by decide) (hdT : (T == ("__debug__" : Str)) = false := by decide)
    (hs : starEach (e :: [.Name T pT]) X.env = (false, eval e X.env) :: starEach [.Name T pT] X.env := by rfl) : PE X (.Call (.Name "isinstance" p) [e, .Name T pT] [] pos) (tEv G (mIsE c b me)) := by
  refine (pe_callB call_hx hg hm (by decide +kernel) (pa_cons ha (pa_cons (pe_bltn (v := .ty n) hgT hmT hvT rfl hnT hdT) pa_nil) hs) (he := hs)).imp fun σ H Q h => ?_
  obtain ⟨ua, u, B, env, d, u', hE, hW, hm, q⟩ := h
  obtain ⟨d0, u1, h1, h2⟩ := bnd_some hm
  split at h2
  · rename_i c' ns xs
    split at h2
    · rename_i hc
      subst hc
      cases h2
      refine ⟨ua, u, B, env, _, _, hE, hW, h1, fun v H1 ⟨B1, g1, w1, r1⟩ => ?_⟩
      unfold Rep at r1
      obtain ⟨a, C, d2, vs, rfl, hC, ha, ⟨hl, hd⟩, rs⟩ := r1
      refine ⟨a, C, d2, .ty n, .type n, b, rfl, w1.sub _ _ ha, fun dd e => ?_, (G.eok _ C hC).isi, fun u z => z, hk C hC, q _ _ ⟨B1, g1, w1, rep_bl⟩⟩
      subst e
      rcases hd with ⟨_, z⟩ | ⟨dd', z, hdd⟩
      · cases z
      · cases z
        exact ⟨_, w1.sub _ _ hdd⟩
    · cases h2
  · cases h2
end
end Dv
namespace Dv
open PySem PySem.Spec PyProof.Rows L2
section
variable {P : Program} {w : World} {A : Around} {E : Value → Shared → Prop} {s : Shared}
theorem strs_of_good : ∀ (l : List Value), (∀ v ∈ l, ∃ x tk, v = Value.str x tk) → ∃ xs, StrsAre l xs ∧ ∀ (es : List (Int × Value)), (∀ e ∈ es, ∃ x tk, e.2 = Value.str x tk) → l.Perm (es.map (·.2)) → xs.Perm (es.map txtOf)
  | l, g => by
    have key : ∀ l : List Value, (∀ v ∈ l, ∃ x tk, v = Value.str x tk) → StrsAre l (l.map fun v => txtOf (0, v)) := by
      intro l
      induction l with
      | nil => exact fun _ => .nil
      | cons v r ih =>
        intro g
        obtain ⟨x, tk, rfl⟩ := g v List.mem_cons_self
        exact .cons x tk (ih fun u hu => g u (List.mem_cons_of_mem _ hu))
    refine ⟨_, key l g, fun es ge pm => ?_⟩
    have := pm.map (fun v => txtOf (0, v))
    rw [List.map_map] at this
    exact this
/-- sorted of such a set -/
theorem sorted_txts {a : Addr} {l : List Str} {Q : Value → Shared → Prop} (R : TxtAll w s.heap a l) (hh : A.handled = none) (few : l.length < 64)
    (fin : ∀ s' p (out : Array Value) (c : Nat), (∀ b o, s.heap.get? b = some o → s'.heap.get? b = some o) → s'.gens = s.gens → s'.os = s.os → s.heap.objs.size ≤ p → s'.heap.get? p = some (seqObj "list" out c) → StrsAre out.toList (sortS (nubS l)) → Q (.ref p) s') :
    wpAny (model P w) A (call (.builtin "sorted") [.ref a]) Q E s := by
  obtain ⟨ks, ⟨o, es, ep, t, ho, hex, hd, g, pm, nd, fw, fit, ris, led⟩, mem, le⟩ := R
  refine Calls.call_function_entry kind_sorted plain_sorted entry_sorted (args_sorted1 _) ?_
  unfold Builtin.«sorted»
  refine wpAny_bind (m := checkCount "sorted" 1 1 _) (wpAny_pure (wpAny_bind (collect_set (A := A.in1) hh ⟨o, ho, hex.1, hd⟩ fit fw ris led fun s1 vs k1 hz g1 o1 pm1 => ?_)))
  have good : ∀ e ∈ es.toList, ∃ x tk, e.2 = Value.str x tk := fun e he => by
    obtain ⟨x, tk, h1, _⟩ := g e he
    exact ⟨x, tk, h1⟩
  obtain ⟨xs, hS, hp⟩ := strs_of_good vs fun v hv => by
    obtain ⟨e, he, q⟩ := List.mem_map.mp (pm1.mem_iff.mp hv)
    obtain ⟨x, tk, h⟩ := good e he
    exact ⟨x, tk, by rw [← q]; exact h⟩
  have pk : xs.Perm ks := (hp es.toList good pm1).trans pm
  have lv : vs.length = ks.length := by rw [← pk.length_eq]; exact hS.length
  have pn : ks.Perm (nubS l) := (List.perm_ext_iff_of_nodup nd (nodup_nubS l)).mpr fun z => (mem z).trans mem_nubS.symm
  refine wpAny_bind (wpAny_newList ?_ (by rw [lv, sizeLine_eq]; omega))
  have at_l : (s1.heap.push (seqObj "list" vs.toArray 0)).get? s1.heap.objs.size = some (seqObj "list" vs.toArray 0) := Heap.get?_push_size _ rfl
  refine wpAny_bind (wpAny_holding (wpAny_call_entry slot_list_sort ⟨_, at_l, rfl⟩ entry_list_sort (list_sort_treeK strKind_oneLt at_l hS.keysOf (fun v1 v2 rest e => keyKind_strs (by rw [← e]; exact hS)) (by rw [lv]; omega) fun st' hp' hs => ⟨_, rfl, ?_⟩) (args_list_sort _)))
  obtain ⟨ys, y1, y2, y3⟩ := sorted_out_str hS hp' hs
  obtain ⟨c, hc⟩ := sortedHeap_at (vs := vs) (out := (arrOf st').map (·.2)) at_l
  have ey : ys = sortS (nubS l) := sortS_uniq (y2.trans (pk.trans pn)) y3
  rw [ey] at y1
  refine wpAny_pure ⟨_, rfl, fin _ s1.heap.objs.size _ c (fun b u e => ?_) g1 o1 hz hc y1⟩
  have q := k1 b u e
  have lt := Heap.lt_size q
  show (sortedHeap (s1.heap.push (seqObj "list" vs.toArray 0)) s1.heap.objs.size vs ((arrOf st').map (·.2))).get? b = some u
  rw [sortedHeap_old (Nat.ne_of_lt lt) (by rw [Heap.size_push]; exact Nat.lt_succ_of_lt lt)]
  exact Heap.get?_push_of_some _ q
end
section
variable {X : Cx} {a : Expr} {ta : TE} {p p2 pos qpos : Pos}
theorem pe_sortSet (hc : X.calm = true) (hg : Gl X "sorted") (hm : X.mg "sorted" = none) (hg2 : Gl X "set") (hm2 : X.mg "set" = none) (ha : PE X a ta)
    (na : starEach [a] X.env = (false, eval a X.env) :: starEach [] X.env := by rfl) : PE X (.Call (.Name "sorted" p) [.Call (.Name "set" p2) [a] [] qpos] [] pos) (fun σ H Q => ta σ H fun x H1 => ∃ (l : Addr) (xs : List Str), x = .ref l ∧ (SqL X.K H1 l (xs.map V.str) ∨ SqT X.K H1 l (xs.map V.str)) ∧ xs.length < 63 ∧
      ∀ r, H1 r = none → Q (.ref r) (upd H1 r (.lst ((sortS (nubS xs)).map V.str)))) := by
  refine ⟨fun pins s σ H Q I h => ?_⟩
  refine Call_ (ld_blt I hg hm (show bootBuiltins "sorted" = some (.builtin "sorted") by decide +kernel) ?_)
  refine PyProof.Rows.callWith_builtin1 (PyProof.Rows.args_cons ?_ rfl) rfl rfl
  refine Call_ (ld_blt I hg2 hm2 (show bootBuiltins "set" = some (.type "set") by decide +kernel) ?_)
  refine PyProof.Rows.callWith_type1 (PyProof.Rows.args_cons (thn (ha.run pins s σ H _ I h) fun v s1 ⟨x, H1, I1, r1, q1⟩ => PyProof.Rows.args_nil ?_) na) na rfl
  obtain ⟨l, xs, rfl, hq, few, q1⟩ := q1
  cases r1
  have bound : xs.length + 1 < scanBound := by
    have : scanBound = 4096 := rfl
    omega
  have fin : ∀ (h2 : Heap) (tk : Nat), TxtAll X.w h2 s1.heap.objs.size xs → (∀ b o, s1.heap.get? b = some o → h2.get? b = some o) →
      wpAny (model X.prog X.w) X.A (spliced (backTo pos (starEach [] X.env))) (fun vs s₂ => wpAny (model X.prog X.w) X.A (call (.builtin "sorted") (Value.ref s1.heap.objs.size :: vs)) (EP X pins σ Q) X.xe s₂) X.xe { s1 with heap := h2, toks := tk } := fun h2 tk all keep => by
    refine PyProof.Rows.args_nil ?_
    have I2 : Inv X pins σ H1 { s1 with heap := h2, toks := tk } := I1.kept keep
    refine sorted_txts all (I2.ok.hd hc) (by omega) fun s' r out c k gn os hr hat hout => ?_
    have fresh : H1 r = none := I2.hok.fresh hr
    have hlen : ((sortS (nubS xs)).map V.str).length ≤ sizeLine := by
      have h1 := (sortS_perm (nubS xs)).length_eq
      have h2 := len_nubS xs
      rw [List.length_map, sizeLine_eq]
      omega
    have J : Inv X pins σ (upd H1 r (.lst ((sortS (nubS xs)).map V.str))) ⟨s'.heap, s'.gens, s'.drawn, s'.toks, s1.os⟩ :=
      Inv.call (s := ⟨h2, s1.gens, s1.drawn, tk, s1.os⟩) (h' := s'.heap) (g' := s'.gens) (d' := s'.drawn) (t' := s'.toks) I2 (ch := []) (Un.laid k hr fresh) (I2.hok.laid k hr ⟨hlen, out.toList, c, vals_of_strs hout, hat⟩) (by rw [gn]; exact I2.bare) (fun _ z => nomatch z)
    have e : s' = ⟨s'.heap, s'.gens, s'.drawn, s'.toks, s1.os⟩ := by
      cases s'
      cases s1
      cases os
      rfl
    rw [e]
    exact ⟨.ref r, _, J, rfl, q1 r fresh⟩
  rcases hq with hq | hq
  · obtain ⟨its, r, pl, hz⟩ := I1.list hq
    exact txt_set_list xs (I1.ok.hd hc) pl.isList (by simpa using r.strs) bound fin
  · obtain ⟨its, r, pl, hz⟩ := I1.tuple hq
    exact txt_set_tuple xs (I1.ok.hd hc) pl (by simpa using r.strs) bound fin
end
/-- sorted(set(xs)) -/
def srtSetD : D → Option D
  | .lst ds => (strsOf ds).bind fun xs => if xs.length < 63 then some (.lst ((sortS (nubS xs)).map .str)) else none
  | .tup ds => (strsOf ds).bind fun xs => if xs.length < 63 then some (.lst ((sortS (nubS xs)).map .str)) else none
  | _ => none
def mSortSet (m : M) : M := fun env u => bnd (m env u) fun d u1 => lft (srtSetD d) u1
theorem dv_sortSet {X : Cx} {G : Gx X.K} {a : Expr} {ma : M} {p p2 pos qpos : Pos} (hc : X.calm = true) (hg : Gl X "sorted") (hm : X.mg "sorted" = none) (hg2 : Gl X "set") (hm2 : X.mg "set" = none) (ha : PE X a (tEv G ma))
    (na : starEach [a] X.env = (false, eval a X.env) :: starEach [] X.env := by rfl) : PE X (.Call (.Name "sorted" p) [.Call (.Name "set" p2) [a] [] qpos] [] pos) (tEv G (mSortSet ma)) :=
  (pe_sortSet hc hg hm hg2 hm2 ha na).imp fun σ H Q h => by
    obtain ⟨ua, u, B, env, d, u', hE, hW, hm, q⟩ := h
    obtain ⟨d0, u1, h1, h2⟩ := bnd_some hm
    obtain ⟨h3, rfl⟩ := lft_some h2
    refine ⟨ua, u, B, env, d0, _, hE, hW, h1, fun v H1 ⟨B1, g1, w1, r1⟩ => ?_⟩
    unfold srtSetD at h3
    split at h3
    · obtain ⟨xs, hx, h4⟩ := Option.bind_eq_some_iff.mp h3
      split at h4
      · cases h4
        obtain ⟨l, vs, rfl, hl, rs⟩ := r1.lst
        rw [strsOf_eq hx] at rs
        rw [rs.strs_of] at hl
        exact ⟨l, xs, rfl, .inl (.of (w1.sub _ _ hl)), ‹_›, fun r hr => q _ _ (.up g1 (.lst w1 hr Reps.strs))⟩
      · cases h4
    · obtain ⟨xs, hx, h4⟩ := Option.bind_eq_some_iff.mp h3
      split at h4
      · cases h4
        obtain ⟨l, vs, rfl, hl, rs⟩ := r1.tup
        rw [strsOf_eq hx] at rs
        rw [rs.strs_of] at hl
        exact ⟨l, xs, rfl, .inr (hl.mono w1.sub).sq, ‹_›, fun r hr => q _ _ (.up g1 (.lst w1 hr Reps.strs))⟩
      · cases h4
    · cases h3
end Dv
namespace Dv
open PySem PySem.Spec PyProof.Rows L2
theorem Reps.reverse {K : PySem.W.Frag} {G : Gx K} {ua : Option Addr} {B : Hp} : ∀ {ds : List D} {vs : List V}, Reps G ua ds vs B → Reps G ua ds.reverse vs.reverse B
  | [], vs, h => by rw [h.of_nil]; exact .nil
  | d :: ds, vs, h => by
    obtain ⟨v, r, rfl, q, t⟩ := h.of_cons
    rw [List.reverse_cons, List.reverse_cons]
    exact (Reps.reverse t).append (.cons q .nil)
def MakeK (P : Program) (w : World) {K : PySem.W.Frag} (mg : Str → Option Value) (base : Heap) (G : Gx K) (x : Str) (ks : List Str) (k : Nat) (F : List D → U → Option (D × U)) : Prop :=
  ∃ C f fd ps sp g, Mk K C f ∧ FnOk P w K mg base CX0 k f fd ps sp ∧ mg x = some (.ref C) ∧ KBn K fd ps 1 ks g (fun vs zs => vs ++ zs) ∧
    ∀ (ua : Option Addr) (u u' : U) (B H : Hp) (as : List D) (vs : List V) (d : D), as.length = ks.length → F as u = some (d, u') → Reps G ua as vs B → Wd ua u B H → ∀ (y dx : Addr), H y = none → H dx = none → dx ≠ y →
      ∀ Q : VK, (∀ H', Aft G ua B H u' d (.ref y) H' → Q (.ref y) H') → sp (.ref y :: vs) (upd (upd H dx (.own y)) y (.ins C dx [])) (fun v H2 => v = .non ∧ Q (.ref y) H2) E0
theorem MakeK.mono {P : Program} {w : World} {K : PySem.W.Frag} {mg : Str → Option Value} {base : Heap} {G : Gx K} {x : Str} {ks : List Str} {j k : Nat} {F : List D → U → Option (D × U)} (h : MakeK P w mg base G x ks j F) (l : j ≤ k) : MakeK P w mg base G x ks k F := by
  obtain ⟨C, f, fd, ps, sp, g, h1, h2, h3⟩ := h
  exact ⟨C, f, fd, ps, sp, g, h1, h2.mono l, h3⟩
end Dv
namespace Dv
open PySem PySem.Spec PyProof.Rows L2
end Dv
namespace Dv
open PySem PySem.Spec PyProof.Rows L2
end Dv
namespace PySem.W
open PySem PySem.Calls PyProof.Rows Builtin
end PySem.W
namespace Dv
open PySem PySem.Spec PyProof.Rows L2
section
variable {X : Cx} {G : Gx X.K} {a b e : Expr} {es : List Expr} {ma mb : M} {ms : Ms} {pos apos p1 : Pos}
/-- the class x has F as its static method m -/
def StOk (P : Program) (w : World) {K : PySem.W.Frag} (mg : Str → Option Value) (base : Heap) (G : Gx K) (x m : Str) (k n : Nat) (F : List D → U → Option (D × U)) : Prop :=
  ∃ C p f fd ps, mg x = some (.ref C) ∧ PySem.W.specialIn K (.ref C) "__getattribute__" = some (some (.builtin "type.__getattribute__")) ∧ PySem.W.readsIn K C (.type "type") = true ∧
    PySem.W.findCls K (.ref C) (.type "type") m = some (.get (.builtin "staticmethod.__get__") (.ref p) .none (.ref C)) ∧ (∃ rest, PySem.W.recIn K p "staticmethod" = some (.ref f :: rest)) ∧ FnOk P w K mg base CX0 k f fd ps (spF G F n) ∧ PySem.W.keepIn K (.ref f) = true ∧ Binds K fd ps []
theorem StOk.mono {P : Program} {w : World} {K : PySem.W.Frag} {mg : Str → Option Value} {base : Heap} {G : Gx K} {x m : Str} {j k n : Nat} {F : List D → U → Option (D × U)} (h : StOk P w mg base G x m j n F) (l : j ≤ k) : StOk P w mg base G x m k n F := by
  obtain ⟨C, p, f, fd, ps, h1, h2, h3, h4, h5, h6, h7⟩ := h
  exact ⟨C, p, f, fd, ps, h1, h2, h3, h4, h5, h6.mono l, h7⟩
end
end Dv
namespace Dv
open PySem PySem.Spec PyProof.Rows L2
def perm {α : Type} (π : List Nat) (l : List α) : List α := π.filterMap fun i => l[i]?
theorem Reps.at_or {K : PySem.W.Frag} {G : Gx K} {ua : Option Addr} {B : Hp} : ∀ {ds : List D} {vs : List V} (i : Nat), Reps G ua ds vs B → (ds[i]? = Option.none ∧ vs[i]? = Option.none) ∨ ∃ d v, ds[i]? = some d ∧ vs[i]? = some v ∧ Rep G ua d v B
  | [], vs, i, r => by rw [r.of_nil]; exact .inl ⟨rfl, rfl⟩
  | d :: ds, vs, i, r => by
    obtain ⟨v, t, rfl, r1, r2⟩ := r.of_cons
    cases i with
    | zero => exact .inr ⟨d, v, rfl, rfl, r1⟩
    | succ i => exact Reps.at_or i r2
theorem Reps.perm {K : PySem.W.Frag} {G : Gx K} {ua : Option Addr} {B : Hp} {ds : List D} {vs : List V} (r : Reps G ua ds vs B) : ∀ π : List Nat, Reps G ua (perm π ds) (perm π vs) B
  | [] => .nil
  | i :: π => by
    unfold Dv.perm
    rw [List.filterMap_cons, List.filterMap_cons]
    rcases r.at_or i with ⟨e1, e2⟩ | ⟨d, v, e1, e2, r1⟩
    · rw [e1, e2]; exact r.perm π
    · rw [e1, e2]; exact .cons r1 (r.perm π)
theorem vals_at {vs : List V} {us : List Value} (r : Vals vs us) : ∀ i : Nat, (vs[i]? = none ∧ us[i]? = none) ∨ ∃ v u, vs[i]? = some v ∧ us[i]? = some u ∧ RelV v u := by
  induction r with
  | nil => exact fun i => .inl ⟨rfl, rfl⟩
  | cons a b ih =>
    intro i
    cases i with
    | zero => exact .inr ⟨_, _, rfl, rfl, a⟩
    | succ i => exact ih i
theorem vals_perm {vs : List V} {us : List Value} (r : Vals vs us) : ∀ π : List Nat, Vals (perm π vs) (perm π us)
  | [] => .nil
  | i :: π => by
    unfold Dv.perm
    rw [List.filterMap_cons, List.filterMap_cons]
    rcases vals_at r i with ⟨e1, e2⟩ | ⟨v, u, e1, e2, r1⟩
    · rw [e1, e2]; exact vals_perm r π
    · rw [e1, e2]; exact .cons r1 (vals_perm r π)
def mCallP (n : Nat) (π : List Nat) (F : List D → U → Option (D × U)) (m : Ms) : M := fun env u => bnd (m env u) fun ds u1 => if ds.length = n ∧ (perm π ds).length = π.length then F (perm π ds) u1 else none
def DefKp (P : Program) (w : World) {K : PySem.W.Frag} (mg : Str → Option Value) (base : Heap) (G : Gx K) (x : Str) (ks : List Str) (π : List Nat) (k : Nat) (F : List D → U → Option (D × U)) : Prop :=
  ∃ f fd ps, FnOk P w K mg base CX0 k f fd ps (spF G F π.length) ∧ mg x = some (.ref f) ∧ PySem.W.keepIn K (.ref f) = true ∧ ∀ (s : Shared) (ws : List Value), K.In s.heap → ws.length = ks.length → BindsTo s fd ⟨[], ks.zip ws⟩ (ps.zip (perm π ws))
theorem DefKp.mono {P : Program} {w : World} {K : PySem.W.Frag} {mg : Str → Option Value} {base : Heap} {G : Gx K} {x : Str} {ks : List Str} {π : List Nat} {j k : Nat} {F : List D → U → Option (D × U)} (h : DefKp P w mg base G x ks π j F) (l : j ≤ k) : DefKp P w mg base G x ks π k F := by
  obtain ⟨f, fd, ps, h1, h2⟩ := h
  exact ⟨f, fd, ps, h1.mono l, h2⟩
section
variable {X : Cx} {G : Gx X.K} {kws : List Keyword} {ms : Ms} {p pos : Pos}
theorem dv_callKp {x : Str} {k n : Nat} {ks : List Str} {π : List Nat} {F : List D → U → Option (D × U)} (D0 : DefKp X.prog X.w X.mg X.base G x ks π k F) (hr : Room k X.A) (hg : Gl X x) (hn : ks.length = n) (ha : PK X kws (tEvs G ms))
    (hall : (backToKw pos (keywordEach kws X.env)).all (·.1.isSome) = true := by rfl) (hks : (backToKw pos (keywordEach kws X.env)).filterMap (·.1) = ks := by rfl) (hdb : (x == ("__debug__" : Str)) = false := by decide)
    (hpl : ((backTo pos (starEach [] X.env)).any (·.1) || (backToKw pos (keywordEach kws X.env)).any (·.1.isNone)) = false := by rfl) :
    PE X (.Call (.Name x p) [] kws pos) (tEv G (mCallP n π F ms)) := by
  subst hn
  obtain ⟨f, fd, ps, hf, hm, hk, hb⟩ := D0
  refine ⟨fun pins s σ H Q I h => ?_⟩
  obtain ⟨ua, u, B, env, d, u', hE, hW, hm2, q⟩ := h
  obtain ⟨ds, u1, h1, h2⟩ := bnd_some hm2
  split at h2
  · rename_i hl
    obtain ⟨hl, hl2⟩ := hl
    refine wpAny_Call_Name_kw (ld_glob I hg hm ?_ hdb)
    refine PySem.W.callWith_KW0 (h₀ := X.base) I.ok.mod.kin hk hall (thn (ha.run pos pins s σ H _ I ⟨ua, u, B, env, ds, u1, hE, hW, h1, fun _ _ z => z⟩) fun ws s2 ⟨zs, H2, I2, rz, B2, g2, w2, r2⟩ => ⟨I2.kIn, ?_⟩) hpl
    rw [hks]
    have lw : ws.length = ks.length := by rw [← rz.length, ← r2.len]; exact hl
    refine wpAny_call (codeAny_mono (hf.run X.A X.stack s2 H2 ⟨[] ++ [], ks.zip ws⟩ (perm π ws) (perm π zs) Q E0 hr I2.env0 (hb s2 ws I2.kIn lw) (vals_perm rz π) ⟨ua, u1, B2, perm π ds, d, u', r2.perm π, hl2, w2, h2, fun v H3 a => q v H3 (.up g2 a)⟩) fun r s' hq => ?_)
    cases r with
    | error e => exact hq.elim
    | ok fl =>
      cases fl with
      | ret u => exact I2.after hq
      | next => exact False.elim hq
      | brk => exact False.elim hq
      | cont => exact False.elim hq
  · cases h2
end
end Dv
namespace Dv
open PySem PySem.Spec PyProof.Rows L2
section
variable {X : Cx} {G : Gx X.K} {W : WX} {e : Expr} {es : List Expr} {ms : Ms} {pos p : Pos}
/-- tab tells what the defs do that a name may hold -/
def FnX (P : Program) (w : World) {K : PySem.W.Frag} (mg : Str → Option Value) (base : Heap) (G : Gx K) (tab : Str → Option (List D → U → Option (R × U))) (k n : Nat) : Prop :=
  ∀ y F, tab y = some F → ∃ f fd ps, FnOk P w K mg base (L2.CX P w) k f fd ps (spX G F n) ∧ PySem.W.keepIn K (.ref f) = true ∧ Binds K fd ps [] ∧ G.fns y = some f
theorem pg_sq {es : List Expr} {k n : Nat} {t : TGs} {tpos : Pos} (hc : X.calm = true) (h : PGs X es t) (hn : (assignEach es X.env).length = n := by rfl) (hst : (assignEach es X.env).findIdx? (·.1) = none := by rfl) : PG X (.Tuple es k tpos) (gSq X.K n t) := by
  refine ⟨fun pins s σ H v u Q I r hw => ?_⟩
  obtain ⟨a, xs, e1, hq | hq, hl, hw⟩ := hw
  · exact (pg_tup hc h hn hst).run pins s σ H v u Q I r ⟨a, xs, e1, hq, hl, hw⟩
  · exact (pg_lst hc h hn hst).run pins s σ H v u Q I r ⟨a, xs, e1, hq, hl, hw⟩
end
end Dv
namespace Dv
open PySem PySem.Spec PyProof.Rows L2
end Dv
namespace Dv
open PySem PySem.Spec PyProof.Rows L2
theorem FnX.mono {P : Program} {w : World} {K : PySem.W.Frag} {mg : Str → Option Value} {base : Heap} {G : Gx K} {tab : Str → Option (List D → U → Option (R × U))} {j k n : Nat} (h : FnX P w mg base G tab j n) (l : j ≤ k) : FnX P w mg base G tab k n := fun y F e => by
  obtain ⟨f, fd, ps, h1, h2⟩ := h y F e
  exact ⟨f, fd, ps, h1.mono l, h2⟩
end Dv
namespace Dv
open PySem PySem.Spec PyProof.Rows L2
def valD (ks : List Key) (ds : List D) (k : Key) : Option D := ((ks.zip ds).find? fun kd => decide (kd.1 = k)).map (·.2)
theorem Reps.val {K : PySem.W.Frag} {G : Gx K} {ua : Option Addr} {B : Hp} {k : Key} : ∀ {ks : List Key} {ds : List D} {vs : List V}, Reps G ua ds vs B → ks.length = vs.length →
    (valD ks ds k = Option.none ∧ valV (ks.zip vs) k = Option.none) ∨ ∃ d v, valD ks ds k = some d ∧ valV (ks.zip vs) k = some v ∧ Rep G ua d v B
  | [], ds, vs, r, l => .inl ⟨rfl, rfl⟩
  | j :: ks, [], vs, r, l => by rw [r.of_nil] at l; cases l
  | j :: ks, d :: ds, vs, r, l => by
    obtain ⟨v, t, rfl, r1, r2⟩ := r.of_cons
    unfold valD valV
    rw [List.zip_cons_cons, List.zip_cons_cons]
    by_cases e : j = k
    · refine .inr ⟨d, v, ?_, ?_, r1⟩
      · rw [List.find?_cons_of_pos (by exact decide_eq_true e)]; rfl
      · rw [List.find?_cons_of_pos (by exact decide_eq_true e)]; rfl
    · rw [List.find?_cons_of_neg (by simpa using e), List.find?_cons_of_neg (by simpa using e)]
      exact Reps.val r2 (Nat.succ.inj l)
theorem DctB.rd {H : Hp} {a : Addr} {kvs : List (Key × V)} (h : DctB H a kvs) : Rd H a (.dK kvs) := by
  obtain ⟨o, h⟩ := h
  exact .inr ⟨o, h⟩
theorem rep_dct {K : PySem.W.Frag} {G : Gx K} {ua : Option Addr} {B : Hp} {ks : List Key} {ds : List D} {v : V} (r : Rep G ua (.dct ks ds) v B) : ∃ a vs, v = .ref a ∧ DctB B a (ks.zip vs) ∧ ks.length = vs.length ∧ Reps G ua ds vs B := by
  unfold Rep at r; exact r
section
variable {X : Cx} {G : Gx X.K} {o e f i : Expr} {mo me mf : M} {pos cpos apos : Pos}
def dixD : D → D → Option D
  | .dct ks ds, k => (keyOf k).bind fun key => valD ks ds key
  | _, _ => none
theorem dv_dix (hu : X.A.units + 1 < cLine) (ho : PE X o (tEv G mo)) (he : PE X i (tEv G me)) (hs : NoSl i := by exact fun _ _ => rfl) : PE X (.Subscript o i pos) (tEv G (mBin dixD mo me)) := by
  refine (pe_dget hu ho he hs).imp fun σ H Q h => ?_
  obtain ⟨ua, u, B, env, d, u', hE, hW, hm, q⟩ := h
  obtain ⟨x, u1, c1, c2⟩ := bnd_some hm
  obtain ⟨k, u2, c3, c4⟩ := bnd_some c2
  obtain ⟨l4, rfl⟩ := lft_some c4
  refine ⟨ua, u, B, env, x, u1, hE, hW, c1, fun v H1 ⟨B1, g1, w1, r1⟩ => ⟨ua, u1, B1, env, k, _, hE.grow g1, w1, c3, fun v2 H2 ⟨B2, g2, w2, r2⟩ => ?_⟩⟩
  cases x with
  | dct ks ds =>
    obtain ⟨a, vs, rfl, hd, hl, rs⟩ := rep_dct r1
    have l4 : ((keyOf k).bind fun key => valD ks ds key) = some d := l4
    cases hk : keyOf k with
    | none => rw [hk] at l4; cases l4
    | some key =>
      rw [hk] at l4
      have l4 : valD ks ds key = some d := l4
      rcases rs.val (k := key) hl with ⟨e1, e2⟩ | ⟨dv, vv, e1, e2, rr⟩
      · rw [e1] at l4; cases l4
      · rw [e1] at l4; cases l4
        exact ⟨a, vv, rfl, .inl ⟨_, key, ((hd.mono g2.pub).mono w2.sub).rd, keyOf_rep hk r2, e2.symm⟩, q _ _ (.up g1 ⟨B2, g2, w2, rr.mono _ _ g2.pub⟩)⟩
  | _ => cases l4
end
end Dv
namespace Dv
open PySem PySem.Spec PyProof.Rows L2
end Dv
namespace Dv
open PySem L2
theorem hU1 {A : Around} {k : Nat} (hr : Room k A) : A.units + 1 < cLine := by have := hU64 hr; omega
end Dv
namespace Dv
end Dv
namespace Dv
open PySem PySem.Spec PyProof.Rows L2
def turnD (t : Tgt) (own : List Nat) (env : List Sl) (mc : MB) (mk mv : M) : D → U → Option (Option (Key × D) × U) := fun d u => match bindT t d (wipeE env own) with
  | none => none
  | some env' => bnd (mc env' u) fun b u1 => if b = true then bnd (mk env' u1) fun k u2 => bnd (mv env' u2) fun v u3 => match keyOf k with
      | some key => some (some (key, v), u3)
      | none => none
    else some (none, u1)
def foldD (f : D → U → Option (Option (Key × D) × U)) : List D → List Key → List D → U → Option ((List Key × List D) × U)
  | [], ks, vs, u => some ((ks, vs), u)
  | d :: ds, ks, vs, u => bnd (f d u) fun o u1 => match o with
    | some kv => if ks.length < sizeLine then foldD f ds (putD ks vs kv.1 kv.2).1 (putD ks vs kv.1 kv.2).2 u1 else none
    | none => foldD f ds ks vs u1
def vDC (t : Tgt) (own : List Nat) (mi : MI) (mc : MB) (mk mv : M) : MSl := fun env u => bnd (mi env u) fun ds u1 => bnd (foldD (turnD t own env mc mk mv) ds [] [] u1) fun r u2 => some (.own (.dct r.1 r.2), u2)
section
variable {X : Cx} {G : Gx X.K} {mi : MI} {mc : MB} {mk mv : M}
theorem dc_read {t : Tgt} {own : List Nat} {σ : L2.St} {H : Hp} {Q : VK} (ht : ∀ i ∈ t.ids, i ∈ own) (h : tSv G (vDC t own mi mc mk mv) σ H Q) : tDc (tIt G mi) (gOf X.K t) (tTst G mc) (tEv G mk) (tEv G mv) own σ H Q := by
  obtain ⟨ua, u, B, env, s, u', hE, hW, hm, q⟩ := h
  obtain ⟨ds, u1, h1, h2⟩ := bnd_some hm
  obtain ⟨r, u2, h3, h4⟩ := bnd_some h2
  cases h4
  refine ⟨ua, u, B, env, ds, u1, hE, hW, h1, fun J B1 H1 g1 w1 wk Dp hD => ?_⟩
  have hE1 := hE.grow g1
  refine ⟨fun i m H' => m = ds.length - i ∧ i ≤ ds.length ∧ ∃ B' uu ks es vs, Grow ua B1 H1 B' H' ∧ Wd ua uu B' H' ∧ H' Dp = some (.dK (ks.zip vs)) ∧ B' Dp = none ∧ ks.Nodup ∧ ks.length = vs.length ∧ Reps G ua es vs B' ∧ foldD (turnD t own env mc mk mv) (ds.drop i) ks es uu = some (r, u'),
    ⟨ds.length, by omega, by omega, B1, u1, [], [], [], .own1 w1 hD, w1.own1 hD, upd_same, w1.none_of hD, List.nodup_nil, rfl, .nil, h3⟩, ?_⟩
  rintro i m H' ⟨rfl, hi, B', uu, ks, es, vs, g2, w2, hv, hb, hn, hl, rs, hc⟩
  have sB : Same B1 B' := g2.pub
  have nu : ua ≠ some Dp := w1.ne_urn hD
  have hk := wk i B' H' uu sB w2
  by_cases hlt : i < ds.length
  · have hd : ds[i]? = some ds[i] := List.getElem?_eq_getElem hlt
    obtain ⟨hgo, hy⟩ := hk.1 _ hd
    rw [List.drop_eq_getElem_cons hlt] at hc
    obtain ⟨o, u3, c1, c2⟩ := bnd_some (show bnd (turnD t own env mc mk mv ds[i] uu) _ = _ from hc)
    refine .inr ⟨hgo, fun H2 => ∃ B' uu ks es vs, Grow ua B1 H1 B' H2 ∧ Wd ua uu B' H2 ∧ H2 Dp = some (.dK (ks.zip vs)) ∧ B' Dp = none ∧ ks.Nodup ∧ ks.length = vs.length ∧ Reps G ua es vs B' ∧ foldD (turnD t own env mc mk mv) (ds.drop (i + 1)) ks es uu = some (r, u'),
      fun H2 h2 => ⟨ds.length - (i + 1), by omega, rfl, hlt, h2⟩, fun x H2 y => ?_⟩
    obtain ⟨B2, g3, w3, r3⟩ := hy x H2 y
    have hv2 : H2 Dp = some (.dK (ks.zip vs)) := g3.keep _ _ hv nu
    have hb2 : B2 Dp = none := g3.none_of hv hb
    have rs2 := rs.mono _ _ g3.pub
    have hE2 : EnvOk G ua (wipeE env own) (wipe σ own) B2 H2 := ((hE1.wipe own).grow g2).grow g3
    unfold turnD at c1
    split at c1
    · cases c1
    · rename_i env' hbt
      refine bindT_ok hE2 w3 r3 hbt fun σ' hE3 hwp hback => ⟨by rw [hwp own ht, wipe_wipe], ?_⟩
      obtain ⟨b, u5, c5, c6⟩ := bnd_some c1
      refine ⟨ua, uu, B2, env', b, u5, hE3, w3, c5, fun H3 ⟨B3, g4, w4⟩ => ?_⟩
      have hv3 : H3 Dp = some (.dK (ks.zip vs)) := g4.keep _ _ hv2 nu
      have hb3 : B3 Dp = none := g4.none_of hv2 hb2
      have rs3 := rs2.mono _ _ g4.pub
      have gg := g2.trans (g3.trans g4)
      cases b with
      | true =>
        rw [if_pos rfl] at c6
        refine iteT ?_
        obtain ⟨k0, u6, c7, c8⟩ := bnd_some c6
        obtain ⟨v0, u7, c9, c10⟩ := bnd_some c8
        cases hky : keyOf k0 with
        | none => rw [hky] at c10; cases c10
        | some key =>
          rw [hky] at c10
          have c10 : some (some (key, v0), u7) = some (o, u3) := c10
          cases c10
          have c2 : (if ks.length < sizeLine then foldD (turnD t own env mc mk mv) (ds.drop (i + 1)) (putD ks es key v0).1 (putD ks es key v0).2 u3 else none) = some (r, u') := c2
          split at c2
          · rename_i hz
            refine ⟨ua, u5, B3, env', k0, u6, hE3.grow g4, w4, c7, fun yv H4 ⟨B4, g5, w5, r5⟩ => ⟨ua, u6, B4, env', v0, u3, (hE3.grow g4).grow g5, w5, c9, fun zv H5 ⟨B5, g6, w6, r6⟩ => ?_⟩⟩
            have hv4 : H4 Dp = some (.dK (ks.zip vs)) := g5.keep _ _ hv3 nu
            have hb4 : B4 Dp = none := g5.none_of hv3 hb3
            have hv5 : H5 Dp = some (.dK (ks.zip vs)) := g6.keep _ _ hv4 nu
            have hb5 : B5 Dp = none := g6.none_of hv4 hb4
            have rs5 := (rs3.mono _ _ g5.pub).mono _ _ g6.pub
            obtain ⟨ws, q1, q2, q3, _, q5⟩ := putD_rep (j := key) r6 hn hl rs5
            refine ⟨_, key, keyOf_rep hky r5, hv5, by rw [List.length_zip, ← hl, Nat.min_self]; exact hz, B5, u3, (putD ks es key v0).1, (putD ks es key v0).2, ws, ((gg.trans g5).trans g6).put hD, w6.put hb5 nu, ?_, hb5, q5, q2, q3, c2⟩
            rw [upd_same, q1]
          · cases c2
      | false =>
        rw [if_neg Bool.false_ne_true] at c6
        refine iteF ?_
        cases c6
        exact ⟨B3, _, ks, es, vs, gg, w4, hv3, hb3, hn, hl, rs3, c2⟩
  · have e : i = ds.length := by omega
    subst e
    rw [List.drop_length] at hc
    cases hc
    refine .inl ⟨hk.2 (List.getElem?_eq_none (Nat.le_refl _)), q _ _ ⟨B', g1.trans g2, w2, Dp, _, rfl, g1.live _ hD, hv, hb, nu, vs, rfl, hl, rs, hn⟩⟩
variable {kx vx tg iter : Expr} {ifs : List Expr} {scope : Scope} {own : List (Str × Nat)} {pos : Pos}
theorem dv_dc (t : Tgt) (ids : List Nat) (hc : X.calm = true) (hN : X.N.Nodup) (hi : PI X tg iter (tIt G mi)) (ok : BlkOk X.N X.env.scope scope own) (hid : own.map (·.2) = ids) (ht : ∀ i ∈ t.ids, i ∈ ids)
    (hg : ∀ (s : Shared) (H : Hp) (C : Addr) (cl : List (Str × Addr)) (fp : List Addr), PG (X.blk s H scope (compEnvC scope cl C X.env) fp) tg (gOf X.K t)) (hq : ∀ (s : Shared) (H : Hp) (C : Addr) (cl : List (Str × Addr)) (fp : List Addr), PTs (X.blk s H scope (compEnvC scope cl C X.env) fp) ifs (tTst (K := X.K) G mc))
    (hk : ∀ (s : Shared) (H : Hp) (C : Addr) (cl : List (Str × Addr)) (fp : List Addr), PE (X.blk s H scope (compEnvC scope cl C X.env) fp) kx (tEv (K := X.K) G mk))
    (he : ∀ (s : Shared) (H : Hp) (C : Addr) (cl : List (Str × Addr)) (fp : List Addr), PE (X.blk s H scope (compEnvC scope cl C X.env) fp) vx (tEv (K := X.K) G mv)) (hs : ∀ x, foldedSetIterable iter X.env x = pure x := by intro _; rfl) :
    PE X (.DictComp kx vx [⟨tg, iter, ifs, 0⟩] scope pos) (tSv G (vDC t ids mi mc mk mv)) := by
  subst hid
  exact (pe_dc hc hN hi ok hg hq hk he hs).imp fun _ _ _ h => dc_read ht h
end
def scalO : Oo → Bool
  | .lst ds => ds.all scalD
  | .dct _ ds => ds.all scalD
  | .dtt _ _ => false
  | .dtn _ _ => false
theorem reps_scal {K : PySem.W.Frag} {G : Gx K} {ua : Option Addr} {B B1 : Hp} : ∀ {ds : List D} {vs : List V}, ds.all scalD = true → Reps G ua ds vs B → Reps G ua ds vs B1
  | [], vs, _, r => by rw [r.of_nil]; exact .nil
  | d :: ds, vs, h, r => by
    obtain ⟨v, t, rfl, r1, r2⟩ := r.of_cons
    rw [List.all_cons, Bool.and_eq_true] at h
    exact .cons (r1.scal h.1) (reps_scal h.2 r2)
theorem RepO.scal {K : PySem.W.Frag} {G : Gx K} {ua : Option Addr} {B B1 : Hp} {o : Oo} {ho : HO} (h : scalO o = true) (r : RepO G ua o ho B) : RepO G ua o ho B1 := by
  cases o with
  | lst ds =>
    obtain ⟨vs, rfl, rs⟩ := r
    exact ⟨vs, rfl, reps_scal h rs⟩
  | dct ks ds =>
    obtain ⟨vs, rfl, hl, rs, hn⟩ := r
    exact ⟨vs, rfl, hl, reps_scal h rs, hn⟩
  | dtt ks ds => cases h
  | dtn ks ds => cases h
end Dv
namespace Dv
open PySem PySem.Spec PyProof.Rows L2
def pyD (d : D) : PyData := (toPy d).getD .none
def leG (a b : D) : Bool := W.dataLe false pyD a b
theorem leG_total : W.TotalLe leG := by
  have := W.sortLe_total (PyProof.Rows.listOrd PyProof.Rows.itemOrd) false (fun d : D => W.keyToks (pyD d))
  exact ⟨fun a b c h g => this.trans a b c h g, fun a b => this.total a b⟩
def insG (x : D) : List D → List D
  | [] => [x]
  | y :: r => if leG x y = true then x :: y :: r else y :: insG x r
def sortG : List D → List D
  | [] => []
  | x :: r => insG x (sortG r)
theorem insG_perm (x : D) : ∀ l, (insG x l).Perm (x :: l)
  | [] => .refl _
  | y :: r => by
    unfold insG
    split
    · exact .refl _
    · exact ((insG_perm x r).cons y).trans (.swap x y r)
abbrev LeG (a b : D) : Prop := leG a b = true
theorem insG_sorted (x : D) : ∀ l : List D, l.Pairwise LeG → (insG x l).Pairwise LeG
  | [], _ => List.pairwise_singleton _ _
  | y :: r, h => by
    have h1 := List.pairwise_cons.mp h
    unfold insG
    split
    · rename_i hl
      refine List.pairwise_cons.mpr ⟨fun z hz => ?_, h⟩
      rcases List.mem_cons.mp hz with rfl | hz
      · exact hl
      · exact leG_total.trans _ _ _ hl (h1.1 z hz)
    · rename_i hl
      refine List.pairwise_cons.mpr ⟨fun z hz => ?_, insG_sorted x r h1.2⟩
      rcases List.mem_cons.mp ((insG_perm x r).subset hz) with rfl | hz
      · exact (leG_total.total _ _).resolve_left hl
      · exact h1.1 z hz
theorem sortG_sorted : ∀ l : List D, (sortG l).Pairwise LeG
  | [] => .nil
  | x :: r => insG_sorted x _ (sortG_sorted r)
theorem insG_rank (x c : D) : ∀ l : List D, (insG x l).filter (W.sameRank leG c) = (x :: l).filter (W.sameRank leG c)
  | [] => rfl
  | y :: r => by
    unfold insG
    split
    · rfl
    · rename_i hl
      rw [List.filter_cons, insG_rank x c r, List.filter_cons, List.filter_cons, List.filter_cons]
      by_cases hx : W.sameRank leG c x = true
      · have hy : ¬ W.sameRank leG c y = true := fun hy => hl (by
          unfold W.sameRank at hx hy
          rw [Bool.and_eq_true] at hx hy
          exact leG_total.trans _ _ _ hx.2 hy.1)
        rw [if_neg hy, if_pos hx, if_pos hx, if_neg hy]
      · rw [if_neg hx, if_neg hx]
theorem sortG_rank (c : D) : ∀ l : List D, (sortG l).filter (W.sameRank leG c) = l.filter (W.sameRank leG c)
  | [] => rfl
  | x :: r => by
    show (insG x (sortG r)).filter _ = _
    rw [insG_rank, List.filter_cons, List.filter_cons, sortG_rank c r]
theorem sortG_eq (l : List D) : sortG l = l.mergeSort leG := W.sort_unique leG_total (sortG_sorted l) fun c => sortG_rank c l
def alikeB (ps : List PyData) : Bool := ps.all fun p => ps.all fun q => W.alike p q
def tupB : PyData → Bool
  | .tuple (_ :: _) => true
  | _ => false
def flatP : PyData → Bool
  | .none => false
  | .tuple _ => false
  | _ => true
def sortableB (ps : List PyData) : Bool := ps.all tupB || ps.all flatP
def okG (ps : List PyData) : Bool := alikeB ps && sortableB ps && ps.all fun p => decide (p.depth ≤ 60)
theorem okG_al {ps : List PyData} (h : okG ps = true) : W.AllAlike ps := fun d hd d' hd' => by
  unfold okG alikeB at h
  rw [Bool.and_eq_true, Bool.and_eq_true] at h
  exact List.all_eq_true.mp (List.all_eq_true.mp h.1.1 d hd) d' hd'
theorem okG_so {ps : List PyData} (h : okG ps = true) : W.Sortable ps := by
  unfold okG sortableB at h
  rw [Bool.and_eq_true, Bool.and_eq_true, Bool.or_eq_true] at h
  rcases h.1.2 with h | h
  · refine .inl fun d hd => ?_
    have := List.all_eq_true.mp h d hd
    unfold tupB at this
    split at this
    · exact ⟨_, _, rfl⟩
    · cases this
  · refine .inr fun d hd => ?_
    have := List.all_eq_true.mp h d hd
    unfold flatP at this
    split at this
    · cases this
    · cases this
    · rename_i h1 h2
      exact ⟨h1, h2⟩
theorem okG_dep {ps : List PyData} (h : okG ps = true) : ∀ p ∈ ps, p.depth ≤ 60 := fun p hp => by
  unfold okG at h
  rw [Bool.and_eq_true] at h
  exact of_decide_eq_true (List.all_eq_true.mp h.2 p hp)
theorem toPys_pyD : ∀ {ds : List D} {ps : List PyData}, toPys ds = some ps → ps = ds.map pyD ∧ ∀ d ∈ ds, toPy d = some (pyD d)
  | [], ps, h => by unfold toPys at h; cases h; exact ⟨rfl, fun d hd => by cases hd⟩
  | d :: ds, ps, h => by
    unfold toPys at h
    cases q : toPy d with
    | none => rw [q] at h; cases h
    | some p =>
      rw [q] at h
      cases q2 : toPys ds with
      | none => rw [q2] at h; cases h
      | some r =>
        rw [q2] at h
        have h : some (p :: r) = some ps := h
        cases h
        obtain ⟨h1, h2⟩ := toPys_pyD q2
        have e : pyD d = p := by unfold pyD; rw [q]; rfl
        refine ⟨by rw [List.map_cons, e, h1], fun x hx => ?_⟩
        rcases List.mem_cons.mp hx with rfl | hx
        · rw [e]; exact q
        · exact h2 x hx
def rSortedG (X : Cx) : List V → Hp → VK → Prop := fun vs H Q => ∃ (a : Addr) (zs : List (V × D)), vs = [.ref a] ∧ SqL X.K H a (zs.map (·.1)) ∧ (∀ z ∈ zs, Dp X.K H z.1 (pyD z.2)) ∧ okG (zs.map fun z => pyD z.2) = true ∧
  ∀ (p : Addr), H p = none → Q (.ref p) (upd H p (.lst ((zs.mergeSort fun x y => leG x.2 y.2).map (·.1))))
theorem vals_eachD {R : Value → V × D → Prop} (hR : ∀ u z, R u z → RelV z.1 u) : ∀ {us : List Value} {zs : List (V × D)}, W.EachIs R us zs → Vals (zs.map (·.1)) us
  | _, _, .nil => .nil
  | _, _, .cons h t => .cons (hR _ _ h) (vals_eachD hR t)
theorem each_valsD : ∀ {zs : List (V × D)} {us : List Value}, Vals (zs.map (·.1)) us → W.EachIs (fun u (z : V × D) => RelV z.1 u) us zs
  | [], us, h => by cases us with
    | nil => exact .nil
    | cons u us => cases h
  | z :: zs, us, h => by cases us with
    | nil => cases h
    | cons u us => cases h with
      | cons h1 h2 => exact .cons h1 (each_valsD h2)
theorem each_readsD {R S : Value → V × D → Prop} : ∀ {us : List Value} {zs : List (V × D)}, W.EachIs R us zs → (∀ u z, z ∈ zs → R u z → S u z) → W.EachIs S us zs
  | _, _, .nil, _ => .nil
  | _, _, .cons h t, f => .cons (f _ _ List.mem_cons_self h) (each_readsD t fun u z hz => f u z (List.mem_cons_of_mem _ hz))
theorem cr_sortedG {X : Cx} (hu : X.A.units + 64 < cLine) : CallR X (.builtin "sorted") (rSortedG X) := by
  intro pins s σ H vs us Q I r h
  obtain ⟨a, zs, rfl, hs, hd, hok, q⟩ := h
  obtain ⟨its, rv, hl, hz⟩ := I.list hs
  obtain ⟨u, rfl, ru⟩ := vals1 r
  obtain rfl : u = Value.ref a := ru
  have e0 := each_valsD rv
  have er : W.EachIs (fun u (z : V × D) => ∃ as, Reads s.heap u (pyD z.2) as) its zs := each_readsD e0 fun u z hz' ru => Dp.reads I _ _ _ (hd z hz') ru
  have hlen : its.length = zs.length := by rw [← rv.length, List.length_map]
  refine W.sorted_data (enc := fun z : V × D => pyD z.2) (R := fun u z => RelV z.1 u) hl.isList e0 er (okG_al hok) (okG_so hok) (by rw [← hlen, ← rv.length]; exact hz) (fun b hb => by
    have := okG_dep hok (pyD b.2) (List.mem_map.mpr ⟨b, hb, rfl⟩)
    omega) fun out ho eo => ?_
  obtain ⟨ys, hys⟩ : ∃ ys, ys = zs.mergeSort (W.dataLe false fun z : V × D => pyD z.2) := ⟨_, rfl⟩
  have hperm : ys.Perm zs := by rw [hys]; exact List.mergeSort_perm _ _
  rw [← hys] at eo
  obtain ⟨c, hc⟩ := PyProof.Rows.sortedAll_at s.heap its out.toArray
  refine ⟨.ref (s.heap.objs.size + 1), upd H (s.heap.objs.size + 1) (.lst (ys.map (·.1))), I.laid (t' := s.toks) (fun b o e => PyProof.Rows.sortedAll_old e) (Nat.le_succ _) ⟨?_, out, c, vals_eachD (fun _ _ h => h) eo, hc⟩, rfl, ?_⟩
  · rw [List.length_map, hperm.length_eq, ← hlen, ← rv.length]; exact hz
  · have := q (s.heap.objs.size + 1) (I.hok.fresh (Nat.le_succ _))
    rw [hys]
    exact this
def sortP (ds : List D) : Option D := (toPys ds).bind fun ps => if okG ps = true then some (.lst (sortG ds)) else none
def bSortB : List D → Option D
  | [.lst ds] => match bSortA [.lst ds] with
    | some d => some d
    | none => sortP ds
  | _ => none
theorem rep_all {K : PySem.W.Frag} {G : Gx K} {ua : Option Addr} {B H : Hp} (sub : Same B H) : ∀ {ds : List D} {vs : List V}, (∀ d ∈ ds, toPy d = some (pyD d)) → Reps G ua ds vs B → ∃ zs : List (V × D), zs.map (·.1) = vs ∧ zs.map (·.2) = ds ∧ ∀ z ∈ zs, Rep G ua z.2 z.1 B ∧ Dp K H z.1 (pyD z.2)
  | [], vs, _, r => ⟨[], by rw [r.of_nil]; rfl, rfl, fun z hz => by cases hz⟩
  | d :: ds, vs, h, r => by
    obtain ⟨v, t, rfl, r1, r2⟩ := r.of_cons
    obtain ⟨zs, h1, h2, h3⟩ := rep_all sub (fun x hx => h x (List.mem_cons_of_mem _ hx)) r2
    refine ⟨(v, d) :: zs, by rw [List.map_cons, h1], by rw [List.map_cons, h2], fun z hz => ?_⟩
    rcases List.mem_cons.mp hz with rfl | hz
    · exact ⟨r1, rep_dp sub _ _ _ (h d List.mem_cons_self) r1⟩
    · exact h3 z hz
theorem reps_ofD {K : PySem.W.Frag} {G : Gx K} {ua : Option Addr} {B : Hp} : ∀ {zs : List (V × D)}, (∀ z ∈ zs, Rep G ua z.2 z.1 B) → Reps G ua (zs.map (·.2)) (zs.map (·.1)) B
  | [], _ => .nil
  | z :: zs, h => .cons (h z List.mem_cons_self) (reps_ofD fun y hy => h y (List.mem_cons_of_mem _ hy))
theorem ok_sortB {X : Cx} {G : Gx X.K} (hu : X.A.units + 64 < cLine) : BiOk G (.builtin "sorted") bSortB := by
  intro ua u B H ds d vs e rs w
  unfold bSortB at e
  split at e
  · rename_i ds
    split at e
    · rename_i d' hd
      cases e
      exact ok_sortA hu ua u B H _ _ vs hd rs w
    · unfold sortP at e
      cases q : toPys ds with
      | none => rw [q] at e; cases e
      | some ps =>
        rw [q] at e
        have e : (if okG ps = true then some (D.lst (sortG ds)) else none) = some d := e
        split at e
        · rename_i hok
          cases e
          obtain ⟨hp, hpy⟩ := toPys_pyD q
          obtain ⟨v, t, rfl, r1, r2⟩ := rs.of_cons
          rw [r2.of_nil]
          obtain ⟨a, ys, rfl, h, r3⟩ := r1.lst
          obtain ⟨zs, h1, h2, h3⟩ := rep_all w.sub hpy r3
          refine ⟨_, cr_sortedG hu, a, zs, rfl, by rw [h1]; exact .of (w.sub _ _ h), fun z hz => (h3 z hz).2, ?_, fun p hn => ?_⟩
          · rw [show (zs.map fun z => pyD z.2) = (zs.map (·.2)).map pyD from by rw [List.map_map]; rfl, h2, ← hp]; exact hok
          · have hm : (zs.mergeSort fun x y => leG x.2 y.2).map (·.2) = sortG ds := by
              rw [sortG_eq, ← h2]
              exact W.sort_maps (f := fun z : V × D => z.2) fun a _ b _ => rfl
            rw [← hm]
            exact .lst w hn (reps_ofD fun z hz => (h3 z ((List.mergeSort_perm _ _).mem_iff.mp hz)).1)
        · cases e
  · cases e
end Dv
namespace Dv
open PySem PySem.Spec PyProof.Rows L2
section
variable {X : Cx} {G : Gx X.K} {W : WX} {a b e : Expr} {ma mb me : M} {pos : Pos}
/-- a + b, lists: a new list -/
def vAdd (ma mb : M) : MSl := fun env u => bnd (ma env u) fun x u1 => bnd (mb env u1) fun y u2 => match x, y with
  | .lst ds, .lst es => if ds.length + es.length ≤ sizeLine then some (.own (.lst (ds ++ es)), u2) else none
  | _, _ => none
theorem dv_oAdd (ha : PE X a (tEv G ma)) (hb : PE X b (tEv G mb)) : PE X (.BinOp a .Add b pos) (tSv G (vAdd ma mb)) := by
  refine (pe_op op_cat ha hb).imp fun σ H Q z => ?_
  obtain ⟨ua, u, B, env, s, u', hE, hW, hm, q⟩ := z
  obtain ⟨x, u1, c1, c2⟩ := bnd_some hm
  obtain ⟨y, u2, c3, c4⟩ := bnd_some c2
  refine ⟨ua, u, B, env, x, u1, hE, hW, c1, fun v H1 ⟨B1, g1, w1, r1⟩ => ⟨ua, u1, B1, env, y, u2, hE.grow g1, w1, c3, fun v2 H2 ⟨B2, g2, w2, r2⟩ => ?_⟩⟩
  split at c4
  · split at c4
    · cases c4
      obtain ⟨p, xs, rfl, h1, s1⟩ := r1.lst
      obtain ⟨p2, ys, rfl, h2, s2⟩ := r2.lst
      have s1' := s1.mono _ _ g2.pub
      refine ⟨p, p2, xs, ys, rfl, rfl, w2.sub _ _ (g2.pub _ _ h1), w2.sub _ _ h2, by rw [← s1.len, ← s2.len]; assumption, fun l hl => ?_⟩
      exact q _ _ ⟨B2, (g1.trans g2).trans (.own1 w2 hl), w2.own1 hl, l, _, rfl, g1.live _ (g2.live _ hl), upd_same, w2.none_of hl, w2.ne_urn hl, _, rfl, s1'.append s2⟩
    · cases c4
  · cases c4
end
end Dv
namespace Dv
open PySem PySem.Spec PyProof.Rows L2
end Dv
namespace Dv
open PySem PySem.Spec PyProof.Rows L2
/-- a text of real code points -/
def TxO (x : Str) : Prop := PyData.strOk x = true
theorem toPys_map {α : Type} {f : α → D} {g : α → PyData} : ∀ {l : List α}, (∀ a ∈ l, toPy (f a) = some (g a)) → toPys (l.map f) = some (l.map g)
  | [], _ => by simp [toPys]
  | a :: l, h => by
    rw [List.map_cons, List.map_cons]
    unfold toPys
    rw [h a List.mem_cons_self, toPys_map fun b hb => h b (List.mem_cons_of_mem _ hb)]
    rfl
theorem lay_map {α : Type} {g : α → PyData} : ∀ {l : List α}, (∀ a ∈ l, (g a).canLay0 = true) → PyData.canLayAll0 (l.map g) = true
  | [], _ => by simp [PyData.canLayAll0]
  | a :: l, h => by
    rw [List.map_cons]
    unfold PyData.canLayAll0
    rw [h a List.mem_cons_self, lay_map fun b hb => h b (List.mem_cons_of_mem _ hb)]
    rfl
theorem depth_map {α : Type} {g : α → PyData} {n : Nat} : ∀ {l : List α}, (∀ a ∈ l, (g a).depth ≤ n) → PyData.depthAll (l.map g) ≤ n
  | [], _ => by simp [PyData.depthAll]
  | a :: l, h => by
    rw [List.map_cons]
    unfold PyData.depthAll
    exact Nat.max_le.mpr ⟨h a List.mem_cons_self, depth_map fun b hb => h b (List.mem_cons_of_mem _ hb)⟩
theorem shaped_tup {α : Type} {g : α → PyData} {n : Nat} {l : List α} (h : ∀ a ∈ l, (g a).canLay0 = true) (d : ∀ a ∈ l, (g a).depth ≤ n) (hn : n < 64) : SeqAt.shaped (.tuple (l.map g)) = true := by
  unfold SeqAt.shaped
  rw [Bool.and_eq_true]
  refine ⟨by simp only [PyData.canLay0]; exact lay_map h, decide_eq_true ?_⟩
  have := depth_map d
  unfold PyData.depth
  omega
theorem eqvAll_dec {α : Type} [DecidableEq α] {f : α → PyData} : ∀ {l m : List α}, (∀ a ∈ l, ∀ b ∈ m, PyData.eqv (f a) (f b) = decide (a = b)) → PyData.eqvAll (l.map f) (m.map f) = decide (l = m)
  | [], [], _ => by simp [PyData.eqvAll]
  | [], b :: m, _ => by simp [PyData.eqvAll]
  | a :: l, [], _ => by simp [PyData.eqvAll]
  | a :: l, b :: m, h => by
    rw [List.map_cons, List.map_cons]
    unfold PyData.eqvAll
    rw [h a List.mem_cons_self b List.mem_cons_self, eqvAll_dec fun x hx y hy => h x (List.mem_cons_of_mem _ hx) y (List.mem_cons_of_mem _ hy)]
    rw [← Bool.decide_and]
    exact decide_eq_decide.mpr ⟨fun ⟨h1, h2⟩ => by rw [h1, h2], fun h => ⟨(List.cons.inj h).1, (List.cons.inj h).2⟩⟩
abbrev Dd := Bool × Str
def plainN : Nat → D → Bool
  | _, .non => true
  | _, .bl _ => true
  | _, .int _ => true
  | _, .str _ => true
  | n + 1, .lst ds => decide (ds.length ≤ 1000) && ds.all (plainN n)
  | n + 1, .tup ds => decide (ds.length ≤ 1000) && ds.all (plainN n)
  | _, _ => false
end Dv
namespace Dv
open PySem PySem.Spec PyProof.Rows L2
theorem fMul_r {i j : Int} (h : -(2 ^ 64) < j ∧ j < 2 ^ 64) : fMul (.int i) (.int j) = some (.int (i * j)) := by
  simp only [fMul]; rw [if_pos (.inr h)]
theorem fMod_p {i j : Int} (h : 0 < j) : fMod (.int i) (.int j) = some (.int (i % j)) := by simp only [fMod]; rw [if_pos h]
theorem fDiv_p {i j : Int} (h : 0 < j ∧ j < 1073741824) : fDiv (.int i) (.int j) = some (.int (i / j)) := by simp only [fDiv]; rw [if_pos h]
theorem compL_pure {f : D → U → Option (Option D × U)} {g : D → D} {u : U} : ∀ {ds : List D}, (∀ d ∈ ds, f d u = some (some (g d), u)) → compL f ds u = some (ds.map g, u)
  | [], _ => rfl
  | d :: ds, h => by
    unfold compL
    rw [h d List.mem_cons_self]
    show bnd (compL f ds u) _ = _
    rw [compL_pure fun d hd => h d (List.mem_cons_of_mem _ hd)]
    rfl
theorem compL_inv {f : D → U → Option (Option D × U)} {P : D → Prop} {I : Int → U → Prop} {N : Int} : ∀ {ds : List D} {i : Int} {u : U}, (∀ d ∈ ds, ∀ i u, i ≤ N → I i u → ∃ x u', f d u = some (some x, u') ∧ P x ∧ I (i + 1) u') → I i u → i + ds.length ≤ N + 1 →
    ∃ xs u', compL f ds u = some (xs, u') ∧ xs.length = ds.length ∧ (∀ x ∈ xs, P x) ∧ I (i + ds.length) u'
  | [], i, u, _, hi, _ => ⟨[], u, rfl, rfl, by simp, by simpa using hi⟩
  | d :: ds, i, u, h, hi, hN => by
    rw [List.length_cons] at hN
    obtain ⟨x, u1, e, p, hi1⟩ := h d List.mem_cons_self i u (by omega) hi
    obtain ⟨xs, u2, e2, l2, p2, hi2⟩ := compL_inv (i := i + 1) (fun d hd => h d (List.mem_cons_of_mem _ hd)) hi1 (by omega)
    refine ⟨x :: xs, u2, ?_, by rw [List.length_cons, List.length_cons, l2], fun y hy => ?_, ?_⟩
    · unfold compL
      rw [e]
      show bnd (compL f ds u1) _ = _
      rw [e2]; rfl
    · rcases List.mem_cons.mp hy with rfl | hy
      · exact p
      · exact p2 y hy
    · rw [List.length_cons, show i + ((ds.length + 1 : Nat) : Int) = i + 1 + ds.length by omega]
      exact hi2
theorem strsOf_map : ∀ (xs : List Str), strsOf (xs.map .str) = some xs
  | [] => rfl
  | x :: xs => by
    show (strsOf (xs.map .str)).map _ = _
    rw [strsOf_map xs]; rfl
theorem strs_of_all : ∀ {ds : List D} {P : Str → Prop}, (∀ d ∈ ds, ∃ x, d = .str x ∧ P x) → ∃ xs : List Str, ds = xs.map .str ∧ ∀ x ∈ xs, P x
  | [], _, _ => ⟨[], rfl, by simp⟩
  | d :: ds, P, h => by
    obtain ⟨x, rfl, p⟩ := h d List.mem_cons_self
    obtain ⟨xs, rfl, q⟩ := strs_of_all fun d hd => h d (List.mem_cons_of_mem _ hd)
    exact ⟨x :: xs, rfl, fun y hy => by
      rcases List.mem_cons.mp hy with rfl | hy
      · exact p
      · exact q y hy⟩
def AZ (x : Str) : Prop := ∀ c ∈ x.cps.toList, 97 ≤ c ∧ c ≤ 122
def ltr (z : Int) : Str := ⟨#[97 + (z % 26).toNat]⟩
theorem ltr_az (z : Int) : AZ (ltr z) := by
  intro c hc
  have h1 := Int.emod_nonneg z (show (26 : Int) ≠ 0 by decide)
  have h2 := Int.emod_lt_of_pos z (show (0 : Int) < 26 by decide)
  have e : c = 97 + (z % 26).toNat := by simpa [ltr] using hc
  omega
theorem abc_at : ∀ j : Fin 26, atI (("abcdefghijklmnopqrstuvwxyz" : Str)).cps.toList ((j.val : Nat) : Int) = some (97 + j.val) := by decide +kernel
theorem abc_ix (z : Int) : ixD (.str ("abcdefghijklmnopqrstuvwxyz" : Str)) (.int (z % 26)) = some (.str (ltr z)) := by
  have h1 := Int.emod_nonneg z (show (26 : Int) ≠ 0 by decide)
  have h2 := Int.emod_lt_of_pos z (show (0 : Int) < 26 by decide)
  have := abc_at ⟨(z % 26).toNat, by omega⟩
  simp only [Int.toNat_of_nonneg h1] at this
  show (if (("abcdefghijklmnopqrstuvwxyz" : Str)).length ≤ sizeLine then (atI (("abcdefghijklmnopqrstuvwxyz" : Str)).cps.toList (z % 26)).map (fun c => D.str ⟨#[c]⟩) else none) = _
  rw [if_pos (by decide +kernel), this]
  rfl
theorem abc_ix' {z : Int} (h0 : 0 ≤ z) (h1 : z < 26) : ixD (.str ("abcdefghijklmnopqrstuvwxyz" : Str)) (.int z) = some (.str (ltr z)) := by
  have := abc_ix z
  rw [Int.emod_eq_of_lt h0 h1] at this
  exact this
theorem len_cps (x : Str) : x.length = x.cps.toList.length := by
  show x.cps.size = _
  rw [Array.length_toList]
theorem app_cps (x y : Str) : (x ++ y).cps.toList = x.cps.toList ++ y.cps.toList := by
  show (x.cps ++ y.cps).toList = _
  simp
theorem join_cps (ys : List Str) : (Txt.join ("" : Str) ys).cps.toList = (ys.map (·.cps.toList)).flatten := by
  have h : ∀ ps : List (List Nat), TL.joinL [] ps = ps.flatten := by
    intro ps
    induction ps with
    | nil => rfl
    | cons p r ih =>
      cases r with
      | nil => simp [TL.joinL]
      | cons q r => simp only [TL.joinL, List.nil_append, ih, List.flatten_cons]
  have e := TL.tl_join ("" : Str) ys
  rw [show TL.tl ("" : Str) = [] from by decide +kernel, h] at e
  rw [TL.join_eq]
  exact e
theorem AZ.app {x y : Str} (h : AZ x) (g : AZ y) : AZ (x ++ y) := by
  intro c hc
  rw [app_cps] at hc
  rcases List.mem_append.mp hc with hc | hc
  · exact h c hc
  · exact g c hc
theorem AZ.join {ys : List Str} (h : ∀ y ∈ ys, AZ y) : AZ (Txt.join ("" : Str) ys) := by
  intro c hc
  rw [join_cps] at hc
  obtain ⟨l, hl, hc⟩ := List.mem_flatten.mp hc
  obtain ⟨y, hy, rfl⟩ := List.mem_map.mp hl
  exact h y hy c hc
theorem join_len {ys : List Str} (h : ∀ y ∈ ys, y.length = 1) : (Txt.join ("" : Str) ys).length = ys.length := by
  rw [len_cps, join_cps]
  induction ys with
  | nil => rfl
  | cons y r ih =>
    rw [List.map_cons, List.flatten_cons, List.length_append, ← len_cps, h y List.mem_cons_self, ih fun z hz => h z (List.mem_cons_of_mem _ hz), List.length_cons]
    omega
theorem sum_ones {ys : List Str} (h : ∀ y ∈ ys, y.length = 1) : (ys.map (·.length)).sum = ys.length := by
  induction ys with
  | nil => rfl
  | cons y r ih =>
    rw [List.map_cons, List.sum_cons, h y List.mem_cons_self, ih fun z hz => h z (List.mem_cons_of_mem _ hz), List.length_cons]
    omega
theorem cutS_az {z : Str} (h : AZ z) (lo hi : Option Int) : AZ (cutS z lo hi) := by
  intro c hc
  have : c ∈ z.cps.toList := by
    have hc : c ∈ ((z.cps.toList.drop (HT.sIx z.length 0 lo)).take (HT.sIx z.length z.length hi - HT.sIx z.length 0 lo)).toArray.toList := hc
    rw [List.toList_toArray] at hc
    exact List.mem_of_mem_drop (List.mem_of_mem_take hc)
  exact h c this
theorem cut_to {z : Str} {at_ : Nat} (h : at_ ≤ z.length) : (cutS z none (some (at_ : Int))).cps.toList = z.cps.toList.take at_ := by
  show ((z.cps.toList.drop (HT.sIx z.length 0 none)).take (HT.sIx z.length z.length (some (at_ : Int)) - HT.sIx z.length 0 none)).toArray.toList = _
  rw [List.toList_toArray, HT.sIx_none, HT.sIx_nat, List.drop_zero, Nat.sub_zero, Nat.min_eq_left h]
theorem cut_from {z : Str} {at_ : Nat} (h : at_ ≤ z.length) : (cutS z (some (at_ : Int)) none).cps.toList = z.cps.toList.drop at_ := by
  show ((z.cps.toList.drop (HT.sIx z.length 0 (some (at_ : Int)))).take (HT.sIx z.length z.length none - HT.sIx z.length 0 (some (at_ : Int)))).toArray.toList = _
  rw [List.toList_toArray, HT.sIx_none, HT.sIx_nat, Nat.min_eq_left h, len_cps, ← List.length_drop, List.take_length]
theorem line : sizeLine = 16777216 := rfl
theorem isiz {n : Nat} (h : n ≤ 1000) : n ≤ sizeLine := by rw [line]; omega
def Nm (k : Nat) (x : Str) : Prop := AZ x ∧ 1 ≤ x.length ∧ (x.length ≤ k ∨ x.length = 1 ∨ x.length = 2 ∨ x.length = 6 ∨ x.length = 8)
theorem joinD_ok {ys : List Str} (h : ∀ y ∈ ys, y.length = 1) (hl : ys.length ≤ 1000) : joinD (.str ("" : Str)) (.lst (ys.map .str)) = some (.str (Txt.join ("" : Str) ys)) := by
  show (strsOf (ys.map D.str)).bind _ = _
  rw [strsOf_map]
  refine if_pos ?_
  rw [sum_ones h, show ("" : Str).length = 0 from by decide +kernel]
  omega
abbrev abc : Str := ("abcdefghijklmnopqrstuvwxyz" : Str)
theorem abc_mem (c : Nat) : c ∈ abc.cps.toList ↔ 97 ≤ c ∧ c ≤ 122 := by
  rw [show abc.cps.toList = (List.range 26).map (97 + ·) from by decide +kernel]
  simp only [List.mem_map, List.mem_range]
  constructor
  · rintro ⟨a, h, rfl⟩; omega
  · rintro ⟨h1, h2⟩; exact ⟨c - 97, by omega, by omega⟩
def bitB (c : Nat) : Bool := decide (c ∈ abc.cps.toList)
def allB (x : Str) : Bool := (x.cps.toList.map bitB).all id
theorem blsOf_map : ∀ bs : List Bool, blsOf (bs.map .bl) = some bs
  | [] => rfl
  | b :: bs => by
    show (blsOf (bs.map D.bl)).map _ = _
    rw [blsOf_map bs]; rfl
theorem mChain_t {f g : D → D → Option D} {a b c : M} {env : List Sl} {u u1 u2 u3 : U} {x y z w : D} (h1 : a env u = some (x, u1)) (h2 : b env u1 = some (y, u2)) (h3 : f x y = some (.bl true)) (h4 : c env u2 = some (z, u3)) (h5 : g y z = some w) : mChain f g a b c env u = some (w, u3) := by
  unfold mChain; rw [h1]; show bnd (b env u1) _ = _; rw [h2]; dsimp only [bnd]; rw [h3]; dsimp only; rw [h4]; dsimp only [bnd]; rw [h5]; rfl
theorem mChain_f {f g : D → D → Option D} {a b c : M} {env : List Sl} {u u1 u2 : U} {x y : D} (h1 : a env u = some (x, u1)) (h2 : b env u1 = some (y, u2)) (h3 : f x y = some (.bl false)) : mChain f g a b c env u = some (.bl false, u2) := by
  unfold mChain; rw [h1]; show bnd (b env u1) _ = _; rw [h2]; dsimp only [bnd]; rw [h3]
theorem isi_str (x : Str) : isiD (.str x) ["str"] = some true := by show kitAnyB "str" ["str"] = some true; decide +kernel
theorem isi_tt (x : List D) : isiD (.tup x) ["tuple"] = some true := by show kitAnyB "tuple" ["tuple"] = some true; decide +kernel
theorem isi_lt (x : List D) : isiD (.lst x) ["tuple"] = some false := by show kitAnyB "list" ["tuple"] = some false; decide +kernel
theorem isi_ii (x : Int) : isiD (.int x) ["int"] = some true := by show kitAnyB "int" ["int"] = some true; decide +kernel
theorem isi_ib (x : Int) : isiD (.int x) ["bool"] = some false := by show kitAnyB "int" ["bool"] = some false; decide +kernel
theorem len_str {x : Str} (h : x.length ≤ 1000) : bLen [.str x] = some (.int x.length) := if_pos (isiz h)
theorem allB_az {x : Str} (h : AZ x) : allB x = true := by
  unfold allB
  rw [List.all_eq_true]
  intro b hb
  obtain ⟨c, hc, rfl⟩ := List.mem_map.mp hb
  exact decide_eq_true ((abc_mem c).mpr (h c hc))
theorem c1 {x : D} {env : List Sl} {u u1 : U} {a : M} (h : a env u = some (x, u1)) : mCons a mNil env u = some ([x], u1) := mCons_eq h mNil_eq
theorem az_ok {x : Str} (h : AZ x) : PyData.strOk x = true := by
  unfold PyData.strOk
  rw [← Array.all_toList, List.all_eq_true]
  intro c hc
  have := h c hc
  exact decide_eq_true (by omega)
theorem forL_inv {t : Tgt} {f : MS} {I : Int → List Sl → U → Prop} {N : Int} : ∀ {ds : List D} {i : Int} {env : List Sl} {u : U}, (∀ d ∈ ds, ∀ i env u, i ≤ N → I i env u → ∃ env1 env2 u2, bindT t d env = some env1 ∧ f env1 u = some (.nx env2, u2) ∧ I (i + 1) env2 u2) → I i env u → i + ds.length ≤ N + 1 →
    ∃ env' u', forL t f ds env u = some (.nx env', u') ∧ I (i + ds.length) env' u'
  | [], i, env, u, _, hi, _ => ⟨env, u, rfl, by simpa using hi⟩
  | d :: ds, i, env, u, h, hi, hN => by
    rw [List.length_cons] at hN
    obtain ⟨env1, env2, u2, e1, e2, hi2⟩ := h d List.mem_cons_self i env u (by omega) hi
    obtain ⟨env', u', e3, hi3⟩ := forL_inv (i := i + 1) (fun d hd => h d (List.mem_cons_of_mem _ hd)) hi2 (by omega)
    refine ⟨env', u', ?_, by rw [List.length_cons, show i + ((ds.length + 1 : Nat) : Int) = i + 1 + ds.length by omega]; exact hi3⟩
    unfold forL
    rw [e1]
    show bnd (f env1 u) _ = _
    rw [e2]
    exact e3
theorem isi2_str (x : Str) : isiD (.str x) ["list", "tuple"] = some false := by show kitAnyB "str" ["list", "tuple"] = some false; decide +kernel
theorem isi2_int (x : Int) : isiD (.int x) ["list", "tuple"] = some false := by show kitAnyB "int" ["list", "tuple"] = some false; decide +kernel
theorem isi2_lst (x : List D) : isiD (.lst x) ["list", "tuple"] = some true := by show kitAnyB "list" ["list", "tuple"] = some true; decide +kernel
theorem isi2_tup (x : List D) : isiD (.tup x) ["list", "tuple"] = some true := by show kitAnyB "tuple" ["list", "tuple"] = some true; decide +kernel
theorem mSortSet_eq {m : M} {env : List Sl} {u u1 : U} {x d : D} (h : m env u = some (x, u1)) (h2 : srtSetD x = some d) : mSortSet m env u = some (d, u1) := by
  unfold mSortSet; rw [h]; show lft (srtSetD x) u1 = _; rw [h2]; rfl
theorem mXf_eq {c f : Str} {m : M} {env : List Sl} {u u1 : U} {ns : List Str} {xs : List D} {d : D} (h : m env u = some (.exc c ns xs, u1)) (h2 : (ns.zip xs).lookup f = some d) : mXf c f m env u = some (d, u1) := by
  unfold mXf; rw [h]; show (if c = c then lft ((ns.zip xs).lookup f) u1 else none) = _; rw [if_pos rfl, h2]; rfl
theorem mIsE_eq {c : Str} {b : Bool} {m : M} {env : List Sl} {u u1 : U} {ns : List Str} {xs : List D} (h : m env u = some (.exc c ns xs, u1)) : mIsE c b m env u = some (.bl b, u1) := by
  unfold mIsE; rw [h]; show (if c = c then some (D.bl b, u1) else none) = _; rw [if_pos rfl]
theorem mZip_l {m m2 : M} {env : List Sl} {u u1 u2 : U} {ds es : List D} (h : m env u = some (.lst ds, u1)) (h2 : m2 env u1 = some (.lst es, u2)) : mZip m m2 env u = some (zipD ds es, u2) := by
  unfold mZip; rw [h]; show bnd (m2 env u1) _ = _; rw [h2]; rfl
theorem mZip_t {m m2 : M} {env : List Sl} {u u1 u2 : U} {ds es : List D} (h : m env u = some (.tup ds, u1)) (h2 : m2 env u1 = some (.tup es, u2)) : mZip m m2 env u = some (zipD ds es, u2) := by
  unfold mZip; rw [h]; show bnd (m2 env u1) _ = _; rw [h2]; rfl
theorem mNeg_eq {m : M} {env : List Sl} {u u1 : U} {i : Int} (h : m env u = some (.int i, u1)) : mNeg m env u = some (.int (-i), u1) := by
  unfold mNeg; rw [h]; rfl
theorem sc_er {p q : MS} {env env1 : List Sl} {u u1 : U} {c : Str} {ns : List Str} {xs : List D} (h : p env u = some (.er env1 c ns xs, u1)) : sCons p q env u = some (.er env1 c ns xs, u1) := by
  unfold sCons; rw [h]; rfl
theorem cutD_to {xs : List D} {k : Nat} (h : k ≤ xs.length) : cutD xs none (some (k : Int)) = xs.take k := by
  unfold cutD
  rw [HT.sIx_none, HT.sIx_nat, List.drop_zero, Nat.sub_zero, Nat.min_eq_left h]
theorem cutD_from {xs : List D} {k : Nat} (h : k ≤ xs.length) : cutD xs (some (k : Int)) none = xs.drop k := by
  unfold cutD
  rw [HT.sIx_none, HT.sIx_nat, Nat.min_eq_left h, ← List.length_drop, List.take_length]
theorem fAdd_t {a b : List D} (h : a.length + b.length ≤ 1000) : fAdd (.tup a) (.tup b) = some (.tup (a ++ b)) := by simp only [fAdd]; rw [if_pos (isiz h)]
theorem fAdd_l {a b : List D} (h : a.length + b.length ≤ 1000) : fAdd (.lst a) (.lst b) = some (.lst (a ++ b)) := by simp only [fAdd]; rw [if_pos (isiz h)]
theorem len_t {xs : List D} (h : xs.length ≤ 1000) : bLen [.tup xs] = some (.int xs.length) := by
  first
  | exact if_pos (isiz h)
  | rfl
theorem isi_bs_bl (b : Bool) : isiD (.bl b) ["bool", "str"] = some true := by show kitAnyB "bool" ["bool", "str"] = some true; decide +kernel
theorem isi_bs_str (b : Str) : isiD (.str b) ["bool", "str"] = some true := by show kitAnyB "str" ["bool", "str"] = some true; decide +kernel
theorem isi_bs_int (b : Int) : isiD (.int b) ["bool", "str"] = some false := by show kitAnyB "int" ["bool", "str"] = some false; decide +kernel
theorem isi2_non : isiD .non ["list", "tuple"] = some false := by decide +kernel
theorem isi2_bl (b : Bool) : isiD (.bl b) ["list", "tuple"] = some false := by show kitAnyB "bool" ["list", "tuple"] = some false; decide +kernel
theorem isi_l_l (x : List D) : isiD (.lst x) ["list"] = some true := by show kitAnyB "list" ["list"] = some true; decide +kernel
theorem isi_t_l (x : List D) : isiD (.tup x) ["list"] = some false := by show kitAnyB "tuple" ["list"] = some false; decide +kernel
theorem isi_b_non : isiD .non ["bool"] = some false := by decide +kernel
theorem isi_b_bl (b : Bool) : isiD (.bl b) ["bool"] = some true := by show kitAnyB "bool" ["bool"] = some true; decide +kernel
theorem isi_b_str (b : Str) : isiD (.str b) ["bool"] = some false := by show kitAnyB "str" ["bool"] = some false; decide +kernel
theorem ceq_bl (b : Bool) : cEq (.bl b) (.bl b) = some (.bl true) := by show some (D.bl (decide (b = b))) = _; rw [decide_eq_true rfl]
theorem ceq_str (b : Str) : cEq (.str b) (.str b) = some (.bl true) := by show some (D.bl (decide (b = b))) = _; rw [decide_eq_true rfl]
theorem ceq_int (b : Int) : cEq (.int b) (.int b) = some (.bl true) := by show some (D.bl (decide (b = b))) = _; rw [decide_eq_true rfl]
theorem bAll_ts {α : Type} (l : List α) : bAll [.lst (l.map fun _ => .bl true)] = some (.bl true) := by
  have : ∀ l : List α, blsOf (l.map fun _ => D.bl true) = some (l.map fun _ => true) := fun l => by
    induction l with
    | nil => rfl
    | cons a l ih =>
      show (blsOf (l.map fun _ => D.bl true)).map _ = _
      rw [ih]; rfl
  show (blsOf _).map _ = _
  rw [this]
  show some (D.bl _) = _
  have : (l.map fun _ => true).all id = true := by simp
  rw [this]
theorem zip_mem {xs : List D} {d : D} (h : d ∈ zipD xs xs) : ∃ x ∈ xs, d = .pr [x, x] := by
  unfold zipD at h
  induction xs with
  | nil => simp at h
  | cons x xs ih =>
    rw [List.zipWith_cons_cons] at h
    rcases List.mem_cons.mp h with rfl | h
    · exact ⟨x, List.mem_cons_self, rfl⟩
    · obtain ⟨y, hy, e⟩ := ih h
      exact ⟨y, List.mem_cons_of_mem _ hy, e⟩
theorem zip_len (xs : List D) : (zipD xs xs).length = xs.length := by unfold zipD; simp
theorem len_l {xs : List D} (h : xs.length ≤ 1000) : bLen [.lst xs] = some (.int xs.length) := by
  first
  | exact if_pos (isiz h)
  | rfl
theorem same_go {f : List D → U → Option (D × U)} {xs : List D} {a b : D} {u : U} (h : ∀ x ∈ xs, f [x, x] u = some (.bl true, u)) :
    compL (turnL (.many [2, 3]) [2, 3] [Sl.pub a, .pub b, .no, .no] mYes (mCall 2 f (mCons (mVar 2) (mCons (mVar 3) mNil)))) (zipD xs xs) u = some ((zipD xs xs).map fun _ => .bl true, u) :=
  compL_pure (g := fun _ => .bl true) fun d hd => by
    obtain ⟨x, hx, rfl⟩ := zip_mem hd
    exact turnL_eq rfl (mCall_eq (mCons_eq rfl (c1 rfl)) rfl (h x hx))
theorem xCall_eq {n : Nat} {F : List D → U → Option (R × U)} {ms : Ms} {env : List Sl} {u u1 u2 : U} {ds : List D} {r : R} (h : ms env u = some (ds, u1)) (hl : ds.length = n) (h2 : F ds u1 = some (r, u2)) : xCall n F ms env u = some (r, u2) := by
  unfold xCall; rw [h]; show (if ds.length = n then F ds u1 else none) = _; rw [if_pos hl]; exact h2
theorem sUpX_ok {m : MX} {k : List Sl → D → U → Option (Fl × U)} {env : List Sl} {u u1 : U} {d : D} (h : m env u = some (.ok d, u1)) : sUpX m k env u = k env d u1 := by unfold sUpX; rw [h]
theorem sUpX_er {m : MX} {k : List Sl → D → U → Option (Fl × U)} {env : List Sl} {u u1 : U} {c : Str} {ns : List Str} {xs : List D} (h : m env u = some (.er c ns xs, u1)) : sUpX m k env u = some (.er env c ns xs, u1) := by unfold sUpX; rw [h]
theorem okF_eq {F : List D → U → Option (R × U)} {ds : List D} {u u1 : U} {d : D} (h : F ds u = some (.ok d, u1)) : okF F ds u = some (d, u1) := by unfold okF; rw [h]
theorem plain_row {α : Type} {n : Nat} {f : α → D} {l : List α} (h : ∀ a, plainN n (f a) = true) (few : l.length ≤ 1000) : plainN (n + 1) (.tup (l.map f)) = true := by
  unfold plainN
  rw [Bool.and_eq_true]
  exact ⟨decide_eq_true (by rw [List.length_map]; exact few), List.all_eq_true.mpr fun d hd => by obtain ⟨a, _, rfl⟩ := List.mem_map.mp hd; exact h a⟩
theorem plain_l {n : Nat} {l : List D} (h : ∀ d ∈ l, plainN n d = true) (few : l.length ≤ 1000) : plainN (n + 1) (.lst l) = true := by
  unfold plainN
  rw [Bool.and_eq_true]
  exact ⟨decide_eq_true few, List.all_eq_true.mpr h⟩
def P4 (l : List D) : Prop := ∀ d ∈ l, plainN 4 d = true
theorem P4.app {a b : List D} (h : P4 a) (g : P4 b) : P4 (a ++ b) := fun d hd => (List.mem_append.mp hd).elim (h d) (g d)
theorem P4.cons {a : D} {b : List D} (h : plainN 4 a = true) (g : P4 b) : P4 (a :: b) := fun d hd => (List.mem_cons.mp hd).elim (fun e => by rw [e]; exact h) (g d)
theorem P4.nil : P4 [] := fun d hd => by cases hd
end Dv
namespace Dv
open PySem PySem.Spec PyProof.Rows L2
section
variable {env env' : List Sl} {u u1 u2 u3 : U} {m a b : M} {ms : Ms} {mb : MB} {p q : MS} {d x y z : D} {ds es : List D} {i j n : Nat} {s s2 : Sl} {mv mv2 : MSl} {fl : Fl} {k : Bool} {o : Oo}
theorem sSv_eq (h : mv env u = some (s, u1)) : sSv i mv env u = some (.nx (env.set i s), u1) := by unfold sSv; rw [h]; rfl
theorem sParv_eq (h : mv env u = some (s, u1)) (h2 : mv2 env u1 = some (s2, u2)) : sParv i j mv mv2 env u = some (.nx ((env.set i s).set j s2), u2) := by
  unfold sParv; rw [h]; show bnd (mv2 env u1) _ = _; rw [h2]; rfl
theorem vP_eq (h : m env u = some (d, u1)) : vP m env u = some (.pub d, u1) := by unfold vP; rw [h]; rfl
theorem vLst_eq (h : ms env u = some (ds, u1)) (hl : ds.length ≤ sizeLine) : vLst ms env u = some (.own (.lst ds), u1) := by unfold vLst; rw [h]; exact if_pos hl
theorem vList_l (h : m env u = some (.lst ds, u1)) : vList m env u = some (.own (.lst ds), u1) := by unfold vList; rw [h]; rfl
theorem sApp_eq (hi : env[i]? = some (.own (.lst ds))) (h : m env u = some (d, u1)) (hl : ds.length < sizeLine) : sApp i m env u = some (.nx (env.set i (.own (.lst (ds ++ [d])))), u1) := by
  unfold sApp; rw [hi]; show bnd (m env u) _ = _; rw [h]; exact if_pos hl
theorem sPub_eq (hi : env[i]? = some (.own o)) (h : p (env.set i (.pub (ooD o))) u = some (fl, u1)) : sPub i p env u = some (fl, u1) := by unfold sPub; rw [hi]; exact h
theorem mPeek_eq (hi : env[i]? = some (.own o)) (h : m (env.set i (.pub (ooD o))) u = some (d, u1)) (hs : scalD d = true) : mPeek i m env u = some (d, u1) := by
  unfold mPeek; rw [hi]; show bnd (m _ u) _ = _; rw [h]; exact if_pos hs
theorem sAppPop_eq {n : Nat} (hi : env[i]? = some (.own (.lst ds))) (hj : env[j]? = some (.own (.lst es))) (h : m env u = some (.int n, u1)) (hn : n < es.length) (hb : es.length ≤ 2 ^ 62) (hl : ds.length < sizeLine) (ne : i ≠ j) :
    sAppPop i j m env u = some (.nx ((env.set j (.own (.lst (es.eraseIdx n)))).set i (.own (.lst (ds ++ [es[n]])))), u1) := by
  unfold sAppPop; rw [hi, hj]; show bnd (m env u) _ = _; rw [h]
  show (if (0 : Int) ≤ (n : Int) ∧ (n : Int) < es.length ∧ es.length ≤ 2 ^ 62 ∧ ds.length < sizeLine ∧ i ≠ j then _ else _) = _
  rw [if_pos ⟨by omega, by omega, hb, hl, ne⟩]
  show (match es[n]? with | some d => _ | none => _) = _
  rw [List.getElem?_eq_getElem hn]; rfl
end
structure OkU (n : Int) (u : U) : Prop where
  a : 0 ≤ u.a
  b : 0 ≤ u.b ∧ u.b < 2 ^ 62
  c : 0 ≤ u.c ∧ u.c ≤ n
theorem OkU.mono {n k : Int} {u : U} (h : OkU n u) (l : n ≤ k) : OkU k u := ⟨h.a, h.b, h.c.1, by have := h.c.2; omega⟩
theorem perm_erase {α : Type} : ∀ {l : List α} {k : Nat} (h : k < l.length), (l[k] :: l.eraseIdx k).Perm l
  | a :: l, 0, _ => .refl _
  | a :: l, k + 1, h => (List.Perm.swap a _ _).trans (.cons a (perm_erase (Nat.lt_of_succ_lt_succ h)))
end Dv
namespace Dv
open PySem PySem.Spec PyProof.Rows L2
def AllT (xs : List Str) : Prop := ∀ x ∈ xs, TxO x
theorem AllT.sub {xs ys : List Str} (h : AllT ys) (s : ∀ x ∈ xs, x ∈ ys) : AllT xs := fun x hx => h x (s x hx)
theorem strs_py (xs : List Str) : toPys (xs.map D.str) = some (xs.map PyData.str) := toPys_map fun a _ => by unfold toPy; rfl
theorem strs_lay {xs : List Str} (h : AllT xs) : PyData.canLayAll0 (xs.map PyData.str) = true := lay_map fun a ha => by unfold PyData.canLay0; exact h a ha
theorem strs_dep (xs : List Str) : PyData.depthAll (xs.map PyData.str) ≤ 0 := depth_map fun a _ => by simp [PyData.depth]
theorem strs_shT {xs : List Str} (h : AllT xs) : SeqAt.shaped (.tuple (xs.map PyData.str)) = true := shaped_tup (n := 0) (fun p hp => by unfold PyData.canLay0; exact h p hp) (fun p _ => by simp [PyData.depth]) (by decide)
theorem strs_shL {xs : List Str} (h : AllT xs) : SeqAt.shaped (.list (xs.map PyData.str)) = true := by
  unfold SeqAt.shaped
  rw [Bool.and_eq_true]
  refine ⟨by simp only [PyData.canLay0]; exact strs_lay h, decide_eq_true ?_⟩
  have := strs_dep xs
  unfold PyData.depth
  omega
theorem str_sh {x : Str} (h : TxO x) : SeqAt.shaped (.str x) = true := by
  unfold SeqAt.shaped
  rw [show (PyData.str x).canLay0 = true by unfold PyData.canLay0; exact h]
  rfl
theorem any_strs (x : Str) (ys : List Str) : ((ys.map PyData.str).any fun z => PyData.eqv z (.str x)) = decide (x ∈ ys) := by
  rw [List.any_map]
  induction ys with
  | nil => rfl
  | cons y ys ih =>
    rw [List.any_cons, ih]
    show ((y == x) || decide (x ∈ ys)) = _
    by_cases e : y = x
    · subst e; simp
    · have e' : ¬ x = y := fun z => e z.symm
      rw [beq_eq_false_iff_ne.mpr e]; simp [e']
theorem in_strT {x : Str} {ys : List Str} (h : TxO x) (g : AllT ys) : inD (.str x) (.tup (ys.map .str)) = some (decide (x ∈ ys)) := by
  show (match toPy (.str x), toPys (ys.map D.str) with | some x, some ys => if SeqAt.shaped x = true ∧ SeqAt.shaped (.tuple ys) = true then some (ys.any fun z => PyData.eqv z x) else none | _, _ => none) = _
  rw [strs_py]
  show (if SeqAt.shaped (.str x) = true ∧ _ then _ else _) = _
  rw [if_pos ⟨str_sh h, strs_shT g⟩, any_strs]
theorem in_strL {x : Str} {ys : List Str} (h : TxO x) (g : AllT ys) : inD (.str x) (.lst (ys.map .str)) = some (decide (x ∈ ys)) := by
  show (match toPy (.str x), toPys (ys.map D.str) with | some x, some ys => if SeqAt.shaped x = true ∧ SeqAt.shaped (.list ys) = true then some (ys.any fun z => PyData.eqv z x) else none | _, _ => none) = _
  rw [strs_py]
  show (if SeqAt.shaped (.str x) = true ∧ _ then _ else _) = _
  rw [if_pos ⟨str_sh h, strs_shL g⟩, any_strs]
theorem ceqS (x y : Str) : cEq (.str x) (.str y) = some (.bl (decide (x = y))) := rfl
theorem cneS (x y : Str) : cNe (.str x) (.str y) = some (.bl (!decide (x = y))) := rfl
theorem eqvAll_nil (ps : List PyData) : PyData.eqvAll ps [] = ps.isEmpty := by cases ps <;> simp [PyData.eqvAll]
theorem eqD_nilS {ys : List Str} (g : AllT ys) : eqD (.lst (ys.map .str)) (.lst []) = some ys.isEmpty := by
  show (match toPy (.lst (ys.map D.str)), toPy (.lst []) with | some x, some y => if SeqAt.shaped x = true ∧ SeqAt.shaped y = true then some (PyData.eqv x y) else none | _, _ => none) = _
  have e1 : toPy (.lst (ys.map D.str)) = some (.list (ys.map .str)) := by unfold toPy; rw [strs_py]; rfl
  have e2 : toPy (.lst []) = some (.list []) := by unfold toPy; simp [toPys]
  rw [e1, e2]
  show (if _ then _ else _) = _
  rw [if_pos ⟨strs_shL g, by decide⟩]
  show some (PyData.eqvAll (ys.map PyData.str) []) = _
  rw [eqvAll_nil]
  cases ys <;> rfl
theorem ceq_nilS {ys : List Str} (g : AllT ys) : cEq (.lst (ys.map .str)) (.lst []) = some (.bl ys.isEmpty) := by
  show (eqD _ _).map D.bl = _; rw [eqD_nilS g]; rfl
theorem srt_l {xs : List Str} (h : xs.length < 63) : srtSetD (.lst (xs.map .str)) = some (.lst ((sortS (nubS xs)).map .str)) := by
  show (strsOf (xs.map D.str)).bind _ = _
  rw [strsOf_map]; exact if_pos h
theorem nub_sub : ∀ {xs : List Str} {x : Str}, x ∈ sortS (nubS xs) → x ∈ nubS xs := fun h => (sortS_perm _).subset h
theorem slL_to {xs : List Str} {k : Nat} (h : k ≤ xs.length) : slD (.lst (xs.map .str)) none (some (k : Int)) = some (.lst ((xs.take k).map .str)) := by
  show some (D.lst (cutD _ none (some (k : Int)))) = _
  rw [cutD_to (by rw [List.length_map]; exact h), List.map_take]
theorem bAll_bls (bs : List Bool) : bAll [.lst (bs.map .bl)] = some (.bl (bs.all id)) := by
  show (blsOf _).map _ = _
  rw [blsOf_map]; rfl
end Dv
namespace Dv
open PySem PySem.Spec L2
abbrev Al := List (Str × Int)
def putA (x : Str) (v : Int) : Al → Al
  | [] => [(x, v)]
  | p :: r => if p.1 = x then (p.1, v) :: r else p :: putA x v r
def getA (x : Str) : Al → Option Int
  | [] => none
  | p :: r => if p.1 = x then some p.2 else getA x r
theorem putA_cons (x : Str) (v : Int) (p : Str × Int) (r : Al) : putA x v (p :: r) = if p.1 = x then (p.1, v) :: r else p :: putA x v r := by rw [putA]
def NdA (al : Al) : Prop := (al.map (·.1)).Nodup
theorem put_keys (x : Str) (v : Int) : ∀ al : Al, (putA x v al).map (·.1) = if x ∈ al.map (·.1) then al.map (·.1) else al.map (·.1) ++ [x]
  | [] => rfl
  | p :: r => by
    rw [putA_cons]
    by_cases e : p.1 = x
    · rw [if_pos e, if_pos (by rw [← e]; exact List.mem_cons_self)]; rfl
    · rw [if_neg e, List.map_cons, put_keys x v r, List.map_cons]
      by_cases f : x ∈ r.map (·.1)
      · rw [if_pos f, if_pos (List.mem_cons_of_mem _ f)]
      · rw [if_neg f, if_neg (fun z => (List.mem_cons.mp z).elim (fun w => e w.symm) f)]; rfl
theorem NdA.put {al : Al} (h : NdA al) (x : Str) (v : Int) : NdA (putA x v al) := by
  unfold NdA
  rw [put_keys]
  split
  · exact h
  · rename_i hx
    refine List.nodup_append.mpr ⟨h, List.nodup_cons.mpr ⟨by simp, .nil⟩, fun a ha b hb => ?_⟩
    simp only [List.mem_cons, List.not_mem_nil, or_false] at hb
    rw [hb]
    intro z
    exact hx (z ▸ ha)
/-- strictly rising texts -/
def Rising (xs : List Str) : Prop := xs.Pairwise fun a b => a.cps.toList < b.cps.toList
theorem Rising.nodup {xs : List Str} (h : Rising xs) : xs.Nodup := h.imp fun hl e => by rw [e] at hl; exact List.lt_irrefl _ hl
theorem compL_fm {α : Type} {f : D → U → Option (Option D × U)} {g h : α → D} {P : α → Bool} {u : U} : ∀ {l : List α}, (∀ a ∈ l, f (g a) u = some (if P a = true then some (h a) else none, u)) → compL f (l.map g) u = some ((l.filter P).map h, u)
  | [], _ => rfl
  | a :: l, hf => by
    rw [List.map_cons]
    unfold compL
    rw [hf a List.mem_cons_self]
    show bnd (compL f (l.map g) u) _ = _
    rw [compL_fm fun b hb => hf b (List.mem_cons_of_mem _ hb)]
    cases q : P a with
    | true => rw [List.filter_cons_of_pos q]; rfl
    | false => rw [List.filter_cons_of_neg (by rw [q]; decide)]; rfl
theorem rising_sort {xs : List Str} (h : xs.Nodup) : Rising (sortS xs) := by
  have hn : (sortS xs).Nodup := (sortS_perm xs).nodup_iff.mpr h
  refine ((sortS_sorted xs).and hn).imp fun {a b} hab => ?_
  by_cases e : a.cps.toList < b.cps.toList
  · exact e
  · exact absurd (leS_anti hab.1 (List.not_lt.mp e)) hab.2
theorem compL_mp {α : Type} {f : D → U → Option (Option D × U)} {g h : α → D} {u : U} {l : List α} (hf : ∀ a ∈ l, f (g a) u = some (some (h a), u)) : compL f (l.map g) u = some (l.map h, u) := by
  have := compL_fm (P := fun _ => true) (h := h) (f := f) (g := g) (u := u) (l := l) fun a ha => by rw [if_pos rfl]; exact hf a ha
  rw [this, List.filter_eq_self.mpr fun _ _ => rfl]
theorem mul3 {h : D} : fMul (.lst [h]) (.int 3) = some (.lst [h, h, h]) := by
  simp only [fMul]
  rw [if_pos ⟨by decide, by decide, by rw [line]; show 1 * 3 ≤ 16777216; decide⟩]
  rfl
end Dv
namespace Dv
open PySem PySem.Spec L2
structure Cod {α : Type} [DecidableEq α] (e : α → D) (p : α → PyData) (ok : α → Prop) (n : Nat) : Prop where
  py : ∀ a, toPy (e a) = some (p a)
  lay : ∀ a, ok a → (p a).canLay0 = true
  dep : ∀ a, (p a).depth ≤ n
  eqv : ∀ a b, PyData.eqv (p a) (p b) = decide (a = b)
  tup : ∀ a, ∃ xs, e a = .tup xs
section
variable {α : Type} [DecidableEq α] {e : α → D} {p : α → PyData} {ok : α → Prop} {n : Nat}
theorem Cod.any (c : Cod e p ok n) (a : α) (l : List α) [Decidable (a ∈ l)] : ((l.map p).any fun z => PyData.eqv z (p a)) = decide (a ∈ l) := by
  rw [List.any_map]
  have : ((fun z => PyData.eqv z (p a)) ∘ p) = fun q => decide (q = a) := funext fun q => c.eqv q a
  rw [this, Bool.eq_iff_iff, List.any_eq_true, decide_eq_true_iff]
  exact ⟨fun ⟨x, hx, h⟩ => by rw [← of_decide_eq_true h]; exact hx, fun hx => ⟨a, hx, decide_eq_true rfl⟩⟩
end
theorem ix0L {d : D} {r : List D} : ixD (.lst (d :: r)) (.int 0) = some d := by
  show atI (d :: r) 0 = _
  unfold atI ixN
  rw [if_pos (by decide), if_pos (by rw [List.length_cons]; omega)]; rfl
end Dv
namespace Dv
open PySem PySem.Spec PyProof.Rows L2
end Dv
namespace Dv
open PySem PySem.Spec PyProof.Rows L2
section
variable {X : Cx}
theorem ps_setDc {i : Nat} {y : Str} {py : Pos} {kx vx tg iter : Expr} {ifs : List Expr} {scope : Scope} {own : List (Str × Nat)} {pos spos : Pos} {wi : TI} {g : TG} {tt : TT} {tk tv : TE} (hc : X.calm = true) (hN : X.N.Nodup) (hy : X.N[i]? = some y) (hyl : X.env.scope.names.lookup y = some .local)
    (hsw : swapsWith (.DictComp kx vx [⟨tg, iter, ifs, 0⟩] scope pos) (some (.Name y py)) spos.line X.env = pure true) (hi : PI X tg iter wi) (ok : BlkOk X.N X.env.scope scope own)
    (hg : ∀ (s : Shared) (H : Hp) (C : Addr) (cl : List (Str × Addr)) (fp : List Addr), PG (X.blk s H scope (compEnvC scope cl C X.env) fp) tg g) (ht : ∀ (s : Shared) (H : Hp) (C : Addr) (cl : List (Str × Addr)) (fp : List Addr), PTs (X.blk s H scope (compEnvC scope cl C X.env) fp) ifs tt)
    (hk : ∀ (s : Shared) (H : Hp) (C : Addr) (cl : List (Str × Addr)) (fp : List Addr), PE (X.blk s H scope (compEnvC scope cl C X.env) fp) kx tk)
    (he : ∀ (s : Shared) (H : Hp) (C : Addr) (cl : List (Str × Addr)) (fp : List Addr), PE (X.blk s H scope (compEnvC scope cl C X.env) fp) vx tv) (hs : ∀ x, foldedSetIterable iter X.env x = pure x := by intro _; rfl) :
    PS X (.Assign [.Name y py] (.DictComp kx vx [⟨tg, iter, ifs, 0⟩] scope pos) spos) (tAsg (tDc wi g tt tk tv (own.map (·.2))) (gName i)) := by
  refine ⟨fun pins s σ H D I h => ?_⟩
  rw [exec_Assign_Name_used _ _ _ _ hsw]
  refine wpAny_bind (wpAny_standAt (wpAny_bind ?_))
  show wpAny _ X.A (do let _ ← comprehension (.DictComp kx vx [⟨tg, iter, ifs, 0⟩] scope pos) scope X.env (firstIterPos [⟨tg, iter, ifs, 0⟩] pos) newDict false (eval iter X.env) (some (assign (.Name y py) X.env))) _ _ s
  have h : tDc wi g tt tk tv (own.map (·.2)) σ H (fun x H1 => gName i x σ H1 D.nx) := h
  refine wpAny_bind (thn (dc_core (Qf := fun _ s' => SP X pins D .next s') hc hN I hi ok hg ht hk he hs h fun L C s' m H' I' q hn f => ?_) fun _ s' hq => wpAny_pure (wpAny_pure hq))
  show wpAny _ _ (assign (.Name y py) X.env (.ref L)) _ _ _
  refine wpAny_assign_Name (store_ok2 (v := V.ref L) I' hN hy (.inl hyl) rfl (fun s2 I2 ⟨a, sb, ha⟩ => ?_) (.inr hyl))
  obtain ⟨f0, f1, f2, f3, f4, f5⟩ := f
  have haC : C ≠ a := by
    rcases ha with z | z
    · rw [z]; exact f1
    · exact fun e => f4 y a z e.symm
  refine ⟨m, hn.sameBut sb haC, fun h3 sb3 => ?_⟩
  exact ⟨_, H', I2.turned (t' := s2.toks) (fun b o hb e => (sb3.2 b hb).trans e) f0 f1 f3 f4 f5, q⟩
theorem sw_trueD {kx vx : Expr} {gs : List Comprehension} {scope : Scope} {pos py : Pos} {y : Str} {l : Nat} {env : Env} (hk : env.scope.kind = .function) (hy : env.scope.names.lookup y = some .local) (hl : (py.line == pos.line) = true)
    (ha : (scope.names.any fun (n, k) => n == y && (k == .local || k == .cell)) = false) : swapsWith (.DictComp kx vx gs scope pos) (some (.Name y py)) l env = pure true := by
  have ky : env.kindOf y = some .local := hy
  have hb : env.blockKind = .function := by unfold Env.blockKind; rw [hk]; rfl
  unfold swapsWith
  simp only [hb, ky, ha, Expr.pos, hl]
  rfl
variable {G : Gx X.K} {W : WX} {mv : MSl} {st : Stmt} {mi : MI} {mc : MB} {mk : M}
theorem ds_ofAsg (i : Nat) (h : PS X st (tAsg (tSv G mv) (gName i))) : PS X st (tSt G W (sSv i mv)) := h.imp fun Dn σ H h => by
  obtain ⟨ua, u, B, env, fl, u', B0, H0, hg, hO, hE, hW, hm, q⟩ := h
  obtain ⟨s, u1, c1, c2⟩ := bnd_some hm
  cases c2
  refine ⟨ua, u, B, env, s, _, hE, hW, c1, fun v H1 a => ?_⟩
  obtain ⟨B', g, w, r⟩ := a
  exact q _ B' H1 (hg.trans g) (r.news hO hg.live i) (r.store (hE.grow g) i hE.far) w
variable {kx vx tg iter : Expr} {ifs : List Expr} {scope : Scope} {own : List (Str × Nat)} {pos py spos : Pos} {y : Str} {mv : M}
theorem pa_dc (i : Nat) (t : Tgt) (ids : List Nat) (hc : X.calm = true) (hN : X.N.Nodup) 
    (hsw : swapsWith (.DictComp kx vx [⟨tg, iter, ifs, 0⟩] scope pos) (some (.Name y py)) spos.line X.env = pure true)
    (hi : PI X tg iter (tIt G mi)) (ok : BlkOk X.N X.env.scope scope own) (hid : own.map (·.2) = ids) (ht : ∀ i ∈ t.ids, i ∈ ids)
    (hg : ∀ (s : Shared) (H : Hp) (C : Addr) (cl : List (Str × Addr)) (fp : List Addr), PG (X.blk s H scope (compEnvC scope cl C X.env) fp) tg (gOf X.K t)) (hq : ∀ (s : Shared) (H : Hp) (C : Addr) (cl : List (Str × Addr)) (fp : List Addr), PTs (X.blk s H scope (compEnvC scope cl C X.env) fp) ifs (tTst (K := X.K) G mc))
    (hk : ∀ (s : Shared) (H : Hp) (C : Addr) (cl : List (Str × Addr)) (fp : List Addr), PE (X.blk s H scope (compEnvC scope cl C X.env) fp) kx (tEv (K := X.K) G mk))
    (he : ∀ (s : Shared) (H : Hp) (C : Addr) (cl : List (Str × Addr)) (fp : List Addr), PE (X.blk s H scope (compEnvC scope cl C X.env) fp) vx (tEv (K := X.K) G mv)) (hy : X.N[i]? = some y := by rfl) (hyl : X.env.scope.names.lookup y = some .local := by rfl) (hs : ∀ x, foldedSetIterable iter X.env x = pure x := by intro _; rfl) :
    PS X (.Assign [.Name y py] (.DictComp kx vx [⟨tg, iter, ifs, 0⟩] scope pos) spos) (tAsg (tSv G (vDC t ids mi mc mk mv)) (gName i)) := by
  subst hid
  exact (ps_setDc hc hN hy hyl hsw hi ok hg hq hk he hs).imp fun _ _ _ h => dc_read ht h
end
end Dv
namespace Dv
open PySem PySem.Spec PyProof.Rows L2
theorem perm_map_back {α β : Type} {f : α → β} : ∀ {l : List α} {ys : List β}, ys.Perm (l.map f) → ∃ qs : List α, ys = qs.map f ∧ qs.Perm l
  | [], ys, h => ⟨[], by rw [List.perm_nil.mp h]; rfl, .refl _⟩
  | x :: l, ys, h => by
    have hm : f x ∈ ys := h.symm.subset List.mem_cons_self
    obtain ⟨s, t, rfl⟩ := List.append_of_mem hm
    have h2 : (s ++ t).Perm (l.map f) := (List.perm_cons (f x)).mp ((List.perm_middle.symm.trans h))
    obtain ⟨qs, e, hp⟩ := perm_map_back h2
    obtain ⟨q1, q2, e1, e2, e3⟩ := List.append_eq_map_iff.mp e
    refine ⟨q1 ++ x :: q2, by rw [← e2, ← e3, List.map_append]; rfl, List.perm_middle.trans (.cons x (by rw [← e1]; exact hp))⟩
theorem sortB_s {xs : List Str} (h : xs.length < 64) : bSortB [.lst (xs.map .str)] = some (.lst ((sortS xs).map .str)) := by
  show (match bSortA [.lst (xs.map .str)] with | some d => some d | none => sortP (xs.map .str)) = _
  rw [sortA_s h]
theorem sortB_r {ks : List (List Key)} {sh : List Bool} (h : ∀ k ∈ ks, shapeR k = sh) (hn : sh ≠ []) : bSortB [.lst (ks.map rowD)] = some (.lst ((sortR ks).map rowD)) := by
  show (match bSortA [.lst (ks.map rowD)] with | some d => some d | none => sortP (ks.map rowD)) = _
  rw [sortA_r h hn]
theorem nodup_inj {α β : Type} {f : α → β} : ∀ {l : List α}, (l.map f).Nodup → ∀ {a b : α}, a ∈ l → b ∈ l → f a = f b → a = b
  | [], _, _, _, ha, _, _ => by cases ha
  | x :: r, h, a, b, ha, hb, e => by
    rw [List.map_cons, List.nodup_cons] at h
    rcases List.mem_cons.mp ha with ha1 | ha1
    · rcases List.mem_cons.mp hb with hb1 | hb1
      · rw [ha1, hb1]
      · rw [ha1] at e
        exact absurd (List.mem_map.mpr ⟨b, hb1, e.symm⟩) h.1
    · rcases List.mem_cons.mp hb with hb1 | hb1
      · rw [hb1] at e
        exact absurd (List.mem_map.mpr ⟨a, ha1, e⟩) h.1
      · exact nodup_inj h.2 ha1 hb1 e
end Dv
namespace Dv
open PySem PySem.Spec PyProof.Rows L2
def manyOf (x : Str) (ds : List Dd) : Nat := ds.countP (fun q => decide (q = (true, x)))
def outR (x : Str) : List Dd → Nat
  | [] => 0
  | p :: r => if p.1 = true then outR x r else if p.2 = x then manyOf x r else outR x r
def ouOf (x : Str) (ds : List Dd) : Nat := outR x ds.reverse
structure CI (pre : List Dd) (w o : Al) : Prop where
  nw : NdA w
  no_ : NdA o
  lw : w.length ≤ pre.length
  lo : o.length ≤ pre.length
  w : ∀ x, (getA x w).getD 0 = (manyOf x pre : Int)
  o : ∀ x, (getA x o).getD 0 = (ouOf x pre : Int)
theorem CI.nil : CI [] [] [] := ⟨.nil, .nil, Nat.le_refl _, Nat.le_refl _, fun _ => rfl, fun _ => rfl⟩
/-- the streams of ds are among xs -/
def InS (ds : List Dd) (xs : List Str) : Prop := ∀ p ∈ ds, p.2 ∈ xs
theorem InS.take {ds : List Dd} {xs : List Str} (h : InS ds xs) (k : Nat) : InS (ds.take k) xs := fun p hp => h p (List.mem_of_mem_take hp)
abbrev Wp := Nat × Str
def wrUp (ds : List Dd) : Nat → List Wp
  | 0 => []
  | n + 1 => wrUp ds n ++ match ds[n]? with
    | some (true, x) => [(n, x)]
    | _ => []
abbrev wr (ds : List Dd) : List Wp := wrUp ds ds.length
end Dv
namespace Dv
open PySem PySem.Spec PyProof.Rows L2
end Dv
namespace Dv
open PySem PySem.Spec PyProof.Rows L2
theorem runBX_rt {m : MS} {L : Nat} {ds : List D} {u u1 : U} {d : D} (h : m (ds.map Sl.pub ++ List.replicate (L - ds.length) Sl.no) u = some (.rt d, u1)) : runBX m L ds u = some (.ok d, u1) := by
  unfold runBX; rw [h]
theorem runBX_er {m : MS} {L : Nat} {ds : List D} {u u1 : U} {env : List Sl} {c : Str} {ns : List Str} {xs : List D} (h : m (ds.map Sl.pub ++ List.replicate (L - ds.length) Sl.no) u = some (.er env c ns xs, u1)) : runBX m L ds u = some (.er c ns xs, u1) := by
  unfold runBX; rw [h]
end Dv
namespace Dv
open PySem PySem.Spec PyProof.Rows L2
end Dv
namespace Dv
open PySem PySem.Spec PyProof.Rows L2
def sParv3 (i j l : Nat) (a b c : MSl) : MS := fun env u => bnd (a env u) fun s u1 => bnd (b env u1) fun s2 u2 => bnd (c env u2) fun s3 u3 => some (.nx (((env.set i s).set j s2).set l s3), u3)
theorem ds_parv3 {X : Cx} {G : Gx X.K} {W : WX} {a b c : Expr} {ma mb mc : MSl} {pos : Pos} (i j l : Nat) {x y z : Str} {px py pz pt pt2 : Pos} {kt k2 : Nat} (ha : PE X a (tSv G ma)) (hb : PE X b (tSv G mb)) (hc : PE X c (tSv G mc)) (h : ∀ {ta : TA}, PA X [a, b, c] ta → PS X (.Assign [.Tuple [.Name x px, .Name y py, .Name z pz] kt pt] (.Tuple [a, b, c] k2 pt2) pos) (tPar3 i j l ta))
    (hs : starEach (a :: [b, c]) X.env = (false, eval a X.env) :: starEach [b, c] X.env := by rfl) (hs2 : starEach (b :: [c]) X.env = (false, eval b X.env) :: starEach [c] X.env := by rfl) (hs3 : starEach (c :: []) X.env = (false, eval c X.env) :: starEach [] X.env := by rfl) :
    PS X (.Assign [.Tuple [.Name x px, .Name y py, .Name z pz] kt pt] (.Tuple [a, b, c] k2 pt2) pos) (tSt G W (sParv3 i j l ma mb mc)) := (h (pa_cons ha (pa_cons hb (pa_cons hc pa_nil hs3) hs2) hs)).imp fun Dn σ H h => by
  obtain ⟨ua, u, B, env, fl, u', B0, H0, hg, hO, hE, hW, hm, q⟩ := h
  obtain ⟨s, u1, c1, c2⟩ := bnd_some hm
  obtain ⟨s2, u2, c3, c4⟩ := bnd_some c2
  obtain ⟨s3, u3, c5, c6⟩ := bnd_some c4
  cases c6
  refine ⟨ua, u, B, env, s, u1, hE, hW, c1, fun v H1 ⟨B1, g1, w1, r1⟩ => ⟨ua, u1, B1, env, s2, u2, hE.grow g1, w1, c3, fun v2 H2 ⟨B2, g2, w2, r2⟩ => ⟨ua, u2, B2, env, s3, _, (hE.grow g1).grow g2, w2, c5, fun v3 H3 ⟨B3, g3, w3, r3⟩ => ?_⟩⟩⟩
  refine ⟨v, v2, v3, rfl, ?_⟩
  have gg := g1.trans g2
  have ea1 := r1.store (hE.grow g1) i hE.far
  have ea2 := (r1.grow g2).store (hE.grow gg) i hE.far
  have eb2 := r2.store ea2 j fun k es p z1 z2 => ea1.far k es p z1 z2
  have ea3 := ((r1.grow g2).grow g3).store (hE.grow (gg.trans g3)) i hE.far
  have eb3 := (r2.grow g3).store ea3 j fun k es p z1 z2 => ea1.far k es p z1 z2
  have ec3 := r3.store eb3 l fun k es p z1 z2 => eb2.far k es p z1 z2
  have oa := r1.news hO hg.live i
  have ob := r2.news oa (fun a z => hg.live _ (g1.live _ z)) j
  exact q _ B3 H3 (hg.trans (gg.trans g3)) (r3.news ob (fun a z => hg.live _ (gg.live _ z)) l) ec3 w3
end Dv
namespace Dv
open PySem PySem.Spec PyProof.Rows L2
section
variable {X : Cx} {G : Gx X.K} {mi : MI} {mc : MB} {me : M}
theorem AftS.up {K : PySem.W.Frag} {G : Gx K} {ua : Option Addr} {B H B1 H1 H' : Hp} {u' : U} {o : Oo} {v : V} (g : Grow ua B H B1 H1) (a : AftS G ua B1 H1 u' (.own o) v H') : AftS G ua B H u' (.own o) v H' := by
  obtain ⟨B', g', w, p, ho, e, h1, h2⟩ := a
  exact ⟨B', g.trans g', w, p, ho, e, g.live _ h1, h2⟩
variable {elt tg iter : Expr} {ifs : List Expr} {scope : Scope} {own : List (Str × Nat)} {pos : Pos}
end
def spFO {K : PySem.W.Frag} (G : Gx K) (F : List D → U → Option (Oo × U)) (n : Nat) : Sp := fun vs H Q _ => ∃ ua u B ds o u', Reps G ua ds vs B ∧ ds.length = n ∧ Wd ua u B H ∧ F ds u = some (o, u') ∧ ∀ v H', AftS G ua B H u' (.own o) v H' → Q v H'
def DefOkO (P : Program) (w : World) {K : PySem.W.Frag} (mg : Str → Option Value) (base : Heap) (G : Gx K) (x : Str) (k n : Nat) (F : List D → U → Option (Oo × U)) : Prop :=
  ∃ f fd ps, FnOk P w K mg base CX0 k f fd ps (spFO G F n) ∧ mg x = some (.ref f) ∧ PySem.W.keepIn K (.ref f) = true ∧ Binds K fd ps []
theorem DefOkO.mono {P : Program} {w : World} {K : PySem.W.Frag} {mg : Str → Option Value} {base : Heap} {G : Gx K} {x : Str} {j k n : Nat} {F : List D → U → Option (Oo × U)} (h : DefOkO P w mg base G x j n F) (l : j ≤ k) : DefOkO P w mg base G x k n F := by
  obtain ⟨f, fd, ps, h1, h2⟩ := h
  exact ⟨f, fd, ps, h1.mono l, h2⟩
end Dv
namespace Dv
open PySem PySem.Spec PyProof.Rows L2
end Dv
namespace Dv
open PySem PySem.Spec PyProof.Rows L2
end Dv
namespace Dv
open PySem PySem.Spec PyProof.Rows L2
section
variable {X : Cx} {G : Gx X.K} {W : WX} {c : Expr} {mb : MB} {m1 : MS} {body : List Stmt} {pos : Pos}
/-- while: at most so many turns -/
def sWh : Nat → MB → MS → MS
  | 0, _, _ => fun _ _ => none
  | n + 1, mb, m1 => fun env u => bnd (mb env u) fun b u1 => if b = true then bnd (m1 env u1) fun fl u2 => (match fl with
      | .nx env' => sWh n mb m1 env' u2
      | fl => some (fl, u2)) else some (.nx env, u1)
theorem ds_while (n : Nat) (hp : PassesOwn (model X.prog X.w) X.A X.env X.xe) (hc : PT X c (tTst G mb)) (hb : PSs X body (tSt G W m1)) : PS X (.While c body [] pos) (tSt G W (sWh n mb m1)) := (ps_while hp hc hb).imp fun Dn σ H h => by
  obtain ⟨ua, u, B, env, fl, u', B0, H0, hg, hO, hE, hW, hm, q⟩ := h
  refine ⟨fun k σ1 H1 => ∃ u1 B1 env1, Grow ua B0 H0 B1 H1 ∧ OwnNew env1 σ1 H0 ∧ EnvOk G ua env1 σ1 B1 H1 ∧ Wd ua u1 B1 H1 ∧ sWh k mb m1 env1 u1 = some (fl, u'), ⟨n, u, B, env, hg, hO, hE, hW, hm⟩, ?_⟩
  rintro k σ1 H1 ⟨u1, B1, env1, g1, o1, e1, w1, hm1⟩
  cases k with
  | zero => cases hm1
  | succ k =>
    obtain ⟨b, u2, c1, c2⟩ := bnd_some (show bnd (mb env1 u1) _ = _ from hm1)
    refine ⟨ua, u1, B1, env1, b, u2, e1, w1, c1, fun H2 ⟨B2, g2, w2⟩ => ?_⟩
    cases b with
    | true =>
      rw [if_pos rfl] at c2
      refine iteT ?_
      obtain ⟨f1, u3, c3, c4⟩ := bnd_some c2
      refine ⟨fun σ3 H3 => ∃ u1 B1 env1, Grow ua B0 H0 B1 H3 ∧ OwnNew env1 σ3 H0 ∧ EnvOk G ua env1 σ3 B1 H3 ∧ Wd ua u1 B1 H3 ∧ sWh k mb m1 env1 u1 = some (fl, u'), fun σ3 H3 z => ⟨k, Nat.lt_succ_self k, z⟩, ?_⟩
      refine ⟨ua, u2, B2, env1, f1, u3, B0, H0, g1.trans g2, o1, e1.grow g2, w2, c3, ?_⟩
      cases f1 with
      | nx env' => exact fun σ3 B3 H3 z1 z2 z3 z4 => ⟨u3, B3, env', z1, z2, z3, z4, c4⟩
      | rt d => cases c4; exact q
      | er env' cl ns xs => cases c4; exact q
    | false =>
      rw [if_neg Bool.false_ne_true] at c2
      refine iteF ?_
      cases c2
      exact q σ1 B2 H2 (g1.trans g2) o1 (e1.grow g2) w2
theorem sWh_f {n : Nat} {env : List Sl} {u u1 : U} (h : mb env u = some (false, u1)) : sWh (n + 1) mb m1 env u = some (.nx env, u1) := by
  show bnd (mb env u) _ = _
  rw [h]; rfl
theorem sWh_t {n : Nat} {env env' : List Sl} {u u1 u2 : U} (h : mb env u = some (true, u1)) (h2 : m1 env u1 = some (.nx env', u2)) : sWh (n + 1) mb m1 env u = sWh n mb m1 env' u2 := by
  show bnd (mb env u) _ = _
  rw [h]
  show bnd (m1 env u1) _ = _
  rw [h2]; rfl
end
section
variable {X : Cx} {G : Gx X.K} {o e : Expr} {mo me : M} {p pos : Pos}
def dinD (neg : Bool) : D → D → Option D
  | k, .dct ks ds => (keyOf k).map fun key => .bl (xor neg (valD ks ds key).isSome)
  | _, _ => none
theorem dct_get {K : PySem.W.Frag} {G : Gx K} {ua : Option Addr} {B H : Hp} {ks : List Key} {ds : List D} {v w : V} {d : D} {key : Key} (r : Rep G ua (.dct ks ds) v B) (hs : Same B H) (hk : keyOf d = some key) (r2 : Rep G ua d w B) : ∃ a ov, v = .ref a ∧ DGet H a w ov ∧ ov.isSome = (valD ks ds key).isSome := by
  obtain ⟨a, vs, rfl, hd, hl, rs⟩ := rep_dct r
  refine ⟨a, valV (ks.zip vs) key, rfl, .inl ⟨_, key, (hd.mono hs).rd, keyOf_rep hk r2, rfl⟩, ?_⟩
  rcases rs.val (k := key) hl with ⟨e1, e2⟩ | ⟨dv, vv, e1, e2, rr⟩
  · rw [e1, e2]; rfl
  · rw [e1, e2]; rfl
/-- len of a dict -/
theorem cr_lenR : CallR X (.builtin "len") (fun xs H Q => ∃ a kvs, xs = [V.ref a] ∧ Rd H a (.dK kvs) ∧ Q (.int (kvs.length : Nat)) H) := by
  rintro pins s σ H xs us Q inv rv ⟨a, kvs, rfl, hr, hq⟩
  obtain ⟨w, rfl, rw'⟩ := vals1 rv
  cases rw'
  exact d_len inv hr fun tk _ inv' => ⟨.int (kvs.length : Nat), H, inv', ⟨tk, rfl⟩, hq⟩
def bLenD : List D → Option D
  | [.dct ks _] => some (.int ks.length)
  | _ => none
theorem ok_lenD : BiOk G (.builtin "len") bLenD := by
  intro ua u B H ds d vs e rs w
  unfold bLenD at e
  split at e
  · rename_i ks es
    cases e
    obtain ⟨v, t, rfl, r1, r2⟩ := rs.of_cons
    rw [r2.of_nil]
    obtain ⟨a, xs, rfl, hd, hl, _⟩ := rep_dct r1
    refine ⟨_, cr_lenR, a, _, rfl, (hd.mono w.sub).rd, ?_⟩
    rw [List.length_zip, ← hl, Nat.min_self]
    exact ⟨B, .refl, w, rep_int⟩
  · cases e
end
end Dv
namespace Dv
open PySem PySem.Spec PyProof.Rows L2
end Dv
namespace Dv
open PySem PySem.Spec PyProof.Rows L2
end Dv
namespace Dv
open PySem PySem.Spec PyProof.Rows L2
end Dv
namespace Dv
open PySem PySem.Spec PyProof.Rows L2
section
variable {X : Cx} {G : Gx X.K} {W : WX} {e f o : Expr} {me mf mo : M} {pos pos' p : Pos}
theorem Reps.dropLast {K : PySem.W.Frag} {G : Gx K} {ua : Option Addr} {B : Hp} {ds : List D} {vs : List V} (h : Reps G ua ds vs B) : Reps G ua ds.dropLast vs.dropLast B := by
  rw [List.dropLast_eq_take, List.dropLast_eq_take, h.len]
  exact h.take _
end
end Dv
namespace Dv
open PySem PySem.Spec PyProof.Rows L2
end Dv
namespace Dv
open PySem PySem.Spec PyProof.Rows L2
end Dv
namespace Dv
open PySem PySem.Spec PyProof.Rows L2
end Dv
namespace Dv
open PySem PySem.Spec PyProof.Rows L2
section
variable {X : Cx}
theorem pairs_two {pins : List (Addr × Obj)} {σ : L2.St} {H : Hp} {s : Shared} (I : Inv X pins σ H s) : ∀ {ps : List Addr} {kvs : List (Key × V)}, Paired (fun p kv => SqT X.K H p [kV kv.1, kv.2]) ps kvs →
    ∃ (prs : List (Key × Value)) (pv : List (Value × Value)), KV kvs prs ∧ prs.length = ps.length ∧ pv.length = ps.length ∧ ∀ (j : Nat) (k v : Value), pv[j]? = some (k, v) → ∃ (b : Addr) (key : Key), ps[j]? = some b ∧ s.heap.IsTuple b #[k, v] ∧ prs[j]? = some (key, v) ∧ (mixKind X.prog X.w).is key k = true
  | _, _, .nil => ⟨[], [], .nil, rfl, rfl, fun j k v e => by simp at e⟩
  | _, _, .cons (a := p) (b := kv) h t => by
    obtain ⟨prs, pv, r, l1, l2, hp⟩ := pairs_two I t
    obtain ⟨its, rv, ht, _⟩ := I.tuple h
    obtain ⟨u, y, ei, ru, ry⟩ := vals2 rv
    subst ei
    refine ⟨(kv.1, y) :: prs, (u, y) :: pv, .cons ⟨rfl, ry⟩ r, by rw [List.length_cons, List.length_cons, l1], by rw [List.length_cons, List.length_cons, l2], fun j k v e => ?_⟩
    cases j with
    | zero =>
      cases (show (u, y) = (k, v) from Option.some.inj e)
      obtain ⟨o, h1, h2, n, h3⟩ := ht
      exact ⟨p, kv.1, rfl, ⟨o, h1, h2, n, h3⟩, rfl, kV_is (P := X.prog) (w := X.w) ru⟩
    | succ j =>
      obtain ⟨b, key, e1, e2, e3, e4⟩ := hp j k v (by simpa using e)
      exact ⟨b, key, by simpa using e1, e2, by simpa using e3, e4⟩
theorem cr_dictTP (hcalm : X.calm = true) : CallR X (.type "dict") (fun xs H Q => ∃ (a : Addr) (ps : List Addr) (kvs : List (Key × V)), xs = [.ref a] ∧ TupB H a (ps.map V.ref) ∧ Paired (fun p kv => SqT X.K H p [kV kv.1, kv.2]) ps kvs ∧
    ∀ p, H p = none → Q (.ref p) (upd H p (.dK (mergeK [] kvs)))) := by
  intro pins s σ H xs us Q I r q
  obtain ⟨a, ps, kvs, rfl, ⟨o, od, e⟩, hp, q⟩ := q
  obtain rfl := Vals.ref1 r
  obtain ⟨eo, z, its, rv, o', h1, h2, n, h3⟩ := I.hok _ _ e
  rw [eo] at h1
  cases h1
  have ei := refs_at rv
  subst ei
  rw [List.length_map] at z
  obtain ⟨prs, pv, rel, l1, l2, hpr⟩ := pairs_two I hp
  have items : PySem.PairItems s.heap (ps.map Value.ref).toArray (fun j => ps[j]?.getD 0) pv := by
    refine ⟨by simp [l2], fun j k v hj => ?_⟩
    obtain ⟨b, key, e1, e2, _⟩ := hpr j k v hj
    have eb : ps[j]?.getD 0 = b := by rw [e1]; rfl
    exact ⟨by simp [e1], by show PySem.PairAt s.heap (ps[j]?.getD 0) k v; rw [eb]; exact .inl e2⟩
  refine PySem.call_dict_pairs (knd := mixKind X.prog X.w) (kvs := prs) (PySem.PairArg.tuple a _ _ pv) (I.ok.hd hcalm) ⟨⟨o, n, eo, h2, od, h3⟩, items⟩ ⟨by rw [l1, l2], fun i key v hr => ?_⟩ (by rw [l2]; exact z) fun h' tk hd' k => ?_
  · obtain ⟨b, ky, _, _, e3, e4⟩ := hpr i key v hr
    exact ⟨ky, e3, e4⟩
  · have hm : (s.heap.objs.size == sysModules) = false := beq_eq_false_iff_ne.mpr (Nat.ne_of_gt I.big)
    have hlen : (mergeK [] kvs).length ≤ sizeLine := by
      have := length_mergeK kvs []
      have lk := rel.length
      simp only [List.length_nil] at this
      omega
    exact ⟨.ref s.heap.objs.size, upd H s.heap.objs.size (.dK (mergeK [] kvs)), I.laid (t' := tk) (fun b o e => k b o (by simp) e) (Nat.le_refl _) (show ObjOk X.prog X.w _ _ _ (.dK (mergeK [] kvs)) from ⟨hlen, hm, _, KV.merge rel .nil, hd'⟩), rfl, q _ (I.hok.fresh (Nat.le_refl _))⟩
end
def pairD : D → Option (Key × D)
  | .tup [k, v] => (keyOf k).map fun j => (j, v)
  | .pr [k, v] => (keyOf k).map fun j => (j, v)
  | _ => none
def pairsD : List D → Option (List (Key × D))
  | [] => some []
  | d :: ds => (pairD d).bind fun p => (pairsD ds).map fun r => p :: r
def mergeD (ks : List Key) (ds : List D) : List (Key × D) → List Key × List D
  | [] => (ks, ds)
  | p :: r => mergeD (putD ks ds p.1 p.2).1 (putD ks ds p.1 p.2).2 r
theorem mergeD_rep {K : PySem.W.Frag} {G : Gx K} {ua : Option Addr} {B : Hp} : ∀ {ps : List (Key × D)} {kvs : List (Key × V)} {ks : List Key} {ds : List D} {vs : List V}, Paired (fun (p : Key × D) (q : Key × V) => p.1 = q.1 ∧ Rep G ua p.2 q.2 B) ps kvs → ks.Nodup → ks.length = vs.length → Reps G ua ds vs B →
    ∃ ws, mergeK (ks.zip vs) kvs = (mergeD ks ds ps).1.zip ws ∧ (mergeD ks ds ps).1.length = ws.length ∧ Reps G ua (mergeD ks ds ps).2 ws B ∧ (mergeD ks ds ps).1.Nodup
  | _, _, ks, ds, vs, .nil, hn, hl, r => ⟨vs, rfl, hl, r, hn⟩
  | _, _, ks, ds, vs, .cons (a := p) (b := q) h t, hn, hl, r => by
    obtain ⟨ws, q1, q2, q3, _, q5⟩ := putD_rep (j := p.1) h.2 hn hl r
    obtain ⟨ws', e1, e2, e3, e4⟩ := mergeD_rep t q5 q2 q3
    refine ⟨ws', ?_, e2, e3, e4⟩
    rw [← q1, h.1] at e1
    show mergeK (putK (ks.zip vs) q.1 q.2) _ = (mergeD (putD ks ds p.1 p.2).1 (putD ks ds p.1 p.2).2 _).1.zip ws'
    rw [h.1]
    exact e1
theorem pairD_rep {K : PySem.W.Frag} {G : Gx K} {ua : Option Addr} {B H : Hp} {d : D} {v : V} {p : Key × D} (s : Same B H) (h : pairD d = some p) (r : Rep G ua d v B) : ∃ b w, v = .ref b ∧ SqT K H b [kV p.1, w] ∧ Rep G ua p.2 w B := by
  unfold pairD at h
  split at h
  · rename_i k x
    obtain ⟨j, hj, rfl⟩ := map_some h
    obtain ⟨b, vs, rfl, hb, rs⟩ := r.tup
    obtain ⟨v1, t, rfl, r1, r2⟩ := rs.of_cons
    obtain ⟨v2, t, rfl, r3, r4⟩ := r2.of_cons
    rw [r4.of_nil, keyOf_rep hj r1] at hb
    exact ⟨b, v2, rfl, (hb.mono s).sq, r3⟩
  · rename_i k x
    obtain ⟨j, hj, rfl⟩ := map_some h
    obtain ⟨b, vs, rfl, hb, rs⟩ := r.pr
    obtain ⟨v1, t, rfl, r1, r2⟩ := rs.of_cons
    obtain ⟨v2, t, rfl, r3, r4⟩ := r2.of_cons
    rw [r4.of_nil, keyOf_rep hj r1] at hb
    exact ⟨b, v2, rfl, SqT.of (s _ _ hb), r3⟩
  · cases h
theorem pairsD_rep {K : PySem.W.Frag} {G : Gx K} {ua : Option Addr} {B H : Hp} (s : Same B H) : ∀ {ds : List D} {vs : List V} {ps : List (Key × D)}, pairsD ds = some ps → Reps G ua ds vs B →
    ∃ (as : List Addr) (kvs : List (Key × V)), vs = as.map V.ref ∧ Paired (fun p kv => SqT K H p [kV kv.1, kv.2]) as kvs ∧ Paired (fun (p : Key × D) (q : Key × V) => p.1 = q.1 ∧ Rep G ua p.2 q.2 B) ps kvs
  | [], vs, ps, h, r => by cases h; exact ⟨[], [], r.of_nil, .nil, .nil⟩
  | d :: ds, vs, ps, h, r => by
    obtain ⟨v, t, rfl, r1, r2⟩ := r.of_cons
    unfold pairsD at h
    obtain ⟨p, hp, h⟩ := Option.bind_eq_some_iff.mp h
    obtain ⟨rs, hr, rfl⟩ := map_some h
    obtain ⟨b, w, rfl, hb, rw'⟩ := pairD_rep s hp r1
    obtain ⟨as, kvs, rfl, q1, q2⟩ := pairsD_rep s hr r2
    exact ⟨b :: as, (p.1, w) :: kvs, rfl, .cons hb q1, .cons ⟨rfl, rw'⟩ q2⟩
section
variable {X : Cx} {G : Gx X.K} {e : Expr} {me : M} {p pos : Pos}
/-- dict(e), new -/
def vDictP (m : M) : MSl := fun env u => bnd (m env u) fun d u1 => match d with
  | .tup ds => (match pairsD ds with
    | some ps => some (.own (.dct (mergeD [] [] ps).1 (mergeD [] [] ps).2), u1)
    | none => none)
  | _ => none
theorem dv_oDictP (hc : X.calm = true) (hg : Gl X "dict") (hm : X.mg "dict" = none) (ha : PE X e (tEv G me)) (he : starEach (e :: []) X.env = (false, eval e X.env) :: starEach [] X.env := by rfl) (hpl : (backTo pos (starEach [] X.env)).any (·.1) = false := by rfl) :
    PE X (.Call (.Name "dict" p) [e] [] pos) (tSv G (vDictP me)) :=
  (pe_callTy (cr_dictTP hc) hg hm (by decide +kernel) (pa_cons ha pa_nil he) (by decide) (by decide) he hpl).imp fun σ H Q z => by
  obtain ⟨ua, u, B, env, s, u', hE, hW, hm, q⟩ := z
  obtain ⟨d, u1, c1, c2⟩ := bnd_some hm
  refine ⟨ua, u, B, env, d, u1, hE, hW, c1, fun v H1 ⟨B1, g1, w1, r1⟩ => ?_⟩
  split at c2
  · rename_i ds
    split at c2
    · rename_i ps hps
      cases c2
      obtain ⟨a, ys, rfl, h, r3⟩ := r1.tup
      obtain ⟨as, kvs, rfl, q1, q2⟩ := pairsD_rep w1.sub hps r3
      obtain ⟨ws, m1, m2, m3, m4⟩ := mergeD_rep (ks := []) (ds := []) (vs := []) q2 List.nodup_nil rfl .nil
      refine ⟨a, as, kvs, rfl, h.mono w1.sub, q1, fun l hl => q _ _ ⟨B1, g1.trans (.own1 w1 hl), w1.own1 hl, l, _, rfl, g1.live _ hl, upd_same, w1.none_of hl, w1.ne_urn hl, ws, congrArg HO.dK m1, m2, m3, m4⟩⟩
    · cases c2
  · cases c2
/-- dict([..]), new -/
def vDictL (m : M) : MSl := fun env u => bnd (m env u) fun d u1 => match d with
  | .lst ds => (match pairsD ds with
    | some ps => some (.own (.dct (mergeD [] [] ps).1 (mergeD [] [] ps).2), u1)
    | none => none)
  | _ => none
theorem dv_oDictL (hc : X.calm = true) (hg : Gl X "dict") (hm : X.mg "dict" = none) (ha : PE X e (tEv G me)) (he : starEach (e :: []) X.env = (false, eval e X.env) :: starEach [] X.env := by rfl) (hpl : (backTo pos (starEach [] X.env)).any (·.1) = false := by rfl) :
    PE X (.Call (.Name "dict" p) [e] [] pos) (tSv G (vDictL me)) :=
  (pe_callTy (call_dictP hc) hg hm (by decide +kernel) (pa_cons ha pa_nil he) (by decide) (by decide) he hpl).imp fun σ H Q z => by
  obtain ⟨ua, u, B, env, s, u', hE, hW, hm, q⟩ := z
  obtain ⟨d, u1, c1, c2⟩ := bnd_some hm
  refine ⟨ua, u, B, env, d, u1, hE, hW, c1, fun v H1 ⟨B1, g1, w1, r1⟩ => ?_⟩
  split at c2
  · rename_i ds
    split at c2
    · rename_i ps hps
      cases c2
      obtain ⟨a, ys, rfl, h, r3⟩ := r1.lst
      obtain ⟨as, kvs, rfl, q1, q2⟩ := pairsD_rep w1.sub hps r3
      obtain ⟨ws, m1, m2, m3, m4⟩ := mergeD_rep (ks := []) (ds := []) (vs := []) q2 List.nodup_nil rfl .nil
      refine ⟨a, as, kvs, rfl, .of (w1.sub _ _ h), q1, fun l hl => q _ _ ⟨B1, g1.trans (.own1 w1 hl), w1.own1 hl, l, _, rfl, g1.live _ hl, upd_same, w1.none_of hl, w1.ne_urn hl, ws, congrArg HO.dK m1, m2, m3, m4⟩⟩
    · cases c2
  · cases c2
end
end Dv
namespace Dv
open PySem PySem.Spec PyProof.Rows L2
end Dv
namespace Dv
open PySem PySem.Spec PyProof.Rows L2
abbrev TKd (P : Program) (w : World) : HeapKind P w (List Key) := tupleKind (mixKind P w)
abbrev hsT (P : Program) (w : World) (k : List Key) : Int := (TKd P w).hash k
structure TupSet (P : Program) (w : World) (h : Heap) (a : Addr) (M : List (List Key × Addr)) (es : Array (Int × Value)) (ep : Nat) (t : SetTable) : Prop where
  here : ∃ o, h.get? a = some o ∧ o.ExactSet ∧ o.data = .set es ep t
  rows : es.toList = M.map fun m => (hsT P w m.1, Value.ref m.2)
  lay : TabOk t (M.map fun m => hsT P w m.1)
  once : (M.map fun m => m.1).Nodup
  keyd : ∀ m ∈ M, (TKd P w).is h m.1 m.2
  ord : w.params.followText "set-order" = true ∨ t.led = true
  space : M.length * 5 < t.mask * 3
  le63 : M.length ≤ 63
section
variable {P : Program} {w : World} {A : Around} {E : Value → Shared → Prop} {s : Shared} {a x : Addr} {M : List (List Key × Addr)} {es : Array (Int × Value)} {ep : Nat} {t : SetTable} {k : List Key} {K : Nat}
theorem TupSet.get {h : Heap} (R : TupSet P w h a M es ep t) {i : Nat} {m : List Key × Addr} (e : M[i]? = some m) : es[i]? = some (hsT P w m.1, Value.ref m.2) := by
  have := congrArg (fun l : List (Int × Value) => l[i]?) R.rows
  simp only [List.getElem?_map, e] at this
  rw [← Array.getElem?_toList]; exact this
end
end Dv
namespace Dv
open PySem PySem.Spec PyProof.Rows L2
end Dv
namespace Dv
open PySem PySem.Spec PyProof.Rows L2
open Classical in
noncomputable def putM (M : List (List Key × Addr)) (k : List Key) (b : Addr) : List (List Key × Addr) := if k ∈ M.map (fun m : List Key × Addr => m.1) then M else (k, b) :: M
end Dv
namespace Dv
open PySem PySem.Spec PyProof.Rows L2
end Dv
namespace Dv
open PySem PySem.Spec PyProof.Rows L2
end Dv
namespace Dv
open PySem PySem.Spec PyProof.Rows L2
end Dv
namespace Dv
open PySem PySem.Spec PyProof.Rows L2
end Dv
namespace Dv
open PySem PySem.Spec PyProof.Rows L2
end Dv
namespace Dv
open PySem PySem.Spec PyProof.Rows L2
end Dv
namespace Dv
open PySem PySem.Spec PyProof.Rows L2
end Dv
namespace Dv
open PySem PySem.Spec PyProof.Rows L2
end Dv
namespace Dv
open PySem PySem.Spec PyProof.Rows L2
end Dv
namespace Dv
open PySem PySem.Spec PyProof.Rows L2
end Dv
namespace Dv
open PySem PySem.Spec PyProof.Rows L2 PySem.W PySem.Calls
end Dv
namespace Dv
open PySem PySem.Spec PyProof.Rows L2
end Dv
namespace Dv
open PySem PySem.Spec PyProof.Rows L2
section
variable {P : Program} {w : World} {B H : Hp} {h : Heap}
theorem KN.val {kvs : List (NestedKey × V)} {xs : List (NestedKey × Addr × Value)} (r : KN H kvs xs) (k : NestedKey) : RelO (valV kvs k) ((atKey xs k).map (·.2)) := by
  induction r with
  | nil => exact True.intro
  | @cons p q ps qs h t ih =>
    obtain ⟨h1, _, h2⟩ := h
    by_cases e : p.1 = k
    · have e' : q.1 = k := h1.symm.trans e
      have b : atKey (q :: qs) k = some q.2 := by simp [atKey, List.find?_cons, e']
      rw [valV_pos e, b]; exact h2
    · have e' : ¬ q.1 = k := fun z => e (h1.trans z)
      have b : atKey (q :: qs) k = atKey qs k := by simp [atKey, List.find?_cons, e']
      rw [valV_neg e, b]; exact ih
theorem KN.repl {kvs : List (NestedKey × V)} {xs : List (NestedKey × Addr × Value)} (r : KN H kvs xs) (k : NestedKey) {y : V} {u : Value} (ry : RelV y u) :
    KN H (kvs.map fun kv => if kv.1 = k then (kv.1, y) else kv) (xs.map (putAt k u)) := by
  induction r with
  | nil => exact .nil
  | @cons p q ps qs h t ih =>
    rw [List.map_cons, List.map_cons]
    refine .cons ?_ ih
    obtain ⟨h1, h2, h3⟩ := h
    unfold putAt
    by_cases e : p.1 = k
    · rw [if_pos e, if_pos (h1.symm.trans e)]; exact ⟨h1, h2, ry⟩
    · rw [if_neg e, if_neg (fun z => e (h1.trans z))]; exact ⟨h1, h2, h3⟩
theorem KN.put {kvs : List (NestedKey × V)} {xs : List (NestedKey × Addr × Value)} (r : KN H kvs xs) (k : NestedKey) {b : Addr} {y : V} {u : Value} (hb : NKey H k (.ref b)) (dp : k.depth ≤ 8) (ry : RelV y u) :
    KN H (putK kvs k y) (storedH xs k b u) := by
  have e : (kvs.any fun kv => decide (kv.1 = k)) = (atKey xs k).isSome := by
    rw [valV_any, (r.val k).isSome_eq, Option.isSome_map]
  unfold putK storedH
  rw [e]
  by_cases q : (atKey xs k).isSome = true
  · rw [if_pos q, if_pos q]; exact r.repl k ry
  · rw [if_neg q, if_neg q]; exact Paired.snoc r ⟨rfl, ⟨hb, dp⟩, ry⟩
end
end Dv
namespace Dv
open PySem PySem.Spec PyProof.Rows L2 RZ
end Dv
namespace Dv
open PySem PySem.Spec PyProof.Rows L2 RZ
end Dv
namespace Dv
open PySem PySem.Spec PyProof.Rows L2 RZ
end Dv
namespace Dv
open PySem PySem.Spec PyProof.Rows L2 RZ
end Dv
namespace PySem
open PyProof PyProof.Rows PySem.W
end PySem
namespace Dv
open PySem PySem.Spec PyProof.Rows L2
section
variable {P : Program} {w : World} {K : PySem.W.Frag} {d : Addr} {o : Obj} {es : Array DictEntry} {ep : Nat}
def ItSt (h : Heap) (it d : Addr) (i n ep : Nat) : Prop := (∃ ok ov, IsItemIter h it d i n ep ok ov) ∨ ∃ ok ov a f, PySem.W.KdxIt h it d i n ep ok ov a f
theorem ItSt.there {h : Heap} {it d : Addr} {i n ep : Nat} (x : ItSt h it d i n ep) : ∃ ob, h.get? it = some ob ∧ ob.cls = .type "dict_itemiterator" ∧ (∀ v, ob.data ≠ .cell v) := by
  rcases x with ⟨_, _, e⟩ | ⟨_, _, _, _, e⟩
  · exact ⟨_, e, rfl, fun v z => nomatch z⟩
  · exact ⟨_, e, rfl, fun v z => nomatch z⟩
end
end Dv
namespace Dv
open PySem PySem.Spec PyProof.Rows L2
end Dv
namespace Dv
open PySem PySem.Spec PyProof.Rows L2
end Dv
namespace Dv
open PySem PySem.Spec PyProof.Rows L2
end Dv
namespace Dv
open PySem PySem.Spec PyProof.Rows L2
end Dv
namespace Dv
open PySem PySem.Spec PyProof.Rows L2
end Dv
namespace Dv
open PySem PySem.Spec PyProof.Rows L2
section
variable {P : Program} {w : World}
theorem key_at {h h' : Heap} {b : Addr} {kk : List Key} (k : ∀ o, h.get? b = some o → h'.get? b = some o) (hk : (TKd P w).is h kk b) : (TKd P w).is h' kk b := by
  obtain ⟨o, its, n, ho, hc, hd, hi⟩ := hk
  exact ⟨o, its, n, k o ho, hc, hd, hi⟩
theorem TupSet.at {h h' : Heap} {a : Addr} {M : List (List Key × Addr)} {es : Array (Int × Value)} {ep : Nat} {t : SetTable} (R : TupSet P w h a M es ep t) (k : ∀ o, h.get? a = some o → h'.get? a = some o) (kb : ∀ m ∈ M, ∀ o, h.get? m.2 = some o → h'.get? m.2 = some o) : TupSet P w h' a M es ep t := by
  obtain ⟨⟨o, h1, h2⟩, h3, h4, h5, h6, h7, h8, h9⟩ := R
  exact ⟨⟨o, k o h1, h2⟩, h3, h4, h5, fun m hm => key_at (kb m hm) (h6 m hm), h7, h8, h9⟩
end
end Dv
namespace Dv
open PySem PySem.Spec PyProof.Rows L2
theorem has_mem {xs : Array Nat} {j : Nat} (h : SetTable.has xs j = true) : j ∈ xs.toList := by
  unfold SetTable.has at h
  exact List.mem_of_getElem? (by rw [Array.getElem?_toList]; exact beq_iff_eq.mp h)
theorem mem_has {xs : Array Nat} (r : Ris xs.toList) {j : Nat} (h : j ∈ xs.toList) : SetTable.has xs j = true := by
  obtain ⟨i, hi⟩ := List.mem_iff_getElem?.mp h
  obtain ⟨c1, c2, c3⟩ := below_cut r j
  have hb : SetTable.below xs j = i := by
    generalize SetTable.below xs j = p at c1 c2 c3 ⊢
    rcases Nat.lt_trichotomy i p with k | k | k
    · exact absurd (c2 i j hi k) (Nat.lt_irrefl _)
    · exact k.symm
    · have hl : i < xs.toList.length := (List.getElem?_eq_some_iff.mp hi).1
      have e := List.getElem?_eq_getElem (Nat.lt_trans k hl)
      exact absurd (Nat.lt_of_lt_of_le (ris_lt r e hi k) (c3 p _ e (Nat.le_refl _))) (Nat.lt_irrefl _)
  unfold SetTable.has
  rw [hb, ← Array.getElem?_toList, hi]
  exact beq_iff_eq.mpr rfl
def UsedS (t : SetTable) (j : Nat) : Prop := j ∈ t.place.toList ∨ SetTable.has t.dummies j = true
def MaskE (m : Nat) : Prop := MaskOk m ∨ m = 15 ∨ m = 63
structure TabD (t : SetTable) (hs : List Int) : Prop where
  ris : Ris t.place.toList
  rid : Ris t.dummies.toList
  sz : t.place.size = hs.length
  mok : MaskE t.mask
  room : t.place.size + t.dummies.size ≤ t.mask
  reach : ∀ (i : Nat) (h : Int) (j : Nat), hs[i]? = some h → t.place.toList[i]? = some j → ∃ k, way t.mask h k = j ∧ ∀ k', k' < k → UsedS t (way t.mask h k')
end Dv
namespace Dv
open PySem PySem.Spec PyProof.Rows L2
structure TupD (P : Program) (w : World) (h : Heap) (a : Addr) (M : List (List Key × Addr)) (es : Array (Int × Value)) (ep : Nat) (t : SetTable) : Prop where
  here : ∃ o, h.get? a = some o ∧ o.ExactSet ∧ o.data = .set es ep t
  rows : es.toList = M.map fun m => (hsT P w m.1, Value.ref m.2)
  lay : TabD t (M.map fun m => hsT P w m.1)
  once : (M.map fun m => m.1).Nodup
  keyd : ∀ m ∈ M, (TKd P w).is h m.1 m.2
  ord : w.params.followText "set-order" = true ∨ t.led = true
  le63 : M.length ≤ 63
section
variable {P : Program} {w : World} {A : Around} {E : Value → Shared → Prop} {s : Shared} {a x : Addr} {M : List (List Key × Addr)} {es : Array (Int × Value)} {ep : Nat} {t : SetTable} {k : List Key} {K : Nat}
theorem TupD.get {h : Heap} (R : TupD P w h a M es ep t) {i : Nat} {m : List Key × Addr} (e : M[i]? = some m) : es[i]? = some (hsT P w m.1, Value.ref m.2) := by
  have := congrArg (fun l : List (Int × Value) => l[i]?) R.rows
  simp only [List.getElem?_map, e, Array.getElem?_toList] at this
  exact this
end
end Dv
namespace Dv
open PySem PySem.Spec PyProof.Rows L2
theorem toList_eraseAt {α : Type} (xs : Array α) (i : Nat) : (SetTable.eraseAt xs i).toList = xs.toList.eraseIdx i := by
  unfold SetTable.eraseAt
  rw [List.eraseIdx_eq_take_drop_succ]
  simp [List.take_of_length_le]
theorem erase_get {α : Type} (l : List α) (i i' : Nat) : (l.eraseIdx i)[i']? = if i' < i then l[i']? else l[i' + 1]? := by
  rw [List.getElem?_eraseIdx]
theorem ris_erase_mem {l : List Nat} (r : Ris l) {i j : Nat} (hi : l[i]? = some j) {y : Nat} : y ∈ l.eraseIdx i ↔ y ∈ l ∧ y ≠ j := by
  constructor
  · intro h
    refine ⟨List.mem_of_mem_eraseIdx h, fun z => ?_⟩
    obtain ⟨i', hi'⟩ := List.mem_iff_getElem?.mp h
    rw [erase_get] at hi'
    subst z
    split at hi'
    · exact absurd (ris_lt r hi' hi ‹_›) (Nat.lt_irrefl _)
    · exact absurd (ris_lt r hi hi' (by omega)) (Nat.lt_irrefl _)
  · rintro ⟨h, ne⟩
    obtain ⟨i', hi'⟩ := List.mem_iff_getElem?.mp h
    rcases Nat.lt_trichotomy i' i with z | z | z
    · exact List.mem_of_getElem? (i := i') (by rw [erase_get, if_pos z]; exact hi')
    · subst z; rw [hi] at hi'; exact absurd (Option.some.inj hi').symm ne
    · exact List.mem_of_getElem? (i := i' - 1) (by rw [erase_get, if_neg (by omega), show i' - 1 + 1 = i' by omega]; exact hi')
theorem TabD.drop {t : SetTable} {hs : List Int} (T : TabD t hs) (dis : ∀ y ∈ t.place.toList, y ∉ t.dummies.toList) {i j : Nat} (hj : t.place.toList[i]? = some j) :
    TabD (t.drop i) (hs.eraseIdx i) ∧ (∀ y ∈ (t.drop i).place.toList, y ∉ (t.drop i).dummies.toList) ∧ (t.drop i).led = t.led ∧ (t.drop i).mask = t.mask ∧ (t.drop i).dummies.size = t.dummies.size + 1 := by
  have hj' : t.place[i]? = some j := by rw [← Array.getElem?_toList]; exact hj
  have e : t.drop i = { t with place := SetTable.eraseAt t.place i, dummies := SetTable.insertAt t.dummies (SetTable.below t.dummies j) j } := by
    unfold SetTable.drop
    rw [hj']
  have jd : j ∉ t.dummies.toList := dis j (List.mem_of_getElem? hj)
  have jn : t.dummies[SetTable.below t.dummies j]? ≠ some j := fun z => jd (List.mem_of_getElem? (by rw [Array.getElem?_toList]; exact z))
  have rid := ris_insert T.rid jn
  have dmem : ∀ y, y ∈ (SetTable.insertAt t.dummies (SetTable.below t.dummies j) j).toList ↔ y ∈ t.dummies.toList ∨ y = j := fun y => by
    rw [SetTable.toList_insertAt, List.mem_append, List.mem_cons]
    have : y ∈ t.dummies.toList ↔ y ∈ t.dummies.toList.take (SetTable.below t.dummies j) ∨ y ∈ t.dummies.toList.drop (SetTable.below t.dummies j) := by
      rw [← List.mem_append, List.take_append_drop]
    rw [this]
    constructor
    · rintro (h | h | h)
      · exact .inl (.inl h)
      · exact .inr h
      · exact .inl (.inr h)
    · rintro ((h | h) | h)
      · exact .inl h
      · exact .inr (.inr h)
      · exact .inr (.inl h)
  have pl : (SetTable.eraseAt t.place i).toList = t.place.toList.eraseIdx i := toList_eraseAt _ _
  have il : i < t.place.toList.length := (List.getElem?_eq_some_iff.mp hj).1
  have psz : (SetTable.eraseAt t.place i).size + 1 = t.place.size := by
    rw [← Array.length_toList, pl, List.length_eraseIdx, if_pos il, ← Array.length_toList]
    omega
  have dsz : (SetTable.insertAt t.dummies (SetTable.below t.dummies j) j).size = t.dummies.size + 1 := by
    rw [← Array.length_toList, SetTable.toList_insertAt, List.length_append, List.length_cons, List.length_take, List.length_drop, Array.length_toList]
    have := (below_cut T.rid j).1
    omega
  have use : ∀ y, UsedS t y → UsedS (t.drop i) y := fun y h => by
    rw [e]
    rcases h with h | h
    · by_cases z : y = j
      · exact .inr (mem_has rid ((dmem y).mpr (.inr z)))
      · refine .inl ?_
        show y ∈ (SetTable.eraseAt t.place i).toList
        rw [pl]
        exact (ris_erase_mem T.ris hj).mpr ⟨h, z⟩
    · exact .inr (mem_has rid ((dmem y).mpr (.inl (has_mem h))))
  refine ⟨⟨?_, ?_, ?_, ?_, ?_, fun i' h' j' a b => ?_⟩, fun y hy z => ?_, by rw [e], by rw [e], by rw [e]; exact dsz⟩
  · rw [e]
    show Ris (SetTable.eraseAt t.place i).toList
    rw [pl]
    exact List.Pairwise.sublist (List.eraseIdx_sublist _ _) T.ris
  · rw [e]; exact rid
  · rw [e]
    show (SetTable.eraseAt t.place i).size = _
    rw [List.length_eraseIdx, if_pos (by rw [← T.sz, ← Array.length_toList]; exact il)]
    have := T.sz
    omega
  · rw [e]; exact T.mok
  · rw [e]
    show (SetTable.eraseAt t.place i).size + (SetTable.insertAt t.dummies (SetTable.below t.dummies j) j).size ≤ t.mask
    have := T.room
    omega
  · have b' : (t.place.toList.eraseIdx i)[i']? = some j' := by
      rw [e] at b
      rw [← pl]; exact b
    have mk : (t.drop i).mask = t.mask := by rw [e]
    rw [mk]
    have both : ∃ i0 : Nat, hs[i0]? = some h' ∧ t.place.toList[i0]? = some j' := by
      rw [erase_get] at a b'
      by_cases z : i' < i
      · rw [if_pos z] at a b'; exact ⟨_, a, b'⟩
      · rw [if_neg z] at a b'; exact ⟨_, a, b'⟩
    obtain ⟨i0, a0, b0⟩ := both
    obtain ⟨k, k1, k2⟩ := T.reach i0 h' j' a0 b0
    exact ⟨k, k1, fun k' hk' => use _ (k2 k' hk')⟩
  · have hy' : y ∈ t.place.toList.eraseIdx i := by
      rw [e] at hy
      rw [← pl]; exact hy
    have z' : y ∈ (SetTable.insertAt t.dummies (SetTable.below t.dummies j) j).toList := by rw [e] at z; exact z
    obtain ⟨h1, h2⟩ := (ris_erase_mem T.ris hj).mp hy'
    rcases (dmem y).mp z' with z | z
    · exact dis y h1 z
    · exact h2 z
end Dv
namespace Dv
open PySem PySem.Spec PyProof.Rows L2
end Dv
namespace Dv
open PySem PySem.Spec PyProof.Rows L2
theorem TupD.at {P : Program} {w : World} {h h' : Heap} {a : Addr} {M : List (List Key × Addr)} {es : Array (Int × Value)} {ep : Nat} {t : SetTable} (R : TupD P w h a M es ep t) (k : ∀ c o, (c = a ∨ ∃ m ∈ M, c = m.2) → h.get? c = some o → h'.get? c = some o) : TupD P w h' a M es ep t := by
  obtain ⟨⟨o, h1, h2⟩, h3, h4, h5, h6, h7, h8⟩ := R
  exact ⟨⟨o, k a o (.inl rfl) h1, h2⟩, h3, h4, h5, fun m hm => key_at (fun o e => k m.2 o (.inr ⟨m, hm, rfl⟩) e) (h6 m hm), h7, h8⟩
end Dv
namespace Dv
open PySem PySem.Spec PyProof.Rows L2
end Dv
namespace Dv
open PySem PySem.Spec PyProof.Rows L2
end Dv
namespace Dv
open PySem PySem.Spec PyProof.Rows L2
end Dv
namespace Dv
open PySem PySem.Spec PyProof.Rows L2
end Dv
namespace Dv
open PySem PySem.Spec PyProof.Rows L2
end Dv
namespace Dv
open PySem PySem.Spec PyProof.Rows L2
end Dv
namespace Dv
open PySem PySem.Spec PyProof.Rows L2
end Dv
namespace Dv
open PySem PySem.Spec PyProof.Rows L2
end Dv
namespace Dv
open PySem PySem.Spec PyProof.Rows L2
/-- the members of a set that holds the keys of done, once each -/
structure SetI (B : Hp) (Mm : List (List Key × Addr)) (done : List (List Key)) : Prop where
  keys : ∀ m ∈ Mm, TupB B m.2 (m.1.map kV)
  nd : (Mm.map fun m => m.1).Nodup
  mem : ∀ k, k ∈ Mm.map (fun m => m.1) ↔ k ∈ done
  le : Mm.length ≤ done.length
theorem SetI.mono {B B' : Hp} {Mm : List (List Key × Addr)} {done : List (List Key)} (h : SetI B Mm done) (s : Same B B') : SetI B' Mm done := ⟨fun m hm => (h.keys m hm).mono s, h.nd, h.mem, h.le⟩
theorem SetI.put {B : Hp} {Mm M2 : List (List Key × Addr)} {done : List (List Key)} {key : List Key} {c : Addr} (h : SetI B Mm done) (hc : TupB B c (key.map kV)) (pm : M2.Perm (putM Mm key c)) : SetI B M2 (done ++ [key]) := by
  have pm1 : (M2.map fun m => m.1).Perm ((putM Mm key c).map fun m => m.1) := pm.map _
  refine ⟨fun m hm => ?_, pm1.nodup_iff.mpr ?_, fun k => (pm1.mem_iff).trans ?_, ?_⟩
  · have hm := pm.mem_iff.mp hm
    unfold putM at hm
    split at hm
    · exact h.keys m hm
    · rcases List.mem_cons.mp hm with e | hm
      · rw [e]; exact hc
      · exact h.keys m hm
  · unfold putM
    split
    · exact h.nd
    · rename_i z
      exact List.nodup_cons.mpr ⟨z, h.nd⟩
  · unfold putM
    split
    · rename_i z
      rw [h.mem k, List.mem_append, List.mem_singleton]
      exact ⟨.inl, fun e => e.elim id fun e => by rw [e]; exact (h.mem key).mp z⟩
    · rw [List.map_cons, List.mem_cons, h.mem k, List.mem_append, List.mem_singleton]
      exact Or.comm
  · rw [pm.length_eq, List.length_append, List.length_singleton]
    have := h.le
    unfold putM
    split
    · omega
    · rw [List.length_cons]; omega
end Dv
namespace Dv
open PySem PySem.Spec PyProof.Rows L2
end Dv
namespace Dv
open PySem PySem.Spec PyProof.Rows L2
end Dv
namespace Dv
open PySem PySem.Spec PyProof.Rows L2
end Dv
namespace Dv
open PySem PySem.Spec PyProof.Rows L2
end Dv
namespace Dv
open PySem PySem.Spec PyProof.Rows L2
end Dv
namespace Dv
open PySem PySem.Spec PyProof.Rows L2
end Dv
namespace Dv
open PySem PySem.Spec PyProof.Rows L2
end Dv
namespace Dv
open PySem PySem.Spec PyProof.Rows L2
end Dv
namespace Dv
open PySem PySem.Spec PyProof.Rows L2
end Dv
namespace Dv
open PySem PySem.Spec PyProof.Rows L2
end Dv
namespace Dv
open PySem PySem.Spec PyProof.Rows L2
end Dv
namespace Dv
open PySem PySem.Spec PyProof.Rows L2
theorem le5 {I b : Nat} (h : b = I + 4 ∨ b = I + 2 ∨ b = I + 3 ∨ b = I ∨ b = I + 1) : b ≤ I + 4 := by omega
end Dv
namespace Dv
open PySem PySem.Spec PyProof.Rows L2
end Dv
namespace Dv
open PySem PySem.Spec PyProof.Rows L2
/-- called by place, n and more things: what is left over as a tuple behind the n -/
def spXV {K : PySem.W.Frag} (G : Gx K) (F : List D → U → Option (R × U)) (n : Nat) : Sp := fun vs H Q E => ∃ ua u B ds r u', Reps G ua ds vs B ∧ n ≤ ds.length ∧ ds.length ≤ 1000 ∧ Wd ua u B H ∧ F (ds.take n ++ [.tup (ds.drop n)]) u = some (r, u') ∧ OutR G ua B H u' Q E r
def DefOkXV (P : Program) (w : World) {K : PySem.W.Frag} (mg : Str → Option Value) (base : Heap) (G : Gx K) (x : Str) (k n : Nat) (F : List D → U → Option (R × U)) : Prop :=
  ∃ f, FnR P w K mg base (L2.CX P w) k f (spXV G F n) ∧ mg x = some (.ref f) ∧ PySem.W.keepIn K (.ref f) = true
theorem DefOkXV.mono {P : Program} {w : World} {K : PySem.W.Frag} {mg : Str → Option Value} {base : Heap} {G : Gx K} {x : Str} {j k n : Nat} {F : List D → U → Option (R × U)} (h : DefOkXV P w mg base G x j n F) (l : j ≤ k) : DefOkXV P w mg base G x k n F := by
  obtain ⟨f, h1, h2⟩ := h
  exact ⟨f, h1.mono l, h2⟩
end Dv
namespace Dv
open PySem PySem.Spec PyProof.Rows L2
/-- several values, or what the first of them raises -/
inductive RS where
  | oks (ds : List D) | er (c : Str) (ns : List Str) (xs : List D)
abbrev MXs := List Sl → U → Option (RS × U)
def OutRs {K : PySem.W.Frag} (G : Gx K) (ua : Option Addr) (B H : Hp) (u' : U) (Q : List V → Hp → Prop) (E : XK) : RS → Prop
  | .oks ds => ∀ vs H', Afts G ua B H u' ds vs H' → Q vs H'
  | .er c ns xs => ∀ cls d H', AftE G ua B H u' c ns xs cls d H' → E cls d H'
section
variable {X : Cx} {G : Gx X.K} {W : WX} {e a b c : Expr} {es : List Expr} {m ma mb : M} {mc : MB} {me : M} {mx my : MX} {ms : MXs} {pos p : Pos}
def tEvsX (G : Gx X.K) (W : WX) (ms : MXs) : TA := fun σ H Q => ∃ ua u B env r u', EnvOk G ua env σ B H ∧ Wd ua u B H ∧ ms env u = some (r, u') ∧ OutRs G ua B H u' Q (fun c d H' => W c d σ H') r
def xsNil : MXs := fun _ u => some (.oks [], u)
def xsCons (mx : MX) (ms : MXs) : MXs := fun env u => match mx env u with
  | some (.ok d, u1) => (match ms env u1 with
    | some (.oks ds, u2) => some (.oks (d :: ds), u2)
    | some (.er c ns xs, u2) => some (.er c ns xs, u2)
    | none => none)
  | some (.er c ns xs, u1) => some (.er c ns xs, u1)
  | none => none
theorem dxs_nil : PA X [] (tEvsX G W xsNil) := by
  refine pa_nil.imp fun σ H Q h => ?_
  obtain ⟨ua, u, B, env, r, u', hE, hW, hm, q⟩ := h
  cases hm
  exact q [] H ⟨B, .refl, hW, .nil⟩
theorem dxs_cons (ha : PE X e (tEvX G W mx)) (hr : PA X es (tEvsX G W ms)) (hs : starEach (e :: es) X.env = (false, eval e X.env) :: starEach es X.env := by rfl) : PA X (e :: es) (tEvsX G W (xsCons mx ms)) := by
  refine (pa_cons ha hr hs).imp fun σ H Q h => ?_
  obtain ⟨ua, u, B, env, r, u', hE, hW, hm, q⟩ := h
  unfold xsCons at hm
  split at hm
  · rename_i d u1 h1
    split at hm
    · rename_i ds u2 h2
      cases hm
      exact ⟨ua, u, B, env, .ok d, u1, hE, hW, h1, fun v H1 ⟨B1, g1, w1, r1⟩ => ⟨ua, u1, B1, env, .oks ds, _, hE.grow g1, w1, h2, fun vs H2 ⟨B2, g2, w2, r2⟩ => q _ _ ⟨B2, g1.trans g2, w2, .cons (r1.mono _ _ g2.pub) r2⟩⟩⟩
    · rename_i c ns xs u2 h2
      cases hm
      exact ⟨ua, u, B, env, .ok d, u1, hE, hW, h1, fun v H1 ⟨B1, g1, w1, r1⟩ => ⟨ua, u1, B1, env, .er c ns xs, _, hE.grow g1, w1, h2, fun cls dd H2 z => q cls dd H2 (z.up g1)⟩⟩
    · cases hm
  · rename_i c ns xs u1 h1
    cases hm
    exact ⟨ua, u, B, env, .er c ns xs, _, hE, hW, h1, fun cls dd H1 z => q cls dd H1 z⟩
  · cases hm
def xDo (f : List D → U → Option (D × U)) (ms : MXs) : MX := fun env u => match ms env u with
  | some (.oks ds, u1) => (match f ds u1 with
    | some (d, u2) => some (.ok d, u2)
    | none => none)
  | some (.er c ns xs, u1) => some (.er c ns xs, u1)
  | none => none
theorem xDo_some {f : List D → U → Option (D × U)} {env : List Sl} {u u' : U} {r : R} (h : xDo f ms env u = some (r, u')) : (∃ ds u1 d, ms env u = some (.oks ds, u1) ∧ f ds u1 = some (d, u') ∧ r = .ok d) ∨ ∃ c ns xs, ms env u = some (.er c ns xs, u') ∧ r = .er c ns xs := by
  unfold xDo at h
  split at h
  · rename_i ds u1 h1
    split at h
    · rename_i d u2 h2
      cases h
      exact .inl ⟨ds, u1, d, h1, h2, rfl⟩
    · cases h
  · rename_i c ns xs u1 h1
    cases h
    exact .inr ⟨c, ns, xs, h1, rfl⟩
  · cases h
def fTup (ds : List D) (u : U) : Option (D × U) := if ds.length ≤ sizeLine then some (.tup ds, u) else none
theorem dx_tup {k : Nat} (h : PA X es (tEvsX G W ms)) : PE X (.Tuple es k pos) (tEvX G W (xDo fTup ms)) := by
  refine (pe_tupF h).imp fun σ H Q h => ?_
  obtain ⟨ua, u, B, env, r, u', hE, hW, hm, q⟩ := h
  rcases xDo_some hm with ⟨ds, u1, d, h1, h2, rfl⟩ | ⟨c, ns, xs, h1, rfl⟩
  · unfold fTup at h2
    split at h2
    · cases h2
      exact ⟨ua, u, B, env, _, _, hE, hW, h1, fun vs H1 ⟨B1, g1, w1, r1⟩ => ⟨by rw [← r1.len]; assumption, fun p o hp ho => q _ _ (.up g1 (.tup w1 hp ho r1))⟩⟩
    · cases h2
  · exact ⟨ua, u, B, env, _, _, hE, hW, h1, q⟩
def fBi (sem : List D → Option D) (ds : List D) (u : U) : Option (D × U) := lft (sem ds) u
theorem xbi_read {sem : List D → Option D} {σ : L2.St} {H : Hp} {Q : VK} (h : tEvX G W (xDo (fBi sem) ms) σ H Q) : tCB (rBi G sem) (tEvsX G W ms) σ H Q := by
  obtain ⟨ua, u, B, env, r, u', hE, hW, hm, q⟩ := h
  rcases xDo_some hm with ⟨ds, u1, d, h1, h2, rfl⟩ | ⟨c, ns, xs, h1, rfl⟩
  · obtain ⟨l2, rfl⟩ := lft_some h2
    exact ⟨ua, u, B, env, .oks ds, u', hE, hW, h1, fun vs H1 ⟨B1, g1, w1, r1⟩ => ⟨ua, u', B1, ds, d, l2, r1, w1, fun v H2 a => q _ _ (.up g1 a)⟩⟩
  · exact ⟨ua, u, B, env, _, _, hE, hW, h1, q⟩
theorem dx_ty {x : Str} {T : String} {sem : List D → Option D} (hc : BiOk G (.type T) sem) (hg : Gl X x) (hm : X.mg x = none) (hv : bootBuiltins x = some (.type T)) (ha : PA X (e :: es) (tEvsX G W ms)) (hn : x ≠ "__name__" := by decide) (hdb : (x == ("__debug__" : Str)) = false := by decide)
    (he : starEach (e :: es) X.env = (false, eval e X.env) :: starEach es X.env := by rfl) (hpl : (backTo pos (starEach es X.env)).any (·.1) = false := by rfl) : PE X (.Call (.Name x p) (e :: es) [] pos) (tEvX G W (xDo (fBi sem) ms)) :=
  (pe_callTy (call_of hc) hg hm hv ha hn hdb he hpl).imp fun _ _ _ h => xbi_read h
abbrev MXI := List Sl → U → Option (RS × U)
def tItX (G : Gx X.K) (W : WX) (m : MXI) : TI := fun σ H R => ∃ ua u B env r u', EnvOk G ua env σ B H ∧ Wd ua u B H ∧ m env u = some (r, u') ∧ match r with
  | .oks ds => ∀ J B' H', Grow ua B H B' H' → Wd ua u' B' H' → Wk G ua J B' ds → R J H'
  | .er c ns xs => ∀ cls d H', AftE G ua B H u' c ns xs cls d H' → W cls d σ H'
def xItems (mx : MX) : MXI := fun env u => match mx env u with
  | some (.ok d, u1) => (match itemsD d with
    | some ds => some (.oks ds, u1)
    | none => none)
  | some (.er c ns xs, u1) => some (.er c ns xs, u1)
  | none => none
theorem di_itemsX {tg e : Expr} (he : PE X e (tEvX G W mx)) : PI X tg e (tItX G W (xItems mx)) := by
  refine PI.by fun σ H R h => ?_
  obtain ⟨ua, u, B, env, r, u', hE, hW, hm, q⟩ := h
  unfold xItems at hm
  split at hm
  · rename_i d u1 h1
    split at hm
    · rename_i ds l2
      cases hm
      cases d with
      | lst xs =>
        cases l2
        refine ⟨_, pi_list he, ua, u, B, env, .ok _, _, hE, hW, h1, fun v H1 ⟨B1, g1, w1, r1⟩ => ?_⟩
        obtain ⟨a, vs, rfl, h, rs⟩ := r1.lst
        exact ⟨a, rfl, ⟨vs, .of (w1.sub _ _ h)⟩, q _ _ _ g1 w1 (wk_lst h rs)⟩
      | tup xs =>
        cases l2
        refine ⟨_, pi_tup he, ua, u, B, env, .ok _, _, hE, hW, h1, fun v H1 ⟨B1, g1, w1, r1⟩ => ?_⟩
        obtain ⟨a, vs, rfl, h, rs⟩ := r1.tup
        exact ⟨a, rfl, ⟨vs, (h.mono w1.sub).sq⟩, q _ _ _ g1 w1 (wk_tup h rs)⟩
      | str x =>
        cases l2
        refine ⟨_, pi_str he, ua, u, B, env, .ok _, _, hE, hW, h1, fun v H1 ⟨B1, g1, w1, r1⟩ => ?_⟩
        cases r1.str
        exact ⟨_, rfl, q _ _ _ g1 w1 wk_str⟩
      | _ => cases l2
    · cases hm
  · rename_i c ns xs u1 h1
    cases hm
    exact ⟨_, pi_list he, ua, u, B, env, .er c ns xs, _, hE, hW, h1, q⟩
  · cases hm
def xLc (t : Tgt) (own : List Nat) (mi : MXI) (mc : MB) (me : M) : MX := fun env u => match mi env u with
  | some (.oks ds, u1) => (match compL (turnL t own env mc me) ds u1 with
    | some (r, u2) => if r.length ≤ sizeLine then some (.ok (.lst r), u2) else none
    | none => none)
  | some (.er c ns xs, u1) => some (.er c ns xs, u1)
  | none => none
theorem lc_readX {t : Tgt} {own : List Nat} {mi : MXI} {σ : L2.St} {H : Hp} {Q : VK} (ht : ∀ i ∈ t.ids, i ∈ own) (h : tEvX G W (xLc t own mi mc me) σ H Q) : tLc (tItX G W mi) (gOf X.K t) (tTst G mc) (tEv G me) own σ H Q := by
  obtain ⟨ua, u, B, env, r, u', hE, hW, hm, q⟩ := h
  unfold xLc at hm
  split at hm
  · rename_i ds u1 h1
    split at hm
    · rename_i r2 u2 h3
      split at hm
      · cases hm
        exact ⟨ua, u, B, env, .oks ds, u1, hE, hW, h1, fun J B1 H1 g1 w1 wk => lc_inner ht (hE.grow g1) w1 wk h3 ‹_› fun v H' a => q v H' (.up g1 a)⟩
      · cases hm
    · cases hm
  · rename_i c ns xs u1 h1
    cases hm
    exact ⟨ua, u, B, env, .er c ns xs, _, hE, hW, h1, q⟩
  · cases hm
variable {elt tg iter : Expr} {ifs : List Expr} {scope : Scope} {own : List (Str × Nat)} {mi : MXI}
theorem dx_lc (t : Tgt) (ids : List Nat) (hc : X.calm = true) (hN : X.N.Nodup) (hi : PI X tg iter (tItX G W mi)) (ok : BlkOk X.N X.env.scope scope own) (hid : own.map (·.2) = ids) (ht : ∀ i ∈ t.ids, i ∈ ids)
    (hg : ∀ (s : Shared) (H : Hp) (C : Addr) (cl : List (Str × Addr)) (fp : List Addr), PG (X.blk s H scope (compEnvC scope cl C X.env) fp) tg (gOf X.K t)) (hq : ∀ (s : Shared) (H : Hp) (C : Addr) (cl : List (Str × Addr)) (fp : List Addr), PTs (X.blk s H scope (compEnvC scope cl C X.env) fp) ifs (tTst (K := X.K) G mc))
    (he : ∀ (s : Shared) (H : Hp) (C : Addr) (cl : List (Str × Addr)) (fp : List Addr), PE (X.blk s H scope (compEnvC scope cl C X.env) fp) elt (tEv (K := X.K) G me)) (hs : ∀ x, foldedSetIterable iter X.env x = pure x := by intro _; rfl) :
    PE X (.ListComp elt [⟨tg, iter, ifs, 0⟩] scope pos) (tEvX G W (xLc t ids mi mc me)) := by
  subst hid
  exact (pe_lc hc hN hi ok hg hq he hs).imp fun _ _ _ h => lc_readX ht h
end
end Dv
namespace Dv
open PySem PySem.Spec PyProof.Rows L2
section
variable {X : Cx} {G : Gx X.K} {W : WX} {a b : Expr} {mx my : MX} {pos p2 : Pos}
def xBin (f : D → D → Option D) (mx my : MX) : MX := fun env u => match mx env u with
  | some (.ok x, u1) => (match my env u1 with
    | some (.ok y, u2) => (match f x y with
      | some z => some (.ok z, u2)
      | none => none)
    | some (.er c ns xs, u2) => some (.er c ns xs, u2)
    | none => none)
  | some (.er c ns xs, u1) => some (.er c ns xs, u1)
  | none => none
theorem dx_bin {op : Operator} {f : D → D → Option D} (hf : BinOk G (binaryOp op) f) (ha : PE X a (tEvX G W mx)) (hb : PE X b (tEvX G W my)) : PE X (.BinOp a op b pos) (tEvX G W (xBin f mx my)) := by
  refine (pe_op (op_of hf) ha hb).imp fun σ H Q h => ?_
  obtain ⟨ua, u, B, env, r, u', hE, hW, hm, q⟩ := h
  unfold xBin at hm
  split at hm
  · rename_i x u1 h1
    split at hm
    · rename_i y u2 h2
      split at hm
      · rename_i z hz
        cases hm
        exact ⟨ua, u, B, env, .ok x, u1, hE, hW, h1, fun v H1 ⟨B1, g1, w1, r1⟩ => ⟨ua, u1, B1, env, .ok y, _, hE.grow g1, w1, h2, fun v2 H2 ⟨B2, g2, w2, r2⟩ =>
          ⟨ua, _, B2, x, y, z, hz, r1.mono _ _ g2.pub, r2, w2, fun v3 H3 a => q v3 H3 (.up g1 (.up g2 a))⟩⟩⟩
      · cases hm
    · rename_i c ns xs u2 h2
      cases hm
      exact ⟨ua, u, B, env, .ok x, u1, hE, hW, h1, fun v H1 ⟨B1, g1, w1, r1⟩ => ⟨ua, u1, B1, env, .er c ns xs, _, hE.grow g1, w1, h2, fun cls dd H2 z => q cls dd H2 (z.up g1)⟩⟩
    · cases hm
  · rename_i c ns xs u1 h1
    cases hm
    exact ⟨ua, u, B, env, .er c ns xs, _, hE, hW, h1, q⟩
  · cases hm
def xSl (mx : MX) (lo hi : MO) : MX := fun env u => match mx env u with
  | some (.ok x, u1) => (match (bnd (lo env u1) fun l u2 => bnd (hi env u2) fun h u3 => lft (slD x l h) u3) with
    | some (d, u') => some (.ok d, u')
    | none => none)
  | some (.er c ns xs, u1) => some (.er c ns xs, u1)
  | none => none
theorem dx_sl {lo hi : Option Expr} {ml mh : MO} (ha : PE X a (tEvX G W mx)) (hl : PO X lo (tEvO G ml)) (hh : PO X hi (tEvO G mh)) : PE X (.Subscript a (.Slice lo hi none p2) pos) (tEvX G W (xSl mx ml mh)) := by
  refine (pe_slice (sl_list.or (sl_tupF.or sl_str)) ha hl hh).imp fun σ H Q h => ?_
  obtain ⟨ua, u, B, env, r, u', hE, hW, hm, q⟩ := h
  unfold xSl at hm
  split at hm
  · rename_i x u1 h1
    split at hm
    · rename_i d u9 h2
      cases hm
      obtain ⟨l, u2, h2, h3⟩ := bnd_some h2
      obtain ⟨h, u3, h3, h4⟩ := bnd_some h3
      obtain ⟨l4, rfl⟩ := lft_some h4
      refine ⟨ua, u, B, env, .ok x, u1, hE, hW, h1, fun v H1 ⟨B1, g1, w1, r1⟩ => ⟨ua, u1, B1, env, l, u2, hE.grow g1, w1, h2, fun H2 ⟨B2, g2, w2⟩ => ⟨ua, u2, B2, env, h, _, (hE.grow g1).grow g2, w2, h3, fun H3 ⟨B3, g3, w3⟩ => ?_⟩⟩⟩
      have r1 := (r1.mono _ _ g2.pub).mono _ _ g3.pub
      have gg := g1.trans (g2.trans g3)
      unfold slD at l4
      split at l4
      · cases l4
        obtain ⟨p, xs, rfl, h, r3⟩ := r1.lst
        exact .inl ⟨p, xs, rfl, .of (w3.sub _ _ h), fun p hp => q _ _ (.up gg (.lst w3 hp (r3.cut _ _)))⟩
      · cases l4
        have r1' := r1
        obtain ⟨p, xs, rfl, h, r3⟩ := r1.tup
        refine .inr (.inl ⟨p, xs, rfl, (h.mono w3.sub).sq, fun hw => q _ _ ⟨B3, gg, w3, ?_⟩, fun _ p o hp ho => q _ _ (.up gg (.tup w3 hp ho (r3.cut _ _)))⟩)
        unfold cutD
        rw [r3.len, hw.1, hw.2, List.drop_zero, Nat.sub_zero, ← r3.len, List.take_length]
        exact r1'
      · split at l4
        · cases l4
          cases r1.str
          exact .inr (.inr ⟨_, rfl, ‹_›, q _ _ ⟨B3, gg, w3, rep_str⟩⟩)
        · cases l4
      · cases l4
    · cases hm
  · rename_i c ns xs u1 h1
    cases hm
    exact ⟨ua, u, B, env, .er c ns xs, _, hE, hW, h1, q⟩
  · cases hm
end
end Dv
namespace Dv
open PySem PySem.Spec PyProof.Rows L2
section
variable {X : Cx} {G : Gx X.K} {e o : Expr} {me mo : M} {pos : Pos}
theorem dt_din (hu : X.A.units + 1 < cLine) (hi : PE X e (tEv G me)) (ho : PE X o (tEv G mo)) (hm : behindInMarks .In o = false := by rfl) : PT X (.Compare e [.In] [o] pos) (tTst G (mTru (mBin (dinD false) me mo))) :=
  (pt_cmp (pc_din hu hi ho) hm).imp fun σ H Q h => by
  obtain ⟨ua, u, B, env, b, u', hE, hW, hm, q⟩ := h
  obtain ⟨d, u0, c0, c5⟩ := bnd_some hm
  obtain ⟨x, u1, c1, c2⟩ := bnd_some c0
  obtain ⟨y, u2, c3, c4⟩ := bnd_some c2
  obtain ⟨l4, rfl⟩ := lft_some c4
  refine ⟨ua, u, B, env, x, u1, hE, hW, c1, fun v H1 ⟨B1, g1, w1, r1⟩ => ⟨ua, u1, B1, env, y, _, hE.grow g1, w1, c3, fun v2 H2 ⟨B2, g2, w2, r2⟩ => ?_⟩⟩
  cases y with
  | dct ks ds =>
    have l4 : (keyOf x).map (fun key => D.bl (xor false (valD ks ds key).isSome)) = some d := l4
    cases hk : keyOf x with
    | none => rw [hk] at l4; cases l4
    | some key =>
      rw [hk] at l4
      cases l4
      obtain ⟨l2, rfl⟩ := lft_some c5
      cases l2
      obtain ⟨a, ov, rfl, hd, es⟩ := dct_get r2 w2.sub hk (r1.mono _ _ g2.pub)
      have z := q H2 ⟨B2, g1.trans g2, w2⟩
      have ez : xor false (valD ks ds key).isSome = ov.isSome := by rw [es]; cases (valD ks ds key).isSome <;> rfl
      rw [ez] at z
      exact ⟨a, ov, rfl, hd, _, rfl, z⟩
  | _ => cases l4
theorem dt_dnotin (hu : X.A.units + 1 < cLine) (hi : PE X e (tEv G me)) (ho : PE X o (tEv G mo)) (hm : behindInMarks .NotIn o = false := by rfl) : PT X (.Compare e [.NotIn] [o] pos) (tTst G (mTru (mBin (dinD true) me mo))) :=
  (pt_cmp (pc_dnotin hu hi ho) hm).imp fun σ H Q h => by
  obtain ⟨ua, u, B, env, b, u', hE, hW, hm, q⟩ := h
  obtain ⟨d, u0, c0, c5⟩ := bnd_some hm
  obtain ⟨x, u1, c1, c2⟩ := bnd_some c0
  obtain ⟨y, u2, c3, c4⟩ := bnd_some c2
  obtain ⟨l4, rfl⟩ := lft_some c4
  refine ⟨ua, u, B, env, x, u1, hE, hW, c1, fun v H1 ⟨B1, g1, w1, r1⟩ => ⟨ua, u1, B1, env, y, _, hE.grow g1, w1, c3, fun v2 H2 ⟨B2, g2, w2, r2⟩ => ?_⟩⟩
  cases y with
  | dct ks ds =>
    have l4 : (keyOf x).map (fun key => D.bl (xor true (valD ks ds key).isSome)) = some d := l4
    cases hk : keyOf x with
    | none => rw [hk] at l4; cases l4
    | some key =>
      rw [hk] at l4
      cases l4
      obtain ⟨l2, rfl⟩ := lft_some c5
      cases l2
      obtain ⟨a, ov, rfl, hd, es⟩ := dct_get r2 w2.sub hk (r1.mono _ _ g2.pub)
      have z := q H2 ⟨B2, g1.trans g2, w2⟩
      have ez : xor true (valD ks ds key).isSome = !ov.isSome := by rw [es]; cases (valD ks ds key).isSome <;> rfl
      rw [ez] at z
      exact ⟨a, ov, rfl, hd, _, rfl, z⟩
  | _ => cases l4
end
end Dv
namespace Dv
open PySem PySem.Spec PyProof.Rows L2
/-- signs of a text with the items of the list at b (of n items) -/
def Itsl (K : PySem.W.Frag) (x : Str) (b : Addr) (n : Nat) : It :=
  ⟨fun i H => ∃ (ys : List V) (y : V), SqL K H b ys ∧ ys.length = n ∧ i < x.cps.size ∧ ys[i]? = some y, fun i H v H' => ∃ T c y, v = .ref T ∧ H T = none ∧ H' = upd H T (.tup [.str ⟨#[c]⟩, y]) ∧ x.cps[i]? = some c ∧ ∀ ys, SqL K H b ys → ys[i]? = some y, fun i H => ∃ ys : List V, SqL K H b ys ∧ ys.length = n ∧ (x.cps.size ≤ i ∨ n ≤ i)⟩
def tnSL (I : Nat) (x : Str) (t : Tok) (b n i : Nat) (h : Heap) : Prop :=
  IsZip h (I + 4) (I + 2) (I + 3) .none ∧ IsTupOf2 h (I + 2) (.ref I) (.ref (I + 1)) ∧ (∃ a1 a2, IsTupOf2 h (I + 3) a1 a2) ∧ h.IsStrIter I (strIterType x) x t i ∧ h.IsListIter (I + 1) b i ∧ i ≤ x.cps.size ∧ i ≤ n
theorem apart0 {I b : Nat} (h : b < I) : I ≠ b := by omega
theorem apart1 {I b : Nat} (h : b < I) : b ≠ I + 1 := by omega
theorem apart3 {I b : Nat} (h : b < I) : I + 3 ≠ b := by omega
theorem apart4 {I b : Nat} (h : b < I) : I + 4 ≠ b := by omega
theorem sepSL (I b : Nat) (hb : b < I) : ZipSep2 (I + 4) (I + 2) (I + 3) I (I + 1) [I] [I + 1, b] := by
  have k0 := apart0 hb
  have k3 := apart3 hb
  have k4 := apart4 hb
  refine ⟨?_, ?_, ?_, ?_, ?_, ?_, ?_, ?_, ?_, ?_, ?_, ?_, ?_⟩ <;> simp [k0, k3, k4] <;> omega
theorem turn_zipSL {P : Program} {w : World} {K : PySem.W.Frag} {elts : List Expr} {kk : Nat} {tpos : Pos} (I : Nat) (x : Str) (t : Tok) (b n : Nat) (hb : b < I) :
    Turn P w K (.Tuple elts kk tpos) (Itsl K x b n) [I + 4, I + 2, I + 3, I, I + 1] (I + 4) (fun i h => tnSL I x t b n i h) where
  mem := by simp
  obj := fun i h st c hc => by
    obtain ⟨hz, hTI, ⟨a1, a2, hTO⟩, ⟨o1, e1, _, d1⟩, ⟨o2, e2, _, d2⟩, _⟩ := st
    have e' : c = I + 4 ∨ c = I + 2 ∨ c = I + 3 ∨ c = I ∨ c = I + 1 := by simpa using hc
    rcases e' with q | q | q | q | q
    · rw [q]; exact ⟨_, hz, fun v q => nomatch q⟩
    · rw [q]; exact ⟨_, hTI, fun v q => nomatch q⟩
    · rw [q]; exact ⟨_, hTO, fun v q => nomatch q⟩
    · rw [q]; exact ⟨o1, e1, fun v q => by rw [d1] at q; cases q⟩
    · rw [q]; exact ⟨o2, e2, fun v q => by rw [d2] at q; cases q⟩
  keep := fun i h h' st k => by
    obtain ⟨hz, hTI, ⟨a1, a2, hTO⟩, ⟨o1, e1, r1⟩, hr, l1, l2⟩ := st
    exact ⟨k _ (by simp) _ hz, k _ (by simp) _ hTI, ⟨a1, a2, k _ (by simp) _ hTO⟩, ⟨o1, k _ (by simp) _ e1, r1⟩, hr.at fun o q => k _ (by simp) o q, l1, l2⟩
  item := by
    intro X hP hw hK hc i pins s σ H E J hf st hg
    subst hP hw hK
    obtain ⟨hz, hTI, ⟨a1, a2, hTO⟩, h1, h2, l1, l2⟩ := st
    obtain ⟨ys, y, hqy, hn, g1, hy⟩ := hg
    obtain ⟨its2, rv2, p2, _⟩ := J.list hqy
    obtain ⟨u2, hu2, ru2⟩ := rv2.get hy
    have ln := rv2.length
    have g2 : i < its2.toArray.size := by
      rcases Nat.lt_or_ge i its2.length with q | q
      · simpa using q
      · rw [List.getElem?_eq_none q] at hu2; cases hu2
    have hzl : I + 4 < s.heap.objs.size := Heap.lt_size hz
    have hh : X.A.in1.handled = none := J.ok.hd hc
    refine wpAny_pyNext_zipD2_item (sepSL I b hb) (Draws.text hh I x t) (Draws.list hh (I + 1) b (apart1 hb) its2.toArray) hz hTI hTO h1 ⟨h2, p2.isList⟩ g1 g2 fun x1 x2 h' tk p1 p2' z' TO' h1' h2' hT hsz hk => ?_
    obtain ⟨c, u1, hcx, rfl⟩ := p1
    have e2 : u2 = x2 := by
      have : its2.toArray[i]? = some u2 := by simpa using hu2
      rw [this] at p2'; exact Option.some.inj p2'
    subst e2
    refine ⟨_, rfl, wpAny_letOwnedTupleGo_zip (s := { s with heap := h', toks := tk }) z' fun h'' z'' sb => ?_⟩
    have hT2 : h''.get? s.heap.objs.size = some { cls := .type "tuple", data := .seq #[.str ⟨#[c]⟩ u1, u2] } := (sb.2 _ (Nat.ne_of_gt hzl)).trans hT
    have new : ObjOk X.prog X.w (upd H s.heap.objs.size (.tup [.str ⟨#[c]⟩, y])) h'' s.heap.objs.size (.tup [.str ⟨#[c]⟩, y]) :=
      ⟨by show 2 ≤ sizeLine; decide, [.str ⟨#[c]⟩ u1, u2], .cons ⟨_, rfl⟩ (.cons ru2 .nil), ⟨_, hT2, rfl, _, rfl⟩⟩
    have n0 : I ≠ I + 4 := by omega
    have n1 : I + 1 ≠ I + 4 := by omega
    have n2 : I + 2 ≠ I + 4 := by omega
    have n3 : I + 3 ≠ I + 4 := by omega
    have m1 : I + 2 ≠ I + 3 := by omega
    have m2 : I + 2 ≠ I := by omega
    have m3 : I + 2 ≠ I + 1 := by omega
    have I1 : Inv X pins σ (upd H s.heap.objs.size (.tup [.str ⟨#[c]⟩, y])) { s with heap := h'', toks := tk } :=
      J.turnedNew (t' := tk) (ch := [I + 4, I + 2, I + 3, I, I + 1]) (fun b o hb q => (sb.2 b (fun q' => hb (by simp [q']))).trans (hk b o (fun q' => hb (by simp [q'])) (fun q' => hb (by simp [q'])) (fun q' => hb (by simp [q'])) (fun q' => hb (by simp [q'])) q)) hf (Nat.le_refl _) new
    have g3 : i + 1 ≤ n := by simp only [List.size_toArray] at g2; omega
    refine ⟨.ref s.heap.objs.size, _, I1, rfl, ⟨_, c, y, rfl, J.hok.fresh (Nat.le_refl _), rfl, hcx, fun l hl => by rw [J.list_inj hl hqy]; exact hy⟩, ⟨z'', ?_, ⟨_, _, (sb.2 _ n3).trans TO'⟩, ?_, h2'.1.at fun o q => (sb.2 _ n1).trans q, g1, g3⟩, fun b hcm => ?_⟩
    · exact (sb.2 _ n2).trans (hk _ _ n2 m1 m2 m3 hTI)
    · obtain ⟨o, e, r⟩ := h1'
      exact ⟨o, (sb.2 _ n0).trans e, r⟩
    · have hlt : b < s.heap.objs.size := by
        have e' : b = I + 4 ∨ b = I + 2 ∨ b = I + 3 ∨ b = I ∨ b = I + 1 := by simpa using hcm
        exact Nat.lt_of_le_of_lt (le5 e') hzl
      rw [upd_ne (Nat.ne_of_lt hlt)]
      exact (hf b hcm).1
  done := by
    intro X hP hw hK hc i pins s σ H E J hf st hg
    subst hP hw hK
    obtain ⟨hz, hTI, ⟨a1, a2, hTO⟩, h1, h2, l1, l2⟩ := st
    have hh : X.A.in1.handled = none := J.ok.hd hc
    obtain ⟨ys, hqy, hn, hend⟩ := hg
    obtain ⟨its2, rv2, p2, _⟩ := J.list hqy
    have ln := rv2.length
    have sz : its2.toArray.size = n := by simp; omega
    exact wpAny_pyNext_zipD2_end (sepSL I b hb) (Draws.text hh I x t) (Draws.list hh (I + 1) b (apart1 hb) its2.toArray) hz hTI hTO h1 ⟨h2, p2.isList⟩ l1 (by omega) (by omega) fun h' tk hk => ⟨rfl, J.turnedL (t' := tk) (ch := [I + 4, I + 2, I + 3, I, I + 1]) (fun c o hb q =>
      hk c o (fun q' => hb (by simp [q'])) (fun q' => hb (by simp [q'])) (fun q' => hb (by simp [q'])) (fun q' => hb (by simp [q'])) q) hf⟩
  self := fun A i s Q E st h => wpAny_pyIter_zip st.1 h
def iZipSL (K : PySem.W.Frag) (ta : TA) : TI := fun σ H R => ta σ H fun vs H1 => ∃ x b ys, vs = [.str x, .ref b] ∧ SqL K H1 b ys ∧ R (Itsl K x b ys.length) H1
theorem pi_zipSL {X : Cx} {e e2 : Expr} {ta : TA} {p pos tpos : Pos} {elts : List Expr} {kk : Nat} (hg : Gl X "zip") (hm : X.mg "zip" = none) (ha : PA X [e, e2] ta)
    (hs : starEach [e, e2] X.env = (false, eval e X.env) :: starEach [e2] X.env := by rfl) (hpl : (backTo pos (starEach [e2] X.env)).any (·.1) = false := by rfl) :
    PI X (.Tuple elts kk tpos) (.Call (.Name "zip" p) [e, e2] [] pos) (iZipSL X.K ta) := by
  refine ⟨fun pins s σ H R I h => ?_⟩
  refine Call_ (ld_blt I hg hm PyProof.Rows.boot_zip (PyProof.Rows.callWith_type1 (thn (ha.run pos pins s σ H _ I h) fun us s1 ⟨vs, H1, I1, r1, q1⟩ => ?_) hs hpl))
  obtain ⟨x, b, ys, ex, hqy, q⟩ := q1
  subst ex
  cases r1 with
  | cons ra rr =>
    cases rr with
    | cons rb rr =>
      cases rr
      obtain ⟨t, rfl⟩ := ra
      cases rb
      obtain ⟨its2, rv2, p2, _⟩ := I1.list hqy
      have lb : b < s1.heap.objs.size := p2.lt
      refine zip_begins2 (begins_text x t) (begins_list b its2.toArray) trivial p2.isList fun h' hz hTI hTO g1 g2 hsz hk => wpAny_pyIter_zip hz ?_
      have I2 : Inv X pins σ H1 { s1 with heap := h' } := I1.kept (t' := s1.toks) hk
      refine ⟨s1.heap.objs.size + 4, [s1.heap.objs.size + 4, s1.heap.objs.size + 2, s1.heap.objs.size + 3, s1.heap.objs.size, s1.heap.objs.size + 1], _, _, H1, rfl, I2, turn_zipSL s1.heap.objs.size x t b ys.length lb, ⟨hz, hTI, ⟨_, _, hTO⟩, ⟨_, g1, rfl, rfl⟩, ⟨_, g2, rfl, rfl⟩, Nat.zero_le _, Nat.zero_le _⟩, fun c hcm => ?_, q⟩
      have e' : c = s1.heap.objs.size + 4 ∨ c = s1.heap.objs.size + 2 ∨ c = s1.heap.objs.size + 3 ∨ c = s1.heap.objs.size ∨ c = s1.heap.objs.size + 1 := by simpa using hcm
      have hle : s1.heap.objs.size ≤ c := by
        rcases e' with z | z | z | z | z
        · rw [z]; exact Nat.le_add_right _ _
        · rw [z]; exact Nat.le_add_right _ _
        · rw [z]; exact Nat.le_add_right _ _
        · rw [z]; exact Nat.le_refl _
        · rw [z]; exact Nat.le_add_right _ _
      exact I1.fpOk hle (I1.hok.fresh hle)
def signsD (x : Str) : List D := x.cps.toList.map fun c => .str ⟨#[c]⟩
section
variable {X : Cx} {G : Gx X.K} {ua : Option Addr} {B : Hp}
theorem wk_zipSL {x : Str} {b : Addr} {es : List D} {ws : List V} (h2 : B b = some (.lst ws)) (r2 : Reps G ua es ws B) : Wk G ua (Itsl X.K x b ws.length) B (zipD (signsD x) es) := fun i B' H' u s w => by
  have hq2 : SqL X.K H' b ws := .of (w.sub _ _ (s _ _ h2))
  have es0 : (signsD x)[i]? = (x.cps[i]?).map fun c => D.str ⟨#[c]⟩ := by unfold signsD; rw [List.getElem?_map, Array.getElem?_toList]
  rw [zipD_get, es0]
  refine ⟨fun d hd => ?_, fun hn => ⟨ws, hq2, rfl, ?_⟩⟩
  · cases hc : x.cps[i]? with
    | none => rw [hc] at hd; cases hd
    | some c =>
      rw [hc] at hd
      cases he : es[i]? with
      | none => rw [he] at hd; cases hd
      | some y =>
        rw [he] at hd
        cases hd
        obtain ⟨v2, hv2, rv2⟩ := r2.get he
        refine ⟨⟨ws, v2, hq2, rfl, ?_, hv2⟩, fun v H2 z => ?_⟩
        · rcases Nat.lt_or_ge i x.cps.size with h | h
          · exact h
          · rw [Array.getElem?_eq_none h] at hc; cases hc
        · obtain ⟨T, c2, y2, rfl, hT, rfl, hc2, hy2⟩ := z
          rw [hc] at hc2
          cases hc2
          have e2 := hy2 ws hq2
          rw [hv2] at e2
          cases e2
          exact .pr w hT (.cons rep_str (.cons (rv2.mono _ _ s) .nil))
  · rcases Nat.lt_or_ge i x.cps.size with h | h
    · rw [Array.getElem?_eq_getElem h] at hn
      cases he : es[i]? with
      | none => exact .inr (List.getElem?_eq_none_iff.mp (r2.none he))
      | some y => rw [he] at hn; cases hn
    · exact .inl h
def mZipSL (m m2 : M) : MI := fun env u => bnd (m env u) fun d u1 => bnd (m2 env u1) fun e u2 => match d, e with
  | .str x, .lst es => some (zipD (signsD x) es, u2)
  | _, _ => none
theorem di_zipSL {a b : Expr} {m m2 : M} {p pos tpos : Pos} {elts : List Expr} {kk : Nat} (hg : Gl X "zip") (hm : X.mg "zip" = none) (ha : PE X a (tEv G m)) (hb : PE X b (tEv G m2))
    (hs : starEach [a, b] X.env = (false, eval a X.env) :: starEach [b] X.env := by rfl) (hs2 : starEach [b] X.env = (false, eval b X.env) :: starEach [] X.env := by rfl) (hpl : (backTo pos (starEach [b] X.env)).any (·.1) = false := by rfl) :
    PI X (.Tuple elts kk tpos) (.Call (.Name "zip" p) [a, b] [] pos) (tIt G (mZipSL m m2)) := by
  refine (pi_zipSL hg hm (pa_cons ha (pa_cons hb pa_nil hs2) hs) hs hpl).imp fun σ H R h => ?_
  obtain ⟨ua, u, B, env, ds, u', hE, hW, hm, q⟩ := h
  obtain ⟨d, u1, h1, h2⟩ := bnd_some hm
  obtain ⟨d2, u2, h3, h2⟩ := bnd_some h2
  refine ⟨ua, u, B, env, d, u1, hE, hW, h1, fun v H1 ⟨B1, g1, w1, r1⟩ => ⟨ua, u1, B1, env, d2, u2, hE.grow g1, w1, h3, fun v2 H2 ⟨B2, g2, w2, r2⟩ => ?_⟩⟩
  split at h2
  · cases h2
    cases r1.str
    obtain ⟨b, ws, rfl, hl, rs⟩ := r2.lst
    exact ⟨_, b, ws, rfl, .of (w2.sub _ _ hl), q _ _ _ (g1.trans g2) w2 (wk_zipSL hl rs)⟩
  · cases h2
end
end Dv
namespace Dv
open PySem PySem.Spec PyProof.Rows L2 PySem.W
section
variable {prog : Program} {w : World} {A : Around} {E : Value → Shared → Prop} {s : Shared}
theorem kls_extend {R : Result → Shared → Prop} (hh : A.handled = none) (x : Str) (t : Tok) (S : Addr) (res : Value) (c₀ : Nat) (hS : s.heap.get? S = some { cls := .type "list", data := .seq #[] c₀ })
    (hR : ∀ h' tk acc' c', (∀ b o, b ≠ S → s.heap.get? b = some o → h'.get? b = some o) → h'.get? S = some { cls := .type "list", dict := none, data := .seq acc' c', slots := #[] } → ItemsOf (SignAt x) acc' x.cps.size → R (.ok (.ret res)) { s with heap := h', toks := tk }) (hn : x.cps.size ≤ sizeLine) :
    wpAny (model prog w) A.in1 (Builtin.List.listExtendWith (.ref S) (.str x t) res)
      (fun fin s' => match fin with | .done f => R (.ok f) s' | .again c' => c'.quiet = true ∧ codeAny (model prog w) A c' R s') (fun e s' => R (.error e) s') s := by
  have hlt := Heap.lt_size hS
  unfold Builtin.List.listExtendWith
  refine wpAny_bind (wpAny_typeOf (T := "str") (v := .str x t) rfl ?_)
  have h1 : Builtin.List.listSameRef (.ref S) (.str x t) = false := rfl
  have h2 : (Value.type "str" == Value.type "list") = false := by decide
  have h3 : (Value.type "str" == Value.type "tuple") = false := by decide
  simp only [h1, h2, h3, Bool.or_false, Bool.false_eq_true, if_false]
  refine wpAny_bind (wpAny_pyIter_str fun o St W hst => ?_)
  refine wpAny_bind (wpAny_holding ?_)
  unfold Builtin.List.listLengthHint
  refine wpAny_bind (wpAny_specialOf (T := "str") (v := .str x t) rfl PySem.F.str_len ?_)
  wp_delta
  refine wpAny_bind (wpAny_isInstance (T := "str") (v := .str x t) (b := true) rfl (by rw [isSubtype_type]; kernel_rfl) ?_)
  show wpAny _ A.in1 (typeOf (Value.str x t) >>= _) _ _ _
  refine wpAny_bind (wpAny_typeOf (T := "str") (v := .str x t) rfl ?_)
  refine wpAny_pure ?_
  rw [if_neg (by decide)]
  have hSf : S ∉ [s.heap.objs.size] := fun hm => by rw [List.mem_singleton.mp hm] at hlt; exact Nat.lt_irrefl _ hlt
  have hS₁ : (s.heap.push o).get? S = some { cls := .type "list", data := .seq #[] c₀ } := Heap.get?_push_of_some _ hS
  refine wpAny_pure ⟨plainId_quiet PySem.F.plain_extend_loop _, codeAny_extend_loopS (W A.in1 hh).toS hn _ hSf _ x.cps.size 0 _ #[] _ rfl (Nat.zero_le _) hst hS₁ (ItemsOf.nil _) fun s' acc' c' hm hS' hacc => ?_⟩
  rw [Moved.eq_with hm]
  refine hR s'.heap s'.toks acc' c' (fun b ob hb e => hm.heap b ob (fun hmem => ?_) (Heap.get?_push_of_some _ e)) hS' hacc
  rcases List.mem_cons.mp hmem with e' | hmem
  · exact hb e'
  · exact absurd (Heap.lt_size e) (by rw [List.mem_singleton.mp hmem]; exact Nat.lt_irrefl _)
theorem kls_init {R : Result → Shared → Prop} (hh : A.handled = none) (x : Str) (t : Tok) (S : Addr) (hS : s.heap.get? S = some { cls := .type "list", data := .seq #[] })
    (hR : ∀ h' tk acc' c', (∀ b o, b ≠ S → s.heap.get? b = some o → h'.get? b = some o) → h'.get? S = some { cls := .type "list", dict := none, data := .seq acc' c', slots := #[] } → ItemsOf (SignAt x) acc' x.cps.size → R (.ok (.ret .none)) { s with heap := h', toks := tk }) (hn : x.cps.size ≤ sizeLine) :
    wpAny (model prog w) A.in1 (Builtin.«list.__init__» ⟨[.ref S, .str x t], []⟩)
      (fun fin s' => match fin with | .done f => R (.ok f) s' | .again c' => c'.quiet = true ∧ codeAny (model prog w) A c' R s') (fun e s' => R (.error e) s') s := by
  show wpAny _ _ (do let old ← Builtin.List.listItems (.ref S); Builtin.List.listUpdate (.ref S) (fun _ => #[]); letGo old.toList.reverse; Builtin.List.listExtendWith (.ref S) (.str x t) .none) _ _ s
  refine wpAny_bind ?_
  unfold Builtin.List.listItems
  refine wpAny_bind (wpAny_seqItems hS rfl (wpAny_pure ?_))
  show wpAny _ _ (updateSeq S (fun _ => #[]) >>= fun _ => letGo (#[] : Array Value).toList.reverse >>= fun _ => Builtin.List.listExtendWith (.ref S) (.str x t) .none) _ _ s
  refine wpAny_bind (wpAny_updateSeq hS rfl ?_)
  have hS₂ := Heap.get?_update_self (Obj.mapSeq (fun _ => (#[] : Array Value))) hS rfl
  have oth : ∀ b o, b ≠ S → s.heap.get? b = some o → (s.heap.update S (Obj.mapSeq (fun _ => (#[] : Array Value)))).get? b = some o :=
    fun b o hb e => (Heap.get?_update_other _ _ (Ne.symm hb)).trans e
  refine wpAny_bind (wpAny_letGo ?_)
  refine kls_extend hh x t S .none _ hS₂ (fun h' tk acc' c' hk hS' hacc => ?_) hn
  exact hR h' tk acc' c' (fun b o hb e => hk b o hb (oth b o hb e)) hS' hacc
theorem kls_call {Q : Value → Shared → Prop} (hh : A.handled = none) (x : Str) (t : Tok) (hn : x.cps.size ≤ sizeLine)
    (hQ : ∀ h' tk acc' c', (∀ b o, s.heap.get? b = some o → h'.get? b = some o) → h'.get? s.heap.objs.size = some { cls := .type "list", dict := none, data := .seq acc' c', slots := #[] } → ItemsOf (SignAt x) acc' x.cps.size → Q (.ref s.heap.objs.size) { s with heap := h', toks := tk }) :
    wpAny (model prog w) A (call (.type "list") [.str x t]) Q E s := by
  refine callType_codes (Q₁ := fun obj s₁ => obj = .ref s.heap.objs.size ∧ s₁ = { s with heap := s.heap.push { cls := .type "list", data := .seq #[] } }) PySem.F.called_list (PySem.F.typeCall_list_1 _) PySem.F.entry_list_init
    (code_list_new _ ⟨rfl, rfl⟩) fun obj s₁ h₁ => ?_
  obtain ⟨rfl, rfl⟩ := h₁
  have hS : (s.heap.push { cls := .type "list", data := .seq #[] }).get? s.heap.objs.size = some { cls := .type "list", data := .seq #[] } := Heap.get?_push_size _ rfl
  refine ⟨⟨_, hS, rfl⟩, PySem.F.args_list_init_2 _ _, kls_init (A := A.in1) hh x t _ hS (fun h' tk acc' c' hk hS' hacc => ?_) hn⟩
  exact ⟨rfl, hQ h' tk acc' c' (fun b o e => hk b o (Nat.ne_of_lt (Heap.lt_size e)) (Heap.get?_push_of_some _ e)) hS' hacc⟩
end
end Dv
namespace Dv
open PySem PySem.Spec PyProof.Rows L2 PySem.W
theorem vals_of : ∀ (xs : List V) (us : List Value), xs.length = us.length → (∀ (i : Nat) x u, xs[i]? = some x → us[i]? = some u → RelV x u) → Vals xs us
  | [], [], _, _ => .nil
  | [], _ :: _, h, _ => by simp at h
  | _ :: _, [], h, _ => by simp at h
  | x :: xs, u :: us, h, r => .cons (r 0 x u rfl rfl) (vals_of xs us (by simpa using h) fun i y v hy hv => r (i + 1) y v (by simpa using hy) (by simpa using hv))
def signsV (x : Str) : List V := x.cps.toList.map fun c => V.str ⟨#[c]⟩
theorem signsV_len (x : Str) : (signsV x).length = x.cps.size := by simp [signsV]
theorem vals_signs {x : Str} {acc : Array Value} (h : ItemsOf (SignAt x) acc x.cps.size) : Vals (signsV x) acc.toList := by
  refine vals_of _ _ (by rw [signsV_len, Array.length_toList, h.1]) fun i v u hv hu => ?_
  rw [Array.getElem?_toList] at hu
  obtain ⟨c, t, hc, rfl⟩ := h.2 i u hu
  unfold signsV at hv
  rw [List.getElem?_map, Array.getElem?_toList, hc] at hv
  cases hv
  exact ⟨t, rfl⟩
section
variable {X : Cx}
theorem cr_listS (hc : X.calm = true) : CallR X (.type "list") (fun xs H Q => ∃ x : Str, xs = [.str x] ∧ x.cps.size ≤ sizeLine ∧ ∀ l, H l = none → Q (.ref l) (upd H l (.lst (signsV x)))) := by
  intro pins s σ H xs us Q I r h
  obtain ⟨x, rfl, hz, q⟩ := h
  obtain ⟨u, rfl, rx⟩ := vals1 r
  obtain ⟨t, rfl⟩ := rx
  exact kls_call (I.ok.hd hc) x t hz fun h' tk acc' c' hk hS hacc =>
    ⟨.ref s.heap.objs.size, _, I.laid (t' := tk) hk (Nat.le_refl _) (show ObjOk X.prog X.w _ h' _ (.lst (signsV x)) from ⟨by rw [signsV_len]; exact hz, acc'.toList, c', vals_signs hacc, by simpa using hS⟩), rfl, q _ (I.hok.fresh (Nat.le_refl _))⟩
def bListS : List D → Option D
  | [.str x] => if x.cps.size ≤ sizeLine then some (.lst (signsD x)) else none
  | _ => none
variable {G : Gx X.K}
theorem reps_signs {ua : Option Addr} {B : Hp} : ∀ (l : List Nat), Reps G ua (l.map fun c => D.str ⟨#[c]⟩) (l.map fun c => V.str ⟨#[c]⟩) B
  | [] => .nil
  | _ :: l => .cons rep_str (reps_signs l)
theorem ok_listS (hc : X.calm = true) : BiOk G (.type "list") bListS := by
  intro ua u B H ds d vs e rs w
  unfold bListS at e
  split at e
  · split at e
    · rename_i hz
      cases e
      obtain ⟨v, t, rfl, r1, r2⟩ := rs.of_cons
      rw [r2.of_nil]
      cases r1.str
      exact ⟨_, cr_listS hc, _, rfl, hz, fun l hl => .lst w hl (reps_signs _)⟩
    · cases e
  · cases e
end
end Dv
namespace Lw13
open PySem PySem.Spec PyProof.Rows L2 Dv
def topS (i : Nat) : Stmt := PySem.Challenge.pw_lateshown_k13_trees_of_streams.main.body.getD i (.Pass ⟨0, 0, 0, 0⟩)
structure Tx (mg : Str → Option Value) : Prop where
  n_LookupError : mg ("LookupError" : Str) = none
  n_abs : mg ("abs" : Str) = none
  n_all : mg ("all" : Str) = none
  n_bool : mg ("bool" : Str) = none
  n_dict : mg ("dict" : Str) = none
  n_enumerate : mg ("enumerate" : Str) = none
  n_int : mg ("int" : Str) = none
  n_isinstance : mg ("isinstance" : Str) = none
  n_len : mg ("len" : Str) = none
  n_list : mg ("list" : Str) = none
  n_max : mg ("max" : Str) = none
  n_range : mg ("range" : Str) = none
  n_set : mg ("set" : Str) = none
  n_sorted : mg ("sorted" : Str) = none
  n_str : mg ("str" : Str) = none
  n_tuple : mg ("tuple" : Str) = none
  n_zip : mg ("zip" : Str) = none
  c_FLUSH : ∃ t, mg ("FLUSH" : Str) = some (.str ("flush" : Str) t)
  c_LETTERS : ∃ t, mg ("LETTERS" : Str) = some (.str ("abcdefghijklmnopqrstuvwxyz" : Str) t)
  c_MOST_BRANCHES : ∃ t, mg ("MOST_BRANCHES" : Str) = some (.int (10) t)
  c_SCREEN : ∃ t, mg ("SCREEN" : Str) = some (.str ("" : Str) t)
abbrev s_is_pair : Stmt := topS 1
theorem sc_is_pair : FnScope [("thing" : Str)] [("thing" : Str)] (defScope s_is_pair) := ⟨rfl, rfl, rfl, by decide +kernel, rfl, by decide +kernel, by decide +kernel⟩
def m_is_pair : MS := (sCons (sRet (mAnd (mIsi ["tuple"] (mVar 0)) (mBin cEq (mBi bLen (mCons (mVar 0) mNil)) (mC (.int (2))))))
    sNil)
def F_is_pair : List D → U → Option (D × U) := runB m_is_pair 1
theorem ok_is_pair {P : Program} {w : World} {K : PySem.W.Frag} {mg : Str → Option Value} {base : Heap} {G : Gx K} (T : Tx mg) {f : Addr} {fd : FuncData} (F : Fun K ("is_pair" : Str) ("is_pair" : Str) s_is_pair f fd)  : FnOk P w K mg base CX0 1 f fd [("thing" : Str)] (spF G F_is_pair 1) :=
  have nd := sc_is_pair.nd
  def_ok F sc_is_pair rfl fun cdv A outer s H E hr => (dss_cons (ds_ret (dv_and (dv_isi rfl T.n_isinstance (dv_var 0) rfl T.n_tuple (by decide +kernel)) (dv_one _ (dv_cmp (ok_eq (hU64 hr)) (dv_bi ok_len rfl T.n_len (by decide +kernel) (dvs_cons (dv_var 0) dvs_nil)) dv_int))))
    dss_nil)
abbrev s_is_name : Stmt := topS 7
theorem sc_is_name : FnScope [("thing" : Str), ("letter" : Str)] [("thing" : Str)] (defScope s_is_name) := ⟨rfl, rfl, rfl, by decide +kernel, rfl, by decide +kernel, by decide +kernel⟩
def m_is_name : MS := (sCons (sIf (mOrB (mNotB (mTru (mIsi ["str"] (mVar 0)))) (mNotB (mTru (mChain cLe cLe (mC (.int (1))) (mBi bLen (mCons (mVar 0) mNil)) (mC (.int (8))))))) (sCons (sRet (mC (.bl false)))
    sNil) sNil)
    (sCons (sRet (mBi bAll (mCons (mLc (.one 1) [1] (mItems (mVar 0)) mYes (mBin cIn (mVar 1) (mC (.str ("abcdefghijklmnopqrstuvwxyz" : Str))))) mNil)))
    sNil))
def F_is_name : List D → U → Option (D × U) := runB m_is_name 2
theorem ok_is_name {P : Program} {w : World} {K : PySem.W.Frag} {mg : Str → Option Value} {base : Heap} {G : Gx K} (T : Tx mg) {f : Addr} {fd : FuncData} (F : Fun K ("is_name" : Str) ("is_name" : Str) s_is_name f fd)  : FnOk P w K mg base CX0 1 f fd [("thing" : Str)] (spF G F_is_name 1) :=
  have nd := sc_is_name.nd
  def_ok F sc_is_name rfl fun cdv A outer s H E hr => (dss_cons (ds_if (PW.pt (dw_or (dt_not (dt_val (dv_isi rfl T.n_isinstance (dv_var 0) rfl T.n_str (by decide +kernel)))) (dw_or1 (dt_not (dt_chain ok_le ok_le bf_le dv_int (dv_bi ok_len rfl T.n_len (by decide +kernel) (dvs_cons (dv_var 0) dvs_nil)) dv_int))))) (dss_cons (ds_ret dv_bl)
    dss_nil) dss_nil)
    (dss_cons (ds_ret (dv_bi (ok_all (by rfl)) rfl T.n_all (by decide +kernel) (dvs_cons (dv_lc (.one 1) [1] rfl nd (di_items (dv_var 0)) (blkOk_by (own := [(("letter" : Str), 1)]) (N := [("thing" : Str), ("letter" : Str)]) (sc := defScope s_is_name) (by decide +kernel)) rfl (by decide) (fun _ _ _ _ _ => (pg_name (i := 1) nd rfl (by first | exact Or.inl rfl | exact Or.inr rfl))) (fun _ _ _ _ _ => dts_no) (fun _ _ _ _ _ => (dv_cmp (ok_in (hU65 hr)) (dv_var 1) (dv_gS rfl T.c_LETTERS)))) dvs_nil)))
    dss_nil))
abbrev s_is_branch : Stmt := topS 11
theorem sc_is_branch : FnScope [("thing" : Str)] [("thing" : Str)] (defScope s_is_branch) := ⟨rfl, rfl, rfl, by decide +kernel, rfl, by decide +kernel, by decide +kernel⟩
def m_is_branch : MS := (sCons (sRet (mAnd (mCall 1 F_is_pair (mCons (mVar 0) mNil)) (mAnd (mCall 1 F_is_name (mCons (mBin ixD (mVar 0) (mC (.int (0)))) mNil)) (mOr (mCall 1 F_is_name (mCons (mBin ixD (mVar 0) (mC (.int (1)))) mNil)) (mBin cEq (mBin ixD (mVar 0) (mC (.int (1)))) (mC (.str ("" : Str))))))))
    sNil)
def F_is_branch : List D → U → Option (D × U) := runB m_is_branch 1
theorem ok_is_branch {P : Program} {w : World} {K : PySem.W.Frag} {mg : Str → Option Value} {base : Heap} {G : Gx K} (T : Tx mg) {f : Addr} {fd : FuncData} (F : Fun K ("is_branch" : Str) ("is_branch" : Str) s_is_branch f fd) (D_is_name : DefOk P w mg base G ("is_name" : Str) 1 1 F_is_name) (D_is_pair : DefOk P w mg base G ("is_pair" : Str) 1 1 F_is_pair) : FnOk P w K mg base CX0 2 f fd [("thing" : Str)] (spF G F_is_branch 1) :=
  have nd := sc_is_branch.nd
  def_ok F sc_is_branch rfl fun cdv A outer s H E hr => (dss_cons (ds_ret (dv_and (dv_call (D_is_pair.mono (by decide)) hr rfl (dvs_cons (dv_var 0) dvs_nil)) (dv_and (dv_call (D_is_name.mono (by decide)) hr rfl (dvs_cons (dv_ix (dv_var 0) dv_int) dvs_nil)) (dv_one _ (dv_or (dv_call (D_is_name.mono (by decide)) hr rfl (dvs_cons (dv_ix (dv_var 0) dv_int) dvs_nil)) (dv_one _ (dv_cmp (ok_eq (hU64 hr)) (dv_ix (dv_var 0) dv_int) (dv_gS rfl T.c_SCREEN))))))))
    dss_nil)
abbrev s_climb : Stmt := topS 12
theorem sc_climb : FnScope [("above" : Str), ("name" : Str), ("way" : Str), ("at" : Str)] [("above" : Str), ("name" : Str)] (defScope s_climb) := ⟨rfl, rfl, rfl, by decide +kernel, rfl, by decide +kernel, by decide +kernel⟩
def m_climb : MS := (sCons (sSv 2 (vLst mNil))
    (sCons (sSet 3 (mVar 1))
    (sCons (sWh 4000 (mAndB (mTru (mBin (dinD false) (mVar 3) (mVar 0))) (mTru (mBin cLt (mPeek 2 (mBi bLen (mCons (mVar 2) mNil))) (mBi bLenD (mCons (mVar 0) mNil))))) (sCons (sSet 3 (mBin dixD (mVar 0) (mVar 3)))
    (sCons (sApp 2 (mVar 3))
    sNil)))
    (sPub 2
    (sCons (sRet (mVar 2))
    sNil)))))
def F_climb : List D → U → Option (D × U) := runB m_climb 4
theorem ok_climb {P : Program} {w : World} {K : PySem.W.Frag} {mg : Str → Option Value} {base : Heap} {G : Gx K} (T : Tx mg) {f : Addr} {fd : FuncData} (F : Fun K ("climb" : Str) ("climb" : Str) s_climb f fd)  : FnOk P w K mg base CX0 1 f fd [("above" : Str), ("name" : Str)] (spF G F_climb 2) :=
  have nd := sc_climb.nd
  def_ok F sc_climb rfl fun cdv A outer s H E hr => (dss_cons (ds_setv 2 nd (dv_oLst dvs_nil))
    (dss_cons (ds_set 3 nd (dv_var 1))
    (dss_cons (ds_while 4000 PassesOwn.never (PW.pt (dw_and (dt_din (hU1 hr) (dv_var 3) (dv_var 0)) (dw_and1 (dt_cmp ok_lt bf_lt (dv_peek 2 (dv_bi ok_len rfl T.n_len (by decide +kernel) (dvs_cons (dv_var 2) dvs_nil))) (dv_bi ok_lenD rfl T.n_len (by decide +kernel) (dvs_cons (dv_var 0) dvs_nil)))))) (dss_cons (ds_set 3 nd (dv_dix (hU1 hr) (dv_var 0) (dv_var 3)))
    (dss_cons (ds_app 2 (dv_var 3))
    dss_nil)))
    (dss_pub 2
    (dss_cons (ds_ret (dv_var 2))
    dss_nil)))))
abbrev s_is_tree : Stmt := topS 13
theorem sc_is_tree : FnScope [("thing" : Str), ("streams" : Str), ("above" : Str), ("stream" : Str), ("_" : Str), ("over" : Str), ("part" : Str)] [("thing" : Str)] (defScope s_is_tree) := ⟨rfl, rfl, rfl, by decide +kernel, rfl, by decide +kernel, by decide +kernel⟩
def m_is_tree : MS := (sCons (sIf (mOrB (mNotB (mTru (mIsi ["tuple"] (mVar 0)))) (mNotB (mTru (mBi bAll (mCons (mLc (.one 6) [6] (mItems (mVar 0)) mYes (mCall 1 F_is_branch (mCons (mVar 6) mNil))) mNil))))) (sCons (sRet (mC (.bl false)))
    sNil) sNil)
    (sCons (sSet 1 (mLc (.many [3, 4]) [3, 4] (mItems (mVar 0)) mYes (mVar 3)))
    (sCons (sIf (mOrB (mTru (mBin cGt (mBi bLen (mCons (mVar 1) mNil)) (mC (.int (10))))) (mTru (mBin cNe (mVar 1) (mSortSet (mVar 1))))) (sCons (sRet (mC (.bl false)))
    sNil) sNil)
    (sCons (sSv 2 (vDC (.many [3, 5]) [3, 5] (mItems (mVar 0)) mYes (mVar 3) (mVar 5)))
    (sPub 2
    (sCons (sRet (mBi bAll (mCons (mLc (.one 3) [3] (mItems (mVar 1)) mYes (mBin cEq (mBin ixD (mCall 2 F_climb (mCons (mVar 2) (mCons (mVar 3) mNil))) (mNeg (mC (.int (1))))) (mC (.str ("" : Str))))) mNil)))
    sNil))))))
def F_is_tree : List D → U → Option (D × U) := runB m_is_tree 7
theorem ok_is_tree {P : Program} {w : World} {K : PySem.W.Frag} {mg : Str → Option Value} {base : Heap} {G : Gx K} (T : Tx mg) {f : Addr} {fd : FuncData} (F : Fun K ("is_tree" : Str) ("is_tree" : Str) s_is_tree f fd) (D_climb : DefOk P w mg base G ("climb" : Str) 1 2 F_climb) (D_is_branch : DefOk P w mg base G ("is_branch" : Str) 2 1 F_is_branch) : FnOk P w K mg base CX0 3 f fd [("thing" : Str)] (spF G F_is_tree 1) :=
  have nd := sc_is_tree.nd
  def_ok F sc_is_tree rfl fun cdv A outer s H E hr => (dss_cons (ds_if (PW.pt (dw_or (dt_not (dt_val (dv_isi rfl T.n_isinstance (dv_var 0) rfl T.n_tuple (by decide +kernel)))) (dw_or1 (dt_not (dt_val (dv_bi (ok_all (by rfl)) rfl T.n_all (by decide +kernel) (dvs_cons (dv_lc (.one 6) [6] rfl nd (di_items (dv_var 0)) (blkOk_by (own := [(("part" : Str), 6)]) (N := [("thing" : Str), ("streams" : Str), ("above" : Str), ("stream" : Str), ("_" : Str), ("over" : Str), ("part" : Str)]) (sc := defScope s_is_tree) (by decide +kernel)) rfl (by decide) (fun _ _ _ _ _ => (pg_name (i := 6) nd rfl (by first | exact Or.inl rfl | exact Or.inr rfl))) (fun _ _ _ _ _ => dts_no) (fun _ _ _ _ _ => (dv_call (D_is_branch.mono (by decide)) hr rfl (dvs_cons (dv_var 6) dvs_nil)))) dvs_nil))))))) (dss_cons (ds_ret dv_bl)
    dss_nil) dss_nil)
    (dss_cons (ds_setLc 1 (.many [3, 4]) [3, 4] rfl nd (sw_true rfl rfl rfl (by decide +kernel)) (di_items (dv_var 0)) (blkOk_by (own := [(("stream" : Str), 3), (("_" : Str), 4)]) (N := [("thing" : Str), ("streams" : Str), ("above" : Str), ("stream" : Str), ("_" : Str), ("over" : Str), ("part" : Str)]) (sc := defScope s_is_tree) (by decide +kernel)) rfl (by decide) (fun _ _ _ _ _ => (pg_tup rfl (pgs_cons (pg_name (i := 3) nd rfl (by first | exact Or.inl rfl | exact Or.inr rfl)) (pgs_cons (pg_name (i := 4) nd rfl (by first | exact Or.inl rfl | exact Or.inr rfl)) pgs_nil)))) (fun _ _ _ _ _ => dts_no) (fun _ _ _ _ _ => (dv_var 3)))
    (dss_cons (ds_if (PW.pt (dw_or (dt_cmp ok_gt bf_gt (dv_bi ok_len rfl T.n_len (by decide +kernel) (dvs_cons (dv_var 1) dvs_nil)) (dv_gI rfl T.c_MOST_BRANCHES)) (dw_or1 (dt_cmp (ok_ne (hU64 hr)) bf_ne (dv_var 1) (dv_sortSet rfl rfl T.n_sorted rfl T.n_set (dv_var 1)))))) (dss_cons (ds_ret dv_bl)
    dss_nil) dss_nil)
    (dss_cons (ds_setv 2 nd (dv_dc (.many [3, 5]) [3, 5] rfl nd (di_items (dv_var 0)) (blkOk_by (own := [(("stream" : Str), 3), (("over" : Str), 5)]) (N := [("thing" : Str), ("streams" : Str), ("above" : Str), ("stream" : Str), ("_" : Str), ("over" : Str), ("part" : Str)]) (sc := defScope s_is_tree) (by decide +kernel)) rfl (by decide) (fun _ _ _ _ _ => (pg_tup rfl (pgs_cons (pg_name (i := 3) nd rfl (by first | exact Or.inl rfl | exact Or.inr rfl)) (pgs_cons (pg_name (i := 5) nd rfl (by first | exact Or.inl rfl | exact Or.inr rfl)) pgs_nil)))) (fun _ _ _ _ _ => dts_no) (fun _ _ _ _ _ => (dv_var 3)) (fun _ _ _ _ _ => (dv_var 5))))
    (dss_pub 2
    (dss_cons (ds_ret (dv_bi (ok_all (by rfl)) rfl T.n_all (by decide +kernel) (dvs_cons (dv_lc (.one 3) [3] rfl nd (di_items (dv_var 1)) (blkOk_by (own := [(("stream" : Str), 3)]) (N := [("thing" : Str), ("streams" : Str), ("above" : Str), ("stream" : Str), ("_" : Str), ("over" : Str), ("part" : Str)]) (sc := defScope s_is_tree) (by decide +kernel)) rfl (by decide) (fun _ _ _ _ _ => (pg_name (i := 3) nd rfl (by first | exact Or.inl rfl | exact Or.inr rfl))) (fun _ _ _ _ _ => dts_no) (fun _ _ _ _ _ => (dv_cmp (ok_eq (hU64 hr)) (dv_ix (dv_call (D_climb.mono (by decide)) hr rfl (dvs_cons (dv_var 2) (dvs_cons (dv_var 3) dvs_nil))) (dv_neg dv_int)) (dv_gS rfl T.c_SCREEN)))) dvs_nil)))
    dss_nil))))))
abbrev s_leaves : Stmt := topS 14
theorem sc_leaves : FnScope [("tree" : Str), ("over" : Str), ("_" : Str), ("above" : Str), ("stream" : Str)] [("tree" : Str)] (defScope s_leaves) := ⟨rfl, rfl, rfl, by decide +kernel, rfl, by decide +kernel, by decide +kernel⟩
def m_leaves : MS := (sCons (sSet 1 (mLc (.sq [2, 3]) [2, 3] (mItems (mVar 0)) mYes (mVar 3)))
    (sCons (sRet (mBi bTuple (mCons (mLc (.sq [4, 2]) [4, 2] (mItems (mVar 0)) (mTru (mBin cNotIn (mVar 4) (mVar 1))) (mVar 4)) mNil)))
    sNil))
def F_leaves : List D → U → Option (D × U) := runB m_leaves 5
theorem ok_leaves {P : Program} {w : World} {K : PySem.W.Frag} {mg : Str → Option Value} {base : Heap} {G : Gx K} (T : Tx mg) {f : Addr} {fd : FuncData} (F : Fun K ("leaves" : Str) ("leaves" : Str) s_leaves f fd)  : FnOk P w K mg base CX0 1 f fd [("tree" : Str)] (spF G F_leaves 1) :=
  have nd := sc_leaves.nd
  def_ok F sc_leaves rfl fun cdv A outer s H E hr => (dss_cons (ds_set 1 nd (dv_lc (.sq [2, 3]) [2, 3] rfl nd (di_items (dv_var 0)) (blkOk_by (own := [(("_" : Str), 2), (("above" : Str), 3)]) (N := [("tree" : Str), ("over" : Str), ("_" : Str), ("above" : Str), ("stream" : Str)]) (sc := defScope s_leaves) (by decide +kernel)) rfl (by decide) (fun _ _ _ _ _ => (pg_sq rfl (pgs_cons (pg_name (i := 2) nd rfl (by first | exact Or.inl rfl | exact Or.inr rfl)) (pgs_cons (pg_name (i := 3) nd rfl (by first | exact Or.inl rfl | exact Or.inr rfl)) pgs_nil)))) (fun _ _ _ _ _ => dts_no) (fun _ _ _ _ _ => (dv_var 3))))
    (dss_cons (ds_ret (dv_ty ok_tuple rfl T.n_tuple (by decide +kernel) (dvs_cons (dv_lc (.sq [4, 2]) [4, 2] rfl nd (di_items (dv_var 0)) (blkOk_by (own := [(("stream" : Str), 4), (("_" : Str), 2)]) (N := [("tree" : Str), ("over" : Str), ("_" : Str), ("above" : Str), ("stream" : Str)]) (sc := defScope s_leaves) (by decide +kernel)) rfl (by decide) (fun _ _ _ _ _ => (pg_sq rfl (pgs_cons (pg_name (i := 4) nd rfl (by first | exact Or.inl rfl | exact Or.inr rfl)) (pgs_cons (pg_name (i := 2) nd rfl (by first | exact Or.inl rfl | exact Or.inr rfl)) pgs_nil)))) (fun _ _ _ _ _ => dts_one (dt_cmp (ok_notin (hU65 hr)) bf_notin (dv_var 4) (dv_var 1))) (fun _ _ _ _ _ => (dv_var 4))) dvs_nil)))
    dss_nil))
abbrev s_NoStream___init__ : Stmt := inClass (topS 3) 0
theorem sc_NoStream___init__ : FnScope [("self" : Str), ("name" : Str)] [("self" : Str), ("name" : Str)] (defScope s_NoStream___init__) := ⟨rfl, rfl, rfl, by decide +kernel, rfl, by decide +kernel, by decide +kernel⟩
def F_NoStream : List D → U → Option (D × U) := fun ds u => (mVar 1) (Sl.no :: ds.map Sl.pub) u
theorem ok_NoStream___init__ {P : Program} {w : World} {K : PySem.W.Frag} {mg : Str → Option Value} {base : Heap} {G : Gx K} (T : Tx mg) {C f : Addr} {fd : FuncData} {B newId initId : String} {bmB : List Value} (T0 : OxC K C B newId initId bmB) (hno : PySem.W.findIn K (.ref C) ("name" : Str) = some none) (F : Fun K "__init__" ("NoStream.__init__" : Str) s_NoStream___init__ f fd)  : FnOk P w K mg base CX0 1 f fd [("self" : Str), ("name" : Str)] (spEr G C ("name" : Str) F_NoStream) :=
  erInit_ok T0 hno F sc_NoStream___init__ rfl (fun cdv A outer s H E hr => (dv_var 1)) (fun _ _ _ _ _ _ => by first | exact Or.inl rfl | exact Or.inr (Or.inl rfl)) (fun _ _ _ _ _ _ => rfl) (by decide) (by decide)
abbrev s_way_up : Stmt := topS 15
theorem sc_way_up : FnScope [("tree" : Str), ("name" : Str), ("above" : Str), ("stream" : Str), ("over" : Str)] [("tree" : Str), ("name" : Str)] (defScope s_way_up) := ⟨rfl, rfl, rfl, by decide +kernel, rfl, by decide +kernel, by decide +kernel⟩
def m_way_up : MS := (sCons (sSv 2 (vDC (.sq [3, 4]) [3, 4] (mItems (mVar 0)) mYes (mVar 3) (mVar 4)))
    (sPub 2
    (sCons (sIf (mTru (mBin (dinD true) (mVar 1) (mVar 2))) (sCons (sRaise ("NoStream" : Str) ("name" : Str) F_NoStream (mVar 1))
    sNil) sNil)
    (sCons (sRet (mBi bTuple (mCons (mCall 2 F_climb (mCons (mVar 2) (mCons (mVar 1) mNil))) mNil)))
    sNil))))
def F_way_up : List D → U → Option (R × U) := runBX m_way_up 5
theorem ok_way_up {P : Program} {w : World} {K : PySem.W.Frag} {mg : Str → Option Value} {base : Heap} {G : Gx K} (T : Tx mg) {f : Addr} {fd : FuncData} (F : Fun K ("way_up" : Str) ("way_up" : Str) s_way_up f fd) (E_NoStream : ErMk P w mg base G ("NoStream" : Str) ("name" : Str) 1 F_NoStream) (D_climb : DefOk P w mg base G ("climb" : Str) 1 2 F_climb) : FnOk P w K mg base (L2.CX P w) 3 f fd [("tree" : Str), ("name" : Str)] (spX G F_way_up 2) :=
  have nd := sc_way_up.nd
  def_okX F sc_way_up rfl fun cdv A outer s H E hr tk hp => (dss_cons (ds_ofAsg 2 (pa_dc 2 (.sq [3, 4]) [3, 4] rfl nd (sw_trueD rfl rfl rfl (by decide +kernel)) (di_items (dv_var 0)) (blkOk_by (own := [(("stream" : Str), 3), (("over" : Str), 4)]) (N := [("tree" : Str), ("name" : Str), ("above" : Str), ("stream" : Str), ("over" : Str)]) (sc := defScope s_way_up) (by decide +kernel)) rfl (by decide) (fun _ _ _ _ _ => (pg_sq rfl (pgs_cons (pg_name (i := 3) nd rfl (by first | exact Or.inl rfl | exact Or.inr rfl)) (pgs_cons (pg_name (i := 4) nd rfl (by first | exact Or.inl rfl | exact Or.inr rfl)) pgs_nil)))) (fun _ _ _ _ _ => dts_no) (fun _ _ _ _ _ => (dv_var 3)) (fun _ _ _ _ _ => (dv_var 4))))
    (dss_pub 2
    (dss_cons (ds_if (dt_dnotin (hU1 hr) (dv_var 1) (dv_var 2)) (dss_cons (ds_raise (E_NoStream.mono (by decide)) rfl tk hr rfl (dv_var 1))
    dss_nil) dss_nil)
    (dss_cons (ds_ret (dv_ty ok_tuple rfl T.n_tuple (by decide +kernel) (dvs_cons (dv_call (D_climb.mono (by decide)) hr rfl (dvs_cons (dv_var 2) (dvs_cons (dv_var 1) dvs_nil))) dvs_nil)))
    dss_nil))))
abbrev s_meeting : Stmt := topS 16
theorem sc_meeting : FnScope [("tree" : Str), ("one" : Str), ("other" : Str), ("first" : Str), ("second" : Str), ("name" : Str)] [("tree" : Str), ("one" : Str), ("other" : Str)] (defScope s_meeting) := ⟨rfl, rfl, rfl, by decide +kernel, rfl, by decide +kernel, by decide +kernel⟩
def m_meeting : MS := (sCons (sTgtX (.many [3, 4]) (xDo fTup (xsCons (xCall 2 F_way_up (mCons (mVar 0) (mCons (mVar 1) mNil))) (xsCons (xCall 2 F_way_up (mCons (mVar 0) (mCons (mVar 2) mNil))) xsNil))))
    (sCons (sRet (mBin ixD (mLc (.one 5) [5] (mItems (mVar 3)) (mTru (mBin cIn (mVar 5) (mVar 4))) (mVar 5)) (mC (.int (0)))))
    sNil))
def F_meeting : List D → U → Option (R × U) := runBX m_meeting 6
theorem ok_meeting {P : Program} {w : World} {K : PySem.W.Frag} {mg : Str → Option Value} {base : Heap} {G : Gx K} (T : Tx mg) {f : Addr} {fd : FuncData} (F : Fun K ("meeting" : Str) ("meeting" : Str) s_meeting f fd) (DX_way_up : DefOkX P w mg base G ("way_up" : Str) 3 2 F_way_up) : FnOk P w K mg base (L2.CX P w) 4 f fd [("tree" : Str), ("one" : Str), ("other" : Str)] (spX G F_meeting 3) :=
  have nd := sc_meeting.nd
  def_okX F sc_meeting rfl fun cdv A outer s H E hr tk hp => (dss_cons (dsx_tgt (.many [3, 4]) (dx_tup (dxs_cons (dx_call (DX_way_up.mono (by decide)) tk hr rfl (dvs_cons (dv_var 0) (dvs_cons (dv_var 1) dvs_nil))) (dxs_cons (dx_call (DX_way_up.mono (by decide)) tk hr rfl (dvs_cons (dv_var 0) (dvs_cons (dv_var 2) dvs_nil))) dxs_nil))) (pg_tup rfl (pgs_cons (pg_name (i := 3) nd rfl (by first | exact Or.inl rfl | exact Or.inr rfl)) (pgs_cons (pg_name (i := 4) nd rfl (by first | exact Or.inl rfl | exact Or.inr rfl)) pgs_nil))))
    (dss_cons (ds_ret (dv_ix (dv_lc (.one 5) [5] rfl nd (di_items (dv_var 3)) (blkOk_by (own := [(("name" : Str), 5)]) (N := [("tree" : Str), ("one" : Str), ("other" : Str), ("first" : Str), ("second" : Str), ("name" : Str)]) (sc := defScope s_meeting) (by decide +kernel)) rfl (by decide) (fun _ _ _ _ _ => (pg_name (i := 5) nd rfl (by first | exact Or.inl rfl | exact Or.inr rfl))) (fun _ _ _ _ _ => dts_one (dt_cmp (ok_in (hU65 hr)) bf_in (dv_var 5) (dv_var 4))) (fun _ _ _ _ _ => (dv_var 5))) dv_int))
    dss_nil))
abbrev s_through : Stmt := topS 17
theorem sc_through : FnScope [("tree" : Str), ("name" : Str), ("stream" : Str)] [("tree" : Str), ("name" : Str)] (defScope s_through) := ⟨rfl, rfl, rfl, by decide +kernel, rfl, by decide +kernel, by decide +kernel⟩
def m_through : MS := (sCons (sRetX (xDo (fBi bTuple) (xsCons (xLc (.one 2) [2] (xItems (xBin fAdd (xUp (mTup (mCons (mVar 1) mNil))) (xSl (xCall 2 F_way_up (mCons (mVar 0) (mCons (mVar 1) mNil))) moNo (moAt (mNeg (mC (.int (1)))))))) mYes (mTup (mCons (mC (.str ("flush" : Str))) (mCons (mVar 2) mNil)))) xsNil)))
    sNil)
def F_through : List D → U → Option (R × U) := runBX m_through 3
theorem ok_through {P : Program} {w : World} {K : PySem.W.Frag} {mg : Str → Option Value} {base : Heap} {G : Gx K} (T : Tx mg) {f : Addr} {fd : FuncData} (F : Fun K ("through" : Str) ("through" : Str) s_through f fd) (DX_way_up : DefOkX P w mg base G ("way_up" : Str) 3 2 F_way_up) : FnOk P w K mg base (L2.CX P w) 4 f fd [("tree" : Str), ("name" : Str)] (spX G F_through 2) :=
  have nd := sc_through.nd
  def_okX F sc_through rfl fun cdv A outer s H E hr tk hp => (dss_cons (dsx_ret (dx_ty ok_tuple rfl T.n_tuple (by decide +kernel) (dxs_cons (dx_lc (.one 2) [2] rfl nd (di_itemsX (dx_bin ok_add (dx_up (dv_tup (dvs_cons (dv_var 1) dvs_nil))) (dx_sl (dx_call (DX_way_up.mono (by decide)) tk hr rfl (dvs_cons (dv_var 0) (dvs_cons (dv_var 1) dvs_nil))) do_no (do_at (dv_neg dv_int))))) (blkOk_by (own := [(("stream" : Str), 2)]) (N := [("tree" : Str), ("name" : Str), ("stream" : Str)]) (sc := defScope s_through) (by decide +kernel)) rfl (by decide) (fun _ _ _ _ _ => (pg_name (i := 2) nd rfl (by first | exact Or.inl rfl | exact Or.inr rfl))) (fun _ _ _ _ _ => dts_no) (fun _ _ _ _ _ => (dv_tup (dvs_cons (dv_gS rfl T.c_FLUSH) (dvs_cons (dv_var 2) dvs_nil))))) dxs_nil)))
    dss_nil)
abbrev s__law_box : Stmt := topS 19
theorem sc__law_box : FnScope [("_law_script" : Str), ("_law_k" : Str), ("_law_cell" : Str)] [("_law_script" : Str), ("_law_k" : Str)] (defScope s__law_box) := ⟨rfl, rfl, rfl, by decide +kernel, rfl, by decide +kernel, by decide +kernel⟩
def m__law_box : MS := (sCons (sSet 2 (mIte (mTru (mBin cLt (mVar 1) (mBi bLen (mCons (mVar 0) mNil)))) (mBin ixD (mVar 0) (mVar 1)) (mC (.int (0)))))
    (sCons (sRet (mLst (mCons (mBin fMul (mBi bAbs (mCons (mVar 2) mNil)) (mBi bInt (mCons (mBin cGe (mBi bAbs (mCons (mVar 2) mNil)) (mBin fPow (mC (.int (10))) (mC (.int (18))))) mNil))) (mCons (mBin fAdd (mBin fAdd (mBin fMod (mBi bInt (mCons (mVar 2) mNil)) (mC (.int (2305843009213693951)))) (mBin fMul (mC (.int (39373))) (mVar 1))) (mC (.int (824113)))) (mCons (mC (.int (0))) mNil)))))
    sNil))
def F__law_box : List D → U → Option (D × U) := runB m__law_box 3
theorem ok__law_box {P : Program} {w : World} {K : PySem.W.Frag} {mg : Str → Option Value} {base : Heap} {G : Gx K} (T : Tx mg) {f : Addr} {fd : FuncData} (F : Fun K ("_law_box" : Str) ("_law_box" : Str) s__law_box f fd)  : FnOk P w K mg base CX0 1 f fd [("_law_script" : Str), ("_law_k" : Str)] (spF G F__law_box 2) :=
  have nd := sc__law_box.nd
  def_ok F sc__law_box rfl fun cdv A outer s H E hr => (dss_cons (ds_set 2 nd (dv_ite (dt_cmp ok_lt bf_lt (dv_var 1) (dv_bi ok_len rfl T.n_len (by decide +kernel) (dvs_cons (dv_var 0) dvs_nil))) (dv_ix (dv_var 0) (dv_var 1)) dv_int))
    (dss_cons (ds_ret (dv_lst (dvs_cons (dv_bin ok_mul (dv_bi ok_abs rfl T.n_abs (by decide +kernel) (dvs_cons (dv_var 2) dvs_nil)) (dv_ty ok_int rfl T.n_int (by decide +kernel) (dvs_cons (dv_cmp ok_ge (dv_bi ok_abs rfl T.n_abs (by decide +kernel) (dvs_cons (dv_var 2) dvs_nil)) (dv_bin ok_pow dv_int dv_int)) dvs_nil))) (dvs_cons (dv_bin ok_add (dv_bin ok_add (dv_bin ok_mod (dv_ty ok_int rfl T.n_int (by decide +kernel) (dvs_cons (dv_var 2) dvs_nil)) dv_int) (dv_bin ok_mul dv_int (dv_var 1))) dv_int) (dvs_cons dv_int dvs_nil)))))
    dss_nil))
abbrev s__law_take : Stmt := topS 20
theorem sc__law_take : FnScope [("_law_urn" : Str), ("_law_low_so" : Str), ("_law_drawn" : Str), ("_law_once" : Str), ("_law_far" : Str), ("_law_twice" : Str)] [("_law_urn" : Str), ("_law_low_so" : Str)] (defScope s__law_take) := ⟨rfl, rfl, rfl, by decide +kernel, rfl, by decide +kernel, by decide +kernel⟩
def m__law_take : MS := (sCons (sIf (mTru (mBin cGt (mUrn0 0) (mC (.int (0))))) (sCons (sSet 2 (mBin fMod (mBi bInt (mCons (mUrn0 0) mNil)) (mVar 1)))
    (sCons (sUrn0 0 (mBin fDiv (mUrn0 0) (mVar 1)))
    (sCons (sRet (mVar 2))
    sNil))) sNil)
    (sCons (sUrn2 0 (mBin fAdd (mUrn2 0) (mC (.int (1)))))
    (sCons (sSet 3 (mBin fMod (mBi bInt (mCons (mBin fMul (mBin fAdd (mUrn1 0) (mBin fMul (mC (.int (48271))) (mUrn2 0))) (mBin fAdd (mC (.int (39373))) (mUrn2 0))) mNil)) (mC (.int (2147483647)))))
    (sCons (sSet 4 (mBin fAdd (mBin fMod (mBi bInt (mCons (mVar 3) mNil)) (mC (.int (40009)))) (mC (.int (7)))))
    (sCons (sSet 5 (mBin fMod (mBi bInt (mCons (mBin fMul (mBin fAdd (mBin fAdd (mVar 3) (mUrn2 0)) (mBin fDiv (mUrn1 0) (mC (.int (1000003))))) (mVar 4)) mNil)) (mC (.int (2147483629)))))
    (sCons (sRet (mBin fMod (mBi bInt (mCons (mBin fDiv (mBin fMod (mBi bInt (mCons (mBin fAdd (mBin fMul (mVar 5) (mC (.int (48271)))) (mVar 3)) mNil)) (mC (.int (2147483587)))) (mC (.int (64)))) mNil)) (mVar 1)))
    sNil))))))
def F__law_take : List D → U → Option (D × U) := runB m__law_take 6
theorem ok__law_take {P : Program} {w : World} {K : PySem.W.Frag} {mg : Str → Option Value} {base : Heap} {G : Gx K} (T : Tx mg) {f : Addr} {fd : FuncData} (F : Fun K ("_law_take" : Str) ("_law_take" : Str) s__law_take f fd)  : FnOk P w K mg base CX0 1 f fd [("_law_urn" : Str), ("_law_low_so" : Str)] (spF G F__law_take 2) :=
  have nd := sc__law_take.nd
  def_ok F sc__law_take rfl fun cdv A outer s H E hr => (dss_cons (ds_if (dt_cmp ok_gt bf_gt (dv_urn0 0) dv_int) (dss_cons (ds_set 2 nd (dv_bin ok_mod (dv_ty ok_int rfl T.n_int (by decide +kernel) (dvs_cons (dv_urn0 0) dvs_nil)) (dv_var 1)))
    (dss_cons (ds_urn0 0 (dv_bin ok_div (dv_urn0 0) (dv_var 1)))
    (dss_cons (ds_ret (dv_var 2))
    dss_nil))) dss_nil)
    (dss_cons (ds_urn2 0 (dv_bin ok_add (dv_urn2 0) dv_int))
    (dss_cons (ds_set 3 nd (dv_bin ok_mod (dv_ty ok_int rfl T.n_int (by decide +kernel) (dvs_cons (dv_bin ok_mul (dv_bin ok_add (dv_urn1 0) (dv_bin ok_mul dv_int (dv_urn2 0))) (dv_bin ok_add dv_int (dv_urn2 0))) dvs_nil)) dv_int))
    (dss_cons (ds_set 4 nd (dv_bin ok_add (dv_bin ok_mod (dv_ty ok_int rfl T.n_int (by decide +kernel) (dvs_cons (dv_var 3) dvs_nil)) dv_int) dv_int))
    (dss_cons (ds_set 5 nd (dv_bin ok_mod (dv_ty ok_int rfl T.n_int (by decide +kernel) (dvs_cons (dv_bin ok_mul (dv_bin ok_add (dv_bin ok_add (dv_var 3) (dv_urn2 0)) (dv_bin ok_div (dv_urn1 0) dv_int)) (dv_var 4)) dvs_nil)) dv_int))
    (dss_cons (ds_ret (dv_bin ok_mod (dv_ty ok_int rfl T.n_int (by decide +kernel) (dvs_cons (dv_bin ok_div (dv_bin ok_mod (dv_ty ok_int rfl T.n_int (by decide +kernel) (dvs_cons (dv_bin ok_add (dv_bin ok_mul (dv_var 5) dv_int) (dv_var 3)) dvs_nil)) dv_int) dv_int) dvs_nil)) (dv_var 1)))
    dss_nil))))))
abbrev s__law_of : Stmt := topS 22
theorem sc__law_of : FnScope [("_law_urn" : Str), ("_law_some_so" : Str)] [("_law_urn" : Str), ("_law_some_so" : Str)] (defScope s__law_of) := ⟨rfl, rfl, rfl, by decide +kernel, rfl, by decide +kernel, by decide +kernel⟩
def m__law_of : MS := (sCons (sRet (mBin ixD (mVar 1) (mCall 2 F__law_take (mCons (mVar 0) (mCons (mBi bLen (mCons (mVar 1) mNil)) mNil)))))
    sNil)
def F__law_of : List D → U → Option (D × U) := runB m__law_of 2
theorem ok__law_of {P : Program} {w : World} {K : PySem.W.Frag} {mg : Str → Option Value} {base : Heap} {G : Gx K} (T : Tx mg) {f : Addr} {fd : FuncData} (F : Fun K ("_law_of" : Str) ("_law_of" : Str) s__law_of f fd) (D__law_take : DefOk P w mg base G ("_law_take" : Str) 1 2 F__law_take) : FnOk P w K mg base CX0 2 f fd [("_law_urn" : Str), ("_law_some_so" : Str)] (spF G F__law_of 2) :=
  have nd := sc__law_of.nd
  def_ok F sc__law_of rfl fun cdv A outer s H E hr => (dss_cons (ds_ret (dv_ix (dv_var 1) (dv_call (D__law_take.mono (by decide)) hr rfl (dvs_cons (dv_var 0) (dvs_cons (dv_bi ok_len rfl T.n_len (by decide +kernel) (dvs_cons (dv_var 1) dvs_nil)) dvs_nil)))))
    dss_nil)
abbrev s__law_same : Stmt := topS 23
theorem sc__law_same : FnScope [("_law_got" : Str), ("_law_goal" : Str), ("_law_mine_so" : Str), ("_law_own" : Str)] [("_law_got" : Str), ("_law_goal" : Str)] (defScope s__law_same) := ⟨rfl, rfl, rfl, by decide +kernel, rfl, by decide +kernel, by decide +kernel⟩
def m__law_same (F__law_same_ : List D → U → Option (D × U)) : MS := (sCons (sIf (mTru (mIsi ["list", "tuple"] (mVar 1))) (sCons (sIf (mOrB (mTru (mBin cNe (mIsi ["list"] (mVar 0)) (mIsi ["list"] (mVar 1)))) (mTru (mBin cNe (mIsi ["tuple"] (mVar 0)) (mIsi ["tuple"] (mVar 1))))) (sCons (sRet (mC (.bl false)))
    sNil) sNil)
    (sCons (sRet (mAnd (mBin cEq (mBi bLen (mCons (mVar 0) mNil)) (mBi bLen (mCons (mVar 1) mNil))) (mBi bAll (mCons (mLc (.many [2, 3]) [2, 3] (mZip (mVar 0) (mVar 1)) mYes (mCall 2 F__law_same_ (mCons (mVar 2) (mCons (mVar 3) mNil)))) mNil))))
    sNil)) sNil)
    (sCons (sIf (mOrB (mTru (mBin cIs (mVar 1) (mC .non))) (mTru (mIsi ["bool", "str"] (mVar 1)))) (sCons (sRet (mAnd (mBin cEq (mVar 0) (mVar 1)) (mAnd (mBin cEq (mIsi ["bool"] (mVar 0)) (mIsi ["bool"] (mVar 1))) (mBin cEq (mBin cIs (mVar 0) (mC .non)) (mBin cIs (mVar 1) (mC .non))))))
    sNil) sNil)
    (sCons (sRet (mAnd (mIsi ["int"] (mVar 0)) (mAnd (mNot (mIsi ["bool"] (mVar 0))) (mBin cEq (mVar 0) (mVar 1)))))
    sNil)))
def FR__law_same : Nat → List D → U → Option (D × U)
  | 0 => fun _ _ => none
  | n + 1 => runB (m__law_same (FR__law_same n)) 4
theorem okR__law_same {P : Program} {w : World} {K : PySem.W.Frag} {mg : Str → Option Value} {base : Heap} {G : Gx K} (T : Tx mg) {f : Addr} {fd : FuncData} (F : Fun K ("_law_same" : Str) ("_law_same" : Str) s__law_same f fd) (hm : mg ("_law_same" : Str) = some (.ref f)) (hb : Binds K fd [("_law_got" : Str), ("_law_goal" : Str)] [])  : ∀ n : Nat, FnOk P w K mg base CX0 (0 + n) f fd [("_law_got" : Str), ("_law_goal" : Str)] (spF G (FR__law_same n) 2)
  | 0 => ⟨fun _ _ _ _ h => (by obtain ⟨_, _, _, _, _, _, _, _, _, h, _⟩ := h; cases h), fun _ _ _ _ _ _ _ _ _ _ _ _ _ h => (by obtain ⟨_, _, _, _, _, _, _, _, _, h, _⟩ := h; cases h)⟩
  | n + 1 =>
    have nd := sc__law_same.nd
    have D__law_same : DefOk P w mg base G ("_law_same" : Str) (0 + n) 2 (FR__law_same n) := ⟨f, fd, _, okR__law_same T F hm hb  n, hm, F.kp, hb⟩
    def_ok (k := 0 + n) F sc__law_same rfl fun cdv A outer s H E hr => (dss_cons (ds_if (dt_val (dv_isi2 rfl T.n_isinstance (dv_var 1) rfl T.n_list (by decide +kernel) rfl T.n_tuple (by decide +kernel))) (dss_cons (ds_if (PW.pt (dw_or (dt_cmp (ok_ne (hU64 hr)) bf_ne (dv_isi rfl T.n_isinstance (dv_var 0) rfl T.n_list (by decide +kernel)) (dv_isi rfl T.n_isinstance (dv_var 1) rfl T.n_list (by decide +kernel))) (dw_or1 (dt_cmp (ok_ne (hU64 hr)) bf_ne (dv_isi rfl T.n_isinstance (dv_var 0) rfl T.n_tuple (by decide +kernel)) (dv_isi rfl T.n_isinstance (dv_var 1) rfl T.n_tuple (by decide +kernel)))))) (dss_cons (ds_ret dv_bl)
    dss_nil) dss_nil)
    (dss_cons (ds_ret (dv_and (dv_cmp (ok_eq (hU64 hr)) (dv_bi ok_len rfl T.n_len (by decide +kernel) (dvs_cons (dv_var 0) dvs_nil)) (dv_bi ok_len rfl T.n_len (by decide +kernel) (dvs_cons (dv_var 1) dvs_nil))) (dv_one _ (dv_bi (ok_all (by rfl)) rfl T.n_all (by decide +kernel) (dvs_cons (dv_lc (.many [2, 3]) [2, 3] rfl nd (di_zip rfl T.n_zip (dv_var 0) (dv_var 1)) (blkOk_by (own := [(("_law_mine_so" : Str), 2), (("_law_own" : Str), 3)]) (N := [("_law_got" : Str), ("_law_goal" : Str), ("_law_mine_so" : Str), ("_law_own" : Str)]) (sc := defScope s__law_same) (by decide +kernel)) rfl (by decide) (fun _ _ _ _ _ => (pg_tup rfl (pgs_cons (pg_name (i := 2) nd rfl (by first | exact Or.inl rfl | exact Or.inr rfl)) (pgs_cons (pg_name (i := 3) nd rfl (by first | exact Or.inl rfl | exact Or.inr rfl)) pgs_nil)))) (fun _ _ _ _ _ => dts_no) (fun _ _ _ _ _ => (dv_call (D__law_same) hr rfl (dvs_cons (dv_var 2) (dvs_cons (dv_var 3) dvs_nil))))) dvs_nil)))))
    dss_nil)) dss_nil)
    (dss_cons (ds_if (PW.pt (dw_or (dt_cmp ok_is bf_is (dv_var 1) dv_non) (dw_or1 (dt_val (dv_isi2 rfl T.n_isinstance (dv_var 1) rfl T.n_bool (by decide +kernel) rfl T.n_str (by decide +kernel)))))) (dss_cons (ds_ret (dv_and (dv_cmp (ok_eq (hU64 hr)) (dv_var 0) (dv_var 1)) (dv_and (dv_cmp (ok_eq (hU64 hr)) (dv_isi rfl T.n_isinstance (dv_var 0) rfl T.n_bool (by decide +kernel)) (dv_isi rfl T.n_isinstance (dv_var 1) rfl T.n_bool (by decide +kernel))) (dv_one _ (dv_cmp (ok_eq (hU64 hr)) (dv_cmp ok_is (dv_var 0) dv_non) (dv_cmp ok_is (dv_var 1) dv_non))))))
    dss_nil) dss_nil)
    (dss_cons (ds_ret (dv_and (dv_isi rfl T.n_isinstance (dv_var 0) rfl T.n_int (by decide +kernel)) (dv_and (dv_not (dv_isi rfl T.n_isinstance (dv_var 0) rfl T.n_bool (by decide +kernel))) (dv_one _ (dv_cmp (ok_eq (hU64 hr)) (dv_var 0) (dv_var 1))))))
    dss_nil)))
abbrev s__law_lists : Stmt := topS 24
theorem sc__law_lists : FnScope [("_law_thing_so" : Str), ("_law_bit" : Str)] [("_law_thing_so" : Str)] (defScope s__law_lists) := ⟨rfl, rfl, rfl, by decide +kernel, rfl, by decide +kernel, by decide +kernel⟩
def m__law_lists (F__law_lists_ : List D → U → Option (D × U)) : MS := (sCons (sRet (mIte (mTru (mIsi ["list", "tuple"] (mVar 0))) (mLc (.one 1) [1] (mItems (mVar 0)) mYes (mCall 1 F__law_lists_ (mCons (mVar 1) mNil))) (mVar 0)))
    sNil)
def FR__law_lists : Nat → List D → U → Option (D × U)
  | 0 => fun _ _ => none
  | n + 1 => runB (m__law_lists (FR__law_lists n)) 2
theorem okR__law_lists {P : Program} {w : World} {K : PySem.W.Frag} {mg : Str → Option Value} {base : Heap} {G : Gx K} (T : Tx mg) {f : Addr} {fd : FuncData} (F : Fun K ("_law_lists" : Str) ("_law_lists" : Str) s__law_lists f fd) (hm : mg ("_law_lists" : Str) = some (.ref f)) (hb : Binds K fd [("_law_thing_so" : Str)] [])  : ∀ n : Nat, FnOk P w K mg base CX0 (0 + n) f fd [("_law_thing_so" : Str)] (spF G (FR__law_lists n) 1)
  | 0 => ⟨fun _ _ _ _ h => (by obtain ⟨_, _, _, _, _, _, _, _, _, h, _⟩ := h; cases h), fun _ _ _ _ _ _ _ _ _ _ _ _ _ h => (by obtain ⟨_, _, _, _, _, _, _, _, _, h, _⟩ := h; cases h)⟩
  | n + 1 =>
    have nd := sc__law_lists.nd
    have D__law_lists : DefOk P w mg base G ("_law_lists" : Str) (0 + n) 1 (FR__law_lists n) := ⟨f, fd, _, okR__law_lists T F hm hb  n, hm, F.kp, hb⟩
    def_ok (k := 0 + n) F sc__law_lists rfl fun cdv A outer s H E hr => (dss_cons (ds_ret (dv_ite (dt_val (dv_isi2 rfl T.n_isinstance (dv_var 0) rfl T.n_list (by decide +kernel) rfl T.n_tuple (by decide +kernel))) (dv_lc (.one 1) [1] rfl nd (di_items (dv_var 0)) (blkOk_by (own := [(("_law_bit" : Str), 1)]) (N := [("_law_thing_so" : Str), ("_law_bit" : Str)]) (sc := defScope s__law_lists) (by decide +kernel)) rfl (by decide) (fun _ _ _ _ _ => (pg_name (i := 1) nd rfl (by first | exact Or.inl rfl | exact Or.inr rfl))) (fun _ _ _ _ _ => dts_no) (fun _ _ _ _ _ => (dv_call (D__law_lists) hr rfl (dvs_cons (dv_var 1) dvs_nil)))) (dv_var 0)))
    dss_nil)
abbrev s__law_mixed : Stmt := topS 25
theorem sc__law_mixed : FnScope [("_law_urn" : Str), ("_law_pool" : Str), ("_law_rest_so" : Str), ("_law_found" : Str), ("_law_turn" : Str)] [("_law_urn" : Str), ("_law_pool" : Str)] (defScope s__law_mixed) := ⟨rfl, rfl, rfl, by decide +kernel, rfl, by decide +kernel, by decide +kernel⟩
def m__law_mixed : MS := (sCons (sParv 2 3 (vList (mVar 1)) (vLst mNil))
    (sCons (sFor (.one 4) (mRange1 (mBi bLen (mCons (mVar 1) mNil))) (sCons (sAppPop 3 2 (mCall 2 F__law_take (mCons (mVar 0) (mCons (mPeek 2 (mBi bLen (mCons (mVar 2) mNil))) mNil))))
    sNil))
    (sPub 3
    (sCons (sRet (mVar 3))
    sNil))))
def F__law_mixed : List D → U → Option (D × U) := runB m__law_mixed 5
theorem ok__law_mixed {P : Program} {w : World} {K : PySem.W.Frag} {mg : Str → Option Value} {base : Heap} {G : Gx K} (T : Tx mg) {f : Addr} {fd : FuncData} (F : Fun K ("_law_mixed" : Str) ("_law_mixed" : Str) s__law_mixed f fd) (D__law_take : DefOk P w mg base G ("_law_take" : Str) 1 2 F__law_take) : FnOk P w K mg base CX0 2 f fd [("_law_urn" : Str), ("_law_pool" : Str)] (spF G F__law_mixed 2) :=
  have nd := sc__law_mixed.nd
  def_ok F sc__law_mixed rfl fun cdv A outer s H E hr => (dss_cons (ds_parv 2 3 (dv_oList rfl T.n_list (dv_var 1)) (dv_oLst dvs_nil) (fun h => ps_par (i := 2) (j := 3) rfl nd rfl rfl (by decide) rfl rfl h (by rfl)))
    (dss_cons (ds_for (.one 4) PassesOwn.never rfl (di_range1 rfl T.n_range (dv_bi ok_len rfl T.n_len (by decide +kernel) (dvs_cons (dv_var 1) dvs_nil))) (pg_name (i := 4) nd rfl (by first | exact Or.inl rfl | exact Or.inr rfl)) (dss_cons (ds_appPop 3 2 (dv_call (D__law_take.mono (by decide)) hr rfl (dvs_cons (dv_var 0) (dvs_cons (dv_peek 2 (dv_bi ok_len rfl T.n_len (by decide +kernel) (dvs_cons (dv_var 2) dvs_nil))) dvs_nil))))
    dss_nil))
    (dss_pub 3
    (dss_cons (ds_ret (dv_var 3))
    dss_nil))))
abbrev s__law_tags : Stmt := topS 26
theorem sc__law_tags : FnScope [("_law_urn" : Str), ("_law_many_so" : Str), ("_law_signs" : Str), ("_law_first_so" : Str), ("_law_by_so" : Str), ("_law_row_so" : Str), ("_law_stem" : Str), ("_law_at_so" : Str), ("_law_k" : Str), ("_law_turn" : Str)] [("_law_urn" : Str), ("_law_many_so" : Str)] (defScope s__law_tags) := ⟨rfl, rfl, rfl, by decide +kernel, rfl, by decide +kernel, by decide +kernel⟩
def m__law_tags : MS := (sCons (sSet 2 (mC (.str ("abcdefghijklmnopqrstuvwxyz" : Str))))
    (sCons (sTgt (.many [3, 4]) (mTup (mCons (mCall 2 F__law_take (mCons (mVar 0) (mCons (mC (.int (26))) mNil))) (mCons (mCall 2 F__law_of (mCons (mVar 0) (mCons (mLst (mCons (mC (.int (1))) (mCons (mC (.int (3))) (mCons (mC (.int (7))) (mCons (mC (.int (11))) (mCons (mC (.int (25))) mNil)))))) mNil))) mNil))))
    (sCons (sSet 5 (mLc (.one 8) [8] (mRange1 (mBi bMax2 (mCons (mC (.int (8))) (mCons (mVar 1) mNil)))) mYes (mBin ixD (mVar 2) (mBin fMod (mBi bInt (mCons (mBin fAdd (mVar 3) (mBin fMul (mVar 4) (mVar 8))) mNil)) (mC (.int (26)))))))
    (sCons (sIf (mAndB (mTru (mBin cLt (mVar 1) (mC (.int (9))))) (mTru (mBin cEq (mCall 2 F__law_take (mCons (mVar 0) (mCons (mC (.int (4))) mNil))) (mC (.int (0)))))) (sCons (sRet (mBi bSortB (mCons (mLc (.one 8) [8] (mRange1 (mVar 1)) mYes (mBin joinD (mC (.str ("" : Str))) (mSl (mVar 5) moNo (moAt (mBin fAdd (mVar 8) (mC (.int (1)))))))) mNil)))
    sNil) sNil)
    (sCons (sSet 6 (mBin joinD (mC (.str ("" : Str))) (mLc (.one 9) [9] (mRange1 (mCall 2 F__law_of (mCons (mVar 0) (mCons (mLst (mCons (mC (.int (0))) (mCons (mC (.int (0))) (mCons (mC (.int (1))) (mCons (mC (.int (5))) (mCons (mC (.int (7))) mNil)))))) mNil)))) mYes (mBin ixD (mVar 2) (mCall 2 F__law_take (mCons (mVar 0) (mCons (mC (.int (26))) mNil)))))))
    (sCons (sSet 7 (mCall 2 F__law_take (mCons (mVar 0) (mCons (mBin fAdd (mBi bLen (mCons (mVar 6) mNil)) (mC (.int (1)))) mNil))))
    (sCons (sRet (mBi bSortB (mCons (mLc (.one 8) [8] (mRange1 (mVar 1)) mYes (mBin fAdd (mBin fAdd (mSl (mVar 6) moNo (moAt (mVar 7))) (mBin ixD (mVar 5) (mVar 8))) (mSl (mVar 6) (moAt (mVar 7)) moNo))) mNil)))
    sNil)))))))
def F__law_tags : List D → U → Option (D × U) := runB m__law_tags 10
theorem ok__law_tags {P : Program} {w : World} {K : PySem.W.Frag} {mg : Str → Option Value} {base : Heap} {G : Gx K} (T : Tx mg) {f : Addr} {fd : FuncData} (F : Fun K ("_law_tags" : Str) ("_law_tags" : Str) s__law_tags f fd) (D__law_of : DefOk P w mg base G ("_law_of" : Str) 2 2 F__law_of) (D__law_take : DefOk P w mg base G ("_law_take" : Str) 1 2 F__law_take) : FnOk P w K mg base CX0 3 f fd [("_law_urn" : Str), ("_law_many_so" : Str)] (spF G F__law_tags 2) :=
  have nd := sc__law_tags.nd
  def_ok F sc__law_tags rfl fun cdv A outer s H E hr => (dss_cons (ds_set 2 nd dv_str)
    (dss_cons (ds_tgt (.many [3, 4]) (dv_tup (dvs_cons (dv_call (D__law_take.mono (by decide)) hr rfl (dvs_cons (dv_var 0) (dvs_cons dv_int dvs_nil))) (dvs_cons (dv_call (D__law_of.mono (by decide)) hr rfl (dvs_cons (dv_var 0) (dvs_cons (dv_lst (dvs_cons dv_int (dvs_cons dv_int (dvs_cons dv_int (dvs_cons dv_int (dvs_cons dv_int dvs_nil)))))) dvs_nil))) dvs_nil))) (pg_tup rfl (pgs_cons (pg_name (i := 3) nd rfl (by first | exact Or.inl rfl | exact Or.inr rfl)) (pgs_cons (pg_name (i := 4) nd rfl (by first | exact Or.inl rfl | exact Or.inr rfl)) pgs_nil))))
    (dss_cons (ds_set 5 nd (dv_lc (.one 8) [8] rfl nd (di_range1 rfl T.n_range (dv_bi (ok_max2 (by rfl)) rfl T.n_max (by decide +kernel) (dvs_cons dv_int (dvs_cons (dv_var 1) dvs_nil)))) (blkOk_by (own := [(("_law_k" : Str), 8)]) (N := [("_law_urn" : Str), ("_law_many_so" : Str), ("_law_signs" : Str), ("_law_first_so" : Str), ("_law_by_so" : Str), ("_law_row_so" : Str), ("_law_stem" : Str), ("_law_at_so" : Str), ("_law_k" : Str), ("_law_turn" : Str)]) (sc := defScope s__law_tags) (by decide +kernel)) rfl (by decide) (fun _ _ _ _ _ => (pg_name (i := 8) nd rfl (by first | exact Or.inl rfl | exact Or.inr rfl))) (fun _ _ _ _ _ => dts_no) (fun _ _ _ _ _ => (dv_ix (dv_var 2) (dv_bin ok_mod (dv_ty ok_int rfl T.n_int (by decide +kernel) (dvs_cons (dv_bin ok_add (dv_var 3) (dv_bin ok_mul (dv_var 4) (dv_var 8))) dvs_nil)) dv_int)))))
    (dss_cons (ds_if (PW.pt (dw_and (dt_cmp ok_lt bf_lt (dv_var 1) dv_int) (dw_and1 (dt_cmp (ok_eq (hU64 hr)) bf_eq (dv_call (D__law_take.mono (by decide)) hr rfl (dvs_cons (dv_var 0) (dvs_cons dv_int dvs_nil))) dv_int)))) (dss_cons (ds_ret (dv_bi (ok_sortB (hU64 hr)) rfl T.n_sorted (by decide +kernel) (dvs_cons (dv_lc (.one 8) [8] rfl nd (di_range1 rfl T.n_range (dv_var 1)) (blkOk_by (own := [(("_law_k" : Str), 8)]) (N := [("_law_urn" : Str), ("_law_many_so" : Str), ("_law_signs" : Str), ("_law_first_so" : Str), ("_law_by_so" : Str), ("_law_row_so" : Str), ("_law_stem" : Str), ("_law_at_so" : Str), ("_law_k" : Str), ("_law_turn" : Str)]) (sc := defScope s__law_tags) (by decide +kernel)) rfl (by decide) (fun _ _ _ _ _ => (pg_name (i := 8) nd rfl (by first | exact Or.inl rfl | exact Or.inr rfl))) (fun _ _ _ _ _ => dts_no) (fun _ _ _ _ _ => (dv_join dv_str (dv_sl (dv_var 5) do_no (do_at (dv_bin ok_add (dv_var 8) dv_int)))))) dvs_nil)))
    dss_nil) dss_nil)
    (dss_cons (ds_set 6 nd (dv_join dv_str (dv_lc (.one 9) [9] rfl nd (di_range1 rfl T.n_range (dv_call (D__law_of.mono (by decide)) hr rfl (dvs_cons (dv_var 0) (dvs_cons (dv_lst (dvs_cons dv_int (dvs_cons dv_int (dvs_cons dv_int (dvs_cons dv_int (dvs_cons dv_int dvs_nil)))))) dvs_nil)))) (blkOk_by (own := [(("_law_turn" : Str), 9)]) (N := [("_law_urn" : Str), ("_law_many_so" : Str), ("_law_signs" : Str), ("_law_first_so" : Str), ("_law_by_so" : Str), ("_law_row_so" : Str), ("_law_stem" : Str), ("_law_at_so" : Str), ("_law_k" : Str), ("_law_turn" : Str)]) (sc := defScope s__law_tags) (by decide +kernel)) rfl (by decide) (fun _ _ _ _ _ => (pg_name (i := 9) nd rfl (by first | exact Or.inl rfl | exact Or.inr rfl))) (fun _ _ _ _ _ => dts_no) (fun _ _ _ _ _ => (dv_ix (dv_var 2) (dv_call (D__law_take.mono (by decide)) hr rfl (dvs_cons (dv_var 0) (dvs_cons dv_int dvs_nil))))))))
    (dss_cons (ds_set 7 nd (dv_call (D__law_take.mono (by decide)) hr rfl (dvs_cons (dv_var 0) (dvs_cons (dv_bin ok_add (dv_bi ok_len rfl T.n_len (by decide +kernel) (dvs_cons (dv_var 6) dvs_nil)) dv_int) dvs_nil))))
    (dss_cons (ds_ret (dv_bi (ok_sortB (hU64 hr)) rfl T.n_sorted (by decide +kernel) (dvs_cons (dv_lc (.one 8) [8] rfl nd (di_range1 rfl T.n_range (dv_var 1)) (blkOk_by (own := [(("_law_k" : Str), 8)]) (N := [("_law_urn" : Str), ("_law_many_so" : Str), ("_law_signs" : Str), ("_law_first_so" : Str), ("_law_by_so" : Str), ("_law_row_so" : Str), ("_law_stem" : Str), ("_law_at_so" : Str), ("_law_k" : Str), ("_law_turn" : Str)]) (sc := defScope s__law_tags) (by decide +kernel)) rfl (by decide) (fun _ _ _ _ _ => (pg_name (i := 8) nd rfl (by first | exact Or.inl rfl | exact Or.inr rfl))) (fun _ _ _ _ _ => dts_no) (fun _ _ _ _ _ => (dv_bin ok_add (dv_bin ok_add (dv_sl (dv_var 6) do_no (do_at (dv_var 7))) (dv_ix (dv_var 5) (dv_var 8))) (dv_sl (dv_var 6) (do_at (dv_var 7)) do_no)))) dvs_nil)))
    dss_nil)))))))
abbrev s__law_wood : Stmt := topS 27
theorem sc__law_wood : FnScope [("_law_urn" : Str), ("_law_many_so" : Str), ("_law_names_so" : Str), ("_law_found" : Str), ("_law_k" : Str), ("_law_own" : Str)] [("_law_urn" : Str), ("_law_many_so" : Str)] (defScope s__law_wood) := ⟨rfl, rfl, rfl, by decide +kernel, rfl, by decide +kernel, by decide +kernel⟩
def m__law_wood : MS := (sCons (sParv 2 3 (vP (mCall 2 F__law_mixed (mCons (mVar 0) (mCons (mCall 2 F__law_tags (mCons (mVar 0) (mCons (mVar 1) mNil))) mNil)))) (vLst mNil))
    (sCons (sFor (.many [4, 5]) (mEnumA (mVar 2)) (sCons (sApp 3 (mTup (mCons (mVar 5) (mCons (mCall 2 F__law_of (mCons (mVar 0) (mCons (mBin fAdd (mLst (mCons (mC (.str ("" : Str))) mNil)) (mSl (mVar 2) moNo (moAt (mVar 4)))) mNil))) mNil))))
    sNil))
    (sPub 3
    (sCons (sRet (mBi bTuple (mCons (mBi bSortB (mCons (mVar 3) mNil)) mNil)))
    sNil))))
def F__law_wood : List D → U → Option (D × U) := runB m__law_wood 6
theorem ok__law_wood {P : Program} {w : World} {K : PySem.W.Frag} {mg : Str → Option Value} {base : Heap} {G : Gx K} (T : Tx mg) {f : Addr} {fd : FuncData} (F : Fun K ("_law_wood" : Str) ("_law_wood" : Str) s__law_wood f fd) (D__law_mixed : DefOk P w mg base G ("_law_mixed" : Str) 2 2 F__law_mixed) (D__law_of : DefOk P w mg base G ("_law_of" : Str) 2 2 F__law_of) (D__law_tags : DefOk P w mg base G ("_law_tags" : Str) 3 2 F__law_tags) : FnOk P w K mg base CX0 4 f fd [("_law_urn" : Str), ("_law_many_so" : Str)] (spF G F__law_wood 2) :=
  have nd := sc__law_wood.nd
  def_ok F sc__law_wood rfl fun cdv A outer s H E hr => (dss_cons (ds_parv 2 3 (dv_P (dv_call (D__law_mixed.mono (by decide)) hr rfl (dvs_cons (dv_var 0) (dvs_cons (dv_call (D__law_tags.mono (by decide)) hr rfl (dvs_cons (dv_var 0) (dvs_cons (dv_var 1) dvs_nil))) dvs_nil)))) (dv_oLst dvs_nil) (fun h => ps_par (i := 2) (j := 3) rfl nd rfl rfl (by decide) rfl rfl h (by rfl)))
    (dss_cons (ds_for (.many [4, 5]) PassesOwn.never rfl (di_enumA rfl T.n_enumerate (dv_var 2)) (pg_tup rfl (pgs_cons (pg_name (i := 4) nd rfl (by first | exact Or.inl rfl | exact Or.inr rfl)) (pgs_cons (pg_name (i := 5) nd rfl (by first | exact Or.inl rfl | exact Or.inr rfl)) pgs_nil))) (dss_cons (ds_app 3 (dv_tup (dvs_cons (dv_var 5) (dvs_cons (dv_call (D__law_of.mono (by decide)) hr rfl (dvs_cons (dv_var 0) (dvs_cons (dv_bin ok_add (dv_lst (dvs_cons dv_str dvs_nil)) (dv_sl (dv_var 2) do_no (do_at (dv_var 4)))) dvs_nil))) dvs_nil))))
    dss_nil))
    (dss_pub 3
    (dss_cons (ds_ret (dv_ty ok_tuple rfl T.n_tuple (by decide +kernel) (dvs_cons (dv_bi (ok_sortB (hU64 hr)) rfl T.n_sorted (by decide +kernel) (dvs_cons (dv_var 3) dvs_nil)) dvs_nil)))
    dss_nil))))
abbrev s__law_ups : Stmt := topS 28
theorem sc__law_ups : FnScope [("_law_wood_so" : Str), ("_law_own" : Str), ("_law_known" : Str), ("_law_here" : Str), ("_law_found" : Str)] [("_law_wood_so" : Str), ("_law_own" : Str)] (defScope s__law_ups) := ⟨rfl, rfl, rfl, by decide +kernel, rfl, by decide +kernel, by decide +kernel⟩
def m__law_ups : MS := (sCons (sParv3 2 3 4 (vDictP (mVar 0)) (vP (mVar 1)) (vLst mNil))
    (sPub 2
    (sCons (sWh 4000 (mTru (mBin cNe (mVar 3) (mC (.str ("" : Str))))) (sCons (sSet 3 (mBin dixD (mVar 2) (mVar 3)))
    (sCons (sApp 4 (mVar 3))
    sNil)))
    (sPub 4
    (sCons (sRet (mVar 4))
    sNil)))))
def F__law_ups : List D → U → Option (D × U) := runB m__law_ups 5
theorem ok__law_ups {P : Program} {w : World} {K : PySem.W.Frag} {mg : Str → Option Value} {base : Heap} {G : Gx K} (T : Tx mg) {f : Addr} {fd : FuncData} (F : Fun K ("_law_ups" : Str) ("_law_ups" : Str) s__law_ups f fd)  : FnOk P w K mg base CX0 1 f fd [("_law_wood_so" : Str), ("_law_own" : Str)] (spF G F__law_ups 2) :=
  have nd := sc__law_ups.nd
  def_ok F sc__law_ups rfl fun cdv A outer s H E hr => (dss_cons (ds_parv3 2 3 4 (dv_oDictP rfl rfl T.n_dict (dv_var 0)) (dv_P (dv_var 1)) (dv_oLst dvs_nil) (fun h => ps_par3 (i := 2) (j := 3) (l := 4) rfl nd rfl rfl rfl (by decide) (by decide) (by decide) rfl rfl rfl h (by rfl)))
    (dss_pub 2
    (dss_cons (ds_while 4000 PassesOwn.never (dt_cmp (ok_ne (hU64 hr)) bf_ne (dv_var 3) dv_str) (dss_cons (ds_set 3 nd (dv_dix (hU1 hr) (dv_var 2) (dv_var 3)))
    (dss_cons (ds_app 4 (dv_var 3))
    dss_nil)))
    (dss_pub 4
    (dss_cons (ds_ret (dv_var 4))
    dss_nil)))))
abbrev s__law_lost : Stmt := topS 29
theorem sc__law_lost : FnScope [("_law_door" : Str), ("_law_wood_so" : Str), ("_law_own" : Str), ("_law_bit" : Str), ("_law_caught" : Str), ("error" : Str)] [("_law_door" : Str), ("_law_wood_so" : Str), ("_law_own" : Str), ("_law_bit" : Str)] (defScope s__law_lost) := ⟨rfl, rfl, rfl, by decide +kernel, rfl, by decide +kernel, by decide +kernel⟩
def m__law_lost : MS := (sCons (sSet 4 (mC .non))
    (sCons (sTry ("NoStream" : Str) 5
      (sCons (sIf (mTru (mBin cEq (mVar 0) (mC (.int (0))))) (sCons (sDropX (xCall 2 F_way_up (mCons (mVar 1) (mCons (mVar 2) mNil))))
    sNil) (sCons (sIf (mTru (mBin cEq (mVar 0) (mC (.int (1))))) (sCons (sDropX (xCall 2 F_through (mCons (mVar 1) (mCons (mVar 2) mNil))))
    sNil) (sCons (sDropX (xCall 3 F_meeting (mCons (mVar 1) (mCons (mVar 2) (mCons (mVar 3) mNil)))))
    sNil))
    sNil))
    sNil)
      (sCons (sSet 4 (mVar 5))
    sNil))
    (sCons (sRet (mIte (mTru (mBin cIs (mVar 4) (mC .non))) (mC .non) (mLst (mCons (mXf ("NoStream" : Str) ("name" : Str) (mVar 4)) (mCons (mIsE ("NoStream" : Str) true (mVar 4)) mNil)))))
    sNil)))
def F__law_lost : List D → U → Option (D × U) := runB m__law_lost 6
theorem ok__law_lost {P : Program} {w : World} {K : PySem.W.Frag} {mg : Str → Option Value} {base : Heap} {G : Gx K} (T : Tx mg) {f : Addr} {fd : FuncData} (F : Fun K ("_law_lost" : Str) ("_law_lost" : Str) s__law_lost f fd) (HE_NoStream : ∃ C, G.exc ("NoStream" : Str) = some C ∧ mg ("NoStream" : Str) = some (.ref C)) (XF_NoStream_name : ∀ C, G.exc ("NoStream" : Str) = some C → PySem.W.findIn K (.ref C) ("name" : Str) = some none) (KI_NoStream_LookupError : ∀ C, G.exc ("NoStream" : Str) = some C → PySem.W.kitOne K (.ref C) (.type "LookupError") = some true) (DX_meeting : DefOkX P w mg base G ("meeting" : Str) 4 3 F_meeting) (DX_through : DefOkX P w mg base G ("through" : Str) 4 2 F_through) (DX_way_up : DefOkX P w mg base G ("way_up" : Str) 3 2 F_way_up) : FnOk P w K mg base CX0 5 f fd [("_law_door" : Str), ("_law_wood_so" : Str), ("_law_own" : Str), ("_law_bit" : Str)] (spF G F__law_lost 4) :=
  have nd := sc__law_lost.nd
  def_ok F sc__law_lost rfl fun cdv A outer s H E hr => (dss_cons (ds_set 4 nd dv_non)
    (dss_cons (ds_try (i := 5) rfl rfl rfl nd rfl rfl HE_NoStream rfl (by decide)
      (fun W pn xe tk hp => (dss_cons (ds_if (dt_cmp (ok_eq (hU64 hr)) bf_eq (dv_var 0) dv_int) (dss_cons (dsx_drop (dx_call (DX_way_up.mono (by decide)) tk hr rfl (dvs_cons (dv_var 1) (dvs_cons (dv_var 2) dvs_nil))))
    dss_nil) (dss_cons (ds_if (dt_cmp (ok_eq (hU64 hr)) bf_eq (dv_var 0) dv_int) (dss_cons (dsx_drop (dx_call (DX_through.mono (by decide)) tk hr rfl (dvs_cons (dv_var 1) (dvs_cons (dv_var 2) dvs_nil))))
    dss_nil) (dss_cons (dsx_drop (dx_call (DX_meeting.mono (by decide)) tk hr rfl (dvs_cons (dv_var 1) (dvs_cons (dv_var 2) (dvs_cons (dv_var 3) dvs_nil)))))
    dss_nil))
    dss_nil))
    dss_nil))
      (fun a pn => (dss_cons (ds_set 4 nd (dv_var 5))
    dss_nil)))
    (dss_cons (ds_ret (dv_ite (dt_cmp ok_is bf_is (dv_var 4) dv_non) dv_non (dv_lst (dvs_cons (dv_xf XF_NoStream_name (dv_var 4)) (dvs_cons (dv_isE KI_NoStream_LookupError rfl T.n_isinstance (dv_var 4) rfl T.n_LookupError (by decide +kernel)) dvs_nil)))))
    dss_nil)))
abbrev s__law_by_hand_right : Stmt := topS 30
theorem sc__law_by_hand_right : FnScope [("_law_wood_so" : Str), ("_law_chain" : Str), ("_law_fine" : Str), ("_law_odd" : Str), ("_law_got" : Str), ("_law_goal" : Str), ("_law_far" : Str), ("_law_twos" : Str), ("_law_own" : Str), ("_law_bit" : Str), ("_law_door" : Str)] [] (defScope s__law_by_hand_right) := ⟨rfl, rfl, rfl, by decide +kernel, rfl, by decide +kernel, by decide +kernel⟩
def m__law_by_hand_right : MS := (sCons (sSet 0 (mTup (mCons (mTup (mCons (mC (.str ("bytes" : Str))) (mCons (mC (.str ("" : Str))) mNil))) (mCons (mTup (mCons (mC (.str ("err" : Str))) (mCons (mC (.str ("" : Str))) mNil))) (mCons (mTup (mCons (mC (.str ("text" : Str))) (mCons (mC (.str ("bytes" : Str))) mNil))) (mCons (mTup (mCons (mC (.str ("utf" : Str))) (mCons (mC (.str ("bytes" : Str))) mNil))) mNil))))))
    (sCons (sSet 1 (mBi bTuple (mCons (mLc (.many [8, 9]) [8, 9] (mZipSL (mC (.str ("abcdefghij" : Str))) (mBin fAdd (mLst (mCons (mC (.str ("" : Str))) mNil)) (mBi bListS (mCons (mC (.str ("abcdefghi" : Str))) mNil)))) mYes (mTup (mCons (mVar 8) (mCons (mVar 9) mNil)))) mNil)))
    (sCons (sSet 2 (mLst (mCons (mTup mNil) (mCons (mTup (mCons (mTup (mCons (mC (.str ("a" : Str))) (mCons (mC (.str ("" : Str))) mNil))) mNil)) (mCons (mTup (mCons (mTup (mCons (mC (.str ("a" : Str))) (mCons (mC (.str ("b" : Str))) mNil))) (mCons (mTup (mCons (mC (.str ("b" : Str))) (mCons (mC (.str ("" : Str))) mNil))) mNil))) (mCons (mVar 0) (mCons (mVar 1) mNil)))))))
    (sCons (sSet 3 (mLst (mCons (mBin fAdd (mVar 1) (mTup (mCons (mTup (mCons (mC (.str ("k" : Str))) (mCons (mC (.str ("j" : Str))) mNil))) mNil))) (mCons (mTup (mCons (mTup (mCons (mC (.str ("a" : Str))) (mCons (mC (.str ("a" : Str))) mNil))) mNil)) (mCons (mTup (mCons (mTup (mCons (mC (.str ("a" : Str))) (mCons (mC (.str ("b" : Str))) mNil))) (mCons (mTup (mCons (mC (.str ("b" : Str))) (mCons (mC (.str ("a" : Str))) mNil))) mNil))) (mCons (mTup (mCons (mTup (mCons (mC (.str ("a" : Str))) (mCons (mC (.str ("b" : Str))) mNil))) mNil)) (mCons (mTup (mCons (mTup (mCons (mC (.str ("b" : Str))) (mCons (mC (.str ("" : Str))) mNil))) (mCons (mTup (mCons (mC (.str ("a" : Str))) (mCons (mC (.str ("" : Str))) mNil))) mNil))) mNil)))))))
    (sCons (sSet 3 (mBin fAdd (mVar 3) (mLst (mCons (mTup (mCons (mTup (mCons (mC (.str ("a" : Str))) (mCons (mC (.str ("" : Str))) mNil))) (mCons (mTup (mCons (mC (.str ("a" : Str))) (mCons (mC (.str ("" : Str))) mNil))) mNil))) (mCons (mLst (mCons (mTup (mCons (mC (.str ("a" : Str))) (mCons (mC (.str ("" : Str))) mNil))) mNil)) (mCons (mTup (mCons (mLst (mCons (mC (.str ("a" : Str))) (mCons (mC (.str ("" : Str))) mNil))) mNil)) (mCons (mTup (mCons (mTup (mCons (mC (.str ("a" : Str))) mNil)) mNil)) (mCons (mTup (mCons (mTup (mCons (mC (.str ("A" : Str))) (mCons (mC (.str ("" : Str))) mNil))) mNil)) (mCons (mTup (mCons (mTup (mCons (mC (.str ("a" : Str))) (mCons (mC .non) mNil))) mNil)) mNil)))))))))
    (sCons (sSet 3 (mBin fAdd (mVar 3) (mLst (mCons (mTup (mCons (mTup (mCons (mC (.str ("a" : Str))) (mCons (mC (.int (1))) mNil))) mNil)) mNil))))
    (sCons (sSet 3 (mBin fAdd (mVar 3) (mLst (mCons (mTup (mCons (mTup (mCons (mC (.str ("a" : Str))) (mCons (mC (.str ("" : Str))) (mCons (mC (.str ("" : Str))) mNil)))) mNil)) (mCons (mC .non) (mCons (mC (.str ("a" : Str))) (mCons (mC (.int (5))) (mCons (mTup (mCons (mC (.str ("a" : Str))) (mCons (mC (.str ("" : Str))) mNil))) (mCons (mTup (mCons (mTup (mCons (mC (.str ("a" : Str))) (mCons (mC (.str ("A" : Str))) mNil))) mNil)) (mCons (mTup (mCons (mTup (mCons (mC (.str ("" : Str))) (mCons (mC (.str ("a" : Str))) mNil))) (mCons (mTup (mCons (mC (.str ("a" : Str))) (mCons (mC (.str ("" : Str))) mNil))) mNil))) mNil))))))))))
    (sCons (sSet 3 (mBin fAdd (mVar 3) (mLst (mCons (mTup (mCons (mTup (mCons (mC (.str ("a" : Str))) (mCons (mLst (mCons (mC (.str ("b" : Str))) mNil)) mNil))) (mCons (mTup (mCons (mC (.str ("b" : Str))) (mCons (mC (.str ("" : Str))) mNil))) mNil))) mNil))))
    (sCons (sSet 3 (mBin fAdd (mVar 3) (mLst (mCons (mTup (mCons (mTup (mCons (mC (.str ("a" : Str))) (mCons (mC (.str ("b" : Str))) mNil))) (mCons (mTup (mCons (mC (.str ("b" : Str))) (mCons (mC (.str ("c" : Str))) mNil))) (mCons (mTup (mCons (mC (.str ("c" : Str))) (mCons (mC (.str ("a" : Str))) mNil))) (mCons (mTup (mCons (mC (.str ("d" : Str))) (mCons (mC (.str ("" : Str))) mNil))) mNil))))) (mCons (mTup (mCons (mTup (mCons (mC (.str ("a" : Str))) (mCons (mC (.str ("" : Str))) mNil))) (mCons (mTup (mCons (mC (.str ("b" : Str))) (mCons (mC (.str ("c" : Str))) mNil))) mNil))) mNil)))))
    (sCons (sSet 3 (mBin fAdd (mVar 3) (mLst (mCons (mTup (mCons (mTup (mCons (mC (.str ("a" : Str))) (mCons (mC (.str ("b" : Str))) mNil))) (mCons (mTup (mCons (mC (.str ("b" : Str))) (mCons (mC (.str ("b" : Str))) mNil))) mNil))) (mCons (mC (.bl true)) mNil)))))
    (sCons (sSet 4 (mBin fAdd (mLc (.one 8) [8] (mItems (mBin fAdd (mVar 2) (mVar 3))) mYes (mCall 1 F_is_tree (mCons (mVar 8) mNil))) (mLst (mCons (mCallP 1 [0] F_is_tree (mCons (mVar 0) mNil)) mNil))))
    (sCons (sSet 5 (mBin fAdd (mBin fAdd (mBin fMul (mLst (mCons (mC (.bl true)) mNil)) (mC (.int (5)))) (mBin fMul (mLst (mCons (mC (.bl false)) mNil)) (mC (.int (24))))) (mLst (mCons (mC (.bl true)) mNil))))
    (sCons (sSet 4 (mBin fAdd (mVar 4) (mLst (mCons (mCall 1 F_leaves (mCons (mVar 0) mNil)) (mCons (mCall 1 F_leaves (mCons (mTup mNil) mNil)) (mCons (mCall 1 F_leaves (mCons (mVar 1) mNil)) (mCons (mCallP 1 [0] F_leaves (mCons (mCall 1 (FR__law_lists 6) (mCons (mVar 0) mNil)) mNil)) (mCons (mCall 1 F_leaves (mCons (mBin ixD (mVar 2) (mC (.int (2)))) mNil)) mNil))))))))
    (sCons (sSet 5 (mBin fAdd (mVar 5) (mLst (mCons (mTup (mCons (mC (.str ("err" : Str))) (mCons (mC (.str ("text" : Str))) (mCons (mC (.str ("utf" : Str))) mNil)))) (mCons (mTup mNil) (mCons (mTup (mCons (mC (.str ("j" : Str))) mNil)) (mCons (mTup (mCons (mC (.str ("err" : Str))) (mCons (mC (.str ("text" : Str))) (mCons (mC (.str ("utf" : Str))) mNil)))) (mCons (mTup (mCons (mC (.str ("a" : Str))) mNil)) mNil))))))))
    (sCons (sSet 4 (mBin fAdd (mVar 4) (mLst (mCons (mCall 2 (okF F_way_up) (mCons (mVar 0) (mCons (mC (.str ("text" : Str))) mNil))) (mCons (mCall 2 (okF F_way_up) (mCons (mVar 0) (mCons (mC (.str ("err" : Str))) mNil))) (mCons (mCall 2 (okF F_way_up) (mCons (mVar 1) (mCons (mC (.str ("j" : Str))) mNil))) mNil))))))
    (sCons (sSet 4 (mBin fAdd (mVar 4) (mLst (mCons (mCallP 2 [1, 0] (okF F_way_up) (mCons (mC (.str ("b" : Str))) (mCons (mCall 1 (FR__law_lists 6) (mCons (mVar 1) mNil)) mNil))) mNil))))
    (sCons (sSet 5 (mBin fAdd (mVar 5) (mLst (mCons (mTup (mCons (mC (.str ("bytes" : Str))) (mCons (mC (.str ("" : Str))) mNil))) (mCons (mTup (mCons (mC (.str ("" : Str))) mNil)) (mCons (mTup (mCons (mC (.str ("i" : Str))) (mCons (mC (.str ("h" : Str))) (mCons (mC (.str ("g" : Str))) (mCons (mC (.str ("f" : Str))) (mCons (mC (.str ("e" : Str))) (mCons (mC (.str ("d" : Str))) (mCons (mC (.str ("c" : Str))) (mCons (mC (.str ("b" : Str))) (mCons (mC (.str ("a" : Str))) (mCons (mC (.str ("" : Str))) mNil))))))))))) (mCons (mTup (mCons (mC (.str ("a" : Str))) (mCons (mC (.str ("" : Str))) mNil))) mNil)))))))
    (sCons (sSet 6 (mTup (mCons (mTup (mCons (mC (.str ("a" : Str))) (mCons (mC (.str ("" : Str))) mNil))) (mCons (mTup (mCons (mC (.str ("b" : Str))) (mCons (mC (.str ("a" : Str))) mNil))) (mCons (mTup (mCons (mC (.str ("c" : Str))) (mCons (mC (.str ("b" : Str))) mNil))) (mCons (mTup (mCons (mC (.str ("d" : Str))) (mCons (mC (.str ("b" : Str))) mNil))) (mCons (mTup (mCons (mC (.str ("e" : Str))) (mCons (mC (.str ("a" : Str))) mNil))) (mCons (mTup (mCons (mC (.str ("f" : Str))) (mCons (mC (.str ("" : Str))) mNil))) mNil))))))))
    (sCons (sSet 7 (mLst (mCons (mTup (mCons (mC (.str ("c" : Str))) (mCons (mC (.str ("d" : Str))) mNil))) (mCons (mTup (mCons (mC (.str ("d" : Str))) (mCons (mC (.str ("e" : Str))) mNil))) (mCons (mTup (mCons (mC (.str ("e" : Str))) (mCons (mC (.str ("c" : Str))) mNil))) (mCons (mTup (mCons (mC (.str ("f" : Str))) (mCons (mC (.str ("c" : Str))) mNil))) (mCons (mTup (mCons (mC (.str ("b" : Str))) (mCons (mC (.str ("e" : Str))) mNil))) (mCons (mTup (mCons (mC (.str ("b" : Str))) (mCons (mC (.str ("f" : Str))) mNil))) (mCons (mTup (mCons (mC (.str ("a" : Str))) (mCons (mC (.str ("f" : Str))) mNil))) mNil)))))))))
    (sCons (sSv 4 (vAdd (mVar 4) (mLc (.many [8, 9]) [8, 9] (mItems (mVar 7)) mYes (mCall 3 (okF F_meeting) (mCons (mVar 6) (mCons (mVar 8) (mCons (mVar 9) mNil)))))))
    (sCons (sApp 4 (mCallP 3 [2, 1, 0] (okF F_meeting) (mCons (mC (.str ("text" : Str))) (mCons (mC (.str ("utf" : Str))) (mCons (mCall 1 (FR__law_lists 6) (mCons (mVar 0) mNil)) mNil)))))
    (sPub 4
    (sCons (sSet 5 (mBin fAdd (mVar 5) (mLst (mCons (mC (.str ("b" : Str))) (mCons (mC (.str ("a" : Str))) (mCons (mC (.str ("a" : Str))) (mCons (mC (.str ("" : Str))) (mCons (mC (.str ("a" : Str))) (mCons (mC (.str ("" : Str))) (mCons (mC (.str ("" : Str))) (mCons (mC (.str ("bytes" : Str))) mNil)))))))))))
    (sCons (sSet 4 (mBin fAdd (mVar 4) (mLst (mCons (mCall 2 (okF F_through) (mCons (mVar 0) (mCons (mC (.str ("text" : Str))) mNil))) (mCons (mCall 2 (okF F_through) (mCons (mVar 0) (mCons (mC (.str ("bytes" : Str))) mNil))) (mCons (mCallP 2 [1, 0] (okF F_through) (mCons (mC (.str ("d" : Str))) (mCons (mCall 1 (FR__law_lists 6) (mCons (mVar 6) mNil)) mNil))) mNil))))))
    (sCons (sSv 5 (vAdd (mVar 5) (mLst (mCons (mTup (mCons (mTup (mCons (mC (.str ("flush" : Str))) (mCons (mC (.str ("text" : Str))) mNil))) (mCons (mTup (mCons (mC (.str ("flush" : Str))) (mCons (mC (.str ("bytes" : Str))) mNil))) mNil))) (mCons (mTup (mCons (mTup (mCons (mC (.str ("flush" : Str))) (mCons (mC (.str ("bytes" : Str))) mNil))) mNil)) mNil)))))
    (sCons (sApp 5 (mTup (mCons (mTup (mCons (mC (.str ("flush" : Str))) (mCons (mC (.str ("d" : Str))) mNil))) (mCons (mTup (mCons (mC (.str ("flush" : Str))) (mCons (mC (.str ("b" : Str))) mNil))) (mCons (mTup (mCons (mC (.str ("flush" : Str))) (mCons (mC (.str ("a" : Str))) mNil))) mNil)))))
    (sPub 5
    (sCons (sSet 4 (mBin fAdd (mVar 4) (mLc (.one 10) [10] (mRange1 (mC (.int (3)))) mYes (mCall 4 F__law_lost (mCons (mVar 10) (mCons (mVar 6) (mCons (mC (.str ("x" : Str))) (mCons (mC (.str ("y" : Str))) mNil))))))))
    (sCons (sSet 4 (mBin fAdd (mVar 4) (mLst (mCons (mCall 4 F__law_lost (mCons (mC (.int (2))) (mCons (mVar 6) (mCons (mC (.str ("a" : Str))) (mCons (mC (.str ("y" : Str))) mNil))))) (mCons (mCall 4 F__law_lost (mCons (mC (.int (2))) (mCons (mVar 6) (mCons (mC (.str ("z" : Str))) (mCons (mC (.str ("a" : Str))) mNil))))) (mCons (mCall 4 F__law_lost (mCons (mC (.int (0))) (mCons (mTup mNil) (mCons (mC (.str ("a" : Str))) (mCons (mC (.str ("" : Str))) mNil))))) mNil))))))
    (sCons (sSet 5 (mBin fAdd (mBin fAdd (mVar 5) (mBin fMul (mLst (mCons (mLst (mCons (mC (.str ("x" : Str))) (mCons (mC (.bl true)) mNil))) mNil)) (mC (.int (3))))) (mLst (mCons (mLst (mCons (mC (.str ("y" : Str))) (mCons (mC (.bl true)) mNil))) (mCons (mLst (mCons (mC (.str ("z" : Str))) (mCons (mC (.bl true)) mNil))) (mCons (mLst (mCons (mC (.str ("a" : Str))) (mCons (mC (.bl true)) mNil))) mNil))))))
    (sCons (sRet (mCall 2 (FR__law_same 6) (mCons (mBin fAdd (mVar 4) (mLst (mCons (mCall 4 F__law_lost (mCons (mC (.int (1))) (mCons (mVar 6) (mCons (mC (.str ("c" : Str))) (mCons (mC (.str ("" : Str))) mNil))))) (mCons (mCall 1 F_leaves (mCons (mVar 6) mNil)) mNil)))) (mCons (mBin fAdd (mVar 5) (mLst (mCons (mC .non) (mCons (mTup (mCons (mC (.str ("c" : Str))) (mCons (mC (.str ("d" : Str))) (mCons (mC (.str ("e" : Str))) (mCons (mC (.str ("f" : Str))) mNil))))) mNil)))) mNil))))
    sNil)))))))))))))))))))))))))))))))
def F__law_by_hand_right : List D → U → Option (D × U) := runB m__law_by_hand_right 11
theorem ok__law_by_hand_right {P : Program} {w : World} {K : PySem.W.Frag} {mg : Str → Option Value} {base : Heap} {G : Gx K} (T : Tx mg) {f : Addr} {fd : FuncData} (F : Fun K ("_law_by_hand_right" : Str) ("_law_by_hand_right" : Str) s__law_by_hand_right f fd) (DX_meeting : DefOkX P w mg base G ("meeting" : Str) 4 3 F_meeting) (DX_through : DefOkX P w mg base G ("through" : Str) 4 2 F_through) (DX_way_up : DefOkX P w mg base G ("way_up" : Str) 3 2 F_way_up) (D__law_lists : DefOk P w mg base G ("_law_lists" : Str) 6 1 (FR__law_lists 6)) (D__law_lost : DefOk P w mg base G ("_law_lost" : Str) 5 4 F__law_lost) (D__law_same : DefOk P w mg base G ("_law_same" : Str) 6 2 (FR__law_same 6)) (D_is_tree : DefOk P w mg base G ("is_tree" : Str) 3 1 F_is_tree) (D_leaves : DefOk P w mg base G ("leaves" : Str) 1 1 F_leaves) (KP_is_tree_0 : DefKp P w mg base G ("is_tree" : Str) [("thing" : Str)] [0] 3 F_is_tree) (KP_leaves_0 : DefKp P w mg base G ("leaves" : Str) [("tree" : Str)] [0] 1 F_leaves) (KP_meeting_2_1_0 : DefKp P w mg base G ("meeting" : Str) [("other" : Str), ("one" : Str), ("tree" : Str)] [2, 1, 0] 4 (okF F_meeting)) (KP_through_1_0 : DefKp P w mg base G ("through" : Str) [("name" : Str), ("tree" : Str)] [1, 0] 4 (okF F_through)) (KP_way_up_1_0 : DefKp P w mg base G ("way_up" : Str) [("name" : Str), ("tree" : Str)] [1, 0] 3 (okF F_way_up)) : FnOk P w K mg base CX0 7 f fd [] (spF G F__law_by_hand_right 0) :=
  have nd := sc__law_by_hand_right.nd
  def_ok F sc__law_by_hand_right rfl fun cdv A outer s H E hr => (dss_cons (ds_set 0 nd (dv_tup (dvs_cons (dv_tup (dvs_cons dv_str (dvs_cons dv_str dvs_nil))) (dvs_cons (dv_tup (dvs_cons dv_str (dvs_cons dv_str dvs_nil))) (dvs_cons (dv_tup (dvs_cons dv_str (dvs_cons dv_str dvs_nil))) (dvs_cons (dv_tup (dvs_cons dv_str (dvs_cons dv_str dvs_nil))) dvs_nil))))))
    (dss_cons (ds_set 1 nd (dv_ty ok_tuple rfl T.n_tuple (by decide +kernel) (dvs_cons (dv_lc (.many [8, 9]) [8, 9] rfl nd (di_zipSL rfl T.n_zip dv_str (dv_bin ok_add (dv_lst (dvs_cons dv_str dvs_nil)) (dv_ty (ok_listS (by rfl)) rfl T.n_list (by decide +kernel) (dvs_cons dv_str dvs_nil)))) (blkOk_by (own := [(("_law_own" : Str), 8), (("_law_bit" : Str), 9)]) (N := [("_law_wood_so" : Str), ("_law_chain" : Str), ("_law_fine" : Str), ("_law_odd" : Str), ("_law_got" : Str), ("_law_goal" : Str), ("_law_far" : Str), ("_law_twos" : Str), ("_law_own" : Str), ("_law_bit" : Str), ("_law_door" : Str)]) (sc := defScope s__law_by_hand_right) (by decide +kernel)) rfl (by decide) (fun _ _ _ _ _ => (pg_tup rfl (pgs_cons (pg_name (i := 8) nd rfl (by first | exact Or.inl rfl | exact Or.inr rfl)) (pgs_cons (pg_name (i := 9) nd rfl (by first | exact Or.inl rfl | exact Or.inr rfl)) pgs_nil)))) (fun _ _ _ _ _ => dts_no) (fun _ _ _ _ _ => (dv_tup (dvs_cons (dv_var 8) (dvs_cons (dv_var 9) dvs_nil))))) dvs_nil)))
    (dss_cons (ds_set 2 nd (dv_lst (dvs_cons (dv_tup dvs_nil) (dvs_cons (dv_tup (dvs_cons (dv_tup (dvs_cons dv_str (dvs_cons dv_str dvs_nil))) dvs_nil)) (dvs_cons (dv_tup (dvs_cons (dv_tup (dvs_cons dv_str (dvs_cons dv_str dvs_nil))) (dvs_cons (dv_tup (dvs_cons dv_str (dvs_cons dv_str dvs_nil))) dvs_nil))) (dvs_cons (dv_var 0) (dvs_cons (dv_var 1) dvs_nil)))))))
    (dss_cons (ds_set 3 nd (dv_lst (dvs_cons (dv_bin ok_add (dv_var 1) (dv_tup (dvs_cons (dv_tup (dvs_cons dv_str (dvs_cons dv_str dvs_nil))) dvs_nil))) (dvs_cons (dv_tup (dvs_cons (dv_tup (dvs_cons dv_str (dvs_cons dv_str dvs_nil))) dvs_nil)) (dvs_cons (dv_tup (dvs_cons (dv_tup (dvs_cons dv_str (dvs_cons dv_str dvs_nil))) (dvs_cons (dv_tup (dvs_cons dv_str (dvs_cons dv_str dvs_nil))) dvs_nil))) (dvs_cons (dv_tup (dvs_cons (dv_tup (dvs_cons dv_str (dvs_cons dv_str dvs_nil))) dvs_nil)) (dvs_cons (dv_tup (dvs_cons (dv_tup (dvs_cons dv_str (dvs_cons dv_str dvs_nil))) (dvs_cons (dv_tup (dvs_cons dv_str (dvs_cons dv_str dvs_nil))) dvs_nil))) dvs_nil)))))))
    (dss_cons (ds_set 3 nd (dv_bin ok_add (dv_var 3) (dv_lst (dvs_cons (dv_tup (dvs_cons (dv_tup (dvs_cons dv_str (dvs_cons dv_str dvs_nil))) (dvs_cons (dv_tup (dvs_cons dv_str (dvs_cons dv_str dvs_nil))) dvs_nil))) (dvs_cons (dv_lst (dvs_cons (dv_tup (dvs_cons dv_str (dvs_cons dv_str dvs_nil))) dvs_nil)) (dvs_cons (dv_tup (dvs_cons (dv_lst (dvs_cons dv_str (dvs_cons dv_str dvs_nil))) dvs_nil)) (dvs_cons (dv_tup (dvs_cons (dv_tup (dvs_cons dv_str dvs_nil)) dvs_nil)) (dvs_cons (dv_tup (dvs_cons (dv_tup (dvs_cons dv_str (dvs_cons dv_str dvs_nil))) dvs_nil)) (dvs_cons (dv_tup (dvs_cons (dv_tup (dvs_cons dv_str (dvs_cons dv_non dvs_nil))) dvs_nil)) dvs_nil)))))))))
    (dss_cons (ds_set 3 nd (dv_bin ok_add (dv_var 3) (dv_lst (dvs_cons (dv_tup (dvs_cons (dv_tup (dvs_cons dv_str (dvs_cons dv_int dvs_nil))) dvs_nil)) dvs_nil))))
    (dss_cons (ds_set 3 nd (dv_bin ok_add (dv_var 3) (dv_lst (dvs_cons (dv_tup (dvs_cons (dv_tup (dvs_cons dv_str (dvs_cons dv_str (dvs_cons dv_str dvs_nil)))) dvs_nil)) (dvs_cons dv_non (dvs_cons dv_str (dvs_cons dv_int (dvs_cons (dv_tup (dvs_cons dv_str (dvs_cons dv_str dvs_nil))) (dvs_cons (dv_tup (dvs_cons (dv_tup (dvs_cons dv_str (dvs_cons dv_str dvs_nil))) dvs_nil)) (dvs_cons (dv_tup (dvs_cons (dv_tup (dvs_cons dv_str (dvs_cons dv_str dvs_nil))) (dvs_cons (dv_tup (dvs_cons dv_str (dvs_cons dv_str dvs_nil))) dvs_nil))) dvs_nil))))))))))
    (dss_cons (ds_set 3 nd (dv_bin ok_add (dv_var 3) (dv_lst (dvs_cons (dv_tup (dvs_cons (dv_tup (dvs_cons dv_str (dvs_cons (dv_lst (dvs_cons dv_str dvs_nil)) dvs_nil))) (dvs_cons (dv_tup (dvs_cons dv_str (dvs_cons dv_str dvs_nil))) dvs_nil))) dvs_nil))))
    (dss_cons (ds_set 3 nd (dv_bin ok_add (dv_var 3) (dv_lst (dvs_cons (dv_tup (dvs_cons (dv_tup (dvs_cons dv_str (dvs_cons dv_str dvs_nil))) (dvs_cons (dv_tup (dvs_cons dv_str (dvs_cons dv_str dvs_nil))) (dvs_cons (dv_tup (dvs_cons dv_str (dvs_cons dv_str dvs_nil))) (dvs_cons (dv_tup (dvs_cons dv_str (dvs_cons dv_str dvs_nil))) dvs_nil))))) (dvs_cons (dv_tup (dvs_cons (dv_tup (dvs_cons dv_str (dvs_cons dv_str dvs_nil))) (dvs_cons (dv_tup (dvs_cons dv_str (dvs_cons dv_str dvs_nil))) dvs_nil))) dvs_nil)))))
    (dss_cons (ds_set 3 nd (dv_bin ok_add (dv_var 3) (dv_lst (dvs_cons (dv_tup (dvs_cons (dv_tup (dvs_cons dv_str (dvs_cons dv_str dvs_nil))) (dvs_cons (dv_tup (dvs_cons dv_str (dvs_cons dv_str dvs_nil))) dvs_nil))) (dvs_cons dv_bl dvs_nil)))))
    (dss_cons (ds_set 4 nd (dv_bin ok_add (dv_lc (.one 8) [8] rfl nd (di_items (dv_bin ok_add (dv_var 2) (dv_var 3))) (blkOk_by (own := [(("_law_own" : Str), 8)]) (N := [("_law_wood_so" : Str), ("_law_chain" : Str), ("_law_fine" : Str), ("_law_odd" : Str), ("_law_got" : Str), ("_law_goal" : Str), ("_law_far" : Str), ("_law_twos" : Str), ("_law_own" : Str), ("_law_bit" : Str), ("_law_door" : Str)]) (sc := defScope s__law_by_hand_right) (by decide +kernel)) rfl (by decide) (fun _ _ _ _ _ => (pg_name (i := 8) nd rfl (by first | exact Or.inl rfl | exact Or.inr rfl))) (fun _ _ _ _ _ => dts_no) (fun _ _ _ _ _ => (dv_call (D_is_tree.mono (by decide)) hr rfl (dvs_cons (dv_var 8) dvs_nil)))) (dv_lst (dvs_cons (dv_callKp (KP_is_tree_0.mono (by decide)) hr rfl rfl (dks_cons (dv_var 0) dks_nil)) dvs_nil))))
    (dss_cons (ds_set 5 nd (dv_bin ok_add (dv_bin ok_add (dv_bin ok_mul (dv_lst (dvs_cons dv_bl dvs_nil)) dv_int) (dv_bin ok_mul (dv_lst (dvs_cons dv_bl dvs_nil)) dv_int)) (dv_lst (dvs_cons dv_bl dvs_nil))))
    (dss_cons (ds_set 4 nd (dv_bin ok_add (dv_var 4) (dv_lst (dvs_cons (dv_call (D_leaves.mono (by decide)) hr rfl (dvs_cons (dv_var 0) dvs_nil)) (dvs_cons (dv_call (D_leaves.mono (by decide)) hr rfl (dvs_cons (dv_tup dvs_nil) dvs_nil)) (dvs_cons (dv_call (D_leaves.mono (by decide)) hr rfl (dvs_cons (dv_var 1) dvs_nil)) (dvs_cons (dv_callKp (KP_leaves_0.mono (by decide)) hr rfl rfl (dks_cons (dv_call (D__law_lists.mono (by decide)) hr rfl (dvs_cons (dv_var 0) dvs_nil)) dks_nil)) (dvs_cons (dv_call (D_leaves.mono (by decide)) hr rfl (dvs_cons (dv_ix (dv_var 2) dv_int) dvs_nil)) dvs_nil))))))))
    (dss_cons (ds_set 5 nd (dv_bin ok_add (dv_var 5) (dv_lst (dvs_cons (dv_tup (dvs_cons dv_str (dvs_cons dv_str (dvs_cons dv_str dvs_nil)))) (dvs_cons (dv_tup dvs_nil) (dvs_cons (dv_tup (dvs_cons dv_str dvs_nil)) (dvs_cons (dv_tup (dvs_cons dv_str (dvs_cons dv_str (dvs_cons dv_str dvs_nil)))) (dvs_cons (dv_tup (dvs_cons dv_str dvs_nil)) dvs_nil))))))))
    (dss_cons (ds_set 4 nd (dv_bin ok_add (dv_var 4) (dv_lst (dvs_cons (dv_call (DX_way_up.calm.mono (by decide)) hr rfl (dvs_cons (dv_var 0) (dvs_cons dv_str dvs_nil))) (dvs_cons (dv_call (DX_way_up.calm.mono (by decide)) hr rfl (dvs_cons (dv_var 0) (dvs_cons dv_str dvs_nil))) (dvs_cons (dv_call (DX_way_up.calm.mono (by decide)) hr rfl (dvs_cons (dv_var 1) (dvs_cons dv_str dvs_nil))) dvs_nil))))))
    (dss_cons (ds_set 4 nd (dv_bin ok_add (dv_var 4) (dv_lst (dvs_cons (dv_callKp (KP_way_up_1_0.mono (by decide)) hr rfl rfl (dks_cons dv_str (dks_cons (dv_call (D__law_lists.mono (by decide)) hr rfl (dvs_cons (dv_var 1) dvs_nil)) dks_nil))) dvs_nil))))
    (dss_cons (ds_set 5 nd (dv_bin ok_add (dv_var 5) (dv_lst (dvs_cons (dv_tup (dvs_cons dv_str (dvs_cons dv_str dvs_nil))) (dvs_cons (dv_tup (dvs_cons dv_str dvs_nil)) (dvs_cons (dv_tup (dvs_cons dv_str (dvs_cons dv_str (dvs_cons dv_str (dvs_cons dv_str (dvs_cons dv_str (dvs_cons dv_str (dvs_cons dv_str (dvs_cons dv_str (dvs_cons dv_str (dvs_cons dv_str dvs_nil))))))))))) (dvs_cons (dv_tup (dvs_cons dv_str (dvs_cons dv_str dvs_nil))) dvs_nil)))))))
    (dss_cons (ds_set 6 nd (dv_tup (dvs_cons (dv_tup (dvs_cons dv_str (dvs_cons dv_str dvs_nil))) (dvs_cons (dv_tup (dvs_cons dv_str (dvs_cons dv_str dvs_nil))) (dvs_cons (dv_tup (dvs_cons dv_str (dvs_cons dv_str dvs_nil))) (dvs_cons (dv_tup (dvs_cons dv_str (dvs_cons dv_str dvs_nil))) (dvs_cons (dv_tup (dvs_cons dv_str (dvs_cons dv_str dvs_nil))) (dvs_cons (dv_tup (dvs_cons dv_str (dvs_cons dv_str dvs_nil))) dvs_nil))))))))
    (dss_cons (ds_set 7 nd (dv_lst (dvs_cons (dv_tup (dvs_cons dv_str (dvs_cons dv_str dvs_nil))) (dvs_cons (dv_tup (dvs_cons dv_str (dvs_cons dv_str dvs_nil))) (dvs_cons (dv_tup (dvs_cons dv_str (dvs_cons dv_str dvs_nil))) (dvs_cons (dv_tup (dvs_cons dv_str (dvs_cons dv_str dvs_nil))) (dvs_cons (dv_tup (dvs_cons dv_str (dvs_cons dv_str dvs_nil))) (dvs_cons (dv_tup (dvs_cons dv_str (dvs_cons dv_str dvs_nil))) (dvs_cons (dv_tup (dvs_cons dv_str (dvs_cons dv_str dvs_nil))) dvs_nil)))))))))
    (dss_cons (ds_setv 4 nd (dv_oAdd (dv_var 4) (dv_lc (.many [8, 9]) [8, 9] rfl nd (di_items (dv_var 7)) (blkOk_by (own := [(("_law_own" : Str), 8), (("_law_bit" : Str), 9)]) (N := [("_law_wood_so" : Str), ("_law_chain" : Str), ("_law_fine" : Str), ("_law_odd" : Str), ("_law_got" : Str), ("_law_goal" : Str), ("_law_far" : Str), ("_law_twos" : Str), ("_law_own" : Str), ("_law_bit" : Str), ("_law_door" : Str)]) (sc := defScope s__law_by_hand_right) (by decide +kernel)) rfl (by decide) (fun _ _ _ _ _ => (pg_tup rfl (pgs_cons (pg_name (i := 8) nd rfl (by first | exact Or.inl rfl | exact Or.inr rfl)) (pgs_cons (pg_name (i := 9) nd rfl (by first | exact Or.inl rfl | exact Or.inr rfl)) pgs_nil)))) (fun _ _ _ _ _ => dts_no) (fun _ _ _ _ _ => (dv_call (DX_meeting.calm.mono (by decide)) hr rfl (dvs_cons (dv_var 6) (dvs_cons (dv_var 8) (dvs_cons (dv_var 9) dvs_nil))))))))
    (dss_cons (ds_app 4 (dv_callKp (KP_meeting_2_1_0.mono (by decide)) hr rfl rfl (dks_cons dv_str (dks_cons dv_str (dks_cons (dv_call (D__law_lists.mono (by decide)) hr rfl (dvs_cons (dv_var 0) dvs_nil)) dks_nil)))))
    (dss_pub 4
    (dss_cons (ds_set 5 nd (dv_bin ok_add (dv_var 5) (dv_lst (dvs_cons dv_str (dvs_cons dv_str (dvs_cons dv_str (dvs_cons dv_str (dvs_cons dv_str (dvs_cons dv_str (dvs_cons dv_str (dvs_cons dv_str dvs_nil)))))))))))
    (dss_cons (ds_set 4 nd (dv_bin ok_add (dv_var 4) (dv_lst (dvs_cons (dv_call (DX_through.calm.mono (by decide)) hr rfl (dvs_cons (dv_var 0) (dvs_cons dv_str dvs_nil))) (dvs_cons (dv_call (DX_through.calm.mono (by decide)) hr rfl (dvs_cons (dv_var 0) (dvs_cons dv_str dvs_nil))) (dvs_cons (dv_callKp (KP_through_1_0.mono (by decide)) hr rfl rfl (dks_cons dv_str (dks_cons (dv_call (D__law_lists.mono (by decide)) hr rfl (dvs_cons (dv_var 6) dvs_nil)) dks_nil))) dvs_nil))))))
    (dss_cons (ds_setv 5 nd (dv_oAdd (dv_var 5) (dv_lst (dvs_cons (dv_tup (dvs_cons (dv_tup (dvs_cons dv_str (dvs_cons dv_str dvs_nil))) (dvs_cons (dv_tup (dvs_cons dv_str (dvs_cons dv_str dvs_nil))) dvs_nil))) (dvs_cons (dv_tup (dvs_cons (dv_tup (dvs_cons dv_str (dvs_cons dv_str dvs_nil))) dvs_nil)) dvs_nil)))))
    (dss_cons (ds_app 5 (dv_tup (dvs_cons (dv_tup (dvs_cons dv_str (dvs_cons dv_str dvs_nil))) (dvs_cons (dv_tup (dvs_cons dv_str (dvs_cons dv_str dvs_nil))) (dvs_cons (dv_tup (dvs_cons dv_str (dvs_cons dv_str dvs_nil))) dvs_nil)))))
    (dss_pub 5
    (dss_cons (ds_set 4 nd (dv_bin ok_add (dv_var 4) (dv_lc (.one 10) [10] rfl nd (di_range1 rfl T.n_range dv_int) (blkOk_by (own := [(("_law_door" : Str), 10)]) (N := [("_law_wood_so" : Str), ("_law_chain" : Str), ("_law_fine" : Str), ("_law_odd" : Str), ("_law_got" : Str), ("_law_goal" : Str), ("_law_far" : Str), ("_law_twos" : Str), ("_law_own" : Str), ("_law_bit" : Str), ("_law_door" : Str)]) (sc := defScope s__law_by_hand_right) (by decide +kernel)) rfl (by decide) (fun _ _ _ _ _ => (pg_name (i := 10) nd rfl (by first | exact Or.inl rfl | exact Or.inr rfl))) (fun _ _ _ _ _ => dts_no) (fun _ _ _ _ _ => (dv_call (D__law_lost.mono (by decide)) hr rfl (dvs_cons (dv_var 10) (dvs_cons (dv_var 6) (dvs_cons dv_str (dvs_cons dv_str dvs_nil)))))))))
    (dss_cons (ds_set 4 nd (dv_bin ok_add (dv_var 4) (dv_lst (dvs_cons (dv_call (D__law_lost.mono (by decide)) hr rfl (dvs_cons dv_int (dvs_cons (dv_var 6) (dvs_cons dv_str (dvs_cons dv_str dvs_nil))))) (dvs_cons (dv_call (D__law_lost.mono (by decide)) hr rfl (dvs_cons dv_int (dvs_cons (dv_var 6) (dvs_cons dv_str (dvs_cons dv_str dvs_nil))))) (dvs_cons (dv_call (D__law_lost.mono (by decide)) hr rfl (dvs_cons dv_int (dvs_cons (dv_tup dvs_nil) (dvs_cons dv_str (dvs_cons dv_str dvs_nil))))) dvs_nil))))))
    (dss_cons (ds_set 5 nd (dv_bin ok_add (dv_bin ok_add (dv_var 5) (dv_bin ok_mul (dv_lst (dvs_cons (dv_lst (dvs_cons dv_str (dvs_cons dv_bl dvs_nil))) dvs_nil)) dv_int)) (dv_lst (dvs_cons (dv_lst (dvs_cons dv_str (dvs_cons dv_bl dvs_nil))) (dvs_cons (dv_lst (dvs_cons dv_str (dvs_cons dv_bl dvs_nil))) (dvs_cons (dv_lst (dvs_cons dv_str (dvs_cons dv_bl dvs_nil))) dvs_nil))))))
    (dss_cons (ds_ret (dv_call (D__law_same.mono (by decide)) hr rfl (dvs_cons (dv_bin ok_add (dv_var 4) (dv_lst (dvs_cons (dv_call (D__law_lost.mono (by decide)) hr rfl (dvs_cons dv_int (dvs_cons (dv_var 6) (dvs_cons dv_str (dvs_cons dv_str dvs_nil))))) (dvs_cons (dv_call (D_leaves.mono (by decide)) hr rfl (dvs_cons (dv_var 6) dvs_nil)) dvs_nil)))) (dvs_cons (dv_bin ok_add (dv_var 5) (dv_lst (dvs_cons dv_non (dvs_cons (dv_tup (dvs_cons dv_str (dvs_cons dv_str (dvs_cons dv_str (dvs_cons dv_str dvs_nil))))) dvs_nil)))) dvs_nil))))
    dss_nil)))))))))))))))))))))))))))))))
abbrev s__law_is_wood : Stmt := topS 32
theorem sc__law_is_wood : FnScope [("_law_wood_so" : Str), ("_law_names_so" : Str), ("_law_here" : Str), ("_law_turn" : Str), ("_law_own" : Str), ("_law_bit" : Str)] [("_law_wood_so" : Str)] (defScope s__law_is_wood) := ⟨rfl, rfl, rfl, by decide +kernel, rfl, by decide +kernel, by decide +kernel⟩
def m__law_is_wood : MS := (sCons (sTgt (.many [1, 2]) (mTup (mCons (mLc (.many [4, 5]) [4, 5] (mItems (mVar 0)) mYes (mVar 4)) (mCons (mLst (mCons (mC (.str ("" : Str))) mNil)) mNil))))
    (sCons (sFor (.one 3) (mItems (mVar 0)) (sCons (sSet 2 (mBin fAdd (mVar 2) (mLc (.many [4, 5]) [4, 5] (mItems (mVar 0)) (mAndB (mTru (mBin cIn (mVar 5) (mVar 2))) (mTru (mBin cNotIn (mVar 4) (mVar 2)))) (mVar 4))))
    sNil))
    (sCons (sRet (mAnd (mBin cEq (mSortSet (mVar 1)) (mVar 1)) (mBin cEq (mLc (.one 4) [4] (mItems (mVar 1)) (mTru (mBin cNotIn (mVar 4) (mVar 2))) (mVar 4)) (mLst mNil))))
    sNil)))
def F__law_is_wood : List D → U → Option (D × U) := runB m__law_is_wood 6
theorem ok__law_is_wood {P : Program} {w : World} {K : PySem.W.Frag} {mg : Str → Option Value} {base : Heap} {G : Gx K} (T : Tx mg) {f : Addr} {fd : FuncData} (F : Fun K ("_law_is_wood" : Str) ("_law_is_wood" : Str) s__law_is_wood f fd)  : FnOk P w K mg base CX0 1 f fd [("_law_wood_so" : Str)] (spF G F__law_is_wood 1) :=
  have nd := sc__law_is_wood.nd
  def_ok F sc__law_is_wood rfl fun cdv A outer s H E hr => (dss_cons (ds_tgt (.many [1, 2]) (dv_tup (dvs_cons (dv_lc (.many [4, 5]) [4, 5] rfl nd (di_items (dv_var 0)) (blkOk_by (own := [(("_law_own" : Str), 4), (("_law_bit" : Str), 5)]) (N := [("_law_wood_so" : Str), ("_law_names_so" : Str), ("_law_here" : Str), ("_law_turn" : Str), ("_law_own" : Str), ("_law_bit" : Str)]) (sc := defScope s__law_is_wood) (by decide +kernel)) rfl (by decide) (fun _ _ _ _ _ => (pg_tup rfl (pgs_cons (pg_name (i := 4) nd rfl (by first | exact Or.inl rfl | exact Or.inr rfl)) (pgs_cons (pg_name (i := 5) nd rfl (by first | exact Or.inl rfl | exact Or.inr rfl)) pgs_nil)))) (fun _ _ _ _ _ => dts_no) (fun _ _ _ _ _ => (dv_var 4))) (dvs_cons (dv_lst (dvs_cons dv_str dvs_nil)) dvs_nil))) (pg_tup rfl (pgs_cons (pg_name (i := 1) nd rfl (by first | exact Or.inl rfl | exact Or.inr rfl)) (pgs_cons (pg_name (i := 2) nd rfl (by first | exact Or.inl rfl | exact Or.inr rfl)) pgs_nil))))
    (dss_cons (ds_for (.one 3) PassesOwn.never rfl (di_items (dv_var 0)) (pg_name (i := 3) nd rfl (by first | exact Or.inl rfl | exact Or.inr rfl)) (dss_cons (ds_set 2 nd (dv_bin ok_add (dv_var 2) (dv_lc (.many [4, 5]) [4, 5] rfl nd (di_items (dv_var 0)) (blkOk_by (own := [(("_law_own" : Str), 4), (("_law_bit" : Str), 5)]) (N := [("_law_wood_so" : Str), ("_law_names_so" : Str), ("_law_here" : Str), ("_law_turn" : Str), ("_law_own" : Str), ("_law_bit" : Str)]) (sc := defScope s__law_is_wood) (by decide +kernel)) rfl (by decide) (fun _ _ _ _ _ => (pg_tup rfl (pgs_cons (pg_name (i := 4) nd rfl (by first | exact Or.inl rfl | exact Or.inr rfl)) (pgs_cons (pg_name (i := 5) nd rfl (by first | exact Or.inl rfl | exact Or.inr rfl)) pgs_nil)))) (fun _ _ _ _ _ => dts_one (PW.pt (dw_and (dt_cmp (ok_in (hU65 hr)) bf_in (dv_var 5) (dv_var 2)) (dw_and1 (dt_cmp (ok_notin (hU65 hr)) bf_notin (dv_var 4) (dv_var 2)))))) (fun _ _ _ _ _ => (dv_var 4)))))
    dss_nil))
    (dss_cons (ds_ret (dv_and (dv_cmp (ok_eq (hU64 hr)) (dv_sortSet rfl rfl T.n_sorted rfl T.n_set (dv_var 1)) (dv_var 1)) (dv_one _ (dv_cmp (ok_eq (hU64 hr)) (dv_lc (.one 4) [4] rfl nd (di_items (dv_var 1)) (blkOk_by (own := [(("_law_own" : Str), 4)]) (N := [("_law_wood_so" : Str), ("_law_names_so" : Str), ("_law_here" : Str), ("_law_turn" : Str), ("_law_own" : Str), ("_law_bit" : Str)]) (sc := defScope s__law_is_wood) (by decide +kernel)) rfl (by decide) (fun _ _ _ _ _ => (pg_name (i := 4) nd rfl (by first | exact Or.inl rfl | exact Or.inr rfl))) (fun _ _ _ _ _ => dts_one (dt_cmp (ok_notin (hU65 hr)) bf_notin (dv_var 4) (dv_var 2))) (fun _ _ _ _ _ => (dv_var 4))) (dv_lst dvs_nil)))))
    dss_nil)))
abbrev s__law_right : Stmt := topS 31
theorem sc__law_right : FnScope [("_law_urn" : Str), ("_law_turn" : Str), ("_law_wood_so" : Str), ("_law_own" : Str), ("_law_bit" : Str), ("_law_soft" : Str), ("_law_names_so" : Str), ("_law_got" : Str), ("_law_goal" : Str), ("_law_ups_so" : Str), ("_law_ends_so" : Str), ("_law_far" : Str), ("_law_odd" : Str), ("_law_k" : Str), ("_law_bent_so" : Str), ("_law_name_so" : Str)] [("_law_urn" : Str)] (defScope s__law_right) := ⟨rfl, rfl, rfl, by decide +kernel, rfl, by decide +kernel, by decide +kernel⟩
def m__law_right : MS := (sCons (sFor (.one 1) (mRange1 (mC (.int (10)))) (sCons (sSet 2 (mCall 2 F__law_wood (mCons (mVar 0) (mCons (mBin fAdd (mC (.int (1))) (mCall 2 F__law_take (mCons (mVar 0) (mCons (mC (.int (7))) mNil)))) mNil))))
    (sCons (sTgt (.many [5, 6, 7, 8]) (mTup (mCons (mCall 1 (FR__law_lists 6) (mCons (mVar 2) mNil)) (mCons (mLc (.many [3, 4]) [3, 4] (mItems (mVar 2)) mYes (mVar 3)) (mCons (mLst mNil) (mCons (mLst mNil) mNil))))))
    (sCons (sSv 9 (vDictL (mLc (.one 3) [3] (mItems (mVar 6)) mYes (mTup (mCons (mVar 3) (mCons (mCall 2 F__law_ups (mCons (mVar 2) (mCons (mVar 3) mNil))) mNil))))))
    (sPub 9
    (sCons (sSv 7 (vAdd (mVar 7) (mLst (mCons (mCall 1 F_is_tree (mCons (mVar 2) mNil)) (mCons (mCall 1 F_is_tree (mCons (mVar 5) mNil)) (mCons (mCall 1 F_leaves (mCons (mVar 2) mNil)) (mCons (mCall 1 F_leaves (mCons (mVar 5) mNil)) mNil)))))))
    (sPub 7
    (sCons (sSet 10 (mBi bTuple (mCons (mLc (.one 3) [3] (mItems (mVar 6)) (mTru (mBin cNotIn (mVar 3) (mLc (.many [15, 4]) [15, 4] (mItems (mVar 2)) mYes (mVar 4)))) (mVar 3)) mNil)))
    (sCons (sSv 8 (vAdd (mVar 8) (mLst (mCons (mC (.bl true)) (mCons (mC (.bl false)) (mCons (mVar 10) (mCons (mVar 10) mNil)))))))
    (sPub 8
    (sCons (sFor (.one 3) (mItems (mVar 6)) (sCons (sSv 7 (vAdd (mVar 7) (mLst (mCons (mCall 2 (okF F_way_up) (mCons (mVar 2) (mCons (mVar 3) mNil))) (mCons (mCall 2 (okF F_through) (mCons (mVar 5) (mCons (mVar 3) mNil))) mNil)))))
    (sCons (sSv 8 (vAdd (mVar 8) (mLst (mCons (mBi bTuple (mCons (mBin dixD (mVar 9) (mVar 3)) mNil)) (mCons (mBi bTuple (mCons (mLc (.one 4) [4] (mItems (mBin fAdd (mLst (mCons (mVar 3) mNil)) (mSl (mBin dixD (mVar 9) (mVar 3)) moNo (moAt (mNeg (mC (.int (1)))))))) mYes (mTup (mCons (mC (.str ("flush" : Str))) (mCons (mVar 4) mNil)))) mNil)) mNil)))))
    (sCons (sFor (.one 11) (mItems (mVar 6)) (sCons (sIf (mAndB (mTru (mBin cNe (mVar 11) (mVar 3))) (mAndB (mTru (mBin cNotIn (mVar 11) (mBin dixD (mVar 9) (mVar 3)))) (mTru (mBin cNotIn (mVar 3) (mBin dixD (mVar 9) (mVar 11)))))) (sCons (sApp 7 (mCall 3 (okF F_meeting) (mCons (mVar 2) (mCons (mVar 3) (mCons (mVar 11) mNil)))))
    (sCons (sApp 8 (mBin ixD (mLc (.one 4) [4] (mItems (mBin dixD (mVar 9) (mVar 3))) (mTru (mBin cIn (mVar 4) (mBin dixD (mVar 9) (mVar 11)))) (mVar 4)) (mC (.int (0)))))
    sNil)) sNil)
    sNil))
    (sPub 8
    (sPub 7
    sNil))))))
    (sCons (sSet 12 (mLc (.one 3) [3] (mItems (mTup (mCons (mC (.str ("qqq" : Str))) (mCons (mC (.str ("aaa" : Str))) (mCons (mC (.str ("zzz" : Str))) (mCons (mC (.str ("mnm" : Str))) (mCons (mC (.str ("yxy" : Str))) (mCons (mC (.str ("bab" : Str))) (mCons (mC (.str ("cdc" : Str))) (mCons (mC (.str ("dad" : Str))) mNil)))))))))) (mTru (mBin cNotIn (mVar 3) (mVar 6))) (mVar 3)))
    (sCons (sSet 3 (mCall 2 F__law_of (mCons (mVar 0) (mCons (mVar 6) mNil))))
    (sCons (sSv 7 (vAdd (mVar 7) (mLst (mCons (mCall 4 F__law_lost (mCons (mC (.int (0))) (mCons (mVar 2) (mCons (mBin ixD (mVar 12) (mC (.int (0)))) (mCons (mC (.str ("" : Str))) mNil))))) (mCons (mCall 4 F__law_lost (mCons (mC (.int (1))) (mCons (mVar 5) (mCons (mBin ixD (mVar 12) (mC (.int (0)))) (mCons (mC (.str ("" : Str))) mNil))))) mNil)))))
    (sPub 7
    (sCons (sSv 7 (vAdd (mVar 7) (mLst (mCons (mCall 4 F__law_lost (mCons (mC (.int (2))) (mCons (mVar 2) (mCons (mBin ixD (mVar 12) (mC (.int (0)))) (mCons (mVar 3) mNil))))) mNil))))
    (sCons (sSv 8 (vAdd (mVar 8) (mBin fMul (mLst (mCons (mLst (mCons (mBin ixD (mVar 12) (mC (.int (0)))) (mCons (mC (.bl true)) mNil))) mNil)) (mC (.int (3))))))
    (sCons (sSet 13 (mCall 2 F__law_take (mCons (mVar 0) (mCons (mBi bLen (mCons (mVar 2) mNil)) mNil))))
    (sCons (sFor (.one 4) (mItems (mLst (mCons (mTup (mCons (mVar 3) (mCons (mBin ixD (mVar 6) (mVar 13)) mNil))) (mCons (mTup (mCons (mBin ixD (mVar 6) (mVar 13)) (mCons (mBin ixD (mVar 6) (mVar 13)) mNil))) (mCons (mTup (mCons (mBin ixD (mVar 6) (mVar 13)) (mCons (mBin ixD (mVar 12) (mC (.int (0)))) mNil))) (mCons (mTup (mCons (mBin ixD (mVar 6) (mVar 13)) (mCons (mC .non) mNil))) mNil)))))) (sCons (sSet 14 (mBin fAdd (mBin fAdd (mSl (mVar 2) moNo (moAt (mVar 13))) (mTup (mCons (mVar 4) mNil))) (mSl (mVar 2) (moAt (mBin fAdd (mVar 13) (mC (.int (1))))) moNo)))
    (sCons (sApp 7 (mCall 1 F_is_tree (mCons (mVar 14) mNil)))
    (sCons (sApp 8 (mCall 1 F__law_is_wood (mCons (mVar 14) mNil)))
    sNil))))
    (sPub 8
    (sPub 7
    (sCons (sIf (mNotB (mTru (mCall 2 (FR__law_same 6) (mCons (mVar 7) (mCons (mVar 8) mNil))))) (sCons (sRet (mC (.bl false)))
    sNil) sNil)
    sNil))))))))))))))))))))))
    (sCons (sRet (mC (.bl true)))
    sNil))
def F__law_right : List D → U → Option (D × U) := runB m__law_right 16
theorem ok__law_right {P : Program} {w : World} {K : PySem.W.Frag} {mg : Str → Option Value} {base : Heap} {G : Gx K} (T : Tx mg) {f : Addr} {fd : FuncData} (F : Fun K ("_law_right" : Str) ("_law_right" : Str) s__law_right f fd) (DX_meeting : DefOkX P w mg base G ("meeting" : Str) 4 3 F_meeting) (DX_through : DefOkX P w mg base G ("through" : Str) 4 2 F_through) (DX_way_up : DefOkX P w mg base G ("way_up" : Str) 3 2 F_way_up) (D__law_is_wood : DefOk P w mg base G ("_law_is_wood" : Str) 1 1 F__law_is_wood) (D__law_lists : DefOk P w mg base G ("_law_lists" : Str) 6 1 (FR__law_lists 6)) (D__law_lost : DefOk P w mg base G ("_law_lost" : Str) 5 4 F__law_lost) (D__law_of : DefOk P w mg base G ("_law_of" : Str) 2 2 F__law_of) (D__law_same : DefOk P w mg base G ("_law_same" : Str) 6 2 (FR__law_same 6)) (D__law_take : DefOk P w mg base G ("_law_take" : Str) 1 2 F__law_take) (D__law_ups : DefOk P w mg base G ("_law_ups" : Str) 1 2 F__law_ups) (D__law_wood : DefOk P w mg base G ("_law_wood" : Str) 4 2 F__law_wood) (D_is_tree : DefOk P w mg base G ("is_tree" : Str) 3 1 F_is_tree) (D_leaves : DefOk P w mg base G ("leaves" : Str) 1 1 F_leaves) : FnOk P w K mg base CX0 7 f fd [("_law_urn" : Str)] (spF G F__law_right 1) :=
  have nd := sc__law_right.nd
  def_ok F sc__law_right rfl fun cdv A outer s H E hr => (dss_cons (ds_for (.one 1) PassesOwn.never rfl (di_range1 rfl T.n_range dv_int) (pg_name (i := 1) nd rfl (by first | exact Or.inl rfl | exact Or.inr rfl)) (dss_cons (ds_set 2 nd (dv_call (D__law_wood.mono (by decide)) hr rfl (dvs_cons (dv_var 0) (dvs_cons (dv_bin ok_add dv_int (dv_call (D__law_take.mono (by decide)) hr rfl (dvs_cons (dv_var 0) (dvs_cons dv_int dvs_nil)))) dvs_nil))))
    (dss_cons (ds_tgt (.many [5, 6, 7, 8]) (dv_tup (dvs_cons (dv_call (D__law_lists.mono (by decide)) hr rfl (dvs_cons (dv_var 2) dvs_nil)) (dvs_cons (dv_lc (.many [3, 4]) [3, 4] rfl nd (di_items (dv_var 2)) (blkOk_by (own := [(("_law_own" : Str), 3), (("_law_bit" : Str), 4)]) (N := [("_law_urn" : Str), ("_law_turn" : Str), ("_law_wood_so" : Str), ("_law_own" : Str), ("_law_bit" : Str), ("_law_soft" : Str), ("_law_names_so" : Str), ("_law_got" : Str), ("_law_goal" : Str), ("_law_ups_so" : Str), ("_law_ends_so" : Str), ("_law_far" : Str), ("_law_odd" : Str), ("_law_k" : Str), ("_law_bent_so" : Str), ("_law_name_so" : Str)]) (sc := defScope s__law_right) (by decide +kernel)) rfl (by decide) (fun _ _ _ _ _ => (pg_tup rfl (pgs_cons (pg_name (i := 3) nd rfl (by first | exact Or.inl rfl | exact Or.inr rfl)) (pgs_cons (pg_name (i := 4) nd rfl (by first | exact Or.inl rfl | exact Or.inr rfl)) pgs_nil)))) (fun _ _ _ _ _ => dts_no) (fun _ _ _ _ _ => (dv_var 3))) (dvs_cons (dv_lst dvs_nil) (dvs_cons (dv_lst dvs_nil) dvs_nil))))) (pg_tup rfl (pgs_cons (pg_name (i := 5) nd rfl (by first | exact Or.inl rfl | exact Or.inr rfl)) (pgs_cons (pg_name (i := 6) nd rfl (by first | exact Or.inl rfl | exact Or.inr rfl)) (pgs_cons (pg_name (i := 7) nd rfl (by first | exact Or.inl rfl | exact Or.inr rfl)) (pgs_cons (pg_name (i := 8) nd rfl (by first | exact Or.inl rfl | exact Or.inr rfl)) pgs_nil))))))
    (dss_cons (ds_setv 9 nd (dv_oDictL rfl rfl T.n_dict (dv_lc (.one 3) [3] rfl nd (di_items (dv_var 6)) (blkOk_by (own := [(("_law_own" : Str), 3)]) (N := [("_law_urn" : Str), ("_law_turn" : Str), ("_law_wood_so" : Str), ("_law_own" : Str), ("_law_bit" : Str), ("_law_soft" : Str), ("_law_names_so" : Str), ("_law_got" : Str), ("_law_goal" : Str), ("_law_ups_so" : Str), ("_law_ends_so" : Str), ("_law_far" : Str), ("_law_odd" : Str), ("_law_k" : Str), ("_law_bent_so" : Str), ("_law_name_so" : Str)]) (sc := defScope s__law_right) (by decide +kernel)) rfl (by decide) (fun _ _ _ _ _ => (pg_name (i := 3) nd rfl (by first | exact Or.inl rfl | exact Or.inr rfl))) (fun _ _ _ _ _ => dts_no) (fun _ _ _ _ _ => (dv_tup (dvs_cons (dv_var 3) (dvs_cons (dv_call (D__law_ups.mono (by decide)) hr rfl (dvs_cons (dv_var 2) (dvs_cons (dv_var 3) dvs_nil))) dvs_nil)))))))
    (dss_pub 9
    (dss_cons (ds_setv 7 nd (dv_oAdd (dv_var 7) (dv_lst (dvs_cons (dv_call (D_is_tree.mono (by decide)) hr rfl (dvs_cons (dv_var 2) dvs_nil)) (dvs_cons (dv_call (D_is_tree.mono (by decide)) hr rfl (dvs_cons (dv_var 5) dvs_nil)) (dvs_cons (dv_call (D_leaves.mono (by decide)) hr rfl (dvs_cons (dv_var 2) dvs_nil)) (dvs_cons (dv_call (D_leaves.mono (by decide)) hr rfl (dvs_cons (dv_var 5) dvs_nil)) dvs_nil)))))))
    (dss_pub 7
    (dss_cons (ds_set 10 nd (dv_ty ok_tuple rfl T.n_tuple (by decide +kernel) (dvs_cons (dv_lc (.one 3) [3] rfl nd (di_items (dv_var 6)) (blkOk_by (own := [(("_law_own" : Str), 3)]) (N := [("_law_urn" : Str), ("_law_turn" : Str), ("_law_wood_so" : Str), ("_law_own" : Str), ("_law_bit" : Str), ("_law_soft" : Str), ("_law_names_so" : Str), ("_law_got" : Str), ("_law_goal" : Str), ("_law_ups_so" : Str), ("_law_ends_so" : Str), ("_law_far" : Str), ("_law_odd" : Str), ("_law_k" : Str), ("_law_bent_so" : Str), ("_law_name_so" : Str)]) (sc := defScope s__law_right) (by decide +kernel)) rfl (by decide) (fun _ _ _ _ _ => (pg_name (i := 3) nd rfl (by first | exact Or.inl rfl | exact Or.inr rfl))) (fun _ _ _ _ _ => dts_one (dt_cmp (ok_notin (hU65 hr)) bf_notin (dv_var 3) (dv_lc (.many [15, 4]) [15, 4] rfl nd (di_items (dv_var 2)) (blkOk_by (own := [(("_law_name_so" : Str), 15), (("_law_bit" : Str), 4)]) (N := [("_law_urn" : Str), ("_law_turn" : Str), ("_law_wood_so" : Str), ("_law_own" : Str), ("_law_bit" : Str), ("_law_soft" : Str), ("_law_names_so" : Str), ("_law_got" : Str), ("_law_goal" : Str), ("_law_ups_so" : Str), ("_law_ends_so" : Str), ("_law_far" : Str), ("_law_odd" : Str), ("_law_k" : Str), ("_law_bent_so" : Str), ("_law_name_so" : Str)]) (sc := relS ({ kind := .function, names := [((".0" : Str), .local), (("_law_own" : Str), .local), (("_law_wood_so" : Str), .free)], isGenerator := false, isCoroutine := false, more := [] } : Scope) (defScope s__law_right)) (by decide +kernel)) rfl (by decide) (fun _ _ _ _ _ => (pg_tup rfl (pgs_cons (pg_name (i := 15) nd rfl (by first | exact Or.inl rfl | exact Or.inr rfl)) (pgs_cons (pg_name (i := 4) nd rfl (by first | exact Or.inl rfl | exact Or.inr rfl)) pgs_nil)))) (fun _ _ _ _ _ => dts_no) (fun _ _ _ _ _ => (dv_var 4))))) (fun _ _ _ _ _ => (dv_var 3))) dvs_nil)))
    (dss_cons (ds_setv 8 nd (dv_oAdd (dv_var 8) (dv_lst (dvs_cons dv_bl (dvs_cons dv_bl (dvs_cons (dv_var 10) (dvs_cons (dv_var 10) dvs_nil)))))))
    (dss_pub 8
    (dss_cons (ds_for (.one 3) PassesOwn.never rfl (di_items (dv_var 6)) (pg_name (i := 3) nd rfl (by first | exact Or.inl rfl | exact Or.inr rfl)) (dss_cons (ds_setv 7 nd (dv_oAdd (dv_var 7) (dv_lst (dvs_cons (dv_call (DX_way_up.calm.mono (by decide)) hr rfl (dvs_cons (dv_var 2) (dvs_cons (dv_var 3) dvs_nil))) (dvs_cons (dv_call (DX_through.calm.mono (by decide)) hr rfl (dvs_cons (dv_var 5) (dvs_cons (dv_var 3) dvs_nil))) dvs_nil)))))
    (dss_cons (ds_setv 8 nd (dv_oAdd (dv_var 8) (dv_lst (dvs_cons (dv_ty ok_tuple rfl T.n_tuple (by decide +kernel) (dvs_cons (dv_dix (hU1 hr) (dv_var 9) (dv_var 3)) dvs_nil)) (dvs_cons (dv_ty ok_tuple rfl T.n_tuple (by decide +kernel) (dvs_cons (dv_lc (.one 4) [4] rfl nd (di_items (dv_bin ok_add (dv_lst (dvs_cons (dv_var 3) dvs_nil)) (dv_sl (dv_dix (hU1 hr) (dv_var 9) (dv_var 3)) do_no (do_at (dv_neg dv_int))))) (blkOk_by (own := [(("_law_bit" : Str), 4)]) (N := [("_law_urn" : Str), ("_law_turn" : Str), ("_law_wood_so" : Str), ("_law_own" : Str), ("_law_bit" : Str), ("_law_soft" : Str), ("_law_names_so" : Str), ("_law_got" : Str), ("_law_goal" : Str), ("_law_ups_so" : Str), ("_law_ends_so" : Str), ("_law_far" : Str), ("_law_odd" : Str), ("_law_k" : Str), ("_law_bent_so" : Str), ("_law_name_so" : Str)]) (sc := defScope s__law_right) (by decide +kernel)) rfl (by decide) (fun _ _ _ _ _ => (pg_name (i := 4) nd rfl (by first | exact Or.inl rfl | exact Or.inr rfl))) (fun _ _ _ _ _ => dts_no) (fun _ _ _ _ _ => (dv_tup (dvs_cons dv_str (dvs_cons (dv_var 4) dvs_nil))))) dvs_nil)) dvs_nil)))))
    (dss_cons (ds_for (.one 11) PassesOwn.never rfl (di_items (dv_var 6)) (pg_name (i := 11) nd rfl (by first | exact Or.inl rfl | exact Or.inr rfl)) (dss_cons (ds_if (PW.pt (dw_and (dt_cmp (ok_ne (hU64 hr)) bf_ne (dv_var 11) (dv_var 3)) (dw_and (dt_cmp (ok_notin (hU65 hr)) bf_notin (dv_var 11) (dv_dix (hU1 hr) (dv_var 9) (dv_var 3))) (dw_and1 (dt_cmp (ok_notin (hU65 hr)) bf_notin (dv_var 3) (dv_dix (hU1 hr) (dv_var 9) (dv_var 11))))))) (dss_cons (ds_app 7 (dv_call (DX_meeting.calm.mono (by decide)) hr rfl (dvs_cons (dv_var 2) (dvs_cons (dv_var 3) (dvs_cons (dv_var 11) dvs_nil)))))
    (dss_cons (ds_app 8 (dv_ix (dv_lc (.one 4) [4] rfl nd (di_items (dv_dix (hU1 hr) (dv_var 9) (dv_var 3))) (blkOk_by (own := [(("_law_bit" : Str), 4)]) (N := [("_law_urn" : Str), ("_law_turn" : Str), ("_law_wood_so" : Str), ("_law_own" : Str), ("_law_bit" : Str), ("_law_soft" : Str), ("_law_names_so" : Str), ("_law_got" : Str), ("_law_goal" : Str), ("_law_ups_so" : Str), ("_law_ends_so" : Str), ("_law_far" : Str), ("_law_odd" : Str), ("_law_k" : Str), ("_law_bent_so" : Str), ("_law_name_so" : Str)]) (sc := defScope s__law_right) (by decide +kernel)) rfl (by decide) (fun _ _ _ _ _ => (pg_name (i := 4) nd rfl (by first | exact Or.inl rfl | exact Or.inr rfl))) (fun _ _ _ _ _ => dts_one (dt_cmp (ok_in (hU65 hr)) bf_in (dv_var 4) (dv_dix (hU1 hr) (dv_var 9) (dv_var 11)))) (fun _ _ _ _ _ => (dv_var 4))) dv_int))
    dss_nil)) dss_nil)
    dss_nil))
    (dss_pub 8
    (dss_pub 7
    dss_nil))))))
    (dss_cons (ds_setLc 12 (.one 3) [3] rfl nd (sw_true rfl rfl rfl (by decide +kernel)) (di_items (dv_tup (dvs_cons dv_str (dvs_cons dv_str (dvs_cons dv_str (dvs_cons dv_str (dvs_cons dv_str (dvs_cons dv_str (dvs_cons dv_str (dvs_cons dv_str dvs_nil)))))))))) (blkOk_by (own := [(("_law_own" : Str), 3)]) (N := [("_law_urn" : Str), ("_law_turn" : Str), ("_law_wood_so" : Str), ("_law_own" : Str), ("_law_bit" : Str), ("_law_soft" : Str), ("_law_names_so" : Str), ("_law_got" : Str), ("_law_goal" : Str), ("_law_ups_so" : Str), ("_law_ends_so" : Str), ("_law_far" : Str), ("_law_odd" : Str), ("_law_k" : Str), ("_law_bent_so" : Str), ("_law_name_so" : Str)]) (sc := defScope s__law_right) (by decide +kernel)) rfl (by decide) (fun _ _ _ _ _ => (pg_name (i := 3) nd rfl (by first | exact Or.inl rfl | exact Or.inr rfl))) (fun _ _ _ _ _ => dts_one (dt_cmp (ok_notin (hU65 hr)) bf_notin (dv_var 3) (dv_var 6))) (fun _ _ _ _ _ => (dv_var 3)))
    (dss_cons (ds_set 3 nd (dv_call (D__law_of.mono (by decide)) hr rfl (dvs_cons (dv_var 0) (dvs_cons (dv_var 6) dvs_nil))))
    (dss_cons (ds_setv 7 nd (dv_oAdd (dv_var 7) (dv_lst (dvs_cons (dv_call (D__law_lost.mono (by decide)) hr rfl (dvs_cons dv_int (dvs_cons (dv_var 2) (dvs_cons (dv_ix (dv_var 12) dv_int) (dvs_cons dv_str dvs_nil))))) (dvs_cons (dv_call (D__law_lost.mono (by decide)) hr rfl (dvs_cons dv_int (dvs_cons (dv_var 5) (dvs_cons (dv_ix (dv_var 12) dv_int) (dvs_cons dv_str dvs_nil))))) dvs_nil)))))
    (dss_pub 7
    (dss_cons (ds_setv 7 nd (dv_oAdd (dv_var 7) (dv_lst (dvs_cons (dv_call (D__law_lost.mono (by decide)) hr rfl (dvs_cons dv_int (dvs_cons (dv_var 2) (dvs_cons (dv_ix (dv_var 12) dv_int) (dvs_cons (dv_var 3) dvs_nil))))) dvs_nil))))
    (dss_cons (ds_setv 8 nd (dv_oAdd (dv_var 8) (dv_bin ok_mul (dv_lst (dvs_cons (dv_lst (dvs_cons (dv_ix (dv_var 12) dv_int) (dvs_cons dv_bl dvs_nil))) dvs_nil)) dv_int)))
    (dss_cons (ds_set 13 nd (dv_call (D__law_take.mono (by decide)) hr rfl (dvs_cons (dv_var 0) (dvs_cons (dv_bi ok_len rfl T.n_len (by decide +kernel) (dvs_cons (dv_var 2) dvs_nil)) dvs_nil))))
    (dss_cons (ds_for (.one 4) PassesOwn.never rfl (di_items (dv_lst (dvs_cons (dv_tup (dvs_cons (dv_var 3) (dvs_cons (dv_ix (dv_var 6) (dv_var 13)) dvs_nil))) (dvs_cons (dv_tup (dvs_cons (dv_ix (dv_var 6) (dv_var 13)) (dvs_cons (dv_ix (dv_var 6) (dv_var 13)) dvs_nil))) (dvs_cons (dv_tup (dvs_cons (dv_ix (dv_var 6) (dv_var 13)) (dvs_cons (dv_ix (dv_var 12) dv_int) dvs_nil))) (dvs_cons (dv_tup (dvs_cons (dv_ix (dv_var 6) (dv_var 13)) (dvs_cons dv_non dvs_nil))) dvs_nil)))))) (pg_name (i := 4) nd rfl (by first | exact Or.inl rfl | exact Or.inr rfl)) (dss_cons (ds_set 14 nd (dv_bin ok_add (dv_bin ok_add (dv_sl (dv_var 2) do_no (do_at (dv_var 13))) (dv_tup (dvs_cons (dv_var 4) dvs_nil))) (dv_sl (dv_var 2) (do_at (dv_bin ok_add (dv_var 13) dv_int)) do_no)))
    (dss_cons (ds_app 7 (dv_call (D_is_tree.mono (by decide)) hr rfl (dvs_cons (dv_var 14) dvs_nil)))
    (dss_cons (ds_app 8 (dv_call (D__law_is_wood.mono (by decide)) hr rfl (dvs_cons (dv_var 14) dvs_nil)))
    dss_nil))))
    (dss_pub 8
    (dss_pub 7
    (dss_cons (ds_if (dt_not (dt_val (dv_call (D__law_same.mono (by decide)) hr rfl (dvs_cons (dv_var 7) (dvs_cons (dv_var 8) dvs_nil))))) (dss_cons (ds_ret dv_bl)
    dss_nil) dss_nil)
    dss_nil))))))))))))))))))))))
    (dss_cons (ds_ret dv_bl)
    dss_nil))
end Lw13
namespace Dv
open PySem PySem.Spec PyProof.Rows L2
def m_sameA (F_same_ : List D → U → Option (D × U)) : MS := (sCons (sIf (mTru (mIsi ["list", "tuple"] (mVar 1))) (sCons (sIf (mOrB (mTru (mBin cNe (mIsi ["list"] (mVar 0)) (mIsi ["list"] (mVar 1)))) (mTru (mBin cNe (mIsi ["tuple"] (mVar 0)) (mIsi ["tuple"] (mVar 1))))) (sCons (sRet (mC (.bl false)))
    sNil) sNil)
    (sCons (sRet (mAnd (mBin cEq (mBi bLen (mCons (mVar 0) mNil)) (mBi bLen (mCons (mVar 1) mNil))) (mBi bAll (mCons (mLc (.many [2, 3]) [2, 3] (mZip (mVar 0) (mVar 1)) mYes (mCall 2 F_same_ (mCons (mVar 2) (mCons (mVar 3) mNil)))) mNil))))
    sNil)) sNil)
    (sCons (sIf (mOrB (mTru (mBin cIs (mVar 1) (mC .non))) (mTru (mIsi ["bool", "str"] (mVar 1)))) (sCons (sRet (mAnd (mBin cEq (mVar 0) (mVar 1)) (mAnd (mBin cEq (mIsi ["bool"] (mVar 0)) (mIsi ["bool"] (mVar 1))) (mBin cEq (mBin cIs (mVar 0) (mC .non)) (mBin cIs (mVar 1) (mC .non))))))
    sNil) sNil)
    (sCons (sRet (mAnd (mIsi ["int"] (mVar 0)) (mAnd (mNot (mIsi ["bool"] (mVar 0))) (mBin cEq (mVar 0) (mVar 1)))))
    sNil)))
def FR_sameA : Nat → List D → U → Option (D × U)
  | 0 => fun _ _ => none
  | n + 1 => runB (m_sameA (FR_sameA n)) 4
theorem sameA_self {u : U} : ∀ (n : Nat) (d : D), plainN n d = true → FR_sameA (n + 1) [d, d] u = some (.bl true, u) := by
  intro n
  induction n with
  | zero =>
    intro d h
    cases d with
    | non => exact runB_rt (sc_nx (sIf_f (mTru_eq (mIsi_eq rfl isi2_non) rfl) rfl) (sc_rt (sIf_t (mOrB_t (mTru_eq (mBin_eq rfl rfl rfl) rfl)) (sc_rt (sRet_eq (mAnd_t (mBin_eq rfl rfl rfl) rfl (mAnd_t (mBin_eq (mIsi_eq rfl isi_b_non) (mIsi_eq rfl isi_b_non) rfl) rfl (mBin_eq (mBin_eq rfl rfl rfl) (mBin_eq rfl rfl rfl) rfl))))))))
    | bl b => exact runB_rt (sc_nx (sIf_f (mTru_eq (mIsi_eq rfl (isi2_bl b)) rfl) rfl) (sc_rt (sIf_t (mOrB_f (mTru_eq (mBin_eq rfl rfl rfl) rfl) (mTru_eq (mIsi_eq rfl (isi_bs_bl b)) rfl)) (sc_rt (sRet_eq (mAnd_t (mBin_eq rfl rfl (ceq_bl b)) rfl (mAnd_t (mBin_eq (mIsi_eq rfl (isi_b_bl b)) (mIsi_eq rfl (isi_b_bl b)) rfl) rfl (mBin_eq (mBin_eq rfl rfl rfl) (mBin_eq rfl rfl rfl) rfl))))))))
    | str x => exact runB_rt (sc_nx (sIf_f (mTru_eq (mIsi_eq rfl (isi2_str x)) rfl) rfl) (sc_rt (sIf_t (mOrB_f (mTru_eq (mBin_eq rfl rfl rfl) rfl) (mTru_eq (mIsi_eq rfl (isi_bs_str x)) rfl)) (sc_rt (sRet_eq (mAnd_t (mBin_eq rfl rfl (ceq_str x)) rfl (mAnd_t (mBin_eq (mIsi_eq rfl (isi_b_str x)) (mIsi_eq rfl (isi_b_str x)) rfl) rfl (mBin_eq (mBin_eq rfl rfl rfl) (mBin_eq rfl rfl rfl) rfl))))))))
    | int i => exact runB_rt (sc_nx (sIf_f (mTru_eq (mIsi_eq rfl (isi2_int i)) rfl) rfl) (sc_nx (sIf_f (mOrB_f (mTru_eq (mBin_eq rfl rfl rfl) rfl) (mTru_eq (mIsi_eq rfl (isi_bs_int i)) rfl)) rfl) (sc_rt (sRet_eq (mAnd_t (mIsi_eq rfl (isi_ii i)) rfl (mAnd_t (mNot_eq (k := false) (mIsi_eq rfl (isi_ib i)) rfl) rfl (mBin_eq rfl rfl (ceq_int i))))))))
    | _ => simp [plainN] at h
  | succ n ih =>
    intro d h
    cases d with
    | non => exact runB_rt (sc_nx (sIf_f (mTru_eq (mIsi_eq rfl isi2_non) rfl) rfl) (sc_rt (sIf_t (mOrB_t (mTru_eq (mBin_eq rfl rfl rfl) rfl)) (sc_rt (sRet_eq (mAnd_t (mBin_eq rfl rfl rfl) rfl (mAnd_t (mBin_eq (mIsi_eq rfl isi_b_non) (mIsi_eq rfl isi_b_non) rfl) rfl (mBin_eq (mBin_eq rfl rfl rfl) (mBin_eq rfl rfl rfl) rfl))))))))
    | bl b => exact runB_rt (sc_nx (sIf_f (mTru_eq (mIsi_eq rfl (isi2_bl b)) rfl) rfl) (sc_rt (sIf_t (mOrB_f (mTru_eq (mBin_eq rfl rfl rfl) rfl) (mTru_eq (mIsi_eq rfl (isi_bs_bl b)) rfl)) (sc_rt (sRet_eq (mAnd_t (mBin_eq rfl rfl (ceq_bl b)) rfl (mAnd_t (mBin_eq (mIsi_eq rfl (isi_b_bl b)) (mIsi_eq rfl (isi_b_bl b)) rfl) rfl (mBin_eq (mBin_eq rfl rfl rfl) (mBin_eq rfl rfl rfl) rfl))))))))
    | str x => exact runB_rt (sc_nx (sIf_f (mTru_eq (mIsi_eq rfl (isi2_str x)) rfl) rfl) (sc_rt (sIf_t (mOrB_f (mTru_eq (mBin_eq rfl rfl rfl) rfl) (mTru_eq (mIsi_eq rfl (isi_bs_str x)) rfl)) (sc_rt (sRet_eq (mAnd_t (mBin_eq rfl rfl (ceq_str x)) rfl (mAnd_t (mBin_eq (mIsi_eq rfl (isi_b_str x)) (mIsi_eq rfl (isi_b_str x)) rfl) rfl (mBin_eq (mBin_eq rfl rfl rfl) (mBin_eq rfl rfl rfl) rfl))))))))
    | int i => exact runB_rt (sc_nx (sIf_f (mTru_eq (mIsi_eq rfl (isi2_int i)) rfl) rfl) (sc_nx (sIf_f (mOrB_f (mTru_eq (mBin_eq rfl rfl rfl) rfl) (mTru_eq (mIsi_eq rfl (isi_bs_int i)) rfl)) rfl) (sc_rt (sRet_eq (mAnd_t (mIsi_eq rfl (isi_ii i)) rfl (mAnd_t (mNot_eq (k := false) (mIsi_eq rfl (isi_ib i)) rfl) rfl (mBin_eq rfl rfl (ceq_int i))))))))
    | lst xs =>
      unfold plainN at h
      rw [Bool.and_eq_true] at h
      have few := of_decide_eq_true h.1
      have hx := same_go (f := FR_sameA (n + 1)) (xs := xs) (a := .lst xs) (b := .lst xs) (u := u) fun x hx => ih x (List.all_eq_true.mp h.2 x hx)
      exact runB_rt (sc_rt (sIf_t (mTru_eq (mIsi_eq rfl (isi2_lst xs)) rfl) (sc_nx (sIf_f (mOrB_f (mTru_eq (mBin_eq (mIsi_eq rfl (isi_l_l xs)) (mIsi_eq rfl (isi_l_l xs)) rfl) rfl) (mTru_eq (mBin_eq (mIsi_eq rfl (isi_lt xs)) (mIsi_eq rfl (isi_lt xs)) rfl) rfl)) rfl)
        (sc_rt (sRet_eq (mAnd_t (mBin_eq (mBi_eq (c1 rfl) (len_l few)) (mBi_eq (c1 rfl) (len_l few)) (ceq_int _)) rfl (mBi_eq (c1 (mLc_eq (mZip_l rfl rfl) hx (by rw [List.length_map, zip_len]; exact isiz few))) (bAll_ts _))))))))
    | tup xs =>
      unfold plainN at h
      rw [Bool.and_eq_true] at h
      have few := of_decide_eq_true h.1
      have hx := same_go (f := FR_sameA (n + 1)) (xs := xs) (a := .tup xs) (b := .tup xs) (u := u) fun x hx => ih x (List.all_eq_true.mp h.2 x hx)
      exact runB_rt (sc_rt (sIf_t (mTru_eq (mIsi_eq rfl (isi2_tup xs)) rfl) (sc_nx (sIf_f (mOrB_f (mTru_eq (mBin_eq (mIsi_eq rfl (isi_t_l xs)) (mIsi_eq rfl (isi_t_l xs)) rfl) rfl) (mTru_eq (mBin_eq (mIsi_eq rfl (isi_tt xs)) (mIsi_eq rfl (isi_tt xs)) rfl) rfl)) rfl)
        (sc_rt (sRet_eq (mAnd_t (mBin_eq (mBi_eq (c1 rfl) (len_t few)) (mBi_eq (c1 rfl) (len_t few)) (ceq_int _)) rfl (mBi_eq (c1 (mLc_eq (mZip_t rfl rfl) hx (by rw [List.length_map, zip_len]; exact isiz few))) (bAll_ts _))))))))
    | _ => simp [plainN] at h
end Dv
namespace Lw13
open PySem Dv
structure OkU (n : Int) (u : U) : Prop where
  a : 0 ≤ u.a
  b : 0 ≤ u.b ∧ u.b < 2 ^ 62
  c : 0 ≤ u.c ∧ u.c ≤ n
theorem fMul_r {i j : Int} (h : -(2 ^ 64) < j ∧ j < 2 ^ 64) : fMul (.int i) (.int j) = some (.int (i * j)) := by
  simp only [fMul]; rw [if_pos (.inr h)]
theorem fMod_p {i j : Int} (h : 0 < j) : fMod (.int i) (.int j) = some (.int (i % j)) := by simp only [fMod]; rw [if_pos h]
theorem fDiv_p {i j : Int} (h : 0 < j ∧ j < 1073741824) : fDiv (.int i) (.int j) = some (.int (i / j)) := by simp only [fDiv]; rw [if_pos h]
theorem take_ok {n low : Int} {u : U} (h : OkU n u) (hn : n ≤ 2 ^ 40) (h0 : 0 < low) (h1 : low < 1073741824) :
    ∃ r u', F__law_take [.urn, .int low] u = some (.int r, u') ∧ 0 ≤ r ∧ r < low ∧ OkU (n + 1) u' := by
  obtain ⟨ha, ⟨hb1, hb2⟩, hc1, hc2⟩ := h
  obtain ⟨a, b, c⟩ := u
  dsimp only at ha hb1 hb2 hc1 hc2
  by_cases q : 0 < a
  · refine ⟨a % low, ⟨a / low, b, c⟩, ?_, Int.emod_nonneg _ (by omega), Int.emod_lt_of_pos _ h0, ⟨Int.ediv_nonneg ha (by omega), ⟨hb1, hb2⟩, hc1, by show c ≤ n + 1; omega⟩⟩
    simp [F__law_take, runB, m__law_take, sCons, sIf, mTru, mBin, mUrn0, isUrn, bnd, lft, mC, cGt, truD, q, sSet, sRet, mBi, mCons, mNil, bInt, mVar, fMod_p h0, fDiv_p ⟨h0, h1⟩, sUrn0, sNil]
  · obtain ⟨k, hk⟩ : ∃ k, k = c + 1 := ⟨_, rfl⟩
    obtain ⟨once, ho⟩ : ∃ z, z = (b + 48271 * k) * (39373 + k) % 2147483647 := ⟨_, rfl⟩
    obtain ⟨far, hf⟩ : ∃ z, z = once % 40009 + 7 := ⟨_, rfl⟩
    obtain ⟨twice, ht⟩ : ∃ z, z = (once + k + b / 1000003) * far % 2147483629 := ⟨_, rfl⟩
    have o1 : 0 ≤ once ∧ once < 2147483647 := by rw [ho]; exact ⟨Int.emod_nonneg _ (by decide), Int.emod_lt_of_pos _ (by decide)⟩
    have f1 : 0 ≤ far ∧ far < 50000 := by omega
    have t1 : 0 ≤ twice ∧ twice < 2147483629 := by rw [ht]; exact ⟨Int.emod_nonneg _ (by decide), Int.emod_lt_of_pos _ (by decide)⟩
    have e0 := fMul_r (i := 48271) (j := k) (by omega)
    have e1 := fMul_r (i := b + 48271 * k) (j := 39373 + k) (by omega)
    have e2 := fMul_r (i := once + k + b / 1000003) (j := far) (by omega)
    have e3 := fMul_r (i := twice) (j := 48271) (by decide)
    have m1 := fMod_p (i := (b + 48271 * k) * (39373 + k)) (j := 2147483647) (by decide)
    have m2 := fMod_p (i := once) (j := 40009) (by decide)
    have m3 := fMod_p (i := (once + k + b / 1000003) * far) (j := 2147483629) (by decide)
    have m4 := fMod_p (i := twice * 48271 + once) (j := 2147483587) (by decide)
    have d1 := fDiv_p (i := b) (j := 1000003) (by decide)
    have d2 := fDiv_p (i := (twice * 48271 + once) % 2147483587) (j := 64) (by decide)
    rw [← ho] at m1
    rw [← ht] at m3
    refine ⟨(twice * 48271 + once) % 2147483587 / 64 % low, ⟨a, b, k⟩, ?_, Int.emod_nonneg _ (by omega), Int.emod_lt_of_pos _ h0, ⟨ha, ⟨hb1, hb2⟩, by show 0 ≤ k; omega, by show k ≤ n + 1; omega⟩⟩
    simp only [F__law_take, runB, m__law_take, sCons, sIf, mTru, mBin, mUrn0, mUrn1, mUrn2, isUrn, bnd, lft, mC, cGt, truD, q, sSet, sRet, mBi, mCons, mNil, bInt, mVar, fMod_p h0, fDiv_p ⟨h0, h1⟩, sUrn0, sUrn2, sNil, fAdd, List.map, List.length, List.replicate, List.append, List.cons_append, List.nil_append, List.getElem?_cons_zero, List.getElem?_cons_succ, List.set, decide_false, if_true, Bool.false_eq_true, if_false, ← hk, ← hf, e0, e1, e2, e3, m1, m2, m3, m4, d1, d2, Nat.reduceSub, List.replicate_succ, List.replicate_zero]
end Lw13
namespace Lw13
open PySem Dv L2
theorem of_ok {n : Int} {u : U} {ds : List D} (h : OkU n u) (hn : n ≤ 2 ^ 40) (h0 : 0 < ds.length) (h1 : ds.length < 1000) :
    ∃ d u', F__law_of [.urn, .lst ds] u = some (d, u') ∧ d ∈ ds ∧ OkU (n + 1) u' := by
  obtain ⟨r, u', e, r0, r1, hu⟩ := take_ok (low := ds.length) h hn (by omega) (by omega)
  have hr : r.toNat < ds.length := by omega
  have e2 : ixD (.lst ds) (.int r) = some ds[r.toNat] := by
    have := atI_nat (List.getElem?_eq_getElem hr)
    rw [Int.toNat_of_nonneg r0] at this
    exact this
  refine ⟨_, u', ?_, List.getElem_mem hr, hu⟩
  simp only [F__law_of, m__law_of, runB, sCons, sSet, sTgt, sPar, sRet, sIf, sNil, sDrop, mVar, mC, mCons, mNil, mLst, mTup, mBin, mCall, mBi, mAnd, mOr, mNot, mIte, mTru, mNotB, mAndB, mOrB, mChain, mNeg, mSl, moNo, moAt, mIsi, bnd, lft, bindT, setE, List.map_cons, List.map_nil, List.length_cons, List.length_nil, List.cons_append, List.nil_append, List.getElem?_cons_zero, List.getElem?_cons_succ, List.set_cons_zero, List.set_cons_succ, if_true, if_false, Bool.false_eq_true, List.replicate_succ, List.replicate_zero, Nat.reduceSub, Nat.reduceAdd, reduceIte, Option.map_some, Option.map_none, Nat.zero_add, bLen, e, e2]
theorem compL_pure {f : D → U → Option (Option D × U)} {g : D → D} {u : U} : ∀ {ds : List D}, (∀ d ∈ ds, f d u = some (some (g d), u)) → compL f ds u = some (ds.map g, u)
  | [], _ => rfl
  | d :: ds, h => by
    unfold compL
    rw [h d List.mem_cons_self]
    show bnd (compL f ds u) _ = _
    rw [compL_pure fun d hd => h d (List.mem_cons_of_mem _ hd)]
    rfl
theorem compL_inv {f : D → U → Option (Option D × U)} {P : D → Prop} {I : Int → U → Prop} {N : Int} : ∀ {ds : List D} {i : Int} {u : U}, (∀ d ∈ ds, ∀ i u, i ≤ N → I i u → ∃ x u', f d u = some (some x, u') ∧ P x ∧ I (i + 1) u') → I i u → i + ds.length ≤ N + 1 →
    ∃ xs u', compL f ds u = some (xs, u') ∧ xs.length = ds.length ∧ (∀ x ∈ xs, P x) ∧ I (i + ds.length) u'
  | [], i, u, _, hi, _ => ⟨[], u, rfl, rfl, by simp, by simpa using hi⟩
  | d :: ds, i, u, h, hi, hN => by
    rw [List.length_cons] at hN
    obtain ⟨x, u1, e, p, hi1⟩ := h d List.mem_cons_self i u (by omega) hi
    obtain ⟨xs, u2, e2, l2, p2, hi2⟩ := compL_inv (i := i + 1) (fun d hd => h d (List.mem_cons_of_mem _ hd)) hi1 (by omega)
    refine ⟨x :: xs, u2, ?_, by rw [List.length_cons, List.length_cons, l2], fun y hy => ?_, ?_⟩
    · unfold compL
      rw [e]
      show bnd (compL f ds u1) _ = _
      rw [e2]; rfl
    · rcases List.mem_cons.mp hy with rfl | hy
      · exact p
      · exact p2 y hy
    · rw [List.length_cons, show i + ((ds.length + 1 : Nat) : Int) = i + 1 + ds.length by omega]
      exact hi2
theorem strsOf_map : ∀ (xs : List Str), strsOf (xs.map .str) = some xs
  | [] => rfl
  | x :: xs => by
    show (strsOf (xs.map .str)).map _ = _
    rw [strsOf_map xs]; rfl
theorem strs_of_all : ∀ {ds : List D} {P : Str → Prop}, (∀ d ∈ ds, ∃ x, d = .str x ∧ P x) → ∃ xs : List Str, ds = xs.map .str ∧ ∀ x ∈ xs, P x
  | [], _, _ => ⟨[], rfl, by simp⟩
  | d :: ds, P, h => by
    obtain ⟨x, rfl, p⟩ := h d List.mem_cons_self
    obtain ⟨xs, rfl, q⟩ := strs_of_all fun d hd => h d (List.mem_cons_of_mem _ hd)
    exact ⟨x :: xs, rfl, fun y hy => by
      rcases List.mem_cons.mp hy with rfl | hy
      · exact p
      · exact q y hy⟩
def AZ (x : Str) : Prop := ∀ c ∈ x.cps.toList, 97 ≤ c ∧ c ≤ 122
def ltr (z : Int) : Str := ⟨#[97 + (z % 26).toNat]⟩
theorem ltr_az (z : Int) : AZ (ltr z) := by
  intro c hc
  have h1 := Int.emod_nonneg z (show (26 : Int) ≠ 0 by decide)
  have h2 := Int.emod_lt_of_pos z (show (0 : Int) < 26 by decide)
  have e : c = 97 + (z % 26).toNat := by simpa [ltr] using hc
  omega
theorem abc_at : ∀ j : Fin 26, atI (("abcdefghijklmnopqrstuvwxyz" : Str)).cps.toList ((j.val : Nat) : Int) = some (97 + j.val) := by decide +kernel
theorem abc_ix (z : Int) : ixD (.str ("abcdefghijklmnopqrstuvwxyz" : Str)) (.int (z % 26)) = some (.str (ltr z)) := by
  have h1 := Int.emod_nonneg z (show (26 : Int) ≠ 0 by decide)
  have h2 := Int.emod_lt_of_pos z (show (0 : Int) < 26 by decide)
  have := abc_at ⟨(z % 26).toNat, by omega⟩
  simp only [Int.toNat_of_nonneg h1] at this
  show (if (("abcdefghijklmnopqrstuvwxyz" : Str)).length ≤ sizeLine then (atI (("abcdefghijklmnopqrstuvwxyz" : Str)).cps.toList (z % 26)).map (fun c => D.str ⟨#[c]⟩) else none) = _
  rw [if_pos (by decide +kernel), this]
  rfl
theorem abc_ix' {z : Int} (h0 : 0 ≤ z) (h1 : z < 26) : ixD (.str ("abcdefghijklmnopqrstuvwxyz" : Str)) (.int z) = some (.str (ltr z)) := by
  have := abc_ix z
  rw [Int.emod_eq_of_lt h0 h1] at this
  exact this
theorem len_cps (x : Str) : x.length = x.cps.toList.length := by
  show x.cps.size = _
  rw [Array.length_toList]
theorem app_cps (x y : Str) : (x ++ y).cps.toList = x.cps.toList ++ y.cps.toList := by
  show (x.cps ++ y.cps).toList = _
  simp
theorem join_cps (ys : List Str) : (Txt.join ("" : Str) ys).cps.toList = (ys.map (·.cps.toList)).flatten := by
  have h : ∀ ps : List (List Nat), TL.joinL [] ps = ps.flatten := by
    intro ps
    induction ps with
    | nil => rfl
    | cons p r ih =>
      cases r with
      | nil => simp [TL.joinL]
      | cons q r => simp only [TL.joinL, List.nil_append, ih, List.flatten_cons]
  have e := TL.tl_join ("" : Str) ys
  rw [show TL.tl ("" : Str) = [] from by decide +kernel, h] at e
  rw [TL.join_eq]
  exact e
theorem AZ.app {x y : Str} (h : AZ x) (g : AZ y) : AZ (x ++ y) := by
  intro c hc
  rw [app_cps] at hc
  rcases List.mem_append.mp hc with hc | hc
  · exact h c hc
  · exact g c hc
theorem AZ.join {ys : List Str} (h : ∀ y ∈ ys, AZ y) : AZ (Txt.join ("" : Str) ys) := by
  intro c hc
  rw [join_cps] at hc
  obtain ⟨l, hl, hc⟩ := List.mem_flatten.mp hc
  obtain ⟨y, hy, rfl⟩ := List.mem_map.mp hl
  exact h y hy c hc
theorem join_len {ys : List Str} (h : ∀ y ∈ ys, y.length = 1) : (Txt.join ("" : Str) ys).length = ys.length := by
  rw [len_cps, join_cps]
  induction ys with
  | nil => rfl
  | cons y r ih =>
    rw [List.map_cons, List.flatten_cons, List.length_append, ← len_cps, h y List.mem_cons_self, ih fun z hz => h z (List.mem_cons_of_mem _ hz), List.length_cons]
    omega
theorem sum_ones {ys : List Str} (h : ∀ y ∈ ys, y.length = 1) : (ys.map (·.length)).sum = ys.length := by
  induction ys with
  | nil => rfl
  | cons y r ih =>
    rw [List.map_cons, List.sum_cons, h y List.mem_cons_self, ih fun z hz => h z (List.mem_cons_of_mem _ hz), List.length_cons]
    omega
theorem cutS_az {z : Str} (h : AZ z) (lo hi : Option Int) : AZ (cutS z lo hi) := by
  intro c hc
  have : c ∈ z.cps.toList := by
    have hc : c ∈ ((z.cps.toList.drop (HT.sIx z.length 0 lo)).take (HT.sIx z.length z.length hi - HT.sIx z.length 0 lo)).toArray.toList := hc
    rw [List.toList_toArray] at hc
    exact List.mem_of_mem_drop (List.mem_of_mem_take hc)
  exact h c this
theorem cut_to {z : Str} {at_ : Nat} (h : at_ ≤ z.length) : (cutS z none (some (at_ : Int))).cps.toList = z.cps.toList.take at_ := by
  show ((z.cps.toList.drop (HT.sIx z.length 0 none)).take (HT.sIx z.length z.length (some (at_ : Int)) - HT.sIx z.length 0 none)).toArray.toList = _
  rw [List.toList_toArray, HT.sIx_none, HT.sIx_nat, List.drop_zero, Nat.sub_zero, Nat.min_eq_left h]
theorem cut_from {z : Str} {at_ : Nat} (h : at_ ≤ z.length) : (cutS z (some (at_ : Int)) none).cps.toList = z.cps.toList.drop at_ := by
  show ((z.cps.toList.drop (HT.sIx z.length 0 (some (at_ : Int)))).take (HT.sIx z.length z.length none - HT.sIx z.length 0 (some (at_ : Int)))).toArray.toList = _
  rw [List.toList_toArray, HT.sIx_none, HT.sIx_nat, Nat.min_eq_left h, len_cps, ← List.length_drop, List.take_length]
end Lw13
namespace Lw13
open PySem Dv L2
theorem OkU.mono {n k : Int} {u : U} (h : OkU n u) (l : n ≤ k) : OkU k u := ⟨h.a, h.b, h.c.1, by have := h.c.2; omega⟩
theorem line : sizeLine = 16777216 := rfl
theorem isiz {n : Nat} (h : n ≤ 1000) : n ≤ sizeLine := by rw [line]; omega
/-- a drawn name: letters alone -/
def Nm (k : Nat) (x : Str) : Prop := AZ x ∧ 1 ≤ x.length ∧ (x.length ≤ k ∨ x.length = 1 ∨ x.length = 2 ∨ x.length = 6 ∨ x.length = 8)
theorem joinD_ok {ys : List Str} (h : ∀ y ∈ ys, y.length = 1) (hl : ys.length ≤ 1000) : joinD (.str ("" : Str)) (.lst (ys.map .str)) = some (.str (Txt.join ("" : Str) ys)) := by
  show (strsOf (ys.map D.str)).bind _ = _
  rw [strsOf_map]
  refine if_pos ?_
  rw [sum_ones h, show ("" : Str).length = 0 from by decide +kernel]
  omega
theorem tags_ok {n : Int} {u : U} {many : Nat} (h : OkU n u) (hn : n ≤ 2 ^ 39) (h1 : 1 ≤ many) (h2 : many ≤ 8) :
    ∃ (xs : List Str) (u' : U), F__law_tags [.urn, .int many] u = some (.lst (xs.map .str), u') ∧ xs.length = many ∧ (∀ x ∈ xs, Nm many x) ∧ Rising xs ∧ OkU (n + 20) u' := by
  obtain ⟨r1, u1, e1, _, _, k1⟩ := take_ok (low := 26) h (by omega) (by decide) (by decide)
  obtain ⟨d2, u2, e2, m2, k2⟩ := of_ok (ds := [.int 1, .int 3, .int 7, .int 11, .int 25]) k1 (by omega) (by decide) (by decide)
  obtain ⟨b, rfl, hb0⟩ : ∃ b : Int, d2 = .int b ∧ (b = 1 ∨ b = 3 ∨ b = 7 ∨ b = 11 ∨ b = 25) := by
    simp only [List.mem_cons, List.not_mem_nil, or_false] at m2
    rcases m2 with rfl | rfl | rfl | rfl | rfl <;> exact ⟨_, rfl, by decide⟩
  have hb : 0 ≤ b ∧ b ≤ 25 := by omega
  -- the row of letters
  let row : List Str := (List.range 8).map fun i => ltr (r1 + b * ((0 : Int) + (i : Nat)))
  have hrow : ∀ y ∈ row, y.length = 1 ∧ AZ y := fun y hy => by
    obtain ⟨i, _, rfl⟩ := List.mem_map.mp hy
    exact ⟨rfl, ltr_az _⟩
  have rlen : row.length = 8 := by show ((List.range 8).map _).length = 8; rw [List.length_map, List.length_range]
  have c1 : ∀ env : List Sl, env[2]? = some (Sl.pub (.str ("abcdefghijklmnopqrstuvwxyz" : Str))) → env[3]? = some (Sl.pub (.int r1)) → env[4]? = some (Sl.pub (.int b)) → 8 < env.length →
      compL (turnL (.one 8) [8] env mYes (mBin ixD (mVar 2) (mBin fMod (mBi bInt (mCons (mBin fAdd (mVar 3) (mBin fMul (mVar 4) (mVar 8))) mNil)) (mC (.int 26))))) (rangeD 0 8) u2 = some (row.map .str, u2) := by
    intro env g2 g3 g4 gl
    have := compL_pure (f := turnL (.one 8) [8] env mYes (mBin ixD (mVar 2) (mBin fMod (mBi bInt (mCons (mBin fAdd (mVar 3) (mBin fMul (mVar 4) (mVar 8))) mNil)) (mC (.int 26))))) (u := u2) (ds := rangeD 0 8)
      (g := fun d => match d with | .int z => .str (ltr (r1 + b * z)) | d => d) (fun d hd => ?_)
    · rw [this]
      show some ((List.map _ (List.map _ (List.range 8))), u2) = some (List.map _ (List.map _ (List.range 8)), u2)
      rw [List.map_map, List.map_map]
      rfl
    · obtain ⟨i, hi, rfl⟩ := mem_rangeD hd
      refine turnL_eq (env' := (env.set 8 .no).set 8 (.pub (.int (0 + i)))) rfl ?_
      have w : ∀ j : Nat, j ≠ 8 → ((env.set 8 .no).set 8 (Sl.pub (.int (0 + i))))[j]? = env[j]? := fun j hj => by
        rw [List.getElem?_set_ne (fun z => hj z.symm), List.getElem?_set_ne (fun z => hj z.symm)]
      refine mBin_eq (mVar_eq (by rw [w 2 (by decide)]; exact g2)) (mBin_eq (mBi_eq (mCons_eq (mBin_eq (mVar_eq (by rw [w 3 (by decide)]; exact g3)) (mBin_eq (mVar_eq (by rw [w 4 (by decide)]; exact g4)) (mVar_eq (set_get (by rw [List.length_set]; exact gl))) (fMul_r ⟨by omega, by omega⟩)) rfl) mNil_eq) rfl) mC_eq (fMod_p (by decide))) (abc_ix _)
  have l1 : (-(2 : Int) ^ 62 ≤ (many : Int)) ∧ (many : Int) < 2 ^ 62 := by omega
  have hmax : bMax2 [.int 8, .int many] = some (.int 8) := by
    show some (D.int (if (many : Int) > 8 then (many : Int) else 8)) = _
    rw [if_neg (by omega)]
  obtain ⟨r3, u3, e3, r30, r31, k3⟩ := take_ok (low := 4) k2 (by omega) (by decide) (by decide)
  have hlt : cLt (.int many) (.int 9) = some (.bl true) := by
    show some (D.bl (decide ((many : Int) < 9))) = _
    rw [decide_eq_true (by omega)]
  -- the environments
  have hrl : (row.map D.str).length ≤ sizeLine := by rw [List.length_map, rlen]; exact isiz (by decide)
  by_cases hz : r3 = 0
  · -- the row's beginnings
    subst hz
    let xs : List Str := (List.range many).map fun i => Txt.join ("" : Str) (row.take (i + 1))
    have hx : ∀ i : Nat, i < many → ∀ y ∈ row.take (i + 1), y.length = 1 := fun i _ y hy => (hrow y (List.mem_of_mem_take hy)).1
    have c2 : ∀ env : List Sl, env[5]? = some (Sl.pub (.lst (row.map .str))) → 8 < env.length →
        compL (turnL (.one 8) [8] env mYes (mBin joinD (mC (.str ("" : Str))) (mSl (mVar 5) moNo (moAt (mBin fAdd (mVar 8) (mC (.int 1))))))) (rangeD 0 many) u3 = some (xs.map .str, u3) := by
      intro env g5 gl
      have := compL_pure (f := turnL (.one 8) [8] env mYes (mBin joinD (mC (.str ("" : Str))) (mSl (mVar 5) moNo (moAt (mBin fAdd (mVar 8) (mC (.int 1))))))) (u := u3) (ds := rangeD 0 many)
        (g := fun d => match d with | .int z => .str (Txt.join ("" : Str) (row.take (z.toNat + 1))) | d => d) (fun d hd => ?_)
      · rw [this]
        show some ((List.map _ (List.map _ (List.range many))), u3) = some (List.map _ (List.map _ (List.range many)), u3)
        rw [List.map_map, List.map_map]
        refine congrArg (fun z => some (z, u3)) (List.map_congr_left fun i _ => ?_)
        show D.str (Txt.join ("" : Str) (row.take (((0 : Int) + (i : Nat)).toNat + 1))) = D.str (Txt.join ("" : Str) (row.take (i + 1)))
        rw [show ((0 : Int) + (i : Nat)).toNat = i by omega]
      · obtain ⟨i, hi, rfl⟩ := mem_rangeD hd
        refine turnL_eq (env' := (env.set 8 .no).set 8 (.pub (.int (0 + i)))) rfl ?_
        have w : ∀ j : Nat, j ≠ 8 → ((env.set 8 .no).set 8 (Sl.pub (.int (0 + i))))[j]? = env[j]? := fun j hj => by
          rw [List.getElem?_set_ne (fun z => hj z.symm), List.getElem?_set_ne (fun z => hj z.symm)]
        have hcut : slD (.lst (row.map .str)) none (some ((0 : Int) + i + 1)) = some (.lst ((row.take (i + 1)).map .str)) := by
          show some (D.lst (cutD (row.map .str) none (some ((0 : Int) + i + 1)))) = _
          rw [show (0 : Int) + (i : Nat) + 1 = ((i + 1 : Nat) : Int) by omega]
          unfold cutD
          rw [HT.sIx_none, HT.sIx_nat, List.drop_zero, Nat.sub_zero, List.length_map, rlen, Nat.min_eq_left (by omega), List.map_take]
        refine mBin_eq mC_eq (mSl_eq (mVar_eq (by rw [w 5 (by decide)]; exact g5)) rfl (moAt_eq (mBin_eq (mVar_eq (set_get (by rw [List.length_set]; exact gl))) mC_eq rfl)) hcut) ?_
        show joinD _ _ = some (D.str (Txt.join ("" : Str) (row.take (((0 : Int) + (i : Nat)).toNat + 1))))
        rw [show ((0 : Int) + (i : Nat)).toNat = i by omega]
        exact joinD_ok (hx i hi) (by rw [List.length_take]; omega)
    have xlen : xs.length = many := by show ((List.range many).map _).length = many; rw [List.length_map, List.length_range]
    have nd : xs.Nodup := by
      refine List.pairwise_map.mpr (List.pairwise_lt_range.imp_of_mem fun {i j} hi hj hij e => ?_)
      have hi := List.mem_range.mp hi
      have hj := List.mem_range.mp hj
      have l := congrArg Str.length e
      rw [join_len (hx i hi), join_len (hx j hj), List.length_take, List.length_take, rlen] at l
      omega
    refine ⟨sortS xs, u3, runB_rt (sc_nx (sSet_eq mC_eq) (sc_nx (sTgt_eq (mTup_eq (mCons_eq (mCall_eq (mCons_eq rfl (mCons_eq mC_eq mNil_eq)) rfl e1) (mCons_eq (mCall_eq (mCons_eq rfl (mCons_eq (mLst_eq rfl (isiz (by decide))) mNil_eq)) rfl e2) mNil_eq)) (isiz (by simp))) rfl)
      (sc_nx (sSet_eq (mLc_eq (mRange1_eq (mBi_eq (mCons_eq mC_eq (mCons_eq rfl mNil_eq)) hmax) (by decide)) (c1 _ rfl rfl rfl (show (8 : Nat) < 10 from by decide)) hrl))
      (sc_rt (sIf_t (mAndB_t (mTru_eq (mBin_eq rfl mC_eq hlt) rfl) (mTru_eq (mBin_eq (mCall_eq (mCons_eq rfl (mCons_eq mC_eq mNil_eq)) rfl e3) mC_eq rfl) rfl)) (sc_rt (sRet_eq (mBi_eq (mCons_eq (mLc_eq (mRange1_eq rfl l1) (c2 _ rfl (show (8 : Nat) < 10 from by decide)) (by rw [List.length_map, xlen]; exact isiz (by omega))) mNil_eq) (sortB_s (by rw [xlen]; omega)))))))))), ?_, ?_, rising_sort nd, k3.mono (by omega)⟩
    · rw [(sortS_perm xs).length_eq]; exact xlen
    · intro x hx'
      obtain ⟨i, hi, rfl⟩ := List.mem_map.mp ((sortS_perm xs).subset hx')
      have hi := List.mem_range.mp hi
      refine ⟨AZ.join fun y hy => (hrow y (List.mem_of_mem_take hy)).2, ?_, .inl ?_⟩
      · rw [join_len (hx i hi), List.length_take, rlen]; omega
      · rw [join_len (hx i hi), List.length_take]; omega
  · obtain ⟨d4, u4, e4, m4, k4⟩ := of_ok (ds := [.int 0, .int 0, .int 1, .int 5, .int 7]) k3 (by omega) (by decide) (by decide)
    obtain ⟨L, rfl, hL, hL7⟩ : ∃ L : Nat, d4 = .int (L : Int) ∧ (L = 0 ∨ L = 1 ∨ L = 5 ∨ L = 7) ∧ L ≤ 7 := by
      simp only [List.mem_cons, List.not_mem_nil, or_false] at m4
      rcases m4 with rfl | rfl | rfl | rfl | rfl
      · exact ⟨0, rfl, by decide, by decide⟩
      · exact ⟨0, rfl, by decide, by decide⟩
      · exact ⟨1, rfl, by decide, by decide⟩
      · exact ⟨5, rfl, by decide, by decide⟩
      · exact ⟨7, rfl, by decide, by decide⟩
    let env5 : List Sl := [.pub .urn, .pub (.int many), .pub (.str ("abcdefghijklmnopqrstuvwxyz" : Str)), .pub (.int r1), .pub (.int b), .pub (.lst (row.map .str)), .no, .no, .no, .no]
    obtain ⟨ls, u5, e5, ll, pl, k5⟩ := compL_inv (f := turnL (.one 9) [9] env5 mYes (mBin ixD (mVar 2) (mCall 2 F__law_take (mCons (mVar 0) (mCons (mC (.int 26)) mNil))))) (P := fun d => ∃ x : Str, d = .str x ∧ (x.length = 1 ∧ AZ x)) (I := fun i u => OkU i u) (N := 2 ^ 40) (ds := rangeD 0 L) (i := n + 1 + 1 + 1 + 1) (u := u4)
      (fun d hd i u hi k => by
        obtain ⟨j, _, rfl⟩ := mem_rangeD hd
        obtain ⟨r, u', e, r0, r1', k'⟩ := take_ok (low := 26) k hi (by decide) (by decide)
        exact ⟨_, u', turnL_eq rfl (mBin_eq rfl (mCall_eq (mCons_eq rfl (mCons_eq mC_eq mNil_eq)) rfl e) (abc_ix' r0 r1')), ⟨_, rfl, rfl, ltr_az _⟩, k'⟩)
      k4 (by rw [rangeD_len]; omega)
    rw [rangeD_len] at ll k5
    obtain ⟨ss, rfl, ps⟩ := strs_of_all pl
    rw [List.length_map] at ll
    obtain ⟨stem, hstem⟩ : ∃ z, z = Txt.join ("" : Str) ss := ⟨_, rfl⟩
    have slen : stem.length = L := by rw [hstem, join_len fun y hy => (ps y hy).1, ll]
    have saz : AZ stem := by rw [hstem]; exact AZ.join fun y hy => (ps y hy).2
    have ej : joinD (.str ("" : Str)) (.lst (ss.map .str)) = some (.str stem) := by rw [hstem]; exact joinD_ok (fun y hy => (ps y hy).1) (by omega)
    obtain ⟨r6, u6, e6, r60, r61, k6⟩ := take_ok (low := (L : Int) + 1) k5 (by omega) (by omega) (by omega)
    obtain ⟨at_, rfl⟩ : ∃ a : Nat, r6 = a := ⟨r6.toNat, by omega⟩
    have hat : at_ ≤ stem.length := by omega
    let xs : List Str := (List.range many).map fun i => cutS stem none (some (at_ : Int)) ++ ltr (r1 + b * ((0 : Int) + (i : Nat))) ++ cutS stem (some (at_ : Int)) none
    have e7 : bLen [.str stem] = some (.int L) := by
      show (if stem.length ≤ sizeLine then some (D.int stem.length) else none) = _
      rw [if_pos (by rw [slen]; exact isiz (by omega)), slen]
    have lto : (cutS stem none (some (at_ : Int))).length = at_ := by rw [len_cps, cut_to hat, List.length_take, ← len_cps]; omega
    have lfr : (cutS stem (some (at_ : Int)) none).length = L - at_ := by rw [len_cps, cut_from hat, List.length_drop, ← len_cps, slen]
    have lap : ∀ x y : Str, (x ++ y).length = x.length + y.length := fun x y => by rw [len_cps, app_cps, List.length_append, ← len_cps, ← len_cps]
    have hss : ∀ l h', slD (.str stem) l h' = some (.str (cutS stem l h')) := fun l h' => if_pos (by rw [slen]; exact isiz (by omega))
    have hadd : ∀ x y : Str, x.length + y.length ≤ 1000 → fAdd (.str x) (.str y) = some (.str (x ++ y)) := fun x y hxy => if_pos (isiz hxy)
    have c2 : ∀ env : List Sl, env[5]? = some (Sl.pub (.lst (row.map .str))) → env[6]? = some (Sl.pub (.str stem)) → env[7]? = some (Sl.pub (.int at_)) → 8 < env.length →
        compL (turnL (.one 8) [8] env mYes (mBin fAdd (mBin fAdd (mSl (mVar 6) moNo (moAt (mVar 7))) (mBin ixD (mVar 5) (mVar 8))) (mSl (mVar 6) (moAt (mVar 7)) moNo))) (rangeD 0 many) u6 = some (xs.map .str, u6) := by
      intro env g5 g6 g7 gl
      have := compL_pure (f := turnL (.one 8) [8] env mYes (mBin fAdd (mBin fAdd (mSl (mVar 6) moNo (moAt (mVar 7))) (mBin ixD (mVar 5) (mVar 8))) (mSl (mVar 6) (moAt (mVar 7)) moNo))) (u := u6) (ds := rangeD 0 many)
        (g := fun d => match d with | .int z => .str (cutS stem none (some (at_ : Int)) ++ ltr (r1 + b * z) ++ cutS stem (some (at_ : Int)) none) | d => d) (fun d hd => ?_)
      · rw [this]
        show some ((List.map _ (List.map _ (List.range many))), u6) = some (List.map _ (List.map _ (List.range many)), u6)
        rw [List.map_map, List.map_map]
        rfl
      · obtain ⟨i, hi, rfl⟩ := mem_rangeD hd
        refine turnL_eq (env' := (env.set 8 .no).set 8 (.pub (.int (0 + i)))) rfl ?_
        have w : ∀ j : Nat, j ≠ 8 → ((env.set 8 .no).set 8 (Sl.pub (.int (0 + i))))[j]? = env[j]? := fun j hj => by
          rw [List.getElem?_set_ne (fun z => hj z.symm), List.getElem?_set_ne (fun z => hj z.symm)]
        have hix : ixD (.lst (row.map .str)) (.int (0 + i)) = some (.str (ltr (r1 + b * ((0 : Int) + (i : Nat))))) := by
          show atI (row.map D.str) ((0 : Int) + i) = _
          rw [Int.zero_add]
          refine atI_nat ?_
          rw [List.getElem?_map, List.getElem?_map, List.getElem?_range (by omega)]
          simp
        have v6 : ∀ u, mVar 6 ((env.set 8 .no).set 8 (Sl.pub (.int (0 + i)))) u = some (.str stem, u) := fun u => mVar_eq (by rw [w 6 (by decide)]; exact g6)
        have v7 : ∀ u, mVar 7 ((env.set 8 .no).set 8 (Sl.pub (.int (0 + i)))) u = some (.int at_, u) := fun u => mVar_eq (by rw [w 7 (by decide)]; exact g7)
        refine mBin_eq (mBin_eq (mSl_eq (v6 _) rfl (moAt_eq (v7 _)) (hss _ _)) (mBin_eq (mVar_eq (by rw [w 5 (by decide)]; exact g5)) (mVar_eq (set_get (by rw [List.length_set]; exact gl))) hix) (hadd _ _ ?_)) (mSl_eq (v6 _) (moAt_eq (v7 _)) rfl (hss _ _)) (hadd _ _ ?_)
        · rw [lto]; show at_ + 1 ≤ 1000; omega
        · rw [lap, lto, lfr]; show at_ + 1 + (L - at_) ≤ 1000; omega
    have xlen : xs.length = many := by show ((List.range many).map _).length = many; rw [List.length_map, List.length_range]
    have hLl : (-(2 : Int) ^ 62 ≤ (L : Int)) ∧ (L : Int) < 2 ^ 62 := by omega
    have hz' : (decide (r3 = 0)) = false := decide_eq_false hz
    have e7' : fAdd (.int (L : Int)) (.int 1) = some (.int ((L : Int) + 1)) := rfl
    have nd : xs.Nodup := by
      refine List.pairwise_map.mpr (List.pairwise_lt_range.imp_of_mem fun {i j} hi hj hij e => ?_)
      have hi := List.mem_range.mp hi
      have hj := List.mem_range.mp hj
      have l := congrArg (fun z : Str => z.cps.toList) e
      rw [app_cps, app_cps, app_cps, app_cps, List.append_assoc, List.append_assoc] at l
      have l2 := List.append_cancel_left l
      have l3 := (List.cons.inj l2).1
      have l4 : ((r1 + b * ((0 : Int) + (i : Nat))) % 26).toNat = ((r1 + b * ((0 : Int) + (j : Nat))) % 26).toNat := Nat.add_left_cancel l3
      rcases hb0 with rfl | rfl | rfl | rfl | rfl <;> omega
    refine ⟨sortS xs, u6, runB_rt (sc_nx (sSet_eq mC_eq) (sc_nx (sTgt_eq (mTup_eq (mCons_eq (mCall_eq (mCons_eq rfl (mCons_eq mC_eq mNil_eq)) rfl e1) (mCons_eq (mCall_eq (mCons_eq rfl (mCons_eq (mLst_eq rfl (isiz (by decide))) mNil_eq)) rfl e2) mNil_eq)) (isiz (by simp))) rfl)
      (sc_nx (sSet_eq (mLc_eq (mRange1_eq (mBi_eq (mCons_eq mC_eq (mCons_eq rfl mNil_eq)) hmax) (by decide)) (c1 _ rfl rfl rfl (show (8 : Nat) < 10 from by decide)) hrl))
      (sc_nx (sIf_f (mAndB_t (mTru_eq (mBin_eq rfl mC_eq hlt) rfl) (mTru_eq (mBin_eq (mCall_eq (mCons_eq rfl (mCons_eq mC_eq mNil_eq)) rfl e3) mC_eq (by show some (D.bl (decide (r3 = 0))) = _; rw [hz'])) rfl)) rfl)
      (sc_nx (sSet_eq (mBin_eq mC_eq (mLc_eq (mRange1_eq (mCall_eq (mCons_eq rfl (mCons_eq (mLst_eq rfl (isiz (by decide))) mNil_eq)) rfl e4) hLl) e5 (by rw [List.length_map]; exact isiz (by omega))) ej))
      (sc_nx (sSet_eq (mCall_eq (mCons_eq rfl (mCons_eq (mBin_eq (mBi_eq (mCons_eq rfl mNil_eq) e7) mC_eq e7') mNil_eq)) rfl e6))
      (sc_rt (sRet_eq (mBi_eq (mCons_eq (mLc_eq (mRange1_eq rfl l1) (c2 _ rfl rfl rfl (show (8 : Nat) < 10 from by decide)) (by rw [List.length_map, xlen]; exact isiz (by omega))) mNil_eq) (sortB_s (by rw [xlen]; omega))))))))))), ?_, ?_, rising_sort nd, k6.mono (by omega)⟩
    · rw [(sortS_perm xs).length_eq]; exact xlen
    · intro x hx'
      obtain ⟨i, hi, rfl⟩ := List.mem_map.mp ((sortS_perm xs).subset hx')
      have hxl : (cutS stem none (some (at_ : Int)) ++ ltr (r1 + b * ((0 : Int) + (i : Nat))) ++ cutS stem (some (at_ : Int)) none).length = L + 1 := by
        rw [lap, lap, lto, lfr]; show at_ + 1 + (L - at_) = L + 1; omega
      refine ⟨((cutS_az saz _ _).app (ltr_az _)).app (cutS_az saz _ _), by omega, ?_⟩
      rw [hxl]
      omega
end Lw13
namespace Lw13
open PySem Dv L2
theorem map_of_perm {es : List D} {xs : List Str} (h : es.Perm (xs.map .str)) : ∃ ys : List Str, es = ys.map .str ∧ ys.Perm xs := by
  obtain ⟨ys, e, hy⟩ := strs_of_all (ds := es) (P := fun _ => True) fun d hd => by
    obtain ⟨x, _, rfl⟩ := List.mem_map.mp (h.subset hd)
    exact ⟨x, rfl, trivial⟩
  subst e
  refine ⟨ys, rfl, ?_⟩
  have := h.map (fun d => match d with | D.str x => x | _ => ("" : Str))
  simpa [List.map_map, Function.comp_def] using this
theorem mixedD_ok {n : Int} {u : U} {ds : List D} (h : OkU n u) (hn : n ≤ 2 ^ 39) (hl : ds.length ≤ 1000) : ∃ es u', F__law_mixed [.urn, .lst ds] u = some (.lst es, u') ∧ es.Perm ds ∧ OkU (n + ds.length) u' := by
  obtain ⟨env', u', e, o', left, found, x, rfl, hp, hf⟩ := forL_inv (t := .one 4) (f := (sCons (sAppPop 3 2 (mCall 2 F__law_take (mCons (mVar 0) (mCons (mPeek 2 (mBi bLen (mCons (mVar 2) mNil))) mNil)))) sNil))
    (I := fun i env u => OkU (n + i) u ∧ ∃ left found x, env = [Sl.pub .urn, .pub (.lst ds), .own (.lst left), .own (.lst found), x] ∧ (found ++ left).Perm ds ∧ (found.length : Int) = i) (N := (ds.length : Int) - 1) (ds := rangeD 0 ds.length) (i := 0) (env := [Sl.pub .urn, .pub (.lst ds), .own (.lst ds), .own (.lst []), .no]) (u := u) (fun d _ i env u hi hI => by
      obtain ⟨ou, left, found, x, rfl, hp, hf⟩ := hI
      have hlen := hp.length_eq
      rw [List.length_append] at hlen
      obtain ⟨r, u2, e, r0, r1, o2⟩ := take_ok (low := left.length) ou (by omega) (by omega) (by omega)
      obtain ⟨k, rfl⟩ : ∃ k : Nat, r = k := ⟨r.toNat, by omega⟩
      have hk : k < left.length := by omega
      refine ⟨[Sl.pub .urn, .pub (.lst ds), .own (.lst left), .own (.lst found), .pub d], [Sl.pub .urn, .pub (.lst ds), .own (.lst (left.eraseIdx k)), .own (.lst (found ++ [left[k]])), .pub d], u2, rfl, ?_, o2.mono (by omega), left.eraseIdx k, found ++ [left[k]], _, rfl, ?_, by rw [List.length_append]; simp; omega⟩
      · exact sc_nx (sAppPop_eq (i := 3) (j := 2) (n := k) rfl rfl (mCall_eq (mCons_eq rfl (c1 (mPeek_eq (o := .lst left) rfl (mBi_eq (c1 rfl) rfl) rfl))) rfl e) hk (by omega) (by rw [line]; omega) (by decide)) rfl
      · have h1 : (left[k] :: left.eraseIdx k).Perm left := perm_erase hk
        rw [List.append_assoc]
        exact (List.Perm.append_left found h1).trans hp) ⟨by simpa using h, ds, [], _, rfl, by simp, rfl⟩ (by rw [rangeD_len]; omega)
  rw [rangeD_len] at o' hf
  have hlen := hp.length_eq
  rw [List.length_append] at hlen
  have l0 : left = [] := List.eq_nil_of_length_eq_zero (by omega)
  subst l0
  rw [List.append_nil] at hp
  refine ⟨found, u', runB_rt (sc_nx (sParv_eq (vList_l rfl) (vLst_eq rfl (isiz (by simp)))) (sc_nx (sFor_eq (mRange1_eq (j := (ds.length : Int)) (mBi_eq (c1 rfl) rfl) ⟨by omega, by omega⟩) (by rw [Int.toNat_natCast]; exact e)) (sPub_eq rfl (sc_rt (sRet_eq rfl))))), hp, o'.mono (by omega)⟩
theorem mixed_ok {n : Int} {u : U} {xs : List Str} (h : OkU n u) (hn : n ≤ 2 ^ 39) (hl : xs.length ≤ 8) : ∃ (ys : List Str) (u' : U), F__law_mixed [.urn, .lst (xs.map .str)] u = some (.lst (ys.map .str), u') ∧ ys.Perm xs ∧ OkU (n + xs.length) u' := by
  obtain ⟨es, u1, e, hp, o1⟩ := mixedD_ok (ds := xs.map .str) h hn (by rw [List.length_map]; omega)
  obtain ⟨ys, rfl, hy⟩ := map_of_perm hp
  rw [List.length_map] at o1
  exact ⟨ys, u1, e, hy, o1⟩
end Lw13
namespace Lw13
open PySem Dv L2
theorem forL_ix {t : Tgt} {f : MS} {I : Nat → List Sl → U → Prop} : ∀ {ds : List D} {i : Nat} {env : List Sl} {u : U}, (∀ (k : Nat) (d : D) (env : List Sl) (u : U), ds[k]? = some d → I (i + k) env u → ∃ env1 env2 u2, bindT t d env = some env1 ∧ f env1 u = some (.nx env2, u2) ∧ I (i + k + 1) env2 u2) → I i env u →
    ∃ env' u', forL t f ds env u = some (.nx env', u') ∧ I (i + ds.length) env' u'
  | [], i, env, u, _, hi => ⟨env, u, rfl, by simpa using hi⟩
  | d :: ds, i, env, u, h, hi => by
    obtain ⟨env1, env2, u2, e1, e2, hi2⟩ := h 0 d env u rfl (by simpa using hi)
    obtain ⟨env', u', e3, hi3⟩ := forL_ix (i := i + 1) (ds := ds) (fun k d' env u hk hI => by
      have := h (k + 1) d' env u (by simpa using hk) (by rw [show i + (k + 1) = i + 1 + k by omega]; exact hI)
      rw [show i + (k + 1) + 1 = i + 1 + k + 1 by omega] at this
      exact this) (by simpa using hi2)
    refine ⟨env', u', ?_, by rw [List.length_cons, show i + (ds.length + 1) = i + 1 + ds.length by omega]; exact hi3⟩
    unfold forL
    rw [e1]
    show bnd (f env1 u) _ = _
    rw [e2]
    exact e3
theorem mEnumA_l {m : M} {env : List Sl} {u u1 : U} {ds : List D} (h : m env u = some (.lst ds, u1)) : mEnumA m env u = some (enumD 0 ds, u1) := by
  unfold mEnumA; rw [h]; rfl
end Lw13
namespace Lw13
open PySem Dv L2
def over (p : Str × Str) : D := .tup [.str p.1, .str p.2]
theorem wood_loop {n : Int} {u : U} {many : D} {ys : List Str} (h : OkU n u) (hn : n ≤ 2 ^ 39) (hl : ys.length ≤ 8) :
    ∃ (env' : List Sl) (u' : U), forL (.many [4, 5]) (sCons (sApp 3 (mTup (mCons (mVar 5) (mCons (mCall 2 F__law_of (mCons (mVar 0) (mCons (mBin fAdd (mLst (mCons (mC (.str ("" : Str))) mNil)) (mSl (mVar 2) moNo (moAt (mVar 4)))) mNil))) mNil)))) sNil) (enumD 0 (ys.map .str)) [Sl.pub .urn, .pub many, .pub (.lst (ys.map .str)), .own (.lst []), .no, .no] u = some (.nx env', u') ∧ OkU (n + ys.length) u' ∧
      ∃ (ps : List (Str × Str)) (a b : Sl), env' = [Sl.pub .urn, .pub many, .pub (.lst (ys.map .str)), .own (.lst (ps.map over)), a, b] ∧ ps.map (·.1) = ys ∧ ∀ j p, ps[j]? = some p → p.2 = ("" : Str) ∨ p.2 ∈ ys.take j := by
  have el : (enumD 0 (ys.map D.str)).length = ys.length := by
    have : ∀ (ds : List D) (k : Nat), (enumD k ds).length = ds.length := fun ds => by
      induction ds with
      | nil => intro k; rfl
      | cons d ds ih => intro k; show (enumD (k + 1) ds).length + 1 = _; rw [ih]; rfl
    rw [this, List.length_map]
  obtain ⟨env', u', e, ou, ps, a, b, rfl, hp, ho⟩ := forL_ix (t := .many [4, 5]) (f := (sCons (sApp 3 (mTup (mCons (mVar 5) (mCons (mCall 2 F__law_of (mCons (mVar 0) (mCons (mBin fAdd (mLst (mCons (mC (.str ("" : Str))) mNil)) (mSl (mVar 2) moNo (moAt (mVar 4)))) mNil))) mNil)))) sNil)) (ds := enumD 0 (ys.map .str)) (i := 0) (env := [Sl.pub .urn, .pub many, .pub (.lst (ys.map .str)), .own (.lst []), .no, .no]) (u := u)
    (I := fun i env u => OkU (n + i) u ∧ ∃ (ps : List (Str × Str)) (a b : Sl), env = [Sl.pub .urn, .pub many, .pub (.lst (ys.map .str)), .own (.lst (ps.map over)), a, b] ∧ ps.map (·.1) = ys.take i ∧ ∀ j p, ps[j]? = some p → p.2 = ("" : Str) ∨ p.2 ∈ ys.take j) (fun k d env u hk hI => by
      obtain ⟨ou, ps, a, b, rfl, hp, ho⟩ := hI
      rw [Nat.zero_add] at ou hp
      rw [enumD_get, List.getElem?_map, Option.map_map] at hk
      obtain ⟨x, hx, rfl⟩ := Option.map_eq_some_iff.mp hk
      have hkl : k < ys.length := (List.getElem?_eq_some_iff.mp hx).1
      have pl : ps.length = k := by have := congrArg List.length hp; rw [List.length_map, List.length_take] at this; omega
      obtain ⟨d, u2, e2, hm, o2⟩ := of_ok (ds := [.str ("" : Str)] ++ (ys.take k).map .str) ou (by omega) (by simp) (by simp; omega)
      obtain ⟨z, rfl, hz⟩ : ∃ z : Str, d = .str z ∧ (z = ("" : Str) ∨ z ∈ ys.take k) := by
        rcases List.mem_append.mp hm with hm | hm
        · exact ⟨_, List.mem_singleton.mp hm, .inl rfl⟩
        · obtain ⟨z, hz, rfl⟩ := List.mem_map.mp hm
          exact ⟨z, rfl, .inr hz⟩
      refine ⟨_, [Sl.pub .urn, .pub many, .pub (.lst (ys.map .str)), .own (.lst ((ps ++ [(x, z)]).map over)), .pub (.int (k : Int)), .pub (.str x)], u2, (by rw [Nat.zero_add]; rfl), sc_nx (sApp_eq (ds := ps.map over) (d := over (x, z)) rfl (mTup_eq (mCons_eq rfl (c1 (mCall_eq (mCons_eq rfl (c1 (mBin_eq (mLst_eq (c1 rfl) (isiz (by simp))) (mSl_eq rfl rfl (moAt_eq rfl) (slL_to (by omega))) (fAdd_l (by simp; omega))))) rfl e2))) (isiz (by simp))) (by rw [List.length_map, line]; omega)) (by rw [List.map_append]; rfl), ?_, ps ++ [(x, z)], _, _, rfl, ?_, ?_⟩
      · exact o2.mono (by omega)
      · rw [List.map_append, hp, Nat.zero_add, List.take_add_one, hx]; rfl
      · intro j p hj
        by_cases q : j < ps.length
        · rw [List.getElem?_append_left q] at hj; exact ho j p hj
        · rw [List.getElem?_append_right (by omega)] at hj
          have : j - ps.length = 0 := by
            have := (List.getElem?_eq_some_iff.mp hj).1
            simp at this; omega
          rw [this] at hj
          cases hj
          rw [show j = k by omega]
          exact hz) ⟨by simpa using h, [], _, _, rfl, by simp, by simp⟩
  refine ⟨_, u', e, ?_, ps, a, b, rfl, ?_, ho⟩
  · rw [el, Nat.zero_add] at ou; exact ou
  · rw [el, Nat.zero_add, List.take_length] at hp; exact hp
end Lw13
namespace Lw13
open PySem Dv L2
theorem put_new {j : Key} {x : D} : ∀ {ks : List Key} {ds : List D}, ks.length = ds.length → j ∉ ks → putD ks ds j x = (ks ++ [j], ds ++ [x])
  | [], [], _, _ => rfl
  | [], _ :: _, h, _ => by cases h
  | _ :: _, [], h, _ => by cases h
  | k :: ks, d :: ds, h, hn => by
    have e := put_new (j := j) (x := x) (ks := ks) (ds := ds) (by simpa using h) (fun z => hn (List.mem_cons_of_mem _ z))
    unfold putD
    rw [if_neg (fun z => hn (by rw [z]; exact List.mem_cons_self)), e]; rfl
theorem new_of {α : Type} {kf : α → Key} {a : α} {l pre : List α} (hn : ((pre ++ a :: l).map kf).Nodup) : kf a ∉ pre.map kf := by
  rw [List.map_append, List.map_cons] at hn
  have h2 := (List.perm_middle.nodup_iff).mp hn
  have h3 := (List.nodup_cons.mp h2).1
  exact fun z => h3 (List.mem_append.mpr (.inl z))
theorem fold_go {α : Type} {f : D → U → Option (Option (Key × D) × U)} {g : α → D} {kf : α → Key} {vf : α → D} {u : U} : ∀ {l pre : List α}, (∀ a ∈ l, f (g a) u = some (some (kf a, vf a), u)) → ((pre ++ l).map kf).Nodup → (pre ++ l).length ≤ 1000 →
    foldD f (l.map g) (pre.map kf) (pre.map vf) u = some (((pre ++ l).map kf, (pre ++ l).map vf), u)
  | [], pre, _, _, _ => by rw [List.append_nil]; rfl
  | a :: l, pre, hf, hn, few => by
    have ih := fold_go (f := f) (g := g) (kf := kf) (vf := vf) (u := u) (l := l) (pre := pre ++ [a]) (fun b hb => hf b (List.mem_cons_of_mem _ hb)) (by rw [List.append_assoc]; exact hn) (by rw [List.append_assoc]; exact few)
    rw [List.map_cons]
    unfold foldD
    rw [hf a List.mem_cons_self]
    dsimp only [bnd]
    rw [if_pos (by rw [List.length_map, line]; rw [List.length_append] at few; omega), put_new (by rw [List.length_map, List.length_map]) (new_of hn)]
    rw [List.append_assoc, List.map_append, List.map_append] at ih
    exact ih
theorem fold_new {α : Type} {f : D → U → Option (Option (Key × D) × U)} {g : α → D} {kf : α → Key} {vf : α → D} {u : U} {l : List α} (hf : ∀ a ∈ l, f (g a) u = some (some (kf a, vf a), u)) (hn : (l.map kf).Nodup) (few : l.length ≤ 1000) :
    foldD f (l.map g) [] [] u = some ((l.map kf, l.map vf), u) := fold_go (pre := []) hf hn few
theorem merge_go {α : Type} {kf : α → Key} {vf : α → D} : ∀ {l pre : List α}, ((pre ++ l).map kf).Nodup → mergeD (pre.map kf) (pre.map vf) (l.map fun a => (kf a, vf a)) = ((pre ++ l).map kf, (pre ++ l).map vf)
  | [], pre, _ => by rw [List.append_nil]; rfl
  | a :: l, pre, hn => by
    have ih := merge_go (kf := kf) (vf := vf) (l := l) (pre := pre ++ [a]) (by rw [List.append_assoc]; exact hn)
    rw [List.map_cons]
    unfold mergeD
    rw [put_new (by rw [List.length_map, List.length_map]) (new_of hn)]
    rw [List.append_assoc, List.map_append, List.map_append] at ih
    exact ih
theorem merge_new {α : Type} {kf : α → Key} {vf : α → D} {l : List α} (hn : (l.map kf).Nodup) : mergeD [] [] (l.map fun a => (kf a, vf a)) = (l.map kf, l.map vf) := merge_go (pre := []) hn
theorem pairs_of {α : Type} {g : α → D} {kf : α → Key} {vf : α → D} : ∀ {l : List α}, (∀ a ∈ l, pairD (g a) = some (kf a, vf a)) → pairsD (l.map g) = some (l.map fun a => (kf a, vf a))
  | [], _ => rfl
  | a :: l, h => by
    rw [List.map_cons]
    unfold pairsD
    rw [h a List.mem_cons_self]
    show (pairsD (l.map g)).map _ = _
    rw [pairs_of fun b hb => h b (List.mem_cons_of_mem _ hb)]; rfl
theorem val_map {α : Type} {g : α → Str} {h : α → D} (x : Str) : ∀ l : List α, valD (l.map fun a => .inr (g a)) (l.map h) (.inr x) = (l.find? fun a => decide (g a = x)).map h
  | [] => rfl
  | a :: l => by
    have ih := val_map (g := g) (h := h) x l
    unfold valD at ih ⊢
    rw [List.map_cons, List.map_cons, List.zip_cons_cons, List.find?_cons, List.find?_cons]
    by_cases e : g a = x
    · rw [show (decide ((Sum.inr (g a) : Key) = Sum.inr x)) = true from decide_eq_true (by rw [e]), decide_eq_true e]; rfl
    · rw [show (decide ((Sum.inr (g a) : Key) = Sum.inr x)) = false from decide_eq_false (fun z => e (Sum.inr.inj z)), decide_eq_false e]; exact ih
def look (w : List (Str × Str)) (x : Str) : Option Str := (w.find? fun p => decide (p.1 = x)).map (·.2)
def dctW (w : List (Str × Str)) : D := .dct (w.map fun p => .inr p.1) (w.map fun p => .str p.2)
def climbL (w : List (Str × Str)) : Nat → Str → List Str
  | 0, _ => []
  | n + 1, x => match look w x with
    | none => []
    | some y => y :: climbL w n y
theorem val_look (w : List (Str × Str)) (x : Str) : valD (w.map fun p => .inr p.1) (w.map fun p => .str p.2) (.inr x) = (look w x).map .str := by
  rw [val_map (g := fun p : Str × Str => p.1)]
  unfold look
  cases w.find? fun p => decide (p.1 = x) <;> rfl
theorem din_ok (w : List (Str × Str)) (x : Str) (b : Bool) : dinD b (.str x) (dctW w) = some (.bl (xor b (look w x).isSome)) := by
  show (keyOf (.str x)).map (fun key => D.bl (xor b (valD (w.map fun p => .inr p.1) (w.map fun p => .str p.2) key).isSome)) = _
  show some (D.bl (xor b (valD (w.map fun p => .inr p.1) (w.map fun p => .str p.2) (.inr x)).isSome)) = _
  rw [val_look]
  cases look w x <;> rfl
theorem dix_ok {w : List (Str × Str)} {x y : Str} (h : look w x = some y) : dixD (dctW w) (.str x) = some (.str y) := by
  show valD (w.map fun p => .inr p.1) (w.map fun p => .str p.2) (.inr x) = _
  rw [val_look, h]; rfl
abbrev clC : MB := (mAndB (mTru (mBin (dinD false) (mVar 3) (mVar 0))) (mTru (mBin cLt (mPeek 2 (mBi bLen (mCons (mVar 2) mNil))) (mBi bLenD (mCons (mVar 0) mNil)))))
abbrev clB : MS := (sCons (sSet 3 (mBin dixD (mVar 0) (mVar 3)))
    (sCons (sApp 2 (mVar 3))
    sNil))
theorem climb_go (w : List (Str × Str)) (X : Sl) (u : U) (few : w.length ≤ 1000) : ∀ (n k : Nat) (pre : List Str) (at_ : Str), pre.length + n = w.length → n < k →
    ∃ z, sWh k clC clB [Sl.pub (dctW w), X, .own (.lst (pre.map .str)), .pub (.str at_)] u = some (.nx [Sl.pub (dctW w), X, .own (.lst ((pre ++ climbL w n at_).map .str)), .pub (.str z)], u)
  | _, 0, _, _, _, h => by omega
  | n, k + 1, pre, at_, hl, hk => by
    have e1 := din_ok w at_ false
    cases q : look w at_ with
    | none =>
      rw [q] at e1
      have ec : climbL w n at_ = [] := by
        cases n with
        | zero => rfl
        | succ n => unfold climbL; rw [q]
      refine ⟨at_, ?_⟩
      rw [ec, List.append_nil]
      exact sWh_f (mAndB_f (mTru_eq (mBin_eq rfl rfl e1) rfl))
    | some y =>
      rw [q] at e1
      have e2 : (mTru (mBin cLt (mPeek 2 (mBi bLen (mCons (mVar 2) mNil))) (mBi bLenD (mCons (mVar 0) mNil)))) [Sl.pub (dctW w), X, .own (.lst (pre.map .str)), .pub (.str at_)] u = some (decide ((pre.length : Int) < (w.length : Int)), u) :=
        mTru_eq (mBin_eq (mPeek_eq (o := .lst (pre.map .str)) rfl (mBi_eq (c1 rfl) (len_l (by rw [List.length_map]; omega))) rfl) (mBi_eq (c1 rfl) (show bLenD [dctW w] = some (.int (w.length : Nat)) from by show some (D.int ((w.map _).length : Nat)) = _; rw [List.length_map])) (show cLt (.int ((pre.map D.str).length : Nat)) (.int (w.length : Nat)) = some (.bl (decide ((pre.length : Int) < (w.length : Int)))) from by rw [List.length_map]; rfl)) rfl
      cases n with
      | zero =>
        rw [decide_eq_false (by omega)] at e2
        refine ⟨at_, ?_⟩
        show _ = some (Fl.nx [Sl.pub (dctW w), X, .own (.lst ((pre ++ []).map .str)), .pub (.str at_)], u)
        rw [List.append_nil]
        exact sWh_f (mAndB_t (mTru_eq (mBin_eq rfl rfl e1) rfl) e2)
      | succ n =>
        rw [decide_eq_true (by omega)] at e2
        obtain ⟨z, hz⟩ := climb_go w X u few n k (pre ++ [y]) y (by rw [List.length_append]; simp; omega) (by omega)
        refine ⟨z, ?_⟩
        rw [sWh_t (env' := [Sl.pub (dctW w), X, .own (.lst ((pre ++ [y]).map .str)), .pub (.str y)]) (mAndB_t (mTru_eq (mBin_eq rfl rfl e1) rfl) e2) (sc_nx (sSet_eq (mBin_eq rfl rfl (dix_ok q))) (sc_nx (env' := [Sl.pub (dctW w), X, .own (.lst ((pre ++ [y]).map .str)), .pub (.str y)]) (by
          have := sApp_eq (i := 2) (m := mVar 3) (env := [Sl.pub (dctW w), X, .own (.lst (pre.map .str)), .pub (.str y)]) (u := u) (ds := pre.map .str) rfl rfl (by rw [List.length_map, line]; omega)
          rw [List.map_append]; exact this) rfl)), hz]
        have ec : climbL w (n + 1) at_ = y :: climbL w n y := by
          show (match look w at_ with | none => [] | some y => y :: climbL w n y) = _
          rw [q]
        rw [ec, List.append_assoc]; rfl
theorem climb_ok {w : List (Str × Str)} {x : Str} {u : U} (few : w.length ≤ 1000) : F_climb [dctW w, .str x] u = some (.lst ((climbL w w.length x).map .str), u) := by
  obtain ⟨z, hz⟩ := climb_go w (.pub (.str x)) u few w.length 4000 [] x (by simp) (by omega)
  exact runB_rt (sc_nx (sSv_eq (vLst_eq (ds := []) mNil_eq (isiz (by simp)))) (sc_nx (sSet_eq rfl) (sc_nx hz (sPub_eq rfl (sc_rt (sRet_eq rfl))))))
end Lw13
namespace Lw13
open PySem Dv L2
def Nz (x : Str) : Prop := AZ x ∧ 1 ≤ x.length ∧ x.length ≤ 8
theorem Nz.tx {x : Str} (h : Nz x) : TxO x := az_ok h.1
theorem len_e : ("" : Str).length = 0 := by decide +kernel
theorem tx_e : TxO ("" : Str) := by show PyData.strOk ("" : Str) = true; decide +kernel
theorem Nz.ne {x : Str} (h : Nz x) : x ≠ ("" : Str) := by
  rintro rfl
  have := h.2.1
  rw [len_e] at this
  omega
theorem name_in {x : Str} {u : U} (h1 : 1 ≤ x.length) (h2 : x.length ≤ 8) : F_is_name [.str x] u = some (.bl (allB x), u) := by
  have e1 : cLe (.int 1) (.int x.length) = some (.bl true) := by show some (D.bl (decide _)) = _; rw [decide_eq_true (by omega)]
  have e2 : cLe (.int x.length) (.int 8) = some (.bl true) := by show some (D.bl (decide _)) = _; rw [decide_eq_true (by omega)]
  have c1 : compL (turnL (.one 1) [1] [Sl.pub (.str x), Sl.no] mYes (mBin cIn (mVar 1) (mC (.str abc)))) (x.cps.toList.map fun c => .str ⟨#[c]⟩) u = some ((x.cps.toList.map bitB).map .bl, u) := by
    rw [compL_pure (g := fun d => match d with | .str z => .bl (match z.cps.toList with | [c] => bitB c | _ => false) | d => d) (fun d hd => ?_)]
    · rw [List.map_map, List.map_map]; rfl
    · obtain ⟨c, _, rfl⟩ := List.mem_map.mp hd
      exact turnL_eq rfl (mBin_eq rfl rfl rfl)
  refine runB_rt (sc_nx (sIf_f (mOrB_f (mNotB_eq (k := true) (mTru_eq (mIsi_eq rfl (isi_str x)) rfl)) (mNotB_eq (k := true) (mTru_eq (mChain_t rfl (mBi_eq (mCons_eq rfl mNil_eq) (len_str (by omega))) e1 rfl e2) rfl))) rfl) (sc_rt (sRet_eq (mBi_eq (mCons_eq (mLc_eq (mItems_eq rfl rfl) c1 ?_) mNil_eq) ?_))))
  · rw [List.length_map, List.length_map, ← len_cps]; exact isiz (by omega)
  · show (blsOf _).map _ = _
    rw [blsOf_map]; rfl
theorem name_t {x : Str} {u : U} (h : Nz x) : F_is_name [.str x] u = some (.bl true, u) := by
  rw [name_in h.2.1 h.2.2, allB_az h.1]
theorem name_e {u : U} : F_is_name [.str ("" : Str)] u = some (.bl false, u) := by
  have e1 : cLe (.int 1) (.int (("" : Str).length)) = some (.bl false) := by rw [len_e]; rfl
  exact runB_rt (sc_rt (sIf_t (mOrB_f (mNotB_eq (k := true) (mTru_eq (mIsi_eq rfl (isi_str _)) rfl)) (mNotB_eq (k := false) (mTru_eq (mChain_f rfl (mBi_eq (mCons_eq rfl mNil_eq) (len_str (by rw [len_e]; omega))) e1) rfl))) (sc_rt (sRet_eq rfl))))
theorem isi_non : isiD .non ["str"] = some false := by decide +kernel
theorem name_non {u : U} : F_is_name [.non] u = some (.bl false, u) :=
  runB_rt (sc_rt (sIf_t (mOrB_t (mNotB_eq (k := false) (mTru_eq (mIsi_eq rfl isi_non) rfl))) (sc_rt (sRet_eq rfl))))
theorem pair_t {a b : D} {u : U} : F_is_pair [.tup [a, b]] u = some (.bl true, u) :=
  runB_rt (sc_rt (sRet_eq (mAnd_t (mIsi_eq rfl (isi_tt _)) rfl (mBin_eq (mBi_eq (mCons_eq rfl mNil_eq) rfl) rfl rfl))))
theorem branch_t {x y : Str} {u : U} (hx : Nz x) (hy : y = ("" : Str) ∨ Nz y) : F_is_branch [.tup [.str x, .str y]] u = some (.bl true, u) := by
  rcases hy with rfl | hy
  · exact runB_rt (sc_rt (sRet_eq (mAnd_t (mCall_eq (c1 rfl) rfl pair_t) rfl (mAnd_t (mCall_eq (c1 (mBin_eq rfl rfl rfl)) rfl (name_t hx)) rfl (mOr_f (mCall_eq (c1 (mBin_eq rfl rfl rfl)) rfl name_e) rfl (mBin_eq (mBin_eq rfl rfl rfl) rfl rfl))))))
  · exact runB_rt (sc_rt (sRet_eq (mAnd_t (mCall_eq (c1 rfl) rfl pair_t) rfl (mAnd_t (mCall_eq (c1 (mBin_eq rfl rfl rfl)) rfl (name_t hx)) rfl (mOr_t (mCall_eq (c1 (mBin_eq rfl rfl rfl)) rfl (name_t hy)) rfl)))))
theorem ceq_non : cEq .non (.str ("" : Str)) = some (.bl false) := by
  have h : eqD .non (.str ("" : Str)) = some false := by decide +kernel
  show (eqD _ _).map _ = _
  rw [h]; rfl
theorem branch_n {x : Str} {u : U} (hx : Nz x) : F_is_branch [.tup [.str x, .non]] u = some (.bl false, u) :=
  runB_rt (sc_rt (sRet_eq (mAnd_t (mCall_eq (c1 rfl) rfl pair_t) rfl (mAnd_t (mCall_eq (c1 (mBin_eq rfl rfl rfl)) rfl (name_t hx)) rfl (mOr_f (mCall_eq (c1 (mBin_eq rfl rfl rfl)) rfl name_non) rfl (mBin_eq (mBin_eq rfl rfl rfl) rfl ceq_non))))))
theorem bAll_map {α : Type} (l : List α) (P : α → Bool) : bAll [.lst (l.map fun x => D.bl (P x))] = some (.bl (l.all P)) := by
  rw [show (l.map fun x => D.bl (P x)) = (l.map P).map D.bl by rw [List.map_map]; rfl, bAll_bls, List.all_map]; rfl
theorem eqS {xs ys : List Str} (h : AllT xs) (g : AllT ys) : eqD (.lst (xs.map .str)) (.lst (ys.map .str)) = some (decide (xs = ys)) := by
  have t : ∀ l : List Str, toPy (.lst (l.map D.str)) = some (.list (l.map PyData.str)) := fun l => by unfold toPy; rw [strs_py]; rfl
  unfold eqD
  simp only [t]
  rw [if_pos ⟨strs_shL h, strs_shL g⟩]
  simp only [PyData.eqv]
  rw [eqvAll_dec fun a _ b _ => by
    simp only [PyData.eqv]
    exact decide_eq_decide.mpr Iff.rfl]
theorem nub_id : ∀ {xs : List Str}, xs.Nodup → nubS xs = xs
  | [], _ => rfl
  | x :: xs, h => by
    have h2 := List.nodup_cons.mp h
    unfold nubS
    rw [nub_id h2.2, if_neg h2.1]
theorem rising_srt {xs : List Str} (h : Rising xs) : sortS (nubS xs) = xs := by
  rw [nub_id h.nodup]
  exact (List.Perm.eq_of_pairwise (fun _ _ _ _ h1 h2 => leS_anti h1 h2) (h.imp fun {a b} hl => List.not_lt.mp (fun q => List.lt_irrefl _ (List.lt_trans hl q))) (sortS_sorted xs) (sortS_perm xs).symm).symm
theorem srt_dup {xs : List Str} (h : sortS (nubS xs) = xs) : xs.Nodup := by
  rw [← h]; exact ((sortS_perm _).nodup_iff).mpr (nodup_nubS _)
def rowO (p : Str × Option Str) : D := .tup [.str p.1, match p.2 with | none => .non | some y => .str y]
abbrev firsts {β : Type} (w : List (Str × β)) : List Str := w.map (·.1)
def RowOk (p : Str × Option Str) : Prop := Nz p.1 ∧ ∀ y, p.2 = some y → y = ("" : Str) ∨ Nz y
theorem tree_branches {rows : List (Str × Option Str)} {env : List Sl} {u : U} (h : ∀ p ∈ rows, RowOk p) (few : rows.length ≤ 100) (he : env.length = 7) (h0 : env[0]? = some (.pub (.tup (rows.map rowO)))) :
    (mBi bAll (mCons (mLc (.one 6) [6] (mItems (mVar 0)) mYes (mCall 1 F_is_branch (mCons (mVar 6) mNil))) mNil)) env u = some (.bl (rows.all fun p => p.2.isSome), u) := by
  have hc : compL (turnL (.one 6) [6] env mYes (mCall 1 F_is_branch (mCons (mVar 6) mNil))) (rows.map rowO) u = some (rows.map fun p => D.bl p.2.isSome, u) := compL_mp fun p hp => by
    refine turnL_eq (env' := (env.set 6 .no).set 6 (.pub (rowO p))) rfl (mCall_eq (c1 (mVar_eq (by rw [List.getElem?_set_self (by rw [List.length_set, he]; decide)]))) rfl ?_)
    obtain ⟨x, y⟩ := p
    obtain ⟨h1, h2⟩ := h _ hp
    cases y with
    | none => exact branch_n h1
    | some y => exact branch_t h1 (h2 y rfl)
  refine mBi_eq (c1 (mLc_eq (mItems_eq (mVar_eq h0) rfl) hc (by rw [List.length_map]; exact isiz (by omega)))) ?_
  rw [show (rows.map fun p => D.bl p.2.isSome) = (rows.map fun p => p.2.isSome).map D.bl by rw [List.map_map]; rfl, bAll_bls, List.all_map]; rfl
theorem tree_no {rows : List (Str × Option Str)} {u : U} (h : ∀ p ∈ rows, RowOk p) (few : rows.length ≤ 100) (hn : ∃ p ∈ rows, p.2 = none) : F_is_tree [.tup (rows.map rowO)] u = some (.bl false, u) := by
  have e := tree_branches (env := [Sl.pub (.tup (rows.map rowO)), .no, .no, .no, .no, .no, .no]) (u := u) h few rfl rfl
  have ea : (rows.all fun p => p.2.isSome) = false := by
    rw [List.all_eq_false]
    obtain ⟨p, hp, e⟩ := hn
    exact ⟨p, hp, by rw [e]; decide⟩
  rw [ea] at e
  exact runB_rt (sc_rt (sIf_t (mOrB_f (mNotB_eq (k := true) (mTru_eq (mIsi_eq rfl (isi_tt _)) rfl)) (mNotB_eq (k := false) (mTru_eq e rfl))) (sc_rt (sRet_eq rfl))))
def someW (w : List (Str × Str)) : List (Str × Option Str) := w.map fun p => (p.1, some p.2)
theorem some_rows (w : List (Str × Str)) : (someW w).map rowO = w.map over := by
  unfold someW; rw [List.map_map]; rfl
structure WOk (w : List (Str × Str)) : Prop where
  ok : ∀ p ∈ w, Nz p.1 ∧ (p.2 = ("" : Str) ∨ Nz p.2)
  few : w.length ≤ 10
theorem WOk.rows {w : List (Str × Str)} (h : WOk w) : ∀ p ∈ someW w, RowOk p := fun p hp => by
  obtain ⟨q, hq, rfl⟩ := List.mem_map.mp hp
  exact ⟨(h.ok q hq).1, fun y e => by cases e; exact (h.ok q hq).2⟩
theorem WOk.tx1 {w : List (Str × Str)} (h : WOk w) : AllT (firsts w) := fun x hx => by
  obtain ⟨q, hq, rfl⟩ := List.mem_map.mp hx
  exact (h.ok q hq).1.tx
theorem WOk.tx2 {w : List (Str × Str)} (h : WOk w) : AllT (w.map (·.2)) := fun x hx => by
  obtain ⟨q, hq, rfl⟩ := List.mem_map.mp hx
  rcases (h.ok q hq).2 with e | e
  · show TxO q.2
    rw [e]; exact tx_e
  · exact e.tx
theorem look_some {w : List (Str × Str)} {x : Str} (h : x ∈ firsts w) : ∃ y, look w x = some y := by
  obtain ⟨q, hq, rfl⟩ := List.mem_map.mp h
  unfold look
  cases e : w.find? fun p => decide (p.1 = q.1) with
  | some p => exact ⟨p.2, rfl⟩
  | none => exact absurd (decide_eq_true rfl) (List.find?_eq_none.mp e q hq)
theorem look_none {w : List (Str × Str)} {x : Str} (h : x ∉ firsts w) : look w x = none := by
  unfold look
  rw [List.find?_eq_none.mpr fun p hp e => h (List.mem_map.mpr ⟨p, hp, of_decide_eq_true e⟩)]; rfl
theorem look_of {w : List (Str × Str)} {p : Str × Str} (hn : (firsts w).Nodup) (h : p ∈ w) : look w p.1 = some p.2 := by
  unfold look
  cases e : w.find? fun q => decide (q.1 = p.1) with
  | some q =>
    have h1 : q.1 = p.1 := of_decide_eq_true (List.find?_some (p := fun q : Str × Str => decide (q.1 = p.1)) e)
    have h2 := List.mem_of_find?_eq_some e
    rw [nodup_inj hn h2 h h1]; rfl
  | none => exact absurd (decide_eq_true rfl) (List.find?_eq_none.mp e p h)
theorem climb_pos {w : List (Str × Str)} {x : Str} (h : x ∈ firsts w) : climbL w w.length x ≠ [] := by
  obtain ⟨y, hy⟩ := look_some h
  have : 0 < w.length := by
    have := List.length_pos_of_mem h
    rwa [List.length_map] at this
  obtain ⟨n, hn⟩ : ∃ n, w.length = n + 1 := ⟨w.length - 1, by omega⟩
  rw [hn]
  show (match look w x with | none => [] | some y => y :: climbL w n y) ≠ []
  rw [hy]
  exact fun z => by cases z
def lastW (w : List (Str × Str)) (x : Str) : Option Str := (climbL w w.length x).getLast?
theorem last_str {l : List Str} {s : Str} (h : l.getLast? = some s) : ixD (.lst (l.map .str)) (.int (-1)) = some (.str s) := by
  show atI _ (-1) = _
  have hn : l ≠ [] := fun z => by rw [z] at h; cases h
  have hl : 0 < l.length := List.length_pos_iff.mpr hn
  unfold atI ixN
  rw [List.length_map, if_neg (by omega), if_pos (by omega)]
  show (l.map D.str)[((-1 : Int) + l.length).toNat]? = _
  rw [show ((-1 : Int) + l.length).toNat = l.length - 1 by omega, List.getElem?_map, ← List.getLast?_eq_getElem?, h]; rfl
theorem tree_rows {w : List (Str × Str)} {u : U} (h : WOk w) : compL (turnL (.many [3, 4]) [3, 4] [Sl.pub (.tup (w.map over)), .no, .no, .no, .no, .no, .no] mYes (mVar 3)) (w.map over) u = some ((firsts w).map .str, u) := by
  rw [compL_mp (h := fun p => D.str p.1) fun p hp => turnL_eq (env' := [Sl.pub (.tup (w.map over)), .no, .no, .pub (.str p.1), .pub (.str p.2), .no, .no]) rfl rfl, List.map_map]; rfl
theorem fdup {w : List (Str × Str)} {u : U} (h : WOk w) (hn : sortS (nubS (firsts w)) ≠ firsts w) : F_is_tree [.tup (w.map over)] u = some (.bl false, u) := by
  have e := tree_branches (env := [Sl.pub (.tup (w.map over)), .no, .no, .no, .no, .no, .no]) (u := u) h.rows (by unfold someW; rw [List.length_map]; have := h.few; omega) rfl (by rw [some_rows]; rfl)
  rw [show (someW w).all (fun p => p.2.isSome) = true by unfold someW; rw [List.all_map]; exact List.all_eq_true.mpr fun _ _ => rfl] at e
  have hl : (firsts w).length ≤ 10 := by rw [List.length_map]; exact h.few
  have hs : AllT (sortS (nubS (firsts w))) := h.tx1.sub fun x hx => mem_nubS.mp (nub_sub hx)
  have hc : cNe (.lst ((firsts w).map .str)) (.lst ((sortS (nubS (firsts w))).map .str)) = some (.bl true) := by
    show (eqD _ _).map _ = _
    rw [eqS h.tx1 hs, decide_eq_false (fun z => hn z.symm)]; rfl
  refine runB_rt (sc_nx (sIf_f (mOrB_f (mNotB_eq (k := true) (mTru_eq (mIsi_eq rfl (isi_tt _)) rfl)) (mNotB_eq (k := true) (mTru_eq e rfl))) rfl) ?_)
  refine sc_nx (env' := [Sl.pub (.tup (w.map over)), .pub (.lst ((firsts w).map .str)), .no, .no, .no, .no, .no]) (sSet_eq (mLc_eq (mItems_eq rfl rfl) (tree_rows h) (by rw [List.length_map]; exact isiz (by omega)))) ?_
  refine sc_rt (sIf_t (mOrB_f (k := true) (mTru_eq (mBin_eq (mBi_eq (c1 rfl) (len_l (by rw [List.length_map]; omega))) rfl (show cGt (.int (((firsts w).map D.str).length : Nat)) (.int 10) = some (.bl false) from by show some (D.bl (decide _)) = _; rw [decide_eq_false (by rw [List.length_map]; omega)])) rfl) (mTru_eq (mBin_eq rfl (mSortSet_eq rfl (srt_l (by omega))) hc) rfl)) (sc_rt (sRet_eq rfl)))
theorem ftree {w : List (Str × Str)} {u : U} (h : WOk w) (hn : Rising (firsts w)) : F_is_tree [.tup (w.map over)] u = some (.bl ((firsts w).all fun x => decide (lastW w x = some ("" : Str))), u) := by
  have e := tree_branches (env := [Sl.pub (.tup (w.map over)), .no, .no, .no, .no, .no, .no]) (u := u) h.rows (by unfold someW; rw [List.length_map]; have := h.few; omega) rfl (by rw [some_rows]; rfl)
  rw [show (someW w).all (fun p => p.2.isSome) = true by unfold someW; rw [List.all_map]; exact List.all_eq_true.mpr fun _ _ => rfl] at e
  have hl : (firsts w).length ≤ 10 := by rw [List.length_map]; exact h.few
  have hc : cNe (.lst ((firsts w).map .str)) (.lst ((sortS (nubS (firsts w))).map .str)) = some (.bl false) := by
    show (eqD _ _).map _ = _
    rw [rising_srt hn, eqS h.tx1 h.tx1, decide_eq_true rfl]; rfl
  have hnd : (w.map fun p : Str × Str => (Sum.inr p.1 : Key)).Nodup := by
    exact List.pairwise_map.mpr ((List.pairwise_map.mp hn.nodup).imp fun hab z => hab (Sum.inr.inj z))
  have hf : foldD (turnD (.many [3, 5]) [3, 5] [Sl.pub (.tup (w.map over)), .pub (.lst ((firsts w).map .str)), .no, .no, .no, .no, .no] mYes (mVar 3) (mVar 5)) (w.map over) [] [] u = some ((w.map fun p => .inr p.1, w.map fun p => .str p.2), u) :=
    fold_new (g := over) (kf := fun p => .inr p.1) (vf := fun p => .str p.2) (fun p hp => rfl) hnd (by have := h.few; omega)
  have hcl : compL (turnL (.one 3) [3] [Sl.pub (.tup (w.map over)), .pub (.lst ((firsts w).map .str)), .pub (dctW w), .no, .no, .no, .no] mYes (mBin cEq (mBin ixD (mCall 2 F_climb (mCons (mVar 2) (mCons (mVar 3) mNil))) (mNeg (mC (.int (1))))) (mC (.str ("" : Str))))) ((firsts w).map .str) u = some ((firsts w).map fun x => .bl (decide (lastW w x = some ("" : Str))), u) := compL_mp fun x hx => by
    obtain ⟨z, hz⟩ : ∃ z, lastW w x = some z := by
      cases q : lastW w x with
      | some z => exact ⟨z, rfl⟩
      | none => exact absurd (List.getLast?_eq_none_iff.mp q) (climb_pos hx)
    refine turnL_eq (env' := [Sl.pub (.tup (w.map over)), .pub (.lst ((firsts w).map .str)), .pub (dctW w), .pub (.str x), .no, .no, .no]) rfl (mBin_eq (mBin_eq (mCall_eq (mCons_eq rfl (c1 rfl)) rfl (climb_ok (by have := h.few; omega))) (mNeg_eq rfl) (last_str hz)) rfl ?_)
    rw [hz, ceqS]
    congr 2
    exact decide_eq_decide.mpr ⟨fun e => by rw [e], fun e => Option.some.inj e⟩
  refine runB_rt (sc_nx (sIf_f (mOrB_f (mNotB_eq (k := true) (mTru_eq (mIsi_eq rfl (isi_tt _)) rfl)) (mNotB_eq (k := true) (mTru_eq e rfl))) rfl) ?_)
  refine sc_nx (env' := [Sl.pub (.tup (w.map over)), .pub (.lst ((firsts w).map .str)), .no, .no, .no, .no, .no]) (sSet_eq (mLc_eq (mItems_eq rfl rfl) (tree_rows h) (by rw [List.length_map]; exact isiz (by omega)))) ?_
  refine sc_nx (sIf_f (mOrB_f (k := false) (mTru_eq (mBin_eq (mBi_eq (c1 rfl) (len_l (by rw [List.length_map]; omega))) rfl (show cGt (.int (((firsts w).map D.str).length : Nat)) (.int 10) = some (.bl false) from by show some (D.bl (decide _)) = _; rw [decide_eq_false (by rw [List.length_map]; omega)])) rfl) (mTru_eq (mBin_eq rfl (mSortSet_eq rfl (srt_l (by omega))) hc) rfl)) rfl) ?_
  refine sc_nx (env' := [Sl.pub (.tup (w.map over)), .pub (.lst ((firsts w).map .str)), .own (.dct (w.map fun p => .inr p.1) (w.map fun p => .str p.2)), .no, .no, .no, .no]) (u1 := u) (sSv_eq ?_) ?_
  · unfold vDC
    rw [show mItems (mVar 0) [Sl.pub (.tup (w.map over)), .pub (.lst ((firsts w).map .str)), .no, .no, .no, .no, .no] u = some (w.map over, u) from mItems_eq rfl rfl]
    show bnd (foldD _ _ _ _ u) _ = _
    rw [hf]; rfl
  · refine sPub_eq (o := .dct (w.map fun p => .inr p.1) (w.map fun p => .str p.2)) rfl ?_
    show sCons _ _ [Sl.pub (.tup (w.map over)), .pub (.lst ((firsts w).map .str)), .pub (dctW w), .no, .no, .no, .no] u = _
    refine sc_rt (sRet_eq (mBi_eq (c1 (mLc_eq (mItems_eq rfl rfl) hcl (by rw [List.length_map]; exact isiz (by omega)))) ?_))
    exact bAll_map (firsts w) fun x => decide (lastW w x = some ("" : Str))
end Lw13
namespace Lw13
open PySem Dv L2
abbrev seconds (w : List (Str × Str)) : List Str := w.map (·.2)
def gB : Bool → Str × Str → D
  | true, p => .tup [.str p.1, .str p.2]
  | false, p => .lst [.str p.1, .str p.2]
def treeB : Bool → List (Str × Str) → D
  | true, w => .tup (w.map (gB true))
  | false, w => .lst (w.map (gB false))
theorem items_B (b : Bool) (w : List (Str × Str)) : itemsD (treeB b w) = some (w.map (gB b)) := by cases b <;> rfl
def leafL (w : List (Str × Str)) : List Str := (firsts w).filter fun x => !decide (x ∈ seconds w)
theorem leaf_ok {b : Bool} {w : List (Str × Str)} {u : U} (h : WOk w) : F_leaves [treeB b w] u = some (.tup ((leafL w).map .str), u) := by
  have hl : w.length ≤ 10 := h.few
  have h1 : compL (turnL (.sq [2, 3]) [2, 3] [Sl.pub (treeB b w), .no, .no, .no, .no] mYes (mVar 3)) (w.map (gB b)) u = some ((seconds w).map .str, u) := by
    rw [compL_mp (h := fun p => D.str p.2) fun p hp => turnL_eq (env' := [Sl.pub (treeB b w), .no, .pub (.str p.1), .pub (.str p.2), .no]) (by cases b <;> rfl) rfl, List.map_map]; rfl
  have h2 : compL (turnL (.sq [4, 2]) [4, 2] [Sl.pub (treeB b w), .pub (.lst ((seconds w).map .str)), .no, .no, .no] (mTru (mBin cNotIn (mVar 4) (mVar 1))) (mVar 4)) (w.map (gB b)) u = some ((leafL w).map .str, u) := by
    rw [compL_fm (P := fun p : Str × Str => !decide (p.1 ∈ seconds w)) (h := fun p => D.str p.1) fun p hp => ?_]
    · unfold leafL firsts
      rw [List.filter_map, List.map_map]; rfl
    · have e : cNotIn (.str p.1) (.lst ((seconds w).map .str)) = some (.bl (!decide (p.1 ∈ seconds w))) := by
        show (inD _ _).map _ = _
        rw [in_strL (h.ok p hp).1.tx h.tx2]; rfl
      have hb : bindT (.sq [4, 2]) (gB b p) (wipeE [Sl.pub (treeB b w), .pub (.lst ((seconds w).map .str)), .no, .no, .no] [4, 2]) = some [Sl.pub (treeB b w), .pub (.lst ((seconds w).map .str)), .pub (.str p.2), .no, .pub (.str p.1)] := by cases b <;> rfl
      cases q : decide (p.1 ∈ seconds w) with
      | true =>
        rw [q] at e
        rw [if_neg (by simp)]
        exact turnL_n hb (mTru_eq (mBin_eq rfl rfl e) rfl)
      | false =>
        rw [q] at e
        rw [if_pos (by simp)]
        exact turnL_c hb (mTru_eq (mBin_eq rfl rfl e) rfl) rfl
  have hll : (leafL w).length ≤ 10 := Nat.le_trans (List.length_filter_le _ _) (by rw [List.length_map]; exact hl)
  refine runB_rt (sc_nx (env' := [Sl.pub (treeB b w), .pub (.lst ((seconds w).map .str)), .no, .no, .no]) (sSet_eq (mLc_eq (mItems_eq rfl (items_B b w)) h1 (by rw [List.length_map, List.length_map]; exact isiz (by omega)))) (sc_rt (sRet_eq (mBi_eq (c1 (mLc_eq (mItems_eq rfl (items_B b w)) h2 (by rw [List.length_map]; exact isiz (by omega)))) rfl))))
theorem way_fold {b : Bool} {w : List (Str × Str)} {x : Str} {u : U} (hn : (firsts w).Nodup) (few : w.length ≤ 10) : (sSv 2 (vDC (.sq [3, 4]) [3, 4] (mItems (mVar 0)) mYes (mVar 3) (mVar 4))) [Sl.pub (treeB b w), .pub (.str x), .no, .no, .no] u = some (.nx [Sl.pub (treeB b w), .pub (.str x), .own (.dct (w.map fun p => .inr p.1) (w.map fun p => .str p.2)), .no, .no], u) := by
  have hnd : (w.map fun p : Str × Str => (Sum.inr p.1 : Key)).Nodup := by
    exact List.pairwise_map.mpr ((List.pairwise_map.mp hn).imp fun hab z => hab (Sum.inr.inj z))
  have hf : foldD (turnD (.sq [3, 4]) [3, 4] [Sl.pub (treeB b w), .pub (.str x), .no, .no, .no] mYes (mVar 3) (mVar 4)) (w.map (gB b)) [] [] u = some ((w.map fun p => .inr p.1, w.map fun p => .str p.2), u) :=
    fold_new (g := gB b) (kf := fun p => .inr p.1) (vf := fun p => .str p.2) (fun p hp => by cases b <;> rfl) hnd (by omega)
  refine sSv_eq ?_
  unfold vDC
  rw [show mItems (mVar 0) [Sl.pub (treeB b w), .pub (.str x), .no, .no, .no] u = some (w.map (gB b), u) from mItems_eq rfl (items_B b w)]
  show bnd (foldD _ _ _ _ u) _ = _
  rw [hf]; rfl
def wayL (w : List (Str × Str)) (x : Str) : List Str := climbL w w.length x
theorem way_ok {b : Bool} {w : List (Str × Str)} {x : Str} {u : U} (hn : (firsts w).Nodup) (few : w.length ≤ 10) (hx : x ∈ firsts w) : F_way_up [treeB b w, .str x] u = some (.ok (.tup ((wayL w x).map .str)), u) := by
  obtain ⟨y, hy⟩ := look_some hx
  have e := din_ok w x true
  rw [hy] at e
  refine runBX_rt (sc_nx (way_fold hn few) (sPub_eq (o := .dct (w.map fun p => .inr p.1) (w.map fun p => .str p.2)) rfl ?_))
  show sCons _ _ [Sl.pub (treeB b w), .pub (.str x), .pub (dctW w), .no, .no] u = _
  exact sc_nx (sIf_f (mTru_eq (mBin_eq rfl rfl e) rfl) rfl) (sc_rt (sRet_eq (mBi_eq (c1 (mCall_eq (mCons_eq rfl (c1 rfl)) rfl (climb_ok (by omega)))) rfl)))
abbrev nsE (x : Str) : R := .er ("NoStream" : Str) [("name" : Str)] [.str x]
theorem way_er {b : Bool} {w : List (Str × Str)} {x : Str} {u : U} (hn : (firsts w).Nodup) (few : w.length ≤ 10) (hx : x ∉ firsts w) : F_way_up [treeB b w, .str x] u = some (nsE x, u) := by
  have e := din_ok w x true
  rw [look_none hx] at e
  refine runBX_er (env := [Sl.pub (treeB b w), .pub (.str x), .pub (dctW w), .no, .no]) (sc_nx (way_fold hn few) (sPub_eq (o := .dct (w.map fun p => .inr p.1) (w.map fun p => .str p.2)) rfl ?_))
  show sCons _ _ [Sl.pub (treeB b w), .pub (.str x), .pub (dctW w), .no, .no] u = _
  exact sc_er (sIf_t (mTru_eq (mBin_eq rfl rfl e) rfl) (sc_er rfl))
theorem xsCons_ok {mx : MX} {ms : MXs} {env : List Sl} {u u1 u2 : U} {d : D} {ds : List D} (h : mx env u = some (.ok d, u1)) (h2 : ms env u1 = some (.oks ds, u2)) : xsCons mx ms env u = some (.oks (d :: ds), u2) := by
  unfold xsCons; rw [h]; dsimp only; rw [h2]
theorem xsCons_er {mx : MX} {ms : MXs} {env : List Sl} {u u1 : U} {c : Str} {ns : List Str} {xs : List D} (h : mx env u = some (.er c ns xs, u1)) : xsCons mx ms env u = some (.er c ns xs, u1) := by
  unfold xsCons; rw [h]
theorem xDo_ok {f : List D → U → Option (D × U)} {ms : MXs} {env : List Sl} {u u1 u2 : U} {ds : List D} {d : D} (h : ms env u = some (.oks ds, u1)) (h2 : f ds u1 = some (d, u2)) : xDo f ms env u = some (.ok d, u2) := by
  unfold xDo; rw [h]; dsimp only; rw [h2]
theorem xDo_er {f : List D → U → Option (D × U)} {ms : MXs} {env : List Sl} {u u1 : U} {c : Str} {ns : List Str} {xs : List D} (h : ms env u = some (.er c ns xs, u1)) : xDo f ms env u = some (.er c ns xs, u1) := by
  unfold xDo; rw [h]
def flushD (x : Str) : D := .tup [.str ("flush" : Str), .str x]
theorem slT_m1 {xs : List D} (h : xs ≠ []) : slD (.tup xs) none (some (-1)) = some (.tup xs.dropLast) := by
  show some (D.tup (cutD xs none (some (-1)))) = _
  have hl : 0 < xs.length := List.length_pos_iff.mpr h
  unfold cutD
  rw [HT.sIx_none]
  have : HT.sIx xs.length xs.length (some (-1)) = xs.length - 1 := by
    show (if (-1 : Int) < 0 then ((-1 : Int) + (xs.length : Int)).toNat else min (-1 : Int).toNat xs.length) = _
    rw [if_pos (by decide)]; omega
  rw [this, List.drop_zero, Nat.sub_zero, List.dropLast_eq_take]
theorem slL_m1 {xs : List D} (h : xs ≠ []) : slD (.lst xs) none (some (-1)) = some (.lst xs.dropLast) := by
  show some (D.lst (cutD xs none (some (-1)))) = _
  have hl : 0 < xs.length := List.length_pos_iff.mpr h
  unfold cutD
  rw [HT.sIx_none]
  have : HT.sIx xs.length xs.length (some (-1)) = xs.length - 1 := by
    show (if (-1 : Int) < 0 then ((-1 : Int) + (xs.length : Int)).toNat else min (-1 : Int).toNat xs.length) = _
    rw [if_pos (by decide)]; omega
  rw [this, List.drop_zero, Nat.sub_zero, List.dropLast_eq_take]
theorem way_len (w : List (Str × Str)) : ∀ (n : Nat) (x : Str), (climbL w n x).length ≤ n
  | 0, _ => Nat.le_refl _
  | n + 1, x => by
    show (match look w x with | none => [] | some y => y :: climbL w n y).length ≤ n + 1
    cases look w x with
    | none => simp
    | some y => have := way_len w n y; simp; omega
def thruL (w : List (Str × Str)) (x : Str) : List Str := x :: (wayL w x).dropLast
theorem map_dropL (l : List Str) : (l.map D.str).dropLast = l.dropLast.map D.str := by
  rw [List.dropLast_eq_take, List.dropLast_eq_take, List.length_map, List.map_take]
theorem thru_ok {b : Bool} {w : List (Str × Str)} {x : Str} {u : U} (hn : (firsts w).Nodup) (few : w.length ≤ 10) (hx : x ∈ firsts w) : F_through [treeB b w, .str x] u = some (.ok (.tup ((thruL w x).map flushD)), u) := by
  have hw := way_ok (b := b) (u := u) hn few hx
  have hp : (wayL w x).map D.str ≠ [] := fun z => climb_pos hx (List.map_eq_nil_iff.mp z)
  have hl : (wayL w x).length ≤ 10 := Nat.le_trans (way_len _ _ _) few
  have e1 : xSl (xCall 2 F_way_up (mCons (mVar 0) (mCons (mVar 1) mNil))) moNo (moAt (mNeg (mC (.int (1))))) [Sl.pub (treeB b w), .pub (.str x), .no] u = some (.ok (.tup ((wayL w x).dropLast.map .str)), u) := by
    have hc : xCall 2 F_way_up (mCons (mVar 0) (mCons (mVar 1) mNil)) [Sl.pub (treeB b w), .pub (.str x), .no] u = _ := xCall_eq (n := 2) (mCons_eq rfl (c1 rfl)) rfl hw
    unfold xSl
    rw [hc]
    dsimp only
    rw [show bnd (moNo [Sl.pub (treeB b w), Sl.pub (D.str x), Sl.no] u) (fun l u2 => bnd (moAt (mNeg (mC (.int (1)))) [Sl.pub (treeB b w), Sl.pub (D.str x), Sl.no] u2) fun h u3 => lft (slD (.tup ((wayL w x).map .str)) l h) u3) = lft (slD (.tup ((wayL w x).map .str)) none (some (-1))) u from rfl, slT_m1 hp, map_dropL]; rfl
  have e2 : xBin fAdd (xUp (mTup (mCons (mVar 1) mNil))) (xSl (xCall 2 F_way_up (mCons (mVar 0) (mCons (mVar 1) mNil))) moNo (moAt (mNeg (mC (.int (1)))))) [Sl.pub (treeB b w), .pub (.str x), .no] u = some (.ok (.tup ((thruL w x).map .str)), u) := by
    unfold xBin
    rw [show xUp (mTup (mCons (mVar 1) mNil)) [Sl.pub (treeB b w), .pub (.str x), .no] u = some (.ok (.tup [.str x]), u) by
      unfold xUp
      rw [mTup_eq (ds := [.str x]) (c1 rfl) (isiz (by simp))]]
    dsimp only
    rw [e1]
    dsimp only
    rw [fAdd_t (by simp; omega)]; rfl
  have e3 : compL (turnL (.one 2) [2] [Sl.pub (treeB b w), .pub (.str x), .no] mYes (mTup (mCons (mC (.str ("flush" : Str))) (mCons (mVar 2) mNil)))) ((thruL w x).map .str) u = some ((thruL w x).map flushD, u) := compL_mp fun y hy =>
    turnL_eq (env' := [Sl.pub (treeB b w), .pub (.str x), .pub (.str y)]) rfl (mTup_eq (mCons_eq rfl (c1 rfl)) (isiz (by simp)))
  have e4 : xLc (.one 2) [2] (xItems (xBin fAdd (xUp (mTup (mCons (mVar 1) mNil))) (xSl (xCall 2 F_way_up (mCons (mVar 0) (mCons (mVar 1) mNil))) moNo (moAt (mNeg (mC (.int (1)))))))) mYes (mTup (mCons (mC (.str ("flush" : Str))) (mCons (mVar 2) mNil))) [Sl.pub (treeB b w), .pub (.str x), .no] u = some (.ok (.lst ((thruL w x).map flushD)), u) := by
    unfold xLc xItems
    rw [e2]
    dsimp only [itemsD]
    rw [e3]
    dsimp only
    rw [if_pos (by rw [List.length_map]; exact isiz (by unfold thruL; rw [List.length_cons, List.length_dropLast]; omega))]
  refine runBX_rt (sc_rt ?_)
  unfold sRetX
  exact (sUpX_ok (xDo_ok (ds := [.lst ((thruL w x).map flushD)]) (xsCons_ok e4 rfl) rfl)).trans rfl
theorem thru_er {b : Bool} {w : List (Str × Str)} {x : Str} {u : U} (hn : (firsts w).Nodup) (few : w.length ≤ 10) (hx : x ∉ firsts w) : F_through [treeB b w, .str x] u = some (nsE x, u) := by
  have hw := way_er (b := b) (u := u) hn few hx
  have e1 : xSl (xCall 2 F_way_up (mCons (mVar 0) (mCons (mVar 1) mNil))) moNo (moAt (mNeg (mC (.int (1))))) [Sl.pub (treeB b w), .pub (.str x), .no] u = some (nsE x, u) := by
    have hc : xCall 2 F_way_up (mCons (mVar 0) (mCons (mVar 1) mNil)) [Sl.pub (treeB b w), .pub (.str x), .no] u = _ := xCall_eq (n := 2) (mCons_eq rfl (c1 rfl)) rfl hw
    unfold xSl
    rw [hc]
  have e2 : xBin fAdd (xUp (mTup (mCons (mVar 1) mNil))) (xSl (xCall 2 F_way_up (mCons (mVar 0) (mCons (mVar 1) mNil))) moNo (moAt (mNeg (mC (.int (1)))))) [Sl.pub (treeB b w), .pub (.str x), .no] u = some (nsE x, u) := by
    unfold xBin
    rw [show xUp (mTup (mCons (mVar 1) mNil)) [Sl.pub (treeB b w), .pub (.str x), .no] u = some (.ok (.tup [.str x]), u) by
      unfold xUp
      rw [mTup_eq (ds := [.str x]) (c1 rfl) (isiz (by simp))]]
    dsimp only
    rw [e1]
  have e4 : xLc (.one 2) [2] (xItems (xBin fAdd (xUp (mTup (mCons (mVar 1) mNil))) (xSl (xCall 2 F_way_up (mCons (mVar 0) (mCons (mVar 1) mNil))) moNo (moAt (mNeg (mC (.int (1)))))))) mYes (mTup (mCons (mC (.str ("flush" : Str))) (mCons (mVar 2) mNil))) [Sl.pub (treeB b w), .pub (.str x), .no] u = some (nsE x, u) := by
    unfold xLc xItems
    rw [e2]
  refine runBX_er (env := [Sl.pub (treeB b w), .pub (.str x), .no]) (sc_er ?_)
  unfold sRetX
  exact sUpX_er (xDo_er (xsCons_er e4))
end Lw13
namespace Lw13
open PySem Dv L2
structure Wood (w : List (Str × Str)) : Prop where
  wok : WOk w
  few : w.length ≤ 7
  pos : 1 ≤ w.length
  ris : Rising (firsts w)
  rk : ∃ rk : Str → Nat, (∀ p ∈ w, rk p.1 < w.length) ∧ ∀ p ∈ w, p.2 = ("" : Str) ∨ (p.2 ∈ firsts w ∧ rk p.2 < rk p.1)
theorem climb_e {w : List (Str × Str)} (h : WOk w) : ∀ n, climbL w n ("" : Str) = []
  | 0 => rfl
  | n + 1 => by
    show (match look w ("" : Str) with | none => [] | some y => y :: climbL w n y) = []
    rw [look_none fun z => by
      obtain ⟨p, hp, e⟩ := List.mem_map.mp z
      exact (h.ok p hp).1.ne e]
theorem climb_s {w : List (Str × Str)} {x y : Str} (n : Nat) (h : look w x = some y) : climbL w (n + 1) x = y :: climbL w n y := by
  show (match look w x with | none => [] | some y => y :: climbL w n y) = _
  rw [h]
theorem climb_last {w : List (Str × Str)} (h : WOk w) (hn : (firsts w).Nodup) {rk : Str → Nat} (hr : ∀ p ∈ w, p.2 = ("" : Str) ∨ (p.2 ∈ firsts w ∧ rk p.2 < rk p.1)) : ∀ (n : Nat) (x : Str), x ∈ firsts w → rk x < n → (climbL w n x).getLast? = some ("" : Str)
  | 0, _, _, hk => by omega
  | n + 1, x, hx, hk => by
    obtain ⟨p, hp, rfl⟩ := List.mem_map.mp hx
    rw [climb_s n (look_of hn hp)]
    rcases hr p hp with e | ⟨h1, h2⟩
    · rw [e, climb_e h]; rfl
    · have ih := climb_last h hn hr n p.2 h1 (by omega)
      rw [List.getLast?_cons, ih]; rfl
theorem Wood.nd {w : List (Str × Str)} (h : Wood w) : (firsts w).Nodup := h.ris.nodup
theorem Wood.last {w : List (Str × Str)} (h : Wood w) {x : Str} (hx : x ∈ firsts w) : lastW w x = some ("" : Str) := by
  obtain ⟨rk, h1, h2⟩ := h.rk
  obtain ⟨p, hp, rfl⟩ := List.mem_map.mp hx
  exact climb_last h.wok h.nd h2 _ _ hx (h1 p hp)
theorem Wood.e_mem {w : List (Str × Str)} (h : Wood w) {x : Str} (hx : x ∈ firsts w) : ("" : Str) ∈ wayL w x := List.mem_of_getLast? (h.last hx)
theorem way_tx {w : List (Str × Str)} (h : WOk w) : ∀ (n : Nat) (x : Str), AllT (climbL w n x)
  | 0, _ => fun z hz => by cases hz
  | n + 1, x => fun z hz => by
    cases q : look w x with
    | none =>
      have : climbL w (n + 1) x = [] := by
        show (match look w x with | none => [] | some y => y :: climbL w n y) = _
        rw [q]
      rw [this] at hz; cases hz
    | some y =>
      rw [climb_s n q] at hz
      rcases List.mem_cons.mp hz with rfl | hz
      · unfold look at q
        obtain ⟨p, hp, e⟩ := Option.map_eq_some_iff.mp q
        refine h.tx2 z (List.mem_map.mpr ⟨p, List.mem_of_find?_eq_some hp, e⟩)
      · exact way_tx h n y z hz
theorem wood_tree {w : List (Str × Str)} {u : U} (h : Wood w) : F_is_tree [treeB true w] u = some (.bl true, u) := by
  have := ftree (u := u) h.wok h.ris
  rw [show (firsts w).all (fun x => decide (lastW w x = some ("" : Str))) = true from List.all_eq_true.mpr fun x hx => decide_eq_true (h.last hx)] at this
  exact this
theorem soft_tree {w : List (Str × Str)} {u : U} : F_is_tree [treeB false w] u = some (.bl false, u) :=
  runB_rt (sc_rt (sIf_t (mOrB_t (mNotB_eq (k := false) (mTru_eq (mIsi_eq rfl (isi_lt _)) rfl))) (sc_rt (sRet_eq rfl))))
abbrev upC : MB := (mTru (mBin cNe (mVar 3) (mC (.str ("" : Str)))))
abbrev upB : MS := (sCons (sSet 3 (mBin dixD (mVar 2) (mVar 3)))
    (sCons (sApp 4 (mVar 3))
    sNil))
theorem ups_go {w : List (Str × Str)} (h : WOk w) (hn : (firsts w).Nodup) {rk : Str → Nat} (hr : ∀ p ∈ w, p.2 = ("" : Str) ∨ (p.2 ∈ firsts w ∧ rk p.2 < rk p.1)) (X Y : Sl) (u : U) : ∀ (n k : Nat) (pre : List Str) (here : Str), (here = ("" : Str) ∨ (here ∈ firsts w ∧ rk here < n)) → n < k → pre.length + n ≤ 1000 →
    ∃ z, sWh k upC upB [X, Y, Sl.pub (dctW w), .pub (.str here), .own (.lst (pre.map .str))] u = some (.nx [X, Y, Sl.pub (dctW w), .pub (.str z), .own (.lst ((pre ++ climbL w n here).map .str))], u)
  | _, 0, _, _, _, hk, _ => by omega
  | n, k + 1, pre, here, hh, hk, hl => by
    have e1 := cneS here ("" : Str)
    rcases hh with rfl | ⟨hx, hh⟩
    · refine ⟨("" : Str), ?_⟩
      rw [climb_e h, List.append_nil]
      exact sWh_f (mTru_eq (mBin_eq rfl rfl e1) (by rw [decide_eq_true rfl]; rfl))
    · obtain ⟨p, hp, rfl⟩ := List.mem_map.mp hx
      cases n with
      | zero => omega
      | succ n =>
        obtain ⟨z, hz⟩ := ups_go h hn hr X Y u n k (pre ++ [p.2]) p.2 (by
          rcases hr p hp with e | ⟨h1, h2⟩
          · exact .inl e
          · exact .inr ⟨h1, by omega⟩) (by omega) (by rw [List.length_append]; simp; omega)
        refine ⟨z, ?_⟩
        rw [sWh_t (env' := [X, Y, Sl.pub (dctW w), .pub (.str p.2), .own (.lst ((pre ++ [p.2]).map .str))]) (mTru_eq (k := true) (mBin_eq rfl rfl e1) (by rw [decide_eq_false (h.ok p hp).1.ne]; rfl)) (sc_nx (sSet_eq (mBin_eq rfl rfl (dix_ok (look_of hn hp)))) (sc_nx (env' := [X, Y, Sl.pub (dctW w), .pub (.str p.2), .own (.lst ((pre ++ [p.2]).map .str))]) (by
          have := sApp_eq (i := 4) (m := mVar 3) (env := [X, Y, Sl.pub (dctW w), .pub (.str p.2), .own (.lst (pre.map .str))]) (u := u) (ds := pre.map .str) rfl rfl (by rw [List.length_map, line]; omega)
          rw [List.map_append]; exact this) rfl)), hz, climb_s n (look_of hn hp), List.append_assoc]; rfl
theorem dict_pairs {w : List (Str × Str)} {env : List Sl} {u : U} (hn : (firsts w).Nodup) (h0 : env[0]? = some (.pub (treeB true w))) : vDictP (mVar 0) env u = some (.own (.dct (w.map fun p => .inr p.1) (w.map fun p => .str p.2)), u) := by
  have hnd : (w.map fun p : Str × Str => (Sum.inr p.1 : Key)).Nodup := by
    exact List.pairwise_map.mpr ((List.pairwise_map.mp hn).imp fun hab z => hab (Sum.inr.inj z))
  have hp : pairsD (w.map (gB true)) = some (w.map fun p => ((Sum.inr p.1 : Key), D.str p.2)) := pairs_of fun p _ => rfl
  unfold vDictP
  rw [mVar_eq h0]
  show (match pairsD (w.map (gB true)) with | some ps => some (Sl.own (.dct (mergeD [] [] ps).1 (mergeD [] [] ps).2), u) | none => none) = _
  rw [hp]
  dsimp only
  rw [merge_new (kf := fun p : Str × Str => (Sum.inr p.1 : Key)) (vf := fun p => D.str p.2) hnd]
theorem ups_ok {w : List (Str × Str)} {x : Str} {u : U} (h : Wood w) (hx : x ∈ firsts w) : F__law_ups [treeB true w, .str x] u = some (.lst ((wayL w x).map .str), u) := by
  obtain ⟨rk, h1, h2⟩ := h.rk
  obtain ⟨p, hp, rfl⟩ := List.mem_map.mp hx
  obtain ⟨z, hz⟩ := ups_go h.wok h.nd h2 (.pub (treeB true w)) (.pub (.str p.1)) u w.length 4000 [] p.1 (.inr ⟨hx, h1 p hp⟩) (by have := h.few; omega) (by have := h.few; simp; omega)
  refine runB_rt (sc_nx (env' := [Sl.pub (treeB true w), .pub (.str p.1), .own (.dct (w.map fun p => .inr p.1) (w.map fun p => .str p.2)), .pub (.str p.1), .own (.lst [])]) (u1 := u) ?_ (sPub_eq (o := .dct (w.map fun p => .inr p.1) (w.map fun p => .str p.2)) rfl ?_))
  · unfold sParv3
    rw [dict_pairs h.nd rfl]
    rfl
  · show sCons _ _ [Sl.pub (treeB true w), .pub (.str p.1), .pub (dctW w), .pub (.str p.1), .own (.lst ([].map .str))] u = _
    exact sc_nx hz (sPub_eq rfl (sc_rt (sRet_eq rfl)))
def meetL (w : List (Str × Str)) (x y : Str) : List Str := (wayL w x).filter fun s => decide (s ∈ wayL w y)
theorem meet_row {w : List (Str × Str)} {env : List Sl} {i j k : Nat} {x y : Str} {u : U} {a b : M} (h : Wood w) (hx : x ∈ firsts w) (hc : ∀ s, s ∈ wayL w x → turnL (.one k) [k] env (mTru (mBin cIn a b)) a (.str s) u = some (if decide (s ∈ wayL w y) = true then some (.str s) else none, u)) :
    compL (turnL (.one k) [k] env (mTru (mBin cIn a b)) a) ((wayL w x).map .str) u = some ((meetL w x y).map .str, u) := compL_fm (P := fun s => decide (s ∈ wayL w y)) fun s hs => hc s hs
theorem meet_pos {w : List (Str × Str)} {x y : Str} (h : Wood w) (hx : x ∈ firsts w) (hy : y ∈ firsts w) : ∃ z r, meetL w x y = z :: r := by
  have : ("" : Str) ∈ meetL w x y := List.mem_filter.mpr ⟨h.e_mem hx, decide_eq_true (h.e_mem hy)⟩
  cases q : meetL w x y with
  | nil => rw [q] at this; cases this
  | cons z r => exact ⟨z, r, rfl⟩
theorem wayL_len {w : List (Str × Str)} (h : Wood w) (x : Str) : (wayL w x).length ≤ 10 := Nat.le_trans (way_len _ _ _) (by have := h.few; omega)
theorem meet_ok {w : List (Str × Str)} {x y z : Str} {r : List Str} {u : U} (h : Wood w) (hx : x ∈ firsts w) (hy : y ∈ firsts w) (e : meetL w x y = z :: r) : F_meeting [treeB true w, .str x, .str y] u = some (.ok (.str z), u) := by
  have w10 : w.length ≤ 10 := by have := h.few; omega
  have hw1 := way_ok (b := true) (u := u) h.nd w10 hx
  have hw2 := way_ok (b := true) (u := u) h.nd w10 hy
  have l1 := wayL_len h x
  have l2 : (meetL w x y).length ≤ 10 := Nat.le_trans (List.length_filter_le _ _) l1
  have e3 := meet_row (env := [Sl.pub (treeB true w), .pub (.str x), .pub (.str y), .pub (.tup ((wayL w x).map .str)), .pub (.tup ((wayL w y).map .str)), .no]) (i := 3) (j := 4) (k := 5) (u := u) (x := x) (y := y) (a := mVar 5) (b := mVar 4) h hx fun s hs => by
    have e : cIn (.str s) (.tup ((wayL w y).map .str)) = some (.bl (decide (s ∈ wayL w y))) := by
      show (inD _ _).map _ = _
      have g : AllT (wayL w y) := way_tx h.wok _ _
      rw [in_strT (way_tx h.wok _ _ s hs) g]; rfl
    have hb : bindT (.one 5) (.str s) (wipeE [Sl.pub (treeB true w), .pub (.str x), .pub (.str y), .pub (.tup ((wayL w x).map .str)), .pub (.tup ((wayL w y).map .str)), .no] [5]) = some [Sl.pub (treeB true w), .pub (.str x), .pub (.str y), .pub (.tup ((wayL w x).map .str)), .pub (.tup ((wayL w y).map .str)), .pub (.str s)] := rfl
    cases q : decide (s ∈ wayL w y) with
    | true =>
      rw [q] at e
      rw [if_pos rfl]
      exact turnL_c hb (mTru_eq (mBin_eq rfl rfl e) rfl) rfl
    | false =>
      rw [q] at e
      rw [if_neg (by simp)]
      exact turnL_n hb (mTru_eq (mBin_eq rfl rfl e) rfl)
  refine runBX_rt (sc_nx (env' := [Sl.pub (treeB true w), .pub (.str x), .pub (.str y), .pub (.tup ((wayL w x).map .str)), .pub (.tup ((wayL w y).map .str)), .no]) (u1 := u) ?_ (sc_rt (sRet_eq (mBin_eq (mLc_eq (mItems_eq rfl rfl) e3 (by rw [List.length_map]; exact isiz (by omega))) rfl (by rw [e]; exact ix0L)))))
  unfold sTgtX
  exact (sUpX_ok (xDo_ok (ds := [.tup ((wayL w x).map .str), .tup ((wayL w y).map .str)]) (xsCons_ok (xCall_eq (n := 2) (mCons_eq rfl (c1 rfl)) rfl hw1) (xsCons_ok (xCall_eq (n := 2) (mCons_eq rfl (c1 rfl)) rfl hw2) rfl)) rfl)).trans rfl
theorem meet_er {w : List (Str × Str)} {x : Str} {y : D} {u : U} (hn : (firsts w).Nodup) (few : w.length ≤ 10) (hx : x ∉ firsts w) : F_meeting [treeB true w, .str x, y] u = some (nsE x, u) := by
  have hw := way_er (b := true) (u := u) hn few hx
  refine runBX_er (env := [Sl.pub (treeB true w), .pub (.str x), .pub y, .no, .no, .no]) (sc_er ?_)
  unfold sTgtX
  exact sUpX_er (xDo_er (xsCons_er (xCall_eq (n := 2) (mCons_eq rfl (c1 rfl)) rfl hw)))
theorem try_er {c : Str} {i : Nat} {body suite : MS} {env env1 env2 : List Sl} {u u1 u2 : U} {ns : List Str} {xs : List D} (h : body env u = some (.er env1 c ns xs, u1)) (h2 : suite (env1.set i (.pub (.exc c ns xs))) u1 = some (.nx env2, u2)) : sTry c i body suite env u = some (.nx (env2.set i .no), u2) := by
  unfold sTry
  rw [h]
  dsimp only
  rw [if_pos rfl, h2]
theorem lost_of {k : Int} {t : D} {x : Str} {y : D} {u : U} {b : MS} (h : (sCons (sIf (mTru (mBin cEq (mVar 0) (mC (.int (0))))) (sCons (sDropX (xCall 2 F_way_up (mCons (mVar 1) (mCons (mVar 2) mNil))))
    sNil) (sCons (sIf (mTru (mBin cEq (mVar 0) (mC (.int (1))))) (sCons (sDropX (xCall 2 F_through (mCons (mVar 1) (mCons (mVar 2) mNil))))
    sNil) (sCons (sDropX (xCall 3 F_meeting (mCons (mVar 1) (mCons (mVar 2) (mCons (mVar 3) mNil)))))
    sNil))
    sNil))
    sNil) [Sl.pub (.int k), .pub t, .pub (.str x), .pub y, .pub .non, .no] u = some (.er [Sl.pub (.int k), .pub t, .pub (.str x), .pub y, .pub .non, .no] ("NoStream" : Str) [("name" : Str)] [.str x], u)) :
    F__law_lost [.int k, t, .str x, y] u = some (.lst [.str x, .bl true], u) := by
  refine runB_rt (sc_nx (env' := [Sl.pub (.int k), .pub t, .pub (.str x), .pub y, .pub .non, .no]) (sSet_eq rfl) (sc_nx (env' := [Sl.pub (.int k), .pub t, .pub (.str x), .pub y, .pub (.exc ("NoStream" : Str) [("name" : Str)] [.str x]), .no]) (u1 := u) (try_er (env2 := [Sl.pub (.int k), .pub t, .pub (.str x), .pub y, .pub (.exc ("NoStream" : Str) [("name" : Str)] [.str x]), .pub (.exc ("NoStream" : Str) [("name" : Str)] [.str x])]) h (sc_nx (sSet_eq rfl) rfl)) (sc_rt (sRet_eq ?_))))
  refine mIte_f (mTru_eq (mBin_eq rfl rfl rfl) rfl) (mLst_eq (mCons_eq (mXf_eq rfl rfl) (c1 (mIsE_eq rfl))) (isiz (by simp)))
theorem lost0 {b : Bool} {w : List (Str × Str)} {x : Str} {y : D} {u : U} (hn : (firsts w).Nodup) (few : w.length ≤ 10) (hx : x ∉ firsts w) : F__law_lost [.int 0, treeB b w, .str x, y] u = some (.lst [.str x, .bl true], u) :=
  lost_of (b := sNil) (sc_er (sIf_t (mTru_eq (mBin_eq rfl rfl rfl) rfl) (sc_er (sUpX_er (xCall_eq (n := 2) (mCons_eq rfl (c1 rfl)) rfl (way_er hn few hx))))))
theorem lost1 {b : Bool} {w : List (Str × Str)} {x : Str} {y : D} {u : U} (hn : (firsts w).Nodup) (few : w.length ≤ 10) (hx : x ∉ firsts w) : F__law_lost [.int 1, treeB b w, .str x, y] u = some (.lst [.str x, .bl true], u) :=
  lost_of (b := sNil) (sc_er (sIf_f (mTru_eq (mBin_eq rfl rfl rfl) rfl) (sc_er (sIf_t (mTru_eq (mBin_eq rfl rfl rfl) rfl) (sc_er (sUpX_er (xCall_eq (n := 2) (mCons_eq rfl (c1 rfl)) rfl (thru_er hn few hx))))))))
theorem lost2 {w : List (Str × Str)} {x : Str} {y : D} {u : U} (hn : (firsts w).Nodup) (few : w.length ≤ 10) (hx : x ∉ firsts w) : F__law_lost [.int 2, treeB true w, .str x, y] u = some (.lst [.str x, .bl true], u) :=
  lost_of (b := sNil) (sc_er (sIf_f (mTru_eq (mBin_eq rfl rfl rfl) rfl) (sc_er (sIf_f (mTru_eq (mBin_eq rfl rfl rfl) rfl) (sc_er (sUpX_er (xCall_eq (n := 3) (mCons_eq rfl (mCons_eq rfl (c1 rfl))) rfl (meet_er hn few hx))))))))
end Lw13
namespace Lw13
open PySem Dv L2
def inO (y : Option Str) (here : List Str) : Bool := match y with
  | none => false
  | some s => decide (s ∈ here)
def oD (y : Option Str) : D := match y with
  | none => .non
  | some s => .str s
def newL (rows : List (Str × Option Str)) (here : List Str) : List Str := (rows.filter fun p => inO p.2 here && !decide (p.1 ∈ here)).map (·.1)
theorem any_non : ∀ ys : List Str, ((ys.map PyData.str).any fun z => PyData.eqv z .none) = false
  | [] => rfl
  | y :: ys => by
    rw [List.map_cons, List.any_cons, any_non ys]
    simp [PyData.eqv]
theorem shN : SeqAt.shaped PyData.none = true := by decide +kernel
theorem cin_o {y : Option Str} {here : List Str} (h : ∀ s, y = some s → TxO s) (g : AllT here) : cIn (oD y) (.lst (here.map .str)) = some (.bl (inO y here)) := by
  cases y with
  | some s =>
    show (inD _ _).map _ = _
    unfold oD
    dsimp only
    rw [in_strL (h s rfl) g]; rfl
  | none =>
    show (inD .non (.lst (here.map .str))).map D.bl = _
    have : inD .non (.lst (here.map .str)) = some false := by
      unfold inD
      have e1 : toPy .non = some PyData.none := by unfold toPy; rfl
      rw [e1]
      dsimp only
      rw [strs_py]
      dsimp only
      rw [if_pos ⟨shN, strs_shL g⟩, any_non]
    rw [this]; rfl
theorem cni_s {x : Str} {here : List Str} (h : TxO x) (g : AllT here) : cNotIn (.str x) (.lst (here.map .str)) = some (.bl (!decide (x ∈ here))) := by
  show (inD _ _).map _ = _
  rw [in_strL h g]; rfl
def EnvW (T : D) (names : List Str) (here : List Str) (t : Sl) : List Sl := [.pub T, .pub (.lst (names.map .str)), .pub (.lst (here.map .str)), t, .no, .no]
theorem row_o (p : Str × Option Str) : rowO p = .tup [.str p.1, oD p.2] := by
  obtain ⟨x, y⟩ := p
  cases y <;> rfl
theorem turn_new {rows : List (Str × Option Str)} {T : D} {names here : List Str} {t : Sl} {u : U} (h : ∀ p ∈ rows, RowOk p) (g : AllT here) :
    compL (turnL (.many [4, 5]) [4, 5] (EnvW T names here t) (mAndB (mTru (mBin cIn (mVar 5) (mVar 2))) (mTru (mBin cNotIn (mVar 4) (mVar 2)))) (mVar 4)) (rows.map rowO) u = some ((newL rows here).map .str, u) := by
  rw [compL_fm (P := fun p : Str × Option Str => inO p.2 here && !decide (p.1 ∈ here)) (h := fun p => D.str p.1) fun p hp => ?_]
  · unfold newL; rw [List.map_map]; rfl
  · obtain ⟨h1, h2⟩ := h p hp
    have e1 := cin_o (y := p.2) (here := here) (fun s e => by
      rcases h2 s e with rfl | z
      · exact tx_e
      · exact z.tx) g
    have e2 := cni_s (x := p.1) h1.tx g
    have hb : bindT (.many [4, 5]) (rowO p) (wipeE (EnvW T names here t) [4, 5]) = some [Sl.pub T, .pub (.lst (names.map .str)), .pub (.lst (here.map .str)), t, .pub (.str p.1), .pub (oD p.2)] := by rw [row_o]; rfl
    cases q : inO p.2 here with
    | false =>
      rw [q] at e1
      rw [if_neg (by simp)]
      exact turnL_n hb (mAndB_f (mTru_eq (mBin_eq rfl rfl e1) rfl))
    | true =>
      rw [q] at e1
      cases q2 : decide (p.1 ∈ here) with
      | true =>
        rw [q2] at e2
        rw [if_neg (by simp)]
        exact turnL_n hb (mAndB_t (mTru_eq (mBin_eq rfl rfl e1) rfl) (mTru_eq (mBin_eq rfl rfl e2) rfl))
      | false =>
        rw [q2] at e2
        rw [if_pos (by simp)]
        exact turnL_c hb (mAndB_t (mTru_eq (mBin_eq rfl rfl e1) rfl) (mTru_eq (mBin_eq rfl rfl e2) rfl)) rfl
theorem newL_sub {rows : List (Str × Option Str)} {here : List Str} {x : Str} (h : x ∈ newL rows here) : ∃ p ∈ rows, p.1 = x ∧ inO p.2 here = true := by
  obtain ⟨p, hp, rfl⟩ := List.mem_map.mp h
  obtain ⟨h1, h2⟩ := List.mem_filter.mp hp
  exact ⟨p, h1, rfl, (Bool.and_eq_true_iff.mp h2).1⟩
structure HereOk (rows : List (Str × Option Str)) (here : List Str) : Prop where
  tx : AllT here
  sub : ∀ x ∈ here, x = ("" : Str) ∨ x ∈ firsts rows
theorem wood_loop2 {rows : List (Str × Option Str)} {names : List Str} {u : U} {Q : List Str → Prop} (h : ∀ p ∈ rows, RowOk p) (few : rows.length ≤ 10) (q0 : Q [("" : Str)]) (qs : ∀ here, HereOk rows here → Q here → Q (here ++ newL rows here)) :
    ∃ here t, HereOk rows here ∧ Q here ∧ here.length ≤ 200 ∧ forL (.one 3) (sCons (sSet 2 (mBin fAdd (mVar 2) (mLc (.many [4, 5]) [4, 5] (mItems (mVar 0)) (mAndB (mTru (mBin cIn (mVar 5) (mVar 2))) (mTru (mBin cNotIn (mVar 4) (mVar 2)))) (mVar 4)))) sNil) (rows.map rowO) (EnvW (.tup (rows.map rowO)) names [("" : Str)] .no) u = some (.nx (EnvW (.tup (rows.map rowO)) names here t), u) := by
  obtain ⟨env', u', e, rfl, here, t, rfl, ho, hq, hl⟩ := forL_inv (t := .one 3) (f := (sCons (sSet 2 (mBin fAdd (mVar 2) (mLc (.many [4, 5]) [4, 5] (mItems (mVar 0)) (mAndB (mTru (mBin cIn (mVar 5) (mVar 2))) (mTru (mBin cNotIn (mVar 4) (mVar 2)))) (mVar 4)))) sNil)) (ds := rows.map rowO) (i := 0) (N := 10) (env := EnvW (.tup (rows.map rowO)) names [("" : Str)] .no) (u := u)
    (I := fun i env u' => u' = u ∧ ∃ here t, env = EnvW (.tup (rows.map rowO)) names here t ∧ HereOk rows here ∧ Q here ∧ (here.length : Int) ≤ 1 + 10 * i) (fun d hd i env u' hi hI => by
      obtain ⟨rfl, here, t, rfl, ho, hq, hl⟩ := hI
      have hn : (newL rows here).length ≤ 10 := by
        unfold newL
        rw [List.length_map]
        exact Nat.le_trans (List.length_filter_le _ _) few
      refine ⟨EnvW (.tup (rows.map rowO)) names here (.pub d), EnvW (.tup (rows.map rowO)) names (here ++ newL rows here) (.pub d), u', rfl, ?_, rfl, here ++ newL rows here, _, rfl, ⟨fun x hx => ?_, fun x hx => ?_⟩, qs here ho hq, by rw [List.length_append]; omega⟩
      · refine sc_nx (env' := EnvW (.tup (rows.map rowO)) names (here ++ newL rows here) (.pub d)) ?_ rfl
        have := sSet_eq (i := 2) (mBin_eq (a := mVar 2) (env := EnvW (.tup (rows.map rowO)) names here (.pub d)) (f := fAdd) rfl (mLc_eq (mItems_eq (a := mVar 0) rfl rfl) (turn_new (names := names) (t := .pub d) (T := .tup (rows.map rowO)) (u := u') h ho.tx) (by rw [List.length_map]; exact isiz (by omega))) (fAdd_l (by rw [List.length_map, List.length_map]; omega)))
        rw [this, ← List.map_append]; rfl
      · rcases List.mem_append.mp hx with hx | hx
        · exact ho.tx x hx
        · obtain ⟨p, hp, rfl, _⟩ := newL_sub hx
          exact (h p hp).1.tx
      · rcases List.mem_append.mp hx with hx | hx
        · exact ho.sub x hx
        · obtain ⟨p, hp, rfl, _⟩ := newL_sub hx
          exact .inr (List.mem_map.mpr ⟨p, hp, rfl⟩)) ⟨rfl, _, _, rfl, ⟨fun x hx => by rw [List.mem_singleton.mp hx]; exact tx_e, fun x hx => .inl (List.mem_singleton.mp hx)⟩, q0, by simp⟩ (by rw [List.length_map]; omega)
  exact ⟨here, t, ho, hq, by rw [List.length_map] at hl; omega, e⟩
theorem rows_tx {rows : List (Str × Option Str)} (h : ∀ p ∈ rows, RowOk p) : AllT (firsts rows) := fun x hx => by
  obtain ⟨p, hp, rfl⟩ := List.mem_map.mp hx
  exact (h p hp).1.tx
theorem first_rows {rows : List (Str × Option Str)} {u : U} (env : List Sl) (he : env = [Sl.pub (.tup (rows.map rowO)), .no, .no, .no, .no, .no]) (few : rows.length ≤ 10) :
    sTgt (.many [1, 2]) (mTup (mCons (mLc (.many [4, 5]) [4, 5] (mItems (mVar 0)) mYes (mVar 4)) (mCons (mLst (mCons (mC (.str ("" : Str))) mNil)) mNil))) env u = some (.nx (EnvW (.tup (rows.map rowO)) (firsts rows) [("" : Str)] .no), u) := by
  subst he
  have h1 : compL (turnL (.many [4, 5]) [4, 5] [Sl.pub (.tup (rows.map rowO)), .no, .no, .no, .no, .no] mYes (mVar 4)) (rows.map rowO) u = some ((firsts rows).map .str, u) := by
    rw [compL_mp (h := fun p => D.str p.1) fun p hp => turnL_eq (env' := [Sl.pub (.tup (rows.map rowO)), .no, .no, .no, .pub (.str p.1), .pub (oD p.2)]) (by rw [row_o]; rfl) rfl, List.map_map]; rfl
  exact sTgt_eq (mTup_eq (mCons_eq (mLc_eq (mItems_eq rfl rfl) h1 (by rw [List.length_map, List.length_map]; exact isiz (by omega))) (c1 (mLst_eq (c1 rfl) (isiz (by simp))))) (isiz (by simp))) rfl
theorem iswood_dup {rows : List (Str × Option Str)} {u : U} (h : ∀ p ∈ rows, RowOk p) (few : rows.length ≤ 10) (hn : sortS (nubS (firsts rows)) ≠ firsts rows) : F__law_is_wood [.tup (rows.map rowO)] u = some (.bl false, u) := by
  obtain ⟨here, t, ho, _, hl, e⟩ := wood_loop2 (names := firsts rows) (u := u) (Q := fun _ => True) h few trivial fun _ _ _ => trivial
  have hs : AllT (sortS (nubS (firsts rows))) := (rows_tx h).sub fun x hx => mem_nubS.mp (nub_sub hx)
  have hc : cEq (.lst ((sortS (nubS (firsts rows))).map .str)) (.lst ((firsts rows).map .str)) = some (.bl false) := by
    show (eqD _ _).map _ = _
    rw [eqS hs (rows_tx h), decide_eq_false hn]; rfl
  exact runB_rt (sc_nx (first_rows _ rfl few) (sc_nx (sFor_eq (mItems_eq rfl rfl) e) (sc_rt (sRet_eq (mAnd_f (mBin_eq (mSortSet_eq rfl (srt_l (by rw [List.length_map]; omega))) rfl hc) rfl)))))
theorem iswood_lost {rows : List (Str × Option Str)} {x0 : Str} {u : U} (h : ∀ p ∈ rows, RowOk p) (few : rows.length ≤ 10) (hn : Rising (firsts rows)) (h0 : x0 ∈ firsts rows) (hx : ∀ p ∈ rows, p.1 = x0 → ∀ s, p.2 = some s → s = x0 ∨ (s ≠ ("" : Str) ∧ s ∉ firsts rows)) : F__law_is_wood [.tup (rows.map rowO)] u = some (.bl false, u) := by
  have nz : Nz x0 := by
    obtain ⟨p, hp, rfl⟩ := List.mem_map.mp h0
    exact (h p hp).1
  obtain ⟨here, t, ho, hq, hl, e⟩ := wood_loop2 (names := firsts rows) (u := u) (Q := fun l => x0 ∉ l) h few (fun z => nz.ne (List.mem_singleton.mp z)) fun here ho hq z => by
    rcases List.mem_append.mp z with z | z
    · exact hq z
    · obtain ⟨p, hp, e1, e2⟩ := newL_sub z
      cases q : p.2 with
      | none => rw [q] at e2; cases e2
      | some s =>
        rw [q] at e2
        have hs : s ∈ here := of_decide_eq_true e2
        rcases hx p hp e1 s q with rfl | ⟨n1, n2⟩
        · exact hq hs
        · rcases ho.sub s hs with r | r
          · exact n1 r
          · exact n2 r
  have hc : cEq (.lst ((sortS (nubS (firsts rows))).map .str)) (.lst ((firsts rows).map .str)) = some (.bl true) := by
    show (eqD _ _).map _ = _
    rw [rising_srt hn, eqS (rows_tx h) (rows_tx h), decide_eq_true rfl]; rfl
  have hcl : compL (turnL (.one 4) [4] (EnvW (.tup (rows.map rowO)) (firsts rows) here t) (mTru (mBin cNotIn (mVar 4) (mVar 2))) (mVar 4)) ((firsts rows).map .str) u = some (((firsts rows).filter fun x => !decide (x ∈ here)).map .str, u) := compL_fm (P := fun x => !decide (x ∈ here)) fun x hx => by
    have e2 := cni_s (x := x) (rows_tx h x hx) ho.tx
    have hb : bindT (.one 4) (.str x) (wipeE (EnvW (.tup (rows.map rowO)) (firsts rows) here t) [4]) = some [Sl.pub (.tup (rows.map rowO)), .pub (.lst ((firsts rows).map .str)), .pub (.lst (here.map .str)), t, .pub (.str x), .no] := rfl
    cases q2 : decide (x ∈ here) with
    | true =>
      rw [q2] at e2
      rw [if_neg (by simp)]
      exact turnL_n hb (mTru_eq (mBin_eq rfl rfl e2) rfl)
    | false =>
      rw [q2] at e2
      rw [if_pos (by simp)]
      exact turnL_c hb (mTru_eq (mBin_eq rfl rfl e2) rfl) rfl
  have hm : x0 ∈ (firsts rows).filter fun x => !decide (x ∈ here) := List.mem_filter.mpr ⟨h0, by rw [decide_eq_false hq]; rfl⟩
  have hy : AllT ((firsts rows).filter fun x => !decide (x ∈ here)) := (rows_tx h).sub fun x hx => (List.mem_filter.mp hx).1
  have he : cEq (.lst (((firsts rows).filter fun x => !decide (x ∈ here)).map .str)) (.lst []) = some (.bl false) := by
    rw [ceq_nilS hy]
    cases q : (firsts rows).filter fun x => !decide (x ∈ here) with
    | nil => rw [q] at hm; cases hm
    | cons a r => rfl
  have hfl : ((firsts rows).filter fun x => !decide (x ∈ here)).length ≤ 10 := Nat.le_trans (List.length_filter_le _ _) (by rw [List.length_map]; exact few)
  refine runB_rt (sc_nx (first_rows _ rfl few) (sc_nx (sFor_eq (mItems_eq rfl rfl) e) (sc_rt (sRet_eq (mAnd_t (mBin_eq (mSortSet_eq rfl (srt_l (by rw [List.length_map]; omega))) rfl hc) rfl (mBin_eq (mLc_eq (mItems_eq rfl rfl) hcl (by rw [List.length_map]; exact isiz (by omega))) (mLst_eq (ds := []) rfl (isiz (by simp))) he))))))
def bentR (w : List (Str × Str)) (k : Nat) (r : Str × Option Str) : List (Str × Option Str) := someW (w.take k) ++ r :: someW (w.drop (k + 1))
def bentW (w : List (Str × Str)) (k : Nat) (r : Str × Str) : List (Str × Str) := w.take k ++ r :: w.drop (k + 1)
theorem bent_some (w : List (Str × Str)) (k : Nat) (r : Str × Str) : bentR w k (r.1, some r.2) = someW (bentW w k r) := by
  unfold bentR bentW someW
  rw [List.map_append]; rfl
theorem first_someW (w : List (Str × Str)) : firsts (someW w) = firsts w := by unfold someW; rw [firsts, List.map_map]; rfl
theorem bent_len {w : List (Str × Str)} {k : Nat} {r : Str × Option Str} (hk : k < w.length) : (bentR w k r).length = w.length := by
  unfold bentR someW
  rw [List.length_append, List.length_cons, List.length_map, List.length_map, List.length_take, List.length_drop]; omega
theorem bent_firsts {w : List (Str × Str)} {k : Nat} {r : Str × Option Str} (hk : k < w.length) (hr : r.1 = w[k].1) : firsts (bentR w k r) = firsts w := by
  unfold bentR
  show (someW (w.take k) ++ r :: someW (w.drop (k + 1))).map (·.1) = _
  rw [List.map_append, List.map_cons, hr]
  show firsts (someW (w.take k)) ++ w[k].1 :: firsts (someW (w.drop (k + 1))) = _
  rw [first_someW, first_someW]
  conv => rhs; rw [← List.take_append_drop k w, List.drop_eq_getElem_cons hk]
  show _ = (w.take k ++ w[k] :: w.drop (k + 1)).map (·.1)
  rw [List.map_append, List.map_cons]
theorem bent_ok {w : List (Str × Str)} {k : Nat} {r : Str × Option Str} (h : WOk w) (hr : RowOk r) : ∀ p ∈ bentR w k r, RowOk p := fun p hp => by
  rcases List.mem_append.mp hp with hp | hp
  · obtain ⟨q, hq, rfl⟩ := List.mem_map.mp hp
    have := h.ok q (List.mem_of_mem_take hq)
    exact ⟨this.1, fun y e => by cases e; exact this.2⟩
  · rcases List.mem_cons.mp hp with rfl | hp
    · exact hr
    · obtain ⟨q, hq, rfl⟩ := List.mem_map.mp hp
      have := h.ok q (List.mem_of_mem_drop hq)
      exact ⟨this.1, fun y e => by cases e; exact this.2⟩
theorem bent_mem {w : List (Str × Str)} {k : Nat} {r p : Str × Option Str} (h : Wood w) (hk : k < w.length) (hr : r.1 = w[k].1) (hp : p ∈ bentR w k r) (e : p.1 = w[k].1) : p = r := by
  have hn : (firsts (bentR w k r)).Nodup := by rw [bent_firsts hk hr]; exact h.nd
  exact nodup_inj hn hp (List.mem_append.mpr (.inr List.mem_cons_self)) (by rw [e, hr])
theorem wok_bent {w : List (Str × Str)} {k : Nat} {r : Str × Str} (h : WOk w) (hr : Nz r.1 ∧ (r.2 = ("" : Str) ∨ Nz r.2)) (hk : k < w.length) : WOk (bentW w k r) where
  ok p hp := by
    rcases List.mem_append.mp hp with hp | hp
    · exact h.ok p (List.mem_of_mem_take hp)
    · rcases List.mem_cons.mp hp with rfl | hp
      · exact hr
      · exact h.ok p (List.mem_of_mem_drop hp)
  few := by
    unfold bentW
    rw [List.length_append, List.length_cons, List.length_take, List.length_drop]
    have := h.few
    omega
/-- a name put in the place of another one: it stands there twice -/
theorem bent_dup {w : List (Str × Str)} {k : Nat} {y : Str} {x : Str} {u : U} (h : Wood w) (hk : k < w.length) (hx : x ∈ firsts w) (hne : x ≠ w[k].1) (hy : Nz y) :
    F_is_tree [.tup ((bentR w k (x, some y)).map rowO)] u = some (.bl false, u) ∧ F__law_is_wood [.tup ((bentR w k (x, some y)).map rowO)] u = some (.bl false, u) := by
  have nx : Nz x := by
    obtain ⟨p, hp, rfl⟩ := List.mem_map.mp hx
    exact (h.wok.ok p hp).1
  have wk := wok_bent (k := k) (r := (x, y)) h.wok ⟨nx, .inr hy⟩ hk
  have hd : ¬ (firsts (bentW w k (x, y))).Nodup := fun hn => by
    have hn : ((w.take k ++ (x, y) :: w.drop (k + 1)).map (·.1)).Nodup := hn
    rw [List.map_append, List.map_cons] at hn
    have h3 := (List.nodup_cons.mp ((List.perm_middle.nodup_iff).mp hn)).1
    have hx2 : x ∈ (w.take k ++ w[k] :: w.drop (k + 1)).map (·.1) := by
      rw [← List.drop_eq_getElem_cons hk, List.take_append_drop]; exact hx
    rw [List.map_append, List.map_cons] at hx2
    rcases List.mem_append.mp hx2 with z | z
    · exact h3 (List.mem_append.mpr (.inl z))
    · rcases List.mem_cons.mp z with z | z
      · exact hne z
      · exact h3 (List.mem_append.mpr (.inr z))
  have hs : sortS (nubS (firsts (bentW w k (x, y)))) ≠ firsts (bentW w k (x, y)) := fun z => hd (srt_dup z)
  have e1 := bent_some w k (x, y)
  dsimp only at e1
  constructor
  · rw [e1, some_rows]
    exact fdup wk hs
  · rw [e1]
    exact iswood_dup wk.rows (by unfold someW; rw [List.length_map]; exact wk.few) (by rw [first_someW]; exact hs)
theorem bent_round {w : List (Str × Str)} {k : Nat} {x y : Str} {u : U} (h : Wood w) (hk : k < w.length) (hx : x = w[k].1) (hy : Nz y) (hxy : y = x ∨ y ∉ firsts w) :
    F_is_tree [.tup ((bentR w k (x, some y)).map rowO)] u = some (.bl false, u) ∧ F__law_is_wood [.tup ((bentR w k (x, some y)).map rowO)] u = some (.bl false, u) := by
  have nx : Nz x := by rw [hx]; exact (h.wok.ok _ (List.getElem_mem hk)).1
  have wk := wok_bent (k := k) (r := (x, y)) h.wok ⟨nx, .inr hy⟩ hk
  have ef : firsts (bentR w k (x, some y)) = firsts w := bent_firsts hk hx
  have e1 := bent_some w k (x, y)
  dsimp only at e1
  have eg : firsts (bentW w k (x, y)) = firsts w := by rw [← ef, e1, first_someW]
  have hm : (x, y) ∈ bentW w k (x, y) := List.mem_append.mpr (.inr List.mem_cons_self)
  have hxm : x ∈ firsts (bentW w k (x, y)) := List.mem_map.mpr ⟨_, hm, rfl⟩
  have hl : look (bentW w k (x, y)) x = some y := look_of (p := (x, y)) (by rw [eg]; exact h.nd) hm
  have hlast : lastW (bentW w k (x, y)) x ≠ some ("" : Str) := by
    intro z
    unfold lastW at z
    have hlen : 0 < (bentW w k (x, y)).length := by
      have := List.length_pos_of_mem hm
      exact this
    have key : ∀ n, (climbL (bentW w k (x, y)) (n + 1) x).getLast? ≠ some ("" : Str) := by
      rcases hxy with rfl | hxy
      · intro n
        induction n with
        | zero => rw [climb_s 0 hl]; exact fun z => nx.ne (Option.some.inj z)
        | succ n ih =>
          rw [climb_s (n + 1) hl, List.getLast?_cons]
          intro z
          cases q : (climbL (bentW w k (y, y)) (n + 1) y).getLast? with
          | none => rw [q] at z; exact nx.ne (Option.some.inj z)
          | some s =>
            rw [q] at z ih
            exact ih z
      · intro n
        rw [climb_s n hl]
        have : climbL (bentW w k (x, y)) n y = [] := by
          cases n with
          | zero => rfl
          | succ n =>
            show (match look (bentW w k (x, y)) y with | none => [] | some z => z :: climbL (bentW w k (x, y)) n z) = []
            rw [look_none (by rw [eg]; exact hxy)]
        rw [this]
        exact fun z => hy.ne (Option.some.inj z)
    obtain ⟨n, hn⟩ : ∃ n, (bentW w k (x, y)).length = n + 1 := ⟨(bentW w k (x, y)).length - 1, by omega⟩
    rw [hn] at z
    exact key n z
  constructor
  · rw [e1, some_rows]
    have := ftree (u := u) wk (by rw [eg]; exact h.ris)
    rw [show (firsts (bentW w k (x, y))).all (fun x' => decide (lastW (bentW w k (x, y)) x' = some ("" : Str))) = false from List.all_eq_false.mpr ⟨x, hxm, by rw [decide_eq_false hlast]; decide⟩] at this
    exact this
  · refine iswood_lost (x0 := x) (by rw [e1]; exact wk.rows) (by rw [bent_len hk]; have := h.few; omega) (by rw [ef]; exact h.ris) (by rw [ef, ← eg]; exact hxm) fun p hp e s hs => ?_
    have := bent_mem h hk hx hp (by rw [e, hx])
    rw [this] at hs
    cases hs
    rcases hxy with rfl | hxy
    · exact .inl rfl
    · exact .inr ⟨hy.ne, by rw [ef]; exact hxy⟩
theorem bent_none {w : List (Str × Str)} {k : Nat} {x : Str} {u : U} (h : Wood w) (hk : k < w.length) (hx : x = w[k].1) :
    F_is_tree [.tup ((bentR w k (x, none)).map rowO)] u = some (.bl false, u) ∧ F__law_is_wood [.tup ((bentR w k (x, none)).map rowO)] u = some (.bl false, u) := by
  have nx : Nz x := by rw [hx]; exact (h.wok.ok _ (List.getElem_mem hk)).1
  have ok := bent_ok (k := k) (r := (x, none)) h.wok ⟨nx, fun y e => by cases e⟩
  have hl : (bentR w k (x, none)).length ≤ 10 := by rw [bent_len hk]; have := h.few; omega
  have ef : firsts (bentR w k (x, none)) = firsts w := bent_firsts hk hx
  constructor
  · exact tree_no ok (by omega) ⟨(x, none), List.mem_append.mpr (.inr List.mem_cons_self), rfl⟩
  · refine iswood_lost (x0 := x) ok hl (by rw [ef]; exact h.ris) (by rw [ef, hx]; exact List.mem_map.mpr ⟨_, List.getElem_mem hk, rfl⟩) fun p hp e s hs => ?_
    have := bent_mem h hk hx hp (by rw [e, hx])
    rw [this] at hs
    cases hs
end Lw13
namespace Lw13
open PySem Dv L2
def pr2K (p : Str × Str) : List Key := [.inr p.1, .inr p.2]
theorem sort_over (ps : List (Str × Str)) : ∃ qs : List (Str × Str), bSortB [.lst (ps.map over)] = some (.lst (qs.map over)) ∧ qs.Perm ps ∧ (qs.map pr2K).Pairwise LeR := by
  have h := sortB_r (ks := ps.map pr2K) (sh := [false, false]) (fun k hk => by
    obtain ⟨p, _, rfl⟩ := List.mem_map.mp hk
    rfl) (by decide)
  obtain ⟨qs, hq, hp⟩ : ∃ qs : List (Str × Str), sortR (ps.map pr2K) = qs.map pr2K ∧ qs.Perm ps := perm_map_back (sortR_perm _)
  refine ⟨qs, ?_, hp, by rw [← hq]; exact sortR_sorted _⟩
  rw [hq, List.map_map, List.map_map] at h
  exact h
theorem rise_of {qs : List (Str × Str)} (hn : (firsts qs).Nodup) (hs : (qs.map pr2K).Pairwise LeR) : Rising (firsts qs) := by
  refine List.pairwise_map.mpr (((List.pairwise_map.mp hs).and (List.pairwise_map.mp hn)).imp fun {a b} hab => ?_)
  have h1 : leR (pr2K a) (pr2K b) = true := hab.1
  unfold pr2K at h1
  rw [leR_cons, if_neg (fun z => hab.2 (Sum.inr.inj z))] at h1
  exact of_decide_eq_true h1
def idxS : List Str → Str → Nat
  | [], _ => 0
  | a :: l, x => if a = x then 0 else idxS l x + 1
theorem idx_eq : ∀ {l : List Str} {i : Nat} {x : Str}, l.Nodup → l[i]? = some x → idxS l x = i
  | [], _, _, _, h => by simp at h
  | a :: l, 0, x, _, h => by
    have : a = x := by simpa using h
    unfold idxS
    rw [if_pos this]
  | a :: l, i + 1, x, hn, h => by
    have h2 := List.nodup_cons.mp hn
    have h3 : l[i]? = some x := by simpa using h
    have hne : a ≠ x := fun e => h2.1 (by rw [e]; exact List.mem_of_getElem? h3)
    unfold idxS
    rw [if_neg hne, idx_eq h2.2 h3]
theorem nz_of {k : Nat} {x : Str} (hk : k ≤ 8) (h : Nm k x) : Nz x := ⟨h.1, h.2.1, by have := h.2.2; omega⟩
theorem wood_ok {n : Int} {u : U} {many : Nat} (h : OkU n u) (hn : n ≤ 2 ^ 38) (h1 : 1 ≤ many) (h7 : many ≤ 7) :
    ∃ (w : List (Str × Str)) (u' : U), F__law_wood [.urn, .int many] u = some (treeB true w, u') ∧ Wood w ∧ w.length = many ∧ OkU (n + 40) u' := by
  obtain ⟨xs, u1, e1, l1, p1, r1, o1⟩ := tags_ok (many := many) h (by omega) h1 (by omega)
  obtain ⟨ys, u2, e2, hy, o2⟩ := mixed_ok (xs := xs) o1 (by omega) (by omega)
  have ly : ys.length = many := by rw [hy.length_eq, l1]
  obtain ⟨env', u3, e3, o3, ps, a, b, rfl, hp, ho⟩ := wood_loop (many := .int many) (ys := ys) o2 (by omega) (by omega)
  have lp : ps.length = many := by have := congrArg List.length hp; rw [List.length_map] at this; omega
  have ny : ys.Nodup := (hy.nodup_iff).mpr r1.nodup
  obtain ⟨qs, es, hq, hs⟩ := sort_over ps
  have lq : qs.length = many := by rw [hq.length_eq, lp]
  have nq : (firsts qs).Nodup := by
    have : (firsts qs).Perm ys := by rw [← hp]; exact hq.map _
    exact (this.nodup_iff).mpr ny
  have nzy : ∀ y ∈ ys, Nz y := fun y hy' => nz_of (by omega) (p1 y (hy.mem_iff.mp hy'))
  have at_ : ∀ p ∈ qs, ∃ j, ps[j]? = some p := fun p hp' => List.getElem?_of_mem (hq.mem_iff.mp hp')
  have first_at : ∀ {j : Nat} {p : Str × Str}, ps[j]? = some p → ys[j]? = some p.1 := fun {j p} hj => by rw [← hp, List.getElem?_map, hj]; rfl
  have mem_y : ∀ {y : Str}, y ∈ ys → y ∈ firsts qs := fun {y} hy' => by
    have : (firsts qs).Perm ys := by rw [← hp]; exact hq.map _
    exact this.mem_iff.mpr hy'
  have wd : Wood qs := {
    wok := {
      ok := fun p hp' => by
        obtain ⟨j, hj⟩ := at_ p hp'
        refine ⟨nzy _ (List.mem_of_getElem? (first_at hj)), ?_⟩
        rcases ho j p hj with e | e
        · exact .inl e
        · exact .inr (nzy _ (List.mem_of_mem_take e))
      few := by omega }
    few := by omega
    pos := by omega
    ris := rise_of nq hs
    rk := by
      refine ⟨fun x => idxS ys x, fun p hp' => ?_, fun p hp' => ?_⟩
      · obtain ⟨j, hj⟩ := at_ p hp'
        have h2 := first_at hj
        show idxS ys p.1 < qs.length
        rw [idx_eq ny h2, lq, ← ly]
        exact (List.getElem?_eq_some_iff.mp h2).1
      · obtain ⟨j, hj⟩ := at_ p hp'
        rcases ho j p hj with e | e
        · exact .inl e
        · right
          refine ⟨mem_y (List.mem_of_mem_take e), ?_⟩
          obtain ⟨i, hi⟩ := List.getElem?_of_mem e
          have hi2 : i < j ∧ ys[i]? = some p.2 := by
            rw [List.getElem?_take] at hi
            split at hi
            · exact ⟨‹_›, hi⟩
            · cases hi
          show idxS ys p.2 < idxS ys p.1
          rw [idx_eq ny hi2.2, idx_eq ny (first_at hj)]
          exact hi2.1 }
  refine ⟨qs, u3, ?_, wd, lq, o3.mono (by omega)⟩
  refine runB_rt (sc_nx (env' := [Sl.pub .urn, .pub (.int many), .pub (.lst (ys.map .str)), .own (.lst []), .no, .no]) (u1 := u2) (sParv_eq (vP_eq (mCall_eq (mCons_eq rfl (c1 (mCall_eq (mCons_eq rfl (c1 rfl)) rfl e1))) rfl e2)) (vLst_eq (ds := []) mNil_eq (isiz (by simp)))) (sc_nx (sFor_eq (mEnumA_l rfl) e3) (sPub_eq rfl (sc_rt (sRet_eq (mBi_eq (c1 (mBi_eq (c1 rfl) es)) rfl))))))
end Lw13
namespace Lw13
open PySem Dv L2
theorem vAdd_l {ma mb : M} {env : List Sl} {u u1 u2 : U} {ds es : List D} (h : ma env u = some (.lst ds, u1)) (h2 : mb env u1 = some (.lst es, u2)) (hl : ds.length + es.length ≤ 1000) : vAdd ma mb env u = some (.own (.lst (ds ++ es)), u2) := by
  unfold vAdd
  rw [h]
  show bnd (mb env u1) _ = _
  rw [h2]
  exact if_pos (isiz hl)
def upsD (w : List (Str × Str)) : D := .dct ((firsts w).map fun x => .inr x) ((firsts w).map fun x => .lst ((wayL w x).map .str))
theorem ups_at {w : List (Str × Str)} {x : Str} (hx : x ∈ firsts w) : dixD (upsD w) (.str x) = some (.lst ((wayL w x).map .str)) := by
  show valD ((firsts w).map fun x => .inr x) ((firsts w).map fun x => .lst ((wayL w x).map .str)) (.inr x) = _
  rw [val_map (g := fun x : Str => x)]
  cases q : (firsts w).find? fun a => decide (a = x) with
  | none => exact absurd (decide_eq_true rfl) (List.find?_eq_none.mp q x hx)
  | some a =>
    have : a = x := of_decide_eq_true (List.find?_some (p := fun a : Str => decide (a = x)) q)
    rw [this]; rfl
def EV (t : Sl) (w : List (Str × Str)) (s3 s4 g7 g8 s10 s11 s12 s13 s14 s15 : Sl) : List Sl :=
  [.pub .urn, t, .pub (treeB true w), s3, s4, .pub (treeB false w), .pub (.lst ((firsts w).map .str)), g7, g8, .pub (upsD w), s10, s11, s12, s13, s14, s15]
abbrev b11 : MS := (sCons (sIf (mAndB (mTru (mBin cNe (mVar 11) (mVar 3))) (mAndB (mTru (mBin cNotIn (mVar 11) (mBin dixD (mVar 9) (mVar 3)))) (mTru (mBin cNotIn (mVar 3) (mBin dixD (mVar 9) (mVar 11)))))) (sCons (sApp 7 (mCall 3 (okF F_meeting) (mCons (mVar 2) (mCons (mVar 3) (mCons (mVar 11) mNil))))) (sCons (sApp 8 (mBin ixD (mLc (.one 4) [4] (mItems (mBin dixD (mVar 9) (mVar 3))) (mTru (mBin cIn (mVar 4) (mBin dixD (mVar 9) (mVar 11)))) (mVar 4)) (mC (.int (0))))) sNil)) sNil) sNil)
abbrev b3 : MS := (sCons (sSv 7 (vAdd (mVar 7) (mLst (mCons (mCall 2 (okF F_way_up) (mCons (mVar 2) (mCons (mVar 3) mNil))) (mCons (mCall 2 (okF F_through) (mCons (mVar 5) (mCons (mVar 3) mNil))) mNil))))) (sCons (sSv 8 (vAdd (mVar 8) (mLst (mCons (mBi bTuple (mCons (mBin dixD (mVar 9) (mVar 3)) mNil)) (mCons (mBi bTuple (mCons (mLc (.one 4) [4] (mItems (mBin fAdd (mLst (mCons (mVar 3) mNil)) (mSl (mBin dixD (mVar 9) (mVar 3)) moNo (moAt (mNeg (mC (.int (1)))))))) mYes (mTup (mCons (mC (.str ("flush" : Str))) (mCons (mVar 4) mNil)))) mNil)) mNil))))) (sCons (sFor (.one 11) (mItems (mVar 6)) (sCons (sIf (mAndB (mTru (mBin cNe (mVar 11) (mVar 3))) (mAndB (mTru (mBin cNotIn (mVar 11) (mBin dixD (mVar 9) (mVar 3)))) (mTru (mBin cNotIn (mVar 3) (mBin dixD (mVar 9) (mVar 11)))))) (sCons (sApp 7 (mCall 3 (okF F_meeting) (mCons (mVar 2) (mCons (mVar 3) (mCons (mVar 11) mNil))))) (sCons (sApp 8 (mBin ixD (mLc (.one 4) [4] (mItems (mBin dixD (mVar 9) (mVar 3))) (mTru (mBin cIn (mVar 4) (mBin dixD (mVar 9) (mVar 11)))) (mVar 4)) (mC (.int (0))))) sNil)) sNil) sNil)) (sPub 8 (sPub 7 sNil)))))
abbrev b4 : MS := (sCons (sSet 14 (mBin fAdd (mBin fAdd (mSl (mVar 2) moNo (moAt (mVar 13))) (mTup (mCons (mVar 4) mNil))) (mSl (mVar 2) (moAt (mBin fAdd (mVar 13) (mC (.int (1))))) moNo))) (sCons (sApp 7 (mCall 1 F_is_tree (mCons (mVar 14) mNil))) (sCons (sApp 8 (mCall 1 F__law_is_wood (mCons (mVar 14) mNil))) sNil)))
theorem Wood.tx {w : List (Str × Str)} (h : Wood w) {x : Str} (hx : x ∈ firsts w) : TxO x := h.wok.tx1 x hx
theorem way_all {w : List (Str × Str)} (h : Wood w) (x : Str) : AllT (wayL w x) := way_tx h.wok _ _
theorem cin_l {x : Str} {l : List Str} (h : TxO x) (g : AllT l) : cIn (.str x) (.lst (l.map .str)) = some (.bl (decide (x ∈ l))) := by
  show (inD _ _).map _ = _
  rw [in_strL h g]; rfl
theorem b11_ok {w : List (Str × Str)} {t s4 s10 s11 s12 s13 s14 s15 : Sl} {x y : Str} {G : List D} {u : U} (h : Wood w) (hx : x ∈ firsts w) (hy : y ∈ firsts w) (hp : P4 G) (hl : G.length ≤ 900) :
    ∃ G' : List D, P4 G' ∧ G'.length ≤ G.length + 1 ∧ b11 (EV t w (.pub (.str x)) s4 (.own (.lst G)) (.own (.lst G)) s10 (.pub (.str y)) s12 s13 s14 s15) u = some (.nx (EV t w (.pub (.str x)) s4 (.own (.lst G')) (.own (.lst G')) s10 (.pub (.str y)) s12 s13 s14 s15), u) := by
  obtain ⟨E, hE⟩ : ∃ E, E = EV t w (.pub (.str x)) s4 (.own (.lst G)) (.own (.lst G)) s10 (.pub (.str y)) s12 s13 s14 s15 := ⟨_, rfl⟩
  have e1 : mTru (mBin cNe (mVar 11) (mVar 3)) E u = some (!decide (y = x), u) := by rw [hE]; exact mTru_eq (mBin_eq rfl rfl (cneS y x)) rfl
  have e2 : mTru (mBin cNotIn (mVar 11) (mBin dixD (mVar 9) (mVar 3))) E u = some (!decide (y ∈ wayL w x), u) := by rw [hE]; exact mTru_eq (mBin_eq rfl (mBin_eq rfl rfl (ups_at hx)) (cni_s (h.tx hy) (way_all h x))) rfl
  have e3 : mTru (mBin cNotIn (mVar 3) (mBin dixD (mVar 9) (mVar 11))) E u = some (!decide (x ∈ wayL w y), u) := by rw [hE]; exact mTru_eq (mBin_eq rfl (mBin_eq rfl rfl (ups_at hy)) (cni_s (h.tx hx) (way_all h y))) rfl
  have no : ∀ k, (mAndB (mTru (mBin cNe (mVar 11) (mVar 3))) (mAndB (mTru (mBin cNotIn (mVar 11) (mBin dixD (mVar 9) (mVar 3)))) (mTru (mBin cNotIn (mVar 3) (mBin dixD (mVar 9) (mVar 11)))))) E u = some (false, u) → k = E → ∃ G' : List D, P4 G' ∧ G'.length ≤ G.length + 1 ∧ b11 E u = some (.nx (EV t w (.pub (.str x)) s4 (.own (.lst G')) (.own (.lst G')) s10 (.pub (.str y)) s12 s13 s14 s15), u) := fun k hk _ =>
    ⟨G, hp, by omega, by rw [← hE]; exact sc_nx (sIf_f hk rfl) rfl⟩
  rw [← hE]
  cases q1 : !decide (y = x) with
  | false => rw [q1] at e1; exact no E (mAndB_f e1) rfl
  | true =>
    rw [q1] at e1
    cases q2 : !decide (y ∈ wayL w x) with
    | false => rw [q2] at e2; exact no E (mAndB_t e1 (mAndB_f e2)) rfl
    | true =>
      rw [q2] at e2
      cases q3 : !decide (x ∈ wayL w y) with
      | false => rw [q3] at e3; exact no E (mAndB_t e1 (mAndB_t e2 e3)) rfl
      | true =>
        rw [q3] at e3
        obtain ⟨z, r, em⟩ := meet_pos h hx hy
        have hm := meet_ok (u := u) h hx hy em
        have l2 : (meetL w x y).length ≤ 10 := Nat.le_trans (List.length_filter_le _ _) (wayL_len h x)
        obtain ⟨E2, hE2⟩ : ∃ E, E = EV t w (.pub (.str x)) s4 (.own (.lst (G ++ [.str z]))) (.own (.lst G)) s10 (.pub (.str y)) s12 s13 s14 s15 := ⟨_, rfl⟩
        have ec : compL (turnL (.one 4) [4] E2 (mTru (mBin cIn (mVar 4) (mBin dixD (mVar 9) (mVar 11)))) (mVar 4)) ((wayL w x).map .str) u = some ((meetL w x y).map .str, u) := by
          refine meet_row (i := 0) (j := 0) (x := x) (y := y) h hx fun s hs => ?_
          have e := cin_l (way_all h x s hs) (way_all h y)
          have hb : bindT (.one 4) (.str s) (wipeE E2 [4]) = some (EV t w (.pub (.str x)) (.pub (.str s)) (.own (.lst (G ++ [.str z]))) (.own (.lst G)) s10 (.pub (.str y)) s12 s13 s14 s15) := by rw [hE2]; rfl
          cases q : decide (s ∈ wayL w y) with
          | true =>
            rw [q] at e
            rw [if_pos rfl]
            exact turnL_c hb (mTru_eq (mBin_eq rfl (mBin_eq rfl rfl (ups_at hy)) e) rfl) rfl
          | false =>
            rw [q] at e
            rw [if_neg (by simp)]
            exact turnL_n hb (mTru_eq (mBin_eq rfl (mBin_eq rfl rfl (ups_at hy)) e) rfl)
        refine ⟨G ++ [.str z], hp.app (.cons rfl .nil), by simp, ?_⟩
        refine sc_nx (sIf_t (mAndB_t e1 (mAndB_t e2 e3)) (sc_nx (env' := E2) (u1 := u) ?_ (sc_nx (env' := EV t w (.pub (.str x)) s4 (.own (.lst (G ++ [.str z]))) (.own (.lst (G ++ [.str z]))) s10 (.pub (.str y)) s12 s13 s14 s15) (u1 := u) ?_ rfl))) rfl
        · rw [hE, hE2]
          exact sApp_eq (i := 7) (ds := G) rfl (mCall_eq (mCons_eq rfl (mCons_eq rfl (c1 rfl))) rfl (okF_eq hm)) (by rw [line]; omega)
        · have := sApp_eq (i := 8) (env := E2) (u := u) (u1 := u) (ds := G) (by rw [hE2]; rfl) (mBin_eq (mLc_eq (mItems_eq (mBin_eq (a := mVar 9) (b := mVar 3) (by rw [hE2]; rfl) (by rw [hE2]; rfl) (ups_at hx)) rfl) ec (by rw [List.length_map]; exact isiz (by omega))) (mC_eq (d := .int 0)) (f := ixD) (by rw [em]; exact ix0L)) (by rw [line]; omega)
          rw [this, hE2]; rfl
theorem loop11 {w : List (Str × Str)} {t s4 s10 s11 s12 s13 s14 s15 : Sl} {x : Str} {G : List D} {u : U} (h : Wood w) (hx : x ∈ firsts w) (hp : P4 G) (hl : G.length ≤ 500) :
    ∃ (G' : List D) (s : Sl), P4 G' ∧ G'.length ≤ G.length + 10 ∧ forL (.one 11) b11 ((firsts w).map .str) (EV t w (.pub (.str x)) s4 (.own (.lst G)) (.own (.lst G)) s10 s11 s12 s13 s14 s15) u = some (.nx (EV t w (.pub (.str x)) s4 (.own (.lst G')) (.own (.lst G')) s10 s s12 s13 s14 s15), u) := by
  have fl : ((firsts w).map D.str).length ≤ 10 := by rw [List.length_map, List.length_map]; exact h.wok.few
  obtain ⟨env', u', e, rfl, G', s, rfl, p', l'⟩ := forL_inv (t := .one 11) (f := b11) (ds := (firsts w).map .str) (i := 0) (N := 10) (env := EV t w (.pub (.str x)) s4 (.own (.lst G)) (.own (.lst G)) s10 s11 s12 s13 s14 s15) (u := u)
    (I := fun i env u' => u' = u ∧ ∃ G' s, env = EV t w (.pub (.str x)) s4 (.own (.lst G')) (.own (.lst G')) s10 s s12 s13 s14 s15 ∧ P4 G' ∧ (G'.length : Int) ≤ G.length + i) (fun d hd i env u' hi hI => by
      obtain ⟨rfl, G1, s, rfl, p1, l1⟩ := hI
      obtain ⟨y, hy, rfl⟩ := List.mem_map.mp hd
      obtain ⟨G2, p2, l2, e2⟩ := b11_ok (t := t) (s4 := s4) (s10 := s10) (s11 := s) (s12 := s12) (s13 := s13) (s14 := s14) (s15 := s15) (u := u') h hx hy p1 (by omega)
      exact ⟨_, _, u', rfl, e2, rfl, G2, _, rfl, p2, by omega⟩) ⟨rfl, G, s11, rfl, hp, by omega⟩ (by omega)
  exact ⟨G', s, p', by omega, e⟩
theorem way_plain {w : List (Str × Str)} (h : Wood w) (x : Str) : plainN 4 (.tup ((wayL w x).map .str)) = true := plain_row (f := D.str) (fun _ => rfl) (by have := wayL_len h x; omega)
theorem thruL_len {w : List (Str × Str)} (h : Wood w) (x : Str) : (thruL w x).length ≤ 11 := by
  unfold thruL
  rw [List.length_cons, List.length_dropLast]
  have := wayL_len h x; omega
theorem thru_plain {w : List (Str × Str)} (h : Wood w) (x : Str) : plainN 4 (.tup ((thruL w x).map flushD)) = true := plain_row (f := flushD) (fun _ => rfl) (by have := thruL_len h x; omega)
theorem b3_ok {w : List (Str × Str)} {t s4 s10 s11 s12 s13 s14 s15 : Sl} {x : Str} {G : List D} {u : U} (h : Wood w) (hx : x ∈ firsts w) (hp : P4 G) (hl : G.length ≤ 400) :
    ∃ (G' : List D) (s : Sl), P4 G' ∧ G'.length ≤ G.length + 12 ∧ b3 (EV t w (.pub (.str x)) s4 (.pub (.lst G)) (.pub (.lst G)) s10 s11 s12 s13 s14 s15) u = some (.nx (EV t w (.pub (.str x)) s4 (.pub (.lst G')) (.pub (.lst G')) s10 s s12 s13 s14 s15), u) := by
  have w10 : w.length ≤ 10 := h.wok.few
  have hw := okF_eq (way_ok (b := true) (u := u) h.nd w10 hx)
  have ht := okF_eq (thru_ok (b := false) (u := u) h.nd w10 hx)
  have wl := wayL_len h x
  have tl := thruL_len h x
  obtain ⟨G1, hG1⟩ : ∃ G1, G1 = G ++ [D.tup ((wayL w x).map .str), D.tup ((thruL w x).map flushD)] := ⟨_, rfl⟩
  have p1 : P4 G1 := by rw [hG1]; exact hp.app (.cons (way_plain h x) (.cons (thru_plain h x) .nil))
  have l1 : G1.length = G.length + 2 := by rw [hG1]; simp
  obtain ⟨G2, s, p2, l2, e2⟩ := loop11 (t := t) (s4 := s4) (s10 := s10) (s11 := s11) (s12 := s12) (s13 := s13) (s14 := s14) (s15 := s15) (u := u) h hx p1 (by omega)
  have hne : (wayL w x).map D.str ≠ [] := fun z => climb_pos hx (List.map_eq_nil_iff.mp z)
  obtain ⟨E1, hE1⟩ : ∃ E, E = EV t w (.pub (.str x)) s4 (.own (.lst G1)) (.pub (.lst G)) s10 s11 s12 s13 s14 s15 := ⟨_, rfl⟩
  have c2 : compL (turnL (.one 4) [4] E1 mYes (mTup (mCons (mC (.str ("flush" : Str))) (mCons (mVar 4) mNil)))) ((thruL w x).map .str) u = some ((thruL w x).map flushD, u) := compL_mp fun y hy =>
    turnL_eq (env' := EV t w (.pub (.str x)) (.pub (.str y)) (.own (.lst G1)) (.pub (.lst G)) s10 s11 s12 s13 s14 s15) (by rw [hE1]; rfl) (mTup_eq (mCons_eq rfl (c1 rfl)) (isiz (by simp)))
  have v3 : mVar 3 E1 u = some (.str x, u) := by rw [hE1]; rfl
  have v9 : mVar 9 E1 u = some (upsD w, u) := by rw [hE1]; rfl
  have v8 : mVar 8 E1 u = some (.lst G, u) := by rw [hE1]; rfl
  have hi : mItems (mBin fAdd (mLst (mCons (mVar 3) mNil)) (mSl (mBin dixD (mVar 9) (mVar 3)) moNo (moAt (mNeg (mC (.int (1))))))) E1 u = some ((thruL w x).map .str, u) := by
    refine mItems_eq (mBin_eq (mLst_eq (c1 v3) (isiz (by simp))) (mSl_eq (mBin_eq v9 v3 (ups_at hx)) rfl (moAt_eq (mNeg_eq rfl)) (slL_m1 hne)) (fAdd_l (by rw [List.length_dropLast, List.length_map]; simp; omega))) ?_
    rw [map_dropL]; rfl
  refine ⟨G2, s, p2, by omega, ?_⟩
  refine sc_nx (env' := E1) (u1 := u) ?_ (sc_nx (env' := EV t w (.pub (.str x)) s4 (.own (.lst G1)) (.own (.lst G1)) s10 s11 s12 s13 s14 s15) (u1 := u) ?_ (sc_nx (sFor_eq (mItems_eq rfl rfl) e2) (sPub_eq rfl (sPub_eq rfl rfl))))
  · rw [hE1, hG1]
    exact sSv_eq (i := 7) (vAdd_l (ds := G) rfl (mLst_eq (mCons_eq (mCall_eq (mCons_eq rfl (c1 rfl)) rfl hw) (c1 (mCall_eq (mCons_eq rfl (c1 rfl)) rfl ht))) (isiz (by simp))) (by simp; omega))
  · have := sSv_eq (i := 8) (env := E1) (vAdd_l (ds := G) v8 (mLst_eq (mCons_eq (mBi_eq (f := bTuple) (c1 (mBin_eq v9 v3 (ups_at hx))) rfl) (c1 (mBi_eq (f := bTuple) (c1 (mLc_eq hi c2 (by rw [List.length_map]; exact isiz (by omega)))) rfl))) (isiz (by simp))) (by simp; omega))
    rw [this, hE1, hG1]; rfl
theorem loop3 {w : List (Str × Str)} {t s3 s4 s10 s11 s12 s13 s14 s15 : Sl} {G : List D} {u : U} (h : Wood w) (hp : P4 G) (hl : G.length ≤ 200) :
    ∃ (G' : List D) (s3' s : Sl), P4 G' ∧ G'.length ≤ G.length + 120 ∧ forL (.one 3) b3 ((firsts w).map .str) (EV t w s3 s4 (.pub (.lst G)) (.pub (.lst G)) s10 s11 s12 s13 s14 s15) u = some (.nx (EV t w s3' s4 (.pub (.lst G')) (.pub (.lst G')) s10 s s12 s13 s14 s15), u) := by
  have fl : ((firsts w).map D.str).length ≤ 10 := by rw [List.length_map, List.length_map]; exact h.wok.few
  obtain ⟨env', u', e, rfl, G', s3', s, rfl, p', l'⟩ := forL_inv (t := .one 3) (f := b3) (ds := (firsts w).map .str) (i := 0) (N := 10) (env := EV t w s3 s4 (.pub (.lst G)) (.pub (.lst G)) s10 s11 s12 s13 s14 s15) (u := u)
    (I := fun i env u' => u' = u ∧ ∃ G' s3' s, env = EV t w s3' s4 (.pub (.lst G')) (.pub (.lst G')) s10 s s12 s13 s14 s15 ∧ P4 G' ∧ (G'.length : Int) ≤ G.length + 12 * i) (fun d hd i env u' hi hI => by
      obtain ⟨rfl, G1, s3', s, rfl, p1, l1⟩ := hI
      obtain ⟨y, hy, rfl⟩ := List.mem_map.mp hd
      obtain ⟨G2, s', p2, l2, e2⟩ := b3_ok (t := t) (s4 := s4) (s10 := s10) (s11 := s) (s12 := s12) (s13 := s13) (s14 := s14) (s15 := s15) (u := u') h hy p1 (by omega)
      exact ⟨_, _, u', rfl, e2, rfl, G2, _, _, rfl, p2, by omega⟩) ⟨rfl, G, s3, s11, rfl, hp, by omega⟩ (by omega)
  exact ⟨G', s3', s, p', by omega, e⟩
end Lw13
namespace Lw13
open PySem Dv L2
abbrev b1 : MS := (sCons (sSet 2 (mCall 2 F__law_wood (mCons (mVar 0) (mCons (mBin fAdd (mC (.int (1))) (mCall 2 F__law_take (mCons (mVar 0) (mCons (mC (.int (7))) mNil)))) mNil)))) (sCons (sTgt (.many [5, 6, 7, 8]) (mTup (mCons (mCall 1 (FR__law_lists 6) (mCons (mVar 2) mNil)) (mCons (mLc (.many [3, 4]) [3, 4] (mItems (mVar 2)) mYes (mVar 3)) (mCons (mLst mNil) (mCons (mLst mNil) mNil)))))) (sCons (sSv 9 (vDictL (mLc (.one 3) [3] (mItems (mVar 6)) mYes (mTup (mCons (mVar 3) (mCons (mCall 2 F__law_ups (mCons (mVar 2) (mCons (mVar 3) mNil))) mNil)))))) (sPub 9 (sCons (sSv 7 (vAdd (mVar 7) (mLst (mCons (mCall 1 F_is_tree (mCons (mVar 2) mNil)) (mCons (mCall 1 F_is_tree (mCons (mVar 5) mNil)) (mCons (mCall 1 F_leaves (mCons (mVar 2) mNil)) (mCons (mCall 1 F_leaves (mCons (mVar 5) mNil)) mNil))))))) (sPub 7 (sCons (sSet 10 (mBi bTuple (mCons (mLc (.one 3) [3] (mItems (mVar 6)) (mTru (mBin cNotIn (mVar 3) (mLc (.many [15, 4]) [15, 4] (mItems (mVar 2)) mYes (mVar 4)))) (mVar 3)) mNil))) (sCons (sSv 8 (vAdd (mVar 8) (mLst (mCons (mC (.bl true)) (mCons (mC (.bl false)) (mCons (mVar 10) (mCons (mVar 10) mNil))))))) (sPub 8 (sCons (sFor (.one 3) (mItems (mVar 6)) (sCons (sSv 7 (vAdd (mVar 7) (mLst (mCons (mCall 2 (okF F_way_up) (mCons (mVar 2) (mCons (mVar 3) mNil))) (mCons (mCall 2 (okF F_through) (mCons (mVar 5) (mCons (mVar 3) mNil))) mNil))))) (sCons (sSv 8 (vAdd (mVar 8) (mLst (mCons (mBi bTuple (mCons (mBin dixD (mVar 9) (mVar 3)) mNil)) (mCons (mBi bTuple (mCons (mLc (.one 4) [4] (mItems (mBin fAdd (mLst (mCons (mVar 3) mNil)) (mSl (mBin dixD (mVar 9) (mVar 3)) moNo (moAt (mNeg (mC (.int (1)))))))) mYes (mTup (mCons (mC (.str ("flush" : Str))) (mCons (mVar 4) mNil)))) mNil)) mNil))))) (sCons (sFor (.one 11) (mItems (mVar 6)) (sCons (sIf (mAndB (mTru (mBin cNe (mVar 11) (mVar 3))) (mAndB (mTru (mBin cNotIn (mVar 11) (mBin dixD (mVar 9) (mVar 3)))) (mTru (mBin cNotIn (mVar 3) (mBin dixD (mVar 9) (mVar 11)))))) (sCons (sApp 7 (mCall 3 (okF F_meeting) (mCons (mVar 2) (mCons (mVar 3) (mCons (mVar 11) mNil))))) (sCons (sApp 8 (mBin ixD (mLc (.one 4) [4] (mItems (mBin dixD (mVar 9) (mVar 3))) (mTru (mBin cIn (mVar 4) (mBin dixD (mVar 9) (mVar 11)))) (mVar 4)) (mC (.int (0))))) sNil)) sNil) sNil)) (sPub 8 (sPub 7 sNil)))))) (sCons (sSet 12 (mLc (.one 3) [3] (mItems (mTup (mCons (mC (.str ("qqq" : Str))) (mCons (mC (.str ("aaa" : Str))) (mCons (mC (.str ("zzz" : Str))) (mCons (mC (.str ("mnm" : Str))) (mCons (mC (.str ("yxy" : Str))) (mCons (mC (.str ("bab" : Str))) (mCons (mC (.str ("cdc" : Str))) (mCons (mC (.str ("dad" : Str))) mNil)))))))))) (mTru (mBin cNotIn (mVar 3) (mVar 6))) (mVar 3))) (sCons (sSet 3 (mCall 2 F__law_of (mCons (mVar 0) (mCons (mVar 6) mNil)))) (sCons (sSv 7 (vAdd (mVar 7) (mLst (mCons (mCall 4 F__law_lost (mCons (mC (.int (0))) (mCons (mVar 2) (mCons (mBin ixD (mVar 12) (mC (.int (0)))) (mCons (mC (.str ("" : Str))) mNil))))) (mCons (mCall 4 F__law_lost (mCons (mC (.int (1))) (mCons (mVar 5) (mCons (mBin ixD (mVar 12) (mC (.int (0)))) (mCons (mC (.str ("" : Str))) mNil))))) mNil))))) (sPub 7 (sCons (sSv 7 (vAdd (mVar 7) (mLst (mCons (mCall 4 F__law_lost (mCons (mC (.int (2))) (mCons (mVar 2) (mCons (mBin ixD (mVar 12) (mC (.int (0)))) (mCons (mVar 3) mNil))))) mNil)))) (sCons (sSv 8 (vAdd (mVar 8) (mBin fMul (mLst (mCons (mLst (mCons (mBin ixD (mVar 12) (mC (.int (0)))) (mCons (mC (.bl true)) mNil))) mNil)) (mC (.int (3)))))) (sCons (sSet 13 (mCall 2 F__law_take (mCons (mVar 0) (mCons (mBi bLen (mCons (mVar 2) mNil)) mNil)))) (sCons (sFor (.one 4) (mItems (mLst (mCons (mTup (mCons (mVar 3) (mCons (mBin ixD (mVar 6) (mVar 13)) mNil))) (mCons (mTup (mCons (mBin ixD (mVar 6) (mVar 13)) (mCons (mBin ixD (mVar 6) (mVar 13)) mNil))) (mCons (mTup (mCons (mBin ixD (mVar 6) (mVar 13)) (mCons (mBin ixD (mVar 12) (mC (.int (0)))) mNil))) (mCons (mTup (mCons (mBin ixD (mVar 6) (mVar 13)) (mCons (mC .non) mNil))) mNil)))))) (sCons (sSet 14 (mBin fAdd (mBin fAdd (mSl (mVar 2) moNo (moAt (mVar 13))) (mTup (mCons (mVar 4) mNil))) (mSl (mVar 2) (moAt (mBin fAdd (mVar 13) (mC (.int (1))))) moNo))) (sCons (sApp 7 (mCall 1 F_is_tree (mCons (mVar 14) mNil))) (sCons (sApp 8 (mCall 1 F__law_is_wood (mCons (mVar 14) mNil))) sNil)))) (sPub 8 (sPub 7 (sCons (sIf (mNotB (mTru (mCall 2 (FR__law_same 6) (mCons (mVar 7) (mCons (mVar 8) mNil))))) (sCons (sRet (mC (.bl false))) sNil) sNil) sNil)))))))))))))))))))))
theorem same_ok {u : U} (n : Nat) (d : D) (h : plainN n d = true) : FR__law_same (n + 1) [d, d] u = some (.bl true, u) := by
  have e : ∀ n, FR__law_same n = FR_sameA n := fun n => by
    induction n with
    | zero => rfl
    | succ n ih => unfold FR__law_same FR_sameA; rw [ih]; rfl
  rw [e]; exact sameA_self n d h
theorem lists_str {n : Nat} {x : Str} {u : U} : FR__law_lists (n + 1) [.str x] u = some (.str x, u) :=
  runB_rt (sc_rt (sRet_eq (mIte_f (mTru_eq (mIsi_eq rfl (isi2_str x)) rfl) rfl)))
theorem lists_tup {n : Nat} {xs : List D} {g : D → D} {u : U} (h : ∀ d ∈ xs, FR__law_lists n [d] u = some (g d, u)) (few : xs.length ≤ 1000) : FR__law_lists (n + 1) [.tup xs] u = some (.lst (xs.map g), u) :=
  runB_rt (sc_rt (sRet_eq (mIte_t (mTru_eq (mIsi_eq rfl (isi2_tup xs)) rfl) (mLc_eq (mItems_eq rfl rfl) (compL_pure fun d hd => turnL_eq rfl (mCall_eq (c1 rfl) rfl (h d hd))) (by rw [List.length_map]; exact isiz few)))))
theorem lists_pr {n : Nat} {p : Str × Str} {u : U} : FR__law_lists (n + 2) [gB true p] u = some (gB false p, u) := by
  have := lists_tup (n := n + 1) (xs := [.str p.1, .str p.2]) (g := id) (u := u) (fun d hd => by
    simp only [List.mem_cons, List.not_mem_nil, or_false] at hd
    rcases hd with rfl | rfl <;> exact lists_str) (by simp)
  simpa [gB] using this
def asL : D → D
  | .tup ds => .lst ds
  | d => d
theorem lists_wood {w : List (Str × Str)} {u : U} (few : w.length ≤ 10) : FR__law_lists 6 [treeB true w] u = some (treeB false w, u) := by
  have := lists_tup (n := 5) (xs := w.map (gB true)) (g := asL) (u := u) (fun d hd => by
    obtain ⟨p, _, rfl⟩ := List.mem_map.mp hd
    exact lists_pr (n := 3)) (by rw [List.length_map]; omega)
  rw [List.map_map] at this
  exact this
theorem nodup_sub : ∀ {l m : List Str}, l.Nodup → (∀ x ∈ l, x ∈ m) → l.length ≤ m.length
  | [], _, _, _ => Nat.zero_le _
  | x :: l, m, hn, h => by
    obtain ⟨s, t, rfl⟩ := List.append_of_mem (h x List.mem_cons_self)
    have h2 := List.nodup_cons.mp hn
    have := nodup_sub (l := l) (m := s ++ t) h2.2 fun y hy => by
      rcases List.mem_append.mp (h y (List.mem_cons_of_mem _ hy)) with z | z
      · exact List.mem_append.mpr (.inl z)
      · rcases List.mem_cons.mp z with rfl | z
        · exact absurd hy h2.1
        · exact List.mem_append.mpr (.inr z)
    rw [List.length_append] at this
    rw [List.length_append, List.length_cons, List.length_cons]; omega
instance (x : Str) : Decidable (Nz x) := by unfold Nz AZ; infer_instance
def w8 : List Str := ["qqq", "aaa", "zzz", "mnm", "yxy", "bab", "cdc", "dad"]
theorem w8_nz : ∀ x ∈ w8, Nz x := by decide +kernel
theorem w8_nd : w8.Nodup := by decide +kernel
def oddL (names : List Str) : List Str := w8.filter fun x => !decide (x ∈ names)
theorem odd_pos {names : List Str} (h : names.length ≤ 7) : ∃ z r, oddL names = z :: r := by
  cases q : oddL names with
  | cons z r => exact ⟨z, r, rfl⟩
  | nil =>
    have : w8.length ≤ names.length := nodup_sub w8_nd fun x hx => by
      by_cases hm : x ∈ names
      · exact hm
      · have : x ∈ oddL names := List.mem_filter.mpr ⟨hx, by rw [decide_eq_false hm]; rfl⟩
        rw [q] at this; cases this
    have e : w8.length = 8 := rfl
    omega
theorem b4_ok {w : List (Str × Str)} {t s3 s10 s11 s12 s14 s15 : Sl} {k : Nat} {r : Str × Option Str} {G : List D} {u : U} (hk : k < w.length) (few : w.length ≤ 10) (hl : G.length ≤ 900) (h1 : F_is_tree [.tup ((bentR w k r).map rowO)] u = some (.bl false, u)) (h2 : F__law_is_wood [.tup ((bentR w k r).map rowO)] u = some (.bl false, u)) :
    ∃ s, b4 (EV t w s3 (.pub (rowO r)) (.own (.lst G)) (.own (.lst G)) s10 s11 s12 (.pub (.int k)) s14 s15) u = some (.nx (EV t w s3 (.pub (rowO r)) (.own (.lst (G ++ [.bl false]))) (.own (.lst (G ++ [.bl false]))) s10 s11 s12 (.pub (.int k)) s s15), u) := by
  have eb : D.tup ((bentR w k r).map rowO) = .tup (((w.map (gB true)).take k ++ [rowO r]) ++ (w.map (gB true)).drop (k + 1)) := by
    unfold bentR
    rw [List.map_append, List.map_cons, some_rows, some_rows, List.append_assoc, ← List.map_take, ← List.map_drop]; rfl
  have s1 : slD (treeB true w) none (some (k : Int)) = some (.tup ((w.map (gB true)).take k)) := by
    show some (D.tup (cutD (w.map (gB true)) none (some (k : Int)))) = _
    rw [cutD_to (by rw [List.length_map]; omega)]
  have s2 : slD (treeB true w) (some ((k : Int) + 1)) none = some (.tup ((w.map (gB true)).drop (k + 1))) := by
    show some (D.tup (cutD (w.map (gB true)) (some (((k + 1 : Nat) : Int))) none)) = _
    rw [cutD_from (by rw [List.length_map]; omega)]
  have a1 : fAdd (.tup ((w.map (gB true)).take k)) (.tup [rowO r]) = some (.tup ((w.map (gB true)).take k ++ [rowO r])) := fAdd_t (by rw [List.length_take, List.length_map]; simp; omega)
  have a2 : fAdd (.tup ((w.map (gB true)).take k ++ [rowO r])) (.tup ((w.map (gB true)).drop (k + 1))) = some (.tup ((bentR w k r).map rowO)) := by
    rw [eb]
    exact fAdd_t (by rw [List.length_append, List.length_take, List.length_drop, List.length_map]; simp; omega)
  obtain ⟨B, hB⟩ : ∃ B, B = D.tup ((bentR w k r).map rowO) := ⟨_, rfl⟩
  rw [← hB] at h1 h2 a2
  refine ⟨.pub B, sc_nx (env' := EV t w s3 (.pub (rowO r)) (.own (.lst G)) (.own (.lst G)) s10 s11 s12 (.pub (.int k)) (.pub B) s15) (u1 := u) ?_ (sc_nx (env' := EV t w s3 (.pub (rowO r)) (.own (.lst (G ++ [.bl false]))) (.own (.lst G)) s10 s11 s12 (.pub (.int k)) (.pub B) s15) (u1 := u) ?_ (sc_nx (env' := EV t w s3 (.pub (rowO r)) (.own (.lst (G ++ [.bl false]))) (.own (.lst (G ++ [.bl false]))) s10 s11 s12 (.pub (.int k)) (.pub B) s15) (u1 := u) ?_ rfl))⟩
  · exact sSet_eq (i := 14) (mBin_eq (mBin_eq (mSl_eq rfl rfl (moAt_eq rfl) s1) (mTup_eq (c1 rfl) (isiz (by simp))) a1) (mSl_eq rfl (moAt_eq (mBin_eq rfl rfl rfl)) rfl s2) a2)
  · exact sApp_eq (i := 7) (ds := G) rfl (mCall_eq (c1 rfl) rfl h1) (by rw [line]; omega)
  · exact sApp_eq (i := 8) (ds := G) rfl (mCall_eq (c1 rfl) rfl h2) (by rw [line]; omega)
theorem loop4 {w : List (Str × Str)} {t s3 s4 s10 s11 s12 s14 s15 : Sl} {k : Nat} {G : List D} {u : U} {ds : List D} (hk : k < w.length) (few : w.length ≤ 10) (hp : P4 G) (hl : G.length ≤ 400) (ld : ds.length ≤ 5) (hd : ∀ d ∈ ds, ∃ r, d = rowO r ∧ (∀ u, F_is_tree [.tup ((bentR w k r).map rowO)] u = some (.bl false, u)) ∧ ∀ u, F__law_is_wood [.tup ((bentR w k r).map rowO)] u = some (.bl false, u)) :
    ∃ (G' : List D) (s4' s : Sl), P4 G' ∧ G'.length ≤ G.length + 5 ∧ forL (.one 4) b4 ds (EV t w s3 s4 (.own (.lst G)) (.own (.lst G)) s10 s11 s12 (.pub (.int k)) s14 s15) u = some (.nx (EV t w s3 s4' (.own (.lst G')) (.own (.lst G')) s10 s11 s12 (.pub (.int k)) s s15), u) := by
  obtain ⟨env', u', e, rfl, G', s4', s, rfl, p', l'⟩ := forL_inv (t := .one 4) (f := b4) (ds := ds) (i := 0) (N := 10) (env := EV t w s3 s4 (.own (.lst G)) (.own (.lst G)) s10 s11 s12 (.pub (.int k)) s14 s15) (u := u)
    (I := fun i env u' => u' = u ∧ ∃ G' s4' s, env = EV t w s3 s4' (.own (.lst G')) (.own (.lst G')) s10 s11 s12 (.pub (.int k)) s s15 ∧ P4 G' ∧ (G'.length : Int) ≤ G.length + i) (fun d hd' i env u' hi hI => by
      obtain ⟨rfl, G1, s4', s, rfl, p1, l1⟩ := hI
      obtain ⟨r, rfl, h1, h2⟩ := hd d hd'
      obtain ⟨s', e2⟩ := b4_ok (t := t) (s3 := s3) (s10 := s10) (s11 := s11) (s12 := s12) (s14 := s) (s15 := s15) (G := G1) (u := u') hk few (by omega) (h1 u') (h2 u')
      exact ⟨_, _, u', rfl, e2, rfl, G1 ++ [.bl false], _, _, rfl, p1.app (.cons rfl .nil), by rw [List.length_append]; simp; omega⟩) ⟨rfl, G, s4, s14, rfl, hp, by omega⟩ (by omega)
  exact ⟨G', s4', s, p', by omega, e⟩
theorem turn_ok {n : Int} {u : U} {t a2 a3 a4 a5 a6 a7 a8 a9 a10 a11 a12 a13 a14 a15 : Sl} (o : OkU n u) (hn : n ≤ 2 ^ 37) :
    ∃ (w : List (Str × Str)) (s3 s4 g7 g8 s10 s11 s12 s13 s14 s15 : Sl) (u' : U), b1 [.pub .urn, t, a2, a3, a4, a5, a6, a7, a8, a9, a10, a11, a12, a13, a14, a15] u = some (.nx (EV t w s3 s4 g7 g8 s10 s11 s12 s13 s14 s15), u') ∧ OkU (n + 50) u' := by
  obtain ⟨m, u1, e1, m0, m1, o1⟩ := take_ok (low := 7) o (by omega) (by decide) (by decide)
  obtain ⟨c, rfl⟩ : ∃ c : Nat, m = c := ⟨m.toNat, by omega⟩
  obtain ⟨w, u2, e2, wd, lw, o2⟩ := wood_ok (many := 1 + c) o1 (by omega) (by omega) (by omega)
  have w10 : w.length ≤ 10 := wd.wok.few
  have fl : (firsts w).length = w.length := List.length_map ..
  obtain ⟨dw, u3, e3, hw3, o3⟩ := of_ok (ds := (firsts w).map .str) o2 (by omega) (by rw [List.length_map]; have := wd.pos; omega) (by rw [List.length_map]; omega)
  obtain ⟨x, hx, rfl⟩ := List.mem_map.mp hw3
  obtain ⟨k, u4, e4, k0, k1, o4⟩ := take_ok (low := w.length) o3 (by omega) (by have := wd.pos; omega) (by omega)
  obtain ⟨k, rfl⟩ : ∃ c : Nat, k = c := ⟨k.toNat, by omega⟩
  have hk : k < w.length := by omega
  obtain ⟨z, rr, eo⟩ := odd_pos (names := firsts w) (by rw [fl]; exact wd.few)
  have hz : z ∈ oddL (firsts w) := by rw [eo]; exact List.mem_cons_self
  have hz1 : z ∉ firsts w := by
    have := (List.mem_filter.mp hz).2
    intro hm
    rw [decide_eq_true hm] at this; cases this
  have nz : Nz z := w8_nz z (List.mem_filter.mp hz).1
  have lo : (oddL (firsts w)).length ≤ 8 := List.length_filter_le _ _
  have ll : (leafL w).length ≤ 10 := Nat.le_trans (List.length_filter_le _ _) (by rw [fl]; exact w10)
  -- the things told
  have t1 := wood_tree (u := u2) wd
  have t2 := soft_tree (w := w) (u := u2)
  have t3 := leaf_ok (b := true) (u := u2) wd.wok
  have t4 := leaf_ok (b := false) (u := u2) wd.wok
  have lp : plainN 4 (.tup ((leafL w).map .str)) = true := plain_row (f := D.str) (fun _ => rfl) (by omega)
  obtain ⟨G1, hG1⟩ : ∃ G, G = [D.bl true, .bl false, .tup ((leafL w).map .str), .tup ((leafL w).map .str)] := ⟨_, rfl⟩
  have p1 : P4 G1 := by rw [hG1]; exact .cons rfl (.cons rfl (.cons lp (.cons lp .nil)))
  have l1 : G1.length = 4 := by rw [hG1]; rfl
  obtain ⟨G2, s3, s11, p2, l2, f3⟩ := loop3 (t := t) (s3 := a3) (s4 := a4) (s10 := .pub (.tup ((leafL w).map .str))) (s11 := a11) (s12 := a12) (s13 := a13) (s14 := a14) (s15 := a15) (u := u2) wd p1 (by omega)
  have q1 := lost0 (b := true) (y := .str ("" : Str)) (u := u3) wd.nd w10 hz1
  have q2 := lost1 (b := false) (y := .str ("" : Str)) (u := u3) wd.nd w10 hz1
  have q3 := lost2 (y := .str x) (u := u3) wd.nd w10 hz1
  obtain ⟨Z, hZ⟩ : ∃ Z, Z = D.lst [.str z, .bl true] := ⟨_, rfl⟩
  have zp : plainN 4 Z = true := by rw [hZ]; rfl
  obtain ⟨G3, hG3⟩ : ∃ G, G = G2 ++ [Z, Z] ++ [Z] := ⟨_, rfl⟩
  have p3 : P4 G3 := by rw [hG3]; exact (p2.app (.cons zp (.cons zp .nil))).app (.cons zp .nil)
  have l3 : G3.length = G2.length + 3 := by rw [hG3]; simp
  have ek : ixD (.lst ((firsts w).map .str)) (.int (k : Int)) = some (.str w[k].1) := by
    have : ((firsts w).map D.str)[k]? = some (.str w[k].1) := by
      rw [List.getElem?_map, List.getElem?_map, List.getElem?_eq_getElem hk]; rfl
    exact atI_nat this
  have hkm : w[k].1 ∈ firsts w := List.mem_map.mpr ⟨_, List.getElem_mem hk, rfl⟩
  have nk : Nz w[k].1 := (wd.wok.ok _ (List.getElem_mem hk)).1
  obtain ⟨BL, hBL⟩ : ∃ l, l = [rowO (x, some w[k].1), rowO (w[k].1, some w[k].1), rowO (w[k].1, some z), rowO (w[k].1, none)] := ⟨_, rfl⟩
  have hb : ∀ d ∈ BL, ∃ r, d = rowO r ∧ (∀ u, F_is_tree [.tup ((bentR w k r).map rowO)] u = some (.bl false, u)) ∧ ∀ u, F__law_is_wood [.tup ((bentR w k r).map rowO)] u = some (.bl false, u) := fun d hd => by
    rw [hBL] at hd
    simp only [List.mem_cons, List.not_mem_nil, or_false] at hd
    rcases hd with rfl | rfl | rfl | rfl
    · by_cases q : x = w[k].1
      · exact ⟨_, rfl, fun u => (bent_round (u := u) wd hk q nk (.inl q.symm)).1, fun u => (bent_round (u := u) wd hk q nk (.inl q.symm)).2⟩
      · exact ⟨_, rfl, fun u => (bent_dup (u := u) wd hk hx q nk).1, fun u => (bent_dup (u := u) wd hk hx q nk).2⟩
    · exact ⟨_, rfl, fun u => (bent_round (u := u) wd hk rfl nk (.inl rfl)).1, fun u => (bent_round (u := u) wd hk rfl nk (.inl rfl)).2⟩
    · exact ⟨_, rfl, fun u => (bent_round (u := u) wd hk rfl nz (.inr hz1)).1, fun u => (bent_round (u := u) wd hk rfl nz (.inr hz1)).2⟩
    · exact ⟨_, rfl, fun u => (bent_none (u := u) wd hk rfl).1, fun u => (bent_none (u := u) wd hk rfl).2⟩
  obtain ⟨G4, s4, s14, p4, l4, f4⟩ := loop4 (t := t) (s3 := .pub (.str x)) (s4 := a4) (s10 := .pub (.tup ((leafL w).map .str))) (s11 := s11) (s12 := .pub (.lst ((oddL (firsts w)).map .str))) (s14 := a14) (s15 := a15) (u := u4) hk w10 p3 (by omega) (by rw [hBL]; simp) hb
  have sm := same_ok (u := u4) 5 (.lst G4) (plain_l (n := 4) p4 (by omega))
  obtain ⟨odD, hod⟩ : ∃ d, d = D.lst ((oddL (firsts w)).map .str) := ⟨_, rfl⟩
  have o0 : ixD odD (.int 0) = some (.str z) := by rw [hod, eo]; exact ix0L
  refine ⟨w, .pub (.str x), s4, .pub (.lst G4), .pub (.lst G4), .pub (.tup ((leafL w).map .str)), s11, .pub odD, .pub (.int k), s14, a15, u4, ?_, o4.mono (by omega)⟩
  -- the wood
  refine sc_nx (env' := [.pub .urn, t, .pub (treeB true w), a3, a4, a5, a6, a7, a8, a9, a10, a11, a12, a13, a14, a15]) (u1 := u2) (sSet_eq (mCall_eq (mCons_eq rfl (c1 (mBin_eq rfl (mCall_eq (mCons_eq rfl (c1 rfl)) rfl e1) (show fAdd (.int 1) (.int c) = some (.int ((1 + c : Nat) : Int)) by show some (D.int (1 + (c : Int))) = _; congr 2)))) rfl e2)) ?_
  have cn : compL (turnL (.many [3, 4]) [3, 4] [.pub .urn, t, .pub (treeB true w), a3, a4, a5, a6, a7, a8, a9, a10, a11, a12, a13, a14, a15] mYes (mVar 3)) (w.map (gB true)) u2 = some ((firsts w).map .str, u2) := by
    rw [compL_mp (h := fun p => D.str p.1) fun p hp => turnL_eq (env' := [.pub .urn, t, .pub (treeB true w), .pub (.str p.1), .pub (.str p.2), a5, a6, a7, a8, a9, a10, a11, a12, a13, a14, a15]) rfl rfl, List.map_map]; rfl
  refine sc_nx (env' := [.pub .urn, t, .pub (treeB true w), a3, a4, .pub (treeB false w), .pub (.lst ((firsts w).map .str)), .pub (.lst []), .pub (.lst []), a9, a10, a11, a12, a13, a14, a15]) (u1 := u2) (sTgt_eq (mTup_eq (mCons_eq (mCall_eq (c1 rfl) rfl (lists_wood w10)) (mCons_eq (mLc_eq (mItems_eq rfl rfl) cn (by rw [List.length_map]; exact isiz (by omega))) (mCons_eq (mLst_eq (ds := []) rfl (isiz (by simp))) (c1 (mLst_eq (ds := []) rfl (isiz (by simp))))))) (isiz (by simp))) rfl) ?_
  have cu : compL (turnL (.one 3) [3] [.pub .urn, t, .pub (treeB true w), a3, a4, .pub (treeB false w), .pub (.lst ((firsts w).map .str)), .pub (.lst []), .pub (.lst []), a9, a10, a11, a12, a13, a14, a15] mYes (mTup (mCons (mVar 3) (mCons (mCall 2 F__law_ups (mCons (mVar 2) (mCons (mVar 3) mNil))) mNil)))) ((firsts w).map .str) u2 = some ((firsts w).map fun y => .tup [.str y, .lst ((wayL w y).map .str)], u2) := compL_mp fun y hy =>
    turnL_eq (env' := [.pub .urn, t, .pub (treeB true w), .pub (.str y), a4, .pub (treeB false w), .pub (.lst ((firsts w).map .str)), .pub (.lst []), .pub (.lst []), a9, a10, a11, a12, a13, a14, a15]) rfl (mTup_eq (mCons_eq rfl (c1 (mCall_eq (mCons_eq rfl (c1 rfl)) rfl (ups_ok wd hy)))) (isiz (by simp)))
  have pu : pairsD ((firsts w).map fun y => D.tup [.str y, .lst ((wayL w y).map .str)]) = some ((firsts w).map fun y => ((Sum.inr y : Key), D.lst ((wayL w y).map .str))) := pairs_of fun y _ => rfl
  have nu : ((firsts w).map fun y => (Sum.inr y : Key)).Nodup := List.pairwise_map.mpr (wd.nd.imp fun hab z => hab (Sum.inr.inj z))
  refine sc_nx (env' := [.pub .urn, t, .pub (treeB true w), a3, a4, .pub (treeB false w), .pub (.lst ((firsts w).map .str)), .pub (.lst []), .pub (.lst []), .own (.dct ((firsts w).map fun x => .inr x) ((firsts w).map fun x => .lst ((wayL w x).map .str))), a10, a11, a12, a13, a14, a15]) (u1 := u2) (sSv_eq ?_) (sPub_eq (o := .dct ((firsts w).map fun x => .inr x) ((firsts w).map fun x => .lst ((wayL w x).map .str))) rfl ?_)
  · unfold vDictL
    rw [mLc_eq (mItems_eq rfl rfl) cu (by rw [List.length_map]; exact isiz (by omega))]
    show (match pairsD ((firsts w).map fun y => D.tup [.str y, .lst ((wayL w y).map .str)]) with | some ps => some (Sl.own (.dct (mergeD [] [] ps).1 (mergeD [] [] ps).2), u2) | none => none) = _
    rw [pu]
    dsimp only
    rw [merge_new (kf := fun y : Str => (Sum.inr y : Key)) (vf := fun y => D.lst ((wayL w y).map .str)) nu]
  show sCons _ _ (EV t w a3 a4 (.pub (.lst [])) (.pub (.lst [])) a10 a11 a12 a13 a14 a15) u2 = _
  refine sc_nx (env' := EV t w a3 a4 (.own (.lst G1)) (.pub (.lst [])) a10 a11 a12 a13 a14 a15) (u1 := u2) (by
    rw [hG1]
    exact sSv_eq (i := 7) (vAdd_l (ds := []) rfl (mLst_eq (mCons_eq (mCall_eq (c1 rfl) rfl t1) (mCons_eq (mCall_eq (c1 rfl) rfl t2) (mCons_eq (mCall_eq (c1 rfl) rfl t3) (c1 (mCall_eq (c1 rfl) rfl t4))))) (isiz (by simp))) (by simp))) (sPub_eq (o := .lst G1) rfl ?_)
  show sCons _ _ (EV t w a3 a4 (.pub (.lst G1)) (.pub (.lst [])) a10 a11 a12 a13 a14 a15) u2 = _
  obtain ⟨E5, hE5⟩ : ∃ E, E = EV t w a3 a4 (.pub (.lst G1)) (.pub (.lst [])) a10 a11 a12 a13 a14 a15 := ⟨_, rfl⟩
  have cl : compL (turnL (.one 3) [3] E5 (mTru (mBin cNotIn (mVar 3) (mLc (.many [15, 4]) [15, 4] (mItems (mVar 2)) mYes (mVar 4)))) (mVar 3)) ((firsts w).map .str) u2 = some ((leafL w).map .str, u2) := compL_fm (P := fun x => !decide (x ∈ seconds w)) fun y hy => by
    have hb : bindT (.one 3) (.str y) (wipeE E5 [3]) = some (EV t w (.pub (.str y)) a4 (.pub (.lst G1)) (.pub (.lst [])) a10 a11 a12 a13 a14 a15) := by rw [hE5]; rfl
    have ci : compL (turnL (.many [15, 4]) [15, 4] (EV t w (.pub (.str y)) a4 (.pub (.lst G1)) (.pub (.lst [])) a10 a11 a12 a13 a14 a15) mYes (mVar 4)) (w.map (gB true)) u2 = some ((seconds w).map .str, u2) := by
      rw [compL_mp (h := fun p => D.str p.2) fun p hp => turnL_eq (env' := EV t w (.pub (.str y)) (.pub (.str p.2)) (.pub (.lst G1)) (.pub (.lst [])) a10 a11 a12 a13 a14 (.pub (.str p.1))) rfl rfl, List.map_map]; rfl
    have e := cni_s (wd.tx hy) wd.wok.tx2
    have ev : mBin cNotIn (mVar 3) (mLc (.many [15, 4]) [15, 4] (mItems (mVar 2)) mYes (mVar 4)) (EV t w (.pub (.str y)) a4 (.pub (.lst G1)) (.pub (.lst [])) a10 a11 a12 a13 a14 a15) u2 = some (.bl (!decide (y ∈ seconds w)), u2) := mBin_eq rfl (mLc_eq (mItems_eq rfl rfl) ci (by rw [List.length_map, List.length_map]; exact isiz (by omega))) e
    cases q : decide (y ∈ seconds w) with
    | true =>
      rw [q] at ev
      rw [if_neg (by simp)]
      exact turnL_n hb (mTru_eq ev rfl)
    | false =>
      rw [q] at ev
      rw [if_pos (by simp)]
      exact turnL_c hb (mTru_eq ev rfl) rfl
  refine sc_nx (env' := EV t w a3 a4 (.pub (.lst G1)) (.pub (.lst [])) (.pub (.tup ((leafL w).map .str))) a11 a12 a13 a14 a15) (u1 := u2) (by
    rw [← hE5]
    have := sSet_eq (i := 10) (env := E5) (mBi_eq (f := bTuple) (c1 (mLc_eq (mItems_eq (a := mVar 6) (by rw [hE5]; rfl) rfl) cl (by rw [List.length_map]; exact isiz (by omega)))) rfl)
    rw [this, hE5]; rfl) ?_
  refine sc_nx (env' := EV t w a3 a4 (.pub (.lst G1)) (.own (.lst G1)) (.pub (.tup ((leafL w).map .str))) a11 a12 a13 a14 a15) (u1 := u2) (by
    rw [hG1]
    exact sSv_eq (i := 8) (vAdd_l (ds := []) rfl (mLst_eq (mCons_eq rfl (mCons_eq rfl (mCons_eq rfl (c1 rfl)))) (isiz (by simp))) (by simp))) (sPub_eq (o := .lst G1) rfl ?_)
  show sCons _ _ (EV t w a3 a4 (.pub (.lst G1)) (.pub (.lst G1)) (.pub (.tup ((leafL w).map .str))) a11 a12 a13 a14 a15) u2 = _
  refine sc_nx (sFor_eq (mItems_eq rfl rfl) f3) ?_
  -- the odd names
  have co : compL (turnL (.one 3) [3] (EV t w s3 a4 (.pub (.lst G2)) (.pub (.lst G2)) (.pub (.tup ((leafL w).map .str))) s11 a12 a13 a14 a15) (mTru (mBin cNotIn (mVar 3) (mVar 6))) (mVar 3)) (w8.map .str) u2 = some ((oddL (firsts w)).map .str, u2) := compL_fm (P := fun x => !decide (x ∈ firsts w)) fun y hy => by
    have hb : bindT (.one 3) (.str y) (wipeE (EV t w s3 a4 (.pub (.lst G2)) (.pub (.lst G2)) (.pub (.tup ((leafL w).map .str))) s11 a12 a13 a14 a15) [3]) = some (EV t w (.pub (.str y)) a4 (.pub (.lst G2)) (.pub (.lst G2)) (.pub (.tup ((leafL w).map .str))) s11 a12 a13 a14 a15) := rfl
    have e := cni_s (w8_nz y hy).tx wd.wok.tx1
    cases q : decide (y ∈ firsts w) with
    | true =>
      rw [q] at e
      rw [if_neg (by simp)]
      exact turnL_n hb (mTru_eq (mBin_eq rfl rfl e) rfl)
    | false =>
      rw [q] at e
      rw [if_pos (by simp)]
      exact turnL_c hb (mTru_eq (mBin_eq rfl rfl e) rfl) rfl
  refine sc_nx (env' := EV t w s3 a4 (.pub (.lst G2)) (.pub (.lst G2)) (.pub (.tup ((leafL w).map .str))) s11 (.pub odD) a13 a14 a15) (u1 := u2) (by
    rw [hod]
    exact sSet_eq (i := 12) (mLc_eq (mItems_eq (x := .tup (w8.map .str)) (mTup_eq (ds := w8.map .str) rfl (isiz (by rw [List.length_map]; show 8 ≤ 1000; decide))) rfl) co (by rw [List.length_map]; exact isiz (by omega)))) ?_
  refine sc_nx (env' := EV t w (.pub (.str x)) a4 (.pub (.lst G2)) (.pub (.lst G2)) (.pub (.tup ((leafL w).map .str))) s11 (.pub odD) a13 a14 a15) (u1 := u3) (sSet_eq (i := 3) (mCall_eq (mCons_eq rfl (c1 rfl)) rfl e3)) ?_
  rw [← hZ] at q1 q2 q3
  refine sc_nx (env' := EV t w (.pub (.str x)) a4 (.own (.lst (G2 ++ [Z, Z]))) (.pub (.lst G2)) (.pub (.tup ((leafL w).map .str))) s11 (.pub odD) a13 a14 a15) (u1 := u3) (sSv_eq (i := 7) (vAdd_l (ds := G2) rfl (mLst_eq (mCons_eq (mCall_eq (mCons_eq rfl (mCons_eq rfl (mCons_eq (mBin_eq rfl rfl o0) (c1 rfl)))) rfl q1) (c1 (mCall_eq (mCons_eq rfl (mCons_eq rfl (mCons_eq (mBin_eq rfl rfl o0) (c1 rfl)))) rfl q2))) (isiz (by simp))) (by simp; omega))) (sPub_eq (o := .lst (G2 ++ [Z, Z])) rfl ?_)
  show sCons _ _ (EV t w (.pub (.str x)) a4 (.pub (.lst (G2 ++ [Z, Z]))) (.pub (.lst G2)) (.pub (.tup ((leafL w).map .str))) s11 (.pub odD) a13 a14 a15) u3 = _
  refine sc_nx (env' := EV t w (.pub (.str x)) a4 (.own (.lst G3)) (.pub (.lst G2)) (.pub (.tup ((leafL w).map .str))) s11 (.pub odD) a13 a14 a15) (u1 := u3) (by
    rw [hG3]
    exact sSv_eq (i := 7) (vAdd_l (ds := G2 ++ [Z, Z]) rfl (mLst_eq (c1 (mCall_eq (mCons_eq rfl (mCons_eq rfl (mCons_eq (mBin_eq rfl rfl o0) (c1 rfl)))) rfl q3)) (isiz (by simp))) (by simp; omega))) ?_
  refine sc_nx (env' := EV t w (.pub (.str x)) a4 (.own (.lst G3)) (.own (.lst G3)) (.pub (.tup ((leafL w).map .str))) s11 (.pub odD) a13 a14 a15) (u1 := u3) (by
    rw [hG3, List.append_assoc, hZ]
    exact sSv_eq (i := 8) (vAdd_l (ds := G2) rfl (mBin_eq (mLst_eq (c1 (mLst_eq (mCons_eq (mBin_eq rfl rfl o0) (c1 rfl)) (isiz (by simp)))) (isiz (by simp))) rfl mul3) (by simp; omega))) ?_
  refine sc_nx (env' := EV t w (.pub (.str x)) a4 (.own (.lst G3)) (.own (.lst G3)) (.pub (.tup ((leafL w).map .str))) s11 (.pub odD) (.pub (.int k)) a14 a15) (u1 := u4) (sSet_eq (i := 13) (mCall_eq (mCons_eq rfl (c1 (mBi_eq (c1 rfl) (show bLen [treeB true w] = some (.int (w.length : Nat)) by show bLen [.tup (w.map (gB true))] = _; rw [len_t (by rw [List.length_map]; omega), List.length_map])))) rfl e4)) ?_
  rw [← hod] at f4
  refine sc_nx (sFor_eq (mItems_eq (x := .lst BL) ?_ rfl) f4) (sPub_eq (o := .lst G4) rfl (sPub_eq (o := .lst G4) rfl ?_))
  · rw [hBL]
    exact mLst_eq (mCons_eq (mTup_eq (mCons_eq rfl (c1 (mBin_eq rfl rfl ek))) (isiz (by simp))) (mCons_eq (mTup_eq (mCons_eq (mBin_eq rfl rfl ek) (c1 (mBin_eq rfl rfl ek))) (isiz (by simp))) (mCons_eq (mTup_eq (mCons_eq (mBin_eq rfl rfl ek) (c1 (mBin_eq rfl rfl o0))) (isiz (by simp))) (c1 (mTup_eq (mCons_eq (mBin_eq rfl rfl ek) (c1 rfl)) (isiz (by simp))))))) (isiz (by simp))
  · show sCons _ _ (EV t w (.pub (.str x)) s4 (.pub (.lst G4)) (.pub (.lst G4)) (.pub (.tup ((leafL w).map .str))) s11 (.pub odD) (.pub (.int k)) s14 a15) u4 = _
    exact sc_nx (sIf_f (mNotB_eq (k := true) (mTru_eq (mCall_eq (mCons_eq rfl (c1 rfl)) rfl sm) rfl)) rfl) rfl
theorem right_ok {u : U} (h : OkU 0 u) : ∃ u', F__law_right [.urn] u = some (.bl true, u') := by
  obtain ⟨env', u', e, ou, t, a2, a3, a4, a5, a6, a7, a8, a9, a10, a11, a12, a13, a14, a15, rfl⟩ := forL_inv (t := .one 1) (f := b1) (ds := rangeD 0 10) (i := 0) (N := 10) (env := [.pub .urn, .no, .no, .no, .no, .no, .no, .no, .no, .no, .no, .no, .no, .no, .no, .no]) (u := u)
    (I := fun i env u => OkU (i * 50) u ∧ ∃ t a2 a3 a4 a5 a6 a7 a8 a9 a10 a11 a12 a13 a14 a15, env = [Sl.pub .urn, t, a2, a3, a4, a5, a6, a7, a8, a9, a10, a11, a12, a13, a14, a15]) (fun d hd i env u hi hI => by
      obtain ⟨ou, t, a2, a3, a4, a5, a6, a7, a8, a9, a10, a11, a12, a13, a14, a15, rfl⟩ := hI
      obtain ⟨w, s3, s4, g7, g8, s10, s11, s12, s13, s14, s15, u', e, o'⟩ := turn_ok (t := .pub d) (a2 := a2) (a3 := a3) (a4 := a4) (a5 := a5) (a6 := a6) (a7 := a7) (a8 := a8) (a9 := a9) (a10 := a10) (a11 := a11) (a12 := a12) (a13 := a13) (a14 := a14) (a15 := a15) ou (by omega)
      exact ⟨_, _, u', rfl, e, o'.mono (by omega), _, _, _, _, _, _, _, _, _, _, _, _, _, _, _, rfl⟩) ⟨by simpa using h, _, _, _, _, _, _, _, _, _, _, _, _, _, _, _, rfl⟩ (by decide)
  exact ⟨u', runB_rt (sc_nx (sFor_eq (mRange1_eq rfl (by decide)) e) (sc_rt (sRet_eq rfl)))⟩
end Lw13
namespace Lw13
open PySem PySem.Spec PyProof.Rows L2 Dv
theorem fPow_s {i j : Int} (h : 0 ≤ j ∧ j ≤ 1000000 ∧ i.natAbs < 2 ^ 64) : fPow (.int i) (.int j) = some (.int (i ^ j.toNat)) := by simp only [fPow]; rw [if_pos h]
theorem box_ok {cs : List Int} {k : Nat} {u : U} (hk : k < cs.length) (h3 : cs.length ≤ 8) : ∃ a b : Int, F__law_box [.lst (cs.map .int), .int k] u = some (.lst [.int a, .int b, .int 0], u) ∧ 0 ≤ a ∧ 0 ≤ b ∧ b < 2 ^ 62 := by
  have hix : ixD (.lst (cs.map .int)) (.int k) = some (.int cs[k]) := by
    show atI (cs.map D.int) (k : Int) = _
    refine atI_nat ?_
    rw [List.getElem?_map, List.getElem?_eq_getElem hk]; rfl
  have hlen : bLen [.lst (cs.map .int)] = some (.int cs.length) := by
    show some (D.int ((cs.map D.int).length : Int)) = _
    rw [List.length_map]
  have hlt : cLt (.int k) (.int cs.length) = some (.bl true) := by
    show some (D.bl (decide _)) = _
    rw [decide_eq_true (by omega)]
  obtain ⟨c, hc⟩ : ∃ c, c = cs[k] := ⟨_, rfl⟩
  rw [← hc] at hix
  obtain ⟨m, hm⟩ : ∃ m, m = if c < 0 then -c else c := ⟨_, rfl⟩
  have hm0 : 0 ≤ m := by rw [hm]; split <;> omega
  have habs : bAbs [.int c] = some (.int m) := by rw [hm]; rfl
  obtain ⟨g, hg⟩ : ∃ g : Bool, g = decide ((10 : Int) ^ 18 ≤ m) := ⟨_, rfl⟩
  have hge : cGe (.int m) (.int ((10 : Int) ^ (18 : Int).toNat)) = some (.bl g) := by rw [hg]; rfl
  have hmul : fMul (.int m) (.int (if g then 1 else 0)) = some (.int (m * (if g then 1 else 0))) := fMul_r (by cases g <;> decide)
  have hmod := fMod_p (i := c) (j := 2305843009213693951) (by decide)
  have hmk := fMul_r (i := 39373) (j := (k : Int)) (by omega)
  have h1 := Int.emod_nonneg c (show (2305843009213693951 : Int) ≠ 0 by decide)
  have h2 := Int.emod_lt_of_pos c (show (0 : Int) < 2305843009213693951 by decide)
  refine ⟨m * (if g then 1 else 0), c % 2305843009213693951 + 39373 * k + 824113, runB_rt (sc_nx (sSet_eq (mIte_t (mTru_eq (mBin_eq rfl (mBi_eq (c1 rfl) hlen) hlt) rfl) (mBin_eq rfl rfl hix))) (sc_rt (sRet_eq (mLst_eq (mCons_eq (mBin_eq (mBi_eq (c1 rfl) habs) (mBi_eq (c1 (mBin_eq (mBi_eq (c1 rfl) habs) (mBin_eq rfl rfl (fPow_s (by decide))) hge)) rfl) hmul) (mCons_eq (mBin_eq (mBin_eq (mBin_eq (mBi_eq (c1 rfl) rfl) rfl hmod) (mBin_eq rfl rfl hmk) rfl) rfl rfl) (c1 rfl))) (isiz (by simp)))))), ?_, by omega, by omega⟩
  cases g <;> simp <;> omega
abbrev s__law_cells : Stmt := topS 21
theorem sc__law_cells : FnScope [("_law_script" : Str), ("_law_top" : Str), ("_law_cells_here" : Str), ("_law_k" : Str), ("_law_cell" : Str), ("_law_at_so" : Str)] [("_law_script" : Str), ("_law_top" : Str)] (defScope s__law_cells) := ⟨rfl, rfl, rfl, by decide +kernel, rfl, by decide +kernel, by decide +kernel⟩
def spCells (K : PySem.W.Frag) : Sp := fun vs H Q _ => ∃ (a : Addr) (ns : List Int) (top : Nat), vs = [.ref a, .int top] ∧ SqL K H a (ns.map V.int) ∧ 1 ≤ top ∧ top ≤ 8 ∧ ns.length ≤ 63 ∧
  ∀ H' p (cs : List Int), Same H H' → H' p = some (.lst (cs.map V.int)) → 1 ≤ cs.length → cs.length ≤ 8 → Q (.ref p) H'
theorem cut_ints (ns : List Int) (lo hi : Option Int) : cutV (ns.map V.int) lo hi = ((ns.drop (HT.sIx ns.length 0 lo)).take (HT.sIx ns.length ns.length hi - HT.sIx ns.length 0 lo)).map V.int := by
  unfold cutV
  rw [List.length_map, List.map_take, List.map_drop]
theorem ok__law_cells {P : Program} {w : World} {K : PySem.W.Frag} {mg : Str → Option Value} {base : Heap} {f : Addr} {fd : FuncData} (F : Fun K ("_law_cells" : Str) ("_law_cells" : Str) s__law_cells f fd) (nl : mg ("list" : Str) = none) (ne : mg ("enumerate" : Str) = none) (ni : mg ("int" : Str) = none) :
    FnOk P w K mg base CX0 1 f fd [("_law_script" : Str), ("_law_top" : Str)] (spCells K) := by
  have nd := sc__law_cells.nd
  refine F.ok sc__law_cells (fun vs H Q E h => ?_) (fun cdv A outer s H vs Q E hr h => ?_)
  · obtain ⟨a, ns, top, rfl, _⟩ := h; rfl
  · obtain ⟨a, ns, top, rfl, hS, ht1, ht8, hl, q⟩ := h
    refine ⟨_, pss_cons (ps_set (i := 2) nd rfl (Or.inl rfl) (pe_orT (pe_callTy call_list_of (by rfl) nl (by decide +kernel) (pa_cons (pe_slice sl_list (pv 0) po_none (po_some (pv 1))) pa_nil)) (pe_one (pe_lst (pa_cons pe_int pa_nil)))))
      (pss_cons (ps_for PassesOwn.never rfl (pi_enum (by rfl) ne (pa_cons (pe_slice sl_list (pv 0) (po_some (pv 1)) (po_some pe_int)) pa_nil)) (pg_tup rfl (pgs_cons (pg_name (i := 3) nd rfl (Or.inl rfl)) (pgs_cons (pg_name (i := 4) nd rfl (Or.inl rfl)) pgs_nil)))
        (pss_cons (ps_set (i := 5) nd rfl (Or.inl rfl) (pe_op op_mod (pe_callTy call_int1 (by rfl) ni (by decide +kernel) (pa_cons (pv 3) pa_nil)) (pv 1)))
        (pss_one (ps_asg (pe_op op_add (pe_ix ix_list (pv 2) (pv 5) (fun _ _ => rfl)) (pe_op op_mul (pv 4) (pe_op op_add (pv 3) pe_int))) (pg_sub (pv 2) (pv 5) set_list)))))
      (pss_one (ps_ret (pv 2)))), ?_⟩
    -- what follows the first statement, for the list at p
    have rest : ∀ (H1 : Hp) (p : Addr) (cs : List Int), Same H H1 → H p = none → H1 p = some (.lst (cs.map V.int)) → 1 ≤ cs.length → cs.length ≤ 8 → (top < ns.length → cs.length = top) →
        tSeq (tFor (iEnum K (tCons (tSl (rSlL K) (tVar 0) (tPart (tVar 1)) (tPart (tC (.int 63)))) tNil)) (gTup K 2 (gCons (gName 3) (gCons (gName 4) gNil)))
          (tSeq (tAsg (tOp (rI (fun _ j => 0 < j) fun i j => .int (i % j)) (tCB (fun xs H Q => (∃ i, xs = [V.int i] ∧ Q (.int i) H) ∨ ∃ k, xs = [V.bl k] ∧ Q (.int (if k then 1 else 0)) H) (tCons (tVar 3) tNil)) (tVar 1)) (gName 5))
            (tAsg (tOp (rI0 fun i j => .int (i + j)) (tOp (rIxL K) (tVar 2) (tVar 5)) (tOp (rI CMul fun i j => .int (i * j)) (tVar 4) (tOp (rI0 fun i j => .int (i + j)) (tVar 3) (tC (.int 2))))) (gSub (tVar 2) (tVar 5) rSetL)))) (tRet (tVar 2))
          { nx := fun _ H' => Q .non H', rt := Q } [some (.ref a), some (.int top), some (.ref p), none, none, none] H1 := by
      intro H1 p cs s1 np ep c1 c8 ct
      refine ⟨_, rfl, _, rfl, (top : Int), rfl, 63, rfl, a, ns.map V.int, rfl, s1.seq hS, fun r nr => ?_⟩
      rw [cut_ints]
      obtain ⟨zs, hzs⟩ : ∃ zs, zs = (ns.drop (HT.sIx ns.length 0 (some (top : Int)))).take (HT.sIx ns.length ns.length (some 63) - HT.sIx ns.length 0 (some (top : Int))) := ⟨_, rfl⟩
      rw [← hzs]
      have hne : 0 < zs.length → top < ns.length := fun h => by
        rw [hzs, List.length_take, List.length_drop, HT.sIx_nat] at h
        omega
      have nrp : r ≠ p := fun e => by subst e; rw [ep] at nr; cases nr
      refine ⟨r, zs.map V.int, rfl, .of upd_same, ?_⟩
      refine ⟨fun i m σ H2 => ∃ (cs2 : List Int) (y3 y4 y5 : Option V), σ = [some (.ref a), some (.int top), some (.ref p), y3, y4, y5] ∧ i + m = zs.length ∧ Same H H2 ∧ H2 p = some (.lst (cs2.map V.int)) ∧ cs2.length = cs.length ∧ H2 r = some (.lst (zs.map V.int)),
        ⟨zs.length, cs, none, none, none, rfl, by omega, fun b o e => same_new nr b o (s1 b o e), by rw [upd_ne nrp.symm]; exact ep, rfl, upd_same⟩, fun i m σ H2 hW => ?_⟩
      obtain ⟨cs2, y3, y4, y5, rfl, em, s2, ep2, el, er⟩ := hW
      by_cases hi : i < zs.length
      · have g1 : (zs.map V.int)[i]? = some (.int zs[i]) := by rw [List.getElem?_map, List.getElem?_eq_getElem hi]; rfl
        refine .inr ⟨⟨_, _, .of er, g1⟩, fun σ' H' => ∃ (cs2 : List Int) (y3 y4 y5 : Option V), σ' = [some (.ref a), some (.int top), some (.ref p), y3, y4, y5] ∧ Same H H' ∧ H' p = some (.lst (cs2.map V.int)) ∧ cs2.length = cs.length ∧ H' r = some (.lst (zs.map V.int)),
          fun σ' H' ⟨z1, z2, z3, z4, e1, e2, e3, e4, e5⟩ => ⟨m - 1, by omega, z1, z2, z3, z4, e1, by omega, e2, e3, e4, e5⟩, fun x H3 hy => ?_⟩
        obtain ⟨T, x1, rfl, nT, rfl, f1⟩ := hy
        have ex1 : x1 = .int zs[i] := Option.some.inj ((f1 _ (.of er)).symm.trans g1)
        subst ex1
        have hlen : cs2.length = top := by rw [el]; exact ct (hne (by omega))
        have hTp : p ≠ T := ne_of_none ep2 nT
        have hTr : r ≠ T := ne_of_none er nT
        refine ⟨T, _, rfl, .of upd_same, rfl, _, _, rfl, _, _, rfl, rfl, ?_⟩
        have hmod0 : 0 ≤ (i : Int) % (top : Int) := Int.emod_nonneg _ (by omega)
        have hmod1 : (i : Int) % (top : Int) < top := Int.emod_lt_of_pos _ (by omega)
        obtain ⟨j, hj⟩ : ∃ j : Nat, (i : Int) % (top : Int) = j := ⟨((i : Int) % (top : Int)).toNat, by omega⟩
        have hjl : j < cs2.length := by omega
        have hitl : zs.length ≤ 63 := by rw [hzs, List.length_take, List.length_drop]; omega
        refine ⟨_, rfl, .inl ⟨(i : Int), rfl, _, rfl, (i : Int), (top : Int), rfl, rfl, by omega, ?_⟩⟩
        have ep3 : upd H2 T (.tup [.int i, .int zs[i]]) p = some (.lst (cs2.map V.int)) := by rw [upd_ne hTp]; exact ep2
        refine ⟨_, rfl, _, rfl, p, cs2.map V.int, (i : Int) % (top : Int), .int cs2[j], rfl, rfl, .of ep3, by rw [hj]; exact atI_nat (by rw [List.getElem?_map, List.getElem?_eq_getElem hjl]; rfl), ?_⟩
        refine ⟨_, rfl, _, rfl, (i : Int), 2, rfl, rfl, zs[i], (i : Int) + 2, rfl, rfl, .inr (by omega), cs2[j], zs[i] * ((i : Int) + 2), rfl, rfl, ?_⟩
        refine ⟨_, rfl, _, rfl, p, cs2.map V.int, (i : Int) % (top : Int), j, rfl, rfl, ep3, ?_, ?_⟩
        · rw [hj]
          unfold ixN
          rw [if_pos (by omega), if_pos (by rw [List.length_map]; omega)]
          rfl
        · refine ⟨cs2.set j (cs2[j] + zs[i] * ((i : Int) + 2)), _, _, _, rfl, fun b o e => ?_, ?_, by rw [List.length_set]; exact el, ?_⟩
          · rw [upd_ne (ne_of_none e np)]
            exact same_new nT b o (s2 b o e)
          · rw [upd_same, List.map_set]
          · rw [upd_ne nrp, upd_ne hTr]; exact er
      · refine .inl ⟨⟨_, .of er, by rw [List.length_map]; omega⟩, ?_⟩
        exact ⟨_, rfl, q H2 p cs2 s2 ep2 (by omega) (by omega)⟩
    -- cells_here = list(script[:top]) or [0]
    refine ⟨_, rfl, _, rfl, (top : Int), rfl, a, ns.map V.int, rfl, hS, fun r nr => ?_⟩
    rw [cut_ints, HT.sIx_none, HT.sIx_nat, List.drop_zero, Nat.sub_zero]
    refine ⟨r, _, rfl, .inl (.of upd_same), fun p np => ?_⟩
    have s1 : Same H (upd H r (.lst ((ns.take (min top ns.length)).map V.int))) := same_new nr
    have np0 : H p = none := s1.free np
    have s2 : Same H (upd (upd H r (.lst ((ns.take (min top ns.length)).map V.int))) p (.lst ((ns.take (min top ns.length)).map V.int))) := fun b o e => same_new np b o (s1 b o e)
    refine ⟨!((ns.take (min top ns.length)).map V.int).isEmpty, .inl ⟨_, .of upd_same, rfl⟩, ?_⟩
    cases hns : ns with
    | nil =>
      have e0 : (!((ns.take (min top ns.length)).map V.int).isEmpty) = false := by rw [hns, List.take_nil]; rfl
      rw [← hns, e0]
      refine iteF ⟨by decide, fun p2 np2 => ?_⟩
      have np20 : H p2 = none := s2.free np2
      exact rest _ p2 [0] (fun b o e => same_new np2 b o (s2 b o e)) np20 upd_same (by decide) (by decide) (fun h => by rw [hns] at h; simp at h)
    | cons n0 nr0 =>
      have hlen : (ns.take (min top ns.length)).length = min top ns.length := by rw [List.length_take]; omega
      have hn0 : 0 < ns.length := by rw [hns]; simp
      have : (!((ns.take (min top ns.length)).map V.int).isEmpty) = true := by
        cases hh : ns.take (min top ns.length) with
        | nil => rw [hh] at hlen; simp at hlen; omega
        | cons _ _ => rfl
      rw [← hns, this]
      exact iteT (rest _ p _ s2 np0 upd_same (by rw [hlen]; omega) (by rw [hlen]; omega) (fun h => by rw [hlen]; omega))
end Lw13
namespace Lw13
open PySem PySem.Spec PyProof.Rows L2 Dv
def isT (o : Option (D × U)) : Bool := match o with
  | some (.bl true, _) => true
  | _ => false
theorem hand_ok : ∃ u', F__law_by_hand_right [] ⟨0, 0, 0⟩ = some (.bl true, u') := by
  have h : isT (F__law_by_hand_right [] ⟨0, 0, 0⟩) = true := by decide +kernel
  unfold isT at h
  split at h
  · exact ⟨_, ‹_›⟩
  · cases h
abbrev s_law : Stmt := topS 33
theorem sc_law : FnScope [("_law_script" : Str), ("_law_cells_here" : Str), ("_law_k" : Str)] [("_law_script" : Str)] (defScope s_law) := ⟨rfl, rfl, rfl, by decide +kernel, rfl, by decide +kernel, by decide +kernel⟩
def spLaw (K : PySem.W.Frag) : Sp := fun vs H Q _ => ∃ (a : Addr) (ns : List Int), vs = [.ref a] ∧ SqL K H a (ns.map V.int) ∧ ns.length ≤ 63 ∧ ∀ H', Q (.bl true) H'
theorem vint_reps {K : PySem.W.Frag} {G : Gx K} {ua : Option Addr} {B : Hp} (cs : List Int) : Reps G ua (cs.map D.int) (cs.map V.int) B := Reps.ints
theorem env_noN {K : PySem.W.Frag} {G : Gx K} {ua : Option Addr} {B H : Hp} {n : Nat} {σ : List (Option V)} (h : σ.length = n) : EnvOk G ua (List.replicate n Sl.no) σ B H := by
  have hno : ∀ (i : Nat) x, (List.replicate n Sl.no)[i]? = some x → x = Sl.no := fun i x e => by
    rw [List.getElem?_replicate] at e
    split at e
    · exact (Option.some.inj e).symm
    · cases e
  exact ⟨by rw [List.length_replicate, h], fun i d e => (by have := hno i _ e; cases this), fun i d e => (by have := hno i _ e; cases this), fun i j a b p e => (by have := hno i _ e; cases this)⟩
theorem ok_law {P : Program} {w : World} {K : PySem.W.Frag} {mg : Str → Option Value} {base : Heap} {G : Gx K} (T : Tx mg) {f : Addr} {fd : FuncData} (F : Fun K ("law" : Str) ("law" : Str) s_law f fd)
    {fc : Addr} {fdc : FuncData} (FC : FnOk P w K mg base CX0 1 fc fdc [("_law_script" : Str), ("_law_top" : Str)] (spCells K)) (mc : mg ("_law_cells" : Str) = some (.ref fc)) (kc : PySem.W.keepIn K (.ref fc) = true) (bc : Binds K fdc [("_law_script" : Str), ("_law_top" : Str)] [])
    (D_hand : DefOk P w mg base G ("_law_by_hand_right" : Str) 7 0 F__law_by_hand_right) (D_right : DefOk P w mg base G ("_law_right" : Str) 7 1 F__law_right) (D_box : DefOk P w mg base G ("_law_box" : Str) 7 2 F__law_box) : FnOk P w K mg base CX0 8 f fd [("_law_script" : Str)] (spLaw K) := by
  have nd := sc_law.nd
  obtain ⟨fr, fdr, psr, hfr, hmr, hkr, hbr⟩ := D_right
  refine F.ok sc_law (fun vs H Q E h => ?_) (fun cdv A outer s H vs Q E hr h => ?_)
  · obtain ⟨a, ns, rfl, _⟩ := h; rfl
  · obtain ⟨a, ns, rfl, hS, hl, q⟩ := h
    refine ⟨_, pss_cons (ps_set (i := 1) nd rfl (Or.inr rfl) (pe_call (FC.mono (k := 7) (by decide)) hr (by rfl) mc kc bc .nil pass0 (pa_cons (pv 0) (pa_cons pe_int pa_nil))))
      (pss_one (ps_ret (pe_andT (show PE _ _ (tEv (K := K) G (mCall 0 F__law_by_hand_right mNil)) from dv_call0 D_hand hr rfl) (pe_one (pe_callB (cr_all rfl) (by rfl) T.n_all (by decide +kernel) (pa_cons
        (pe_lc (own := [(("_law_k" : Str), 2)]) (g := gName 2) (tt := tYes) rfl nd (pi_range1 rfl T.n_range (pa_cons (pe_callB call_len_seq (by rfl) T.n_len PySem.boot_len (pa_cons (pv 1) pa_nil)) pa_nil))
          (blkOk_by (own := [(("_law_k" : Str), 2)]) (N := [("_law_script" : Str), ("_law_cells_here" : Str), ("_law_k" : Str)]) (sc := defScope s_law) (by decide +kernel))
          (fun _ _ _ _ _ => pg_name (i := 2) nd rfl (Or.inl rfl)) (fun _ _ _ _ _ => pts_nil)
          (fun _ _ _ _ _ => pe_call hfr hr (by rfl) hmr hkr hbr .nil pass0 (pa_cons (show PE _ _ (tEv (K := K) G (mCall 2 F__law_box (mCons (mVar 1) (mCons (mVar 2) mNil)))) from dv_call D_box hr rfl (dvs_cons (dv_var 1) (dvs_cons (dv_var 2) dvs_nil))) pa_nil))) pa_nil)))))), ?_⟩
    refine ⟨_, rfl, a, ns, 3, rfl, hS, by decide, by decide, hl, fun H1 p cs s1 hp c1 c8 => ?_⟩
    obtain ⟨uh, hh⟩ := hand_ok
    refine ⟨none, ⟨0, 0, 0⟩, fun _ => none, [.no, .no, .no], .bl true, uh, env_noN (n := 3) rfl, ⟨fun _ _ z => (by cases z), fun _ z => (by cases z)⟩, ?_, fun v H2 ha => ?_⟩
    · exact mCall_eq mNil_eq rfl hh
    obtain ⟨B2, g2, w2, r2⟩ := ha
    cases r2.bl
    refine ⟨true, rfl, iteT ?_⟩
    have hp2 : H2 p = some (.lst (cs.map V.int)) := g2.keep _ _ hp (fun z => by cases z)
    -- all over the cells
    refine ⟨_, rfl, p, _, rfl, .inl (.of hp2), (cs.length : Int), ?_, by omega, by omega, fun Dp hD => ?_⟩
    · rw [List.length_map]
    rw [Int.toNat_natCast]
    have hDp : Dp ≠ p := fun e => by rw [e, hp2] at hD; cases hD
    refine lc_range (lo := 0) (n := cs.length) (fun i H => H Dp = some (.lst (List.replicate i (V.bl true))) ∧ ∃ cs2 : List Int, cs2.length = cs.length ∧ H p = some (.lst (cs2.map V.int))) ⟨upd_same, cs, rfl, by rw [upd_ne hDp.symm]; exact hp2⟩ (fun i H3 hi hP => ?_) fun H3 hP => ?_
    · obtain ⟨e1, cs2, el, e2⟩ := hP
      refine ⟨rfl, ?_⟩
      unfold tYes
      dsimp only
      rw [if_pos rfl]
      -- the box
      obtain ⟨x, y, hbx, hx, hy1, hy2⟩ := box_ok (cs := cs2) (k := i) (u := ⟨0, 0, 0⟩) (by omega) (by omega)
      obtain ⟨Bp, hBp⟩ : ∃ Bp : Hp, Bp = upd (fun _ => none) p (.lst (cs2.map V.int)) := ⟨_, rfl⟩
      have wB : Wd none ⟨0, 0, 0⟩ Bp H3 := by
        refine ⟨fun b o e => ?_, fun _ z => by cases z⟩
        rw [hBp] at e
        by_cases z : b = p
        · rw [z, upd_same] at e; cases e; rw [z]; exact e2
        · rw [upd_ne z] at e; cases e
      have rC : Rep G none (.lst (cs2.map .int)) (.ref p) Bp := by unfold Rep; exact ⟨p, _, rfl, by rw [hBp]; exact upd_same, vint_reps cs2⟩
      have eE : EnvOk G none [.no, .pub (.lst (cs2.map .int)), .pub (.int (0 + i))] [none, some (V.ref p), some (V.int (0 + i))] Bp H3 :=
        ((env_noN (n := 3) (σ := [none, none, none]) rfl).set rC 1).set (d := .int (0 + i)) (v := V.int (0 + i)) rep_int 2
      have eE' : EnvOk G none [.no, .pub (.lst (cs2.map .int)), .pub (.int (0 + i))] [some (V.ref a), some (V.ref p), some (V.int (0 + i))] Bp H3 :=
        ((env_noN (n := 3) (σ := [some (V.ref a), none, none]) rfl).set rC 1).set (d := .int (0 + i)) (v := V.int (0 + i)) rep_int 2
      refine ⟨none, ⟨0, 0, 0⟩, Bp, _, _, _, eE', wB, mCall_eq (mCons_eq rfl (mCons_eq rfl mNil_eq)) rfl (by rw [Int.zero_add]; exact hbx), fun v H4 ha4 => ?_⟩
      obtain ⟨B4, g4, w4, r4⟩ := ha4
      obtain ⟨z, vs, rfl, hz, rz⟩ := r4.lst
      have evs : vs = [V.int x, V.int y, V.int 0] := rz.ints_of (xs := [x, y, 0])
      rw [evs] at hz
      have hz4 := w4.sub _ _ hz
      obtain ⟨u5, h5⟩ := right_ok (u := ⟨x, y, 0⟩) ⟨hx, ⟨hy1, hy2⟩, Int.le_refl 0, Int.le_refl 0⟩
      have eD4 : H4 Dp = some (.lst (List.replicate i (V.bl true))) := g4.keep _ _ e1 (fun z => by cases z)
      have zD : z ≠ Dp := fun e => by
        rcases g4.new z _ hz with q | q
        · rw [hBp, e, upd_ne hDp] at q; cases q
        · rw [e, e1] at q; cases q
      refine ⟨some z, ⟨x, y, 0⟩, fun _ => none, [.urn], .bl true, u5, .cons (by unfold Rep; exact ⟨z, rfl, rfl⟩) .nil, rfl, ⟨fun _ _ z => (by cases z), fun b e => by cases e; exact ⟨rfl, hz4⟩⟩, h5, fun v5 H5 ha5 => ?_⟩
      obtain ⟨B5, g5, w5, r5⟩ := ha5
      cases r5.bl
      have eD5 : H5 Dp = some (.lst (List.replicate i (V.bl true))) := g5.keep _ _ eD4 (fun e => zD (Option.some.inj e))
      refine ⟨_, eD5, by rw [List.length_replicate, line]; omega, by rw [upd_same, List.replicate_succ'], ?_⟩
      by_cases zp : z = p
      · -- the box is the cells' own list: three numbers all the same
        subst zp
        have e4 := g4.keep _ _ e2 (fun e => by cases e)
        rw [hz4] at e4
        have e5 : cs2.length = 3 := by
          have := congrArg (fun o => match o with | some (HO.lst xs) => xs.length | _ => 0) e4
          simp at this
          omega
        refine ⟨[u5.a, u5.b, u5.c], by rw [← el, e5]; rfl, ?_⟩
        rw [upd_ne hDp.symm]
        exact (w5.urn z rfl).2
      · refine ⟨cs2, el, ?_⟩
        rw [upd_ne hDp.symm]
        exact g5.keep _ _ (g4.keep _ _ e2 (fun e => by cases e)) (fun e => zp (Option.some.inj e))
    · obtain ⟨e1, cs2, el, e2⟩ := hP
      refine ⟨Dp, List.replicate cs.length true, rfl, .of (by rw [List.map_replicate]; exact e1), ?_⟩
      have : (List.replicate cs.length true).all id = true := by
        rw [List.all_eq_true]
        intro b hb
        rw [(List.mem_replicate.mp hb).2]; rfl
      rw [this]
      exact q _
end Lw13
namespace Lw13
open PySem PySem.Spec PyProof.Rows L2 Dv
theorem kit_sub {K : PySem.W.Frag} {C : Addr} {t : String} {b : Bool} (h : PySem.W.subIn K (.ref C) (.type t) = some b) (m : PySem.W.kitMeta t = true) : PySem.W.kitOne K (.ref C) (.type t) = some b := by
  unfold PySem.W.kitOne
  have e : (Value.ref C == Value.type t) = false := rfl
  rw [e, if_neg Bool.false_ne_true]
  show (if PySem.W.kitMeta t = true then _ else _) = _
  rw [if_pos m]
  exact h
theorem exm_self {K : PySem.W.Frag} {S : Addr} (h1 : PySem.W.subIn K (.ref S) (.type "BaseException") = some true) (h2 : PySem.W.isClsIn K S = true) (h3 : PySem.W.typeIn K (.ref S) = some (.type "type")) (h4 : PySem.W.subIn K (.ref S) (.ref S) = some true) : PySem.W.exmOne K (.ref S) (.ref S) = some true := by
  have e1 : (PySem.W.subIn K (.ref S) (.type "BaseException") == some true) = true := by rw [h1] <;> rfl
  have e2 : ((PySem.W.clsIn K S).isSome && PySem.W.typeIn K (.ref S) == some (.type "type")) = true := by
    have h2' : (PySem.W.clsIn K S).isSome = true := h2
    rw [h2', h3] <;> rfl
  show (if (PySem.W.subIn K (.ref S) (.type "BaseException") == some true) = true then (if ((PySem.W.clsIn K S).isSome && PySem.W.typeIn K (.ref S) == some (.type "type")) = true then PySem.W.subIn K (.ref S) (.ref S) else none) else none) = some true
  rw [if_pos e1, if_pos e2]
  exact h4
theorem all_mk {l : PySem.W.OpenLaw} {w : World} {K : PySem.W.Frag} {h : Heap} {mg : Str → Option Value} {fa : Addr} (X : K.In h) (G0 : h.Ns mainGlobals mg) (hfa : mg "law" = some (.ref fa))
    {f_is_pair : Addr}
    {od_is_pair an_is_pair : Option Addr}
    {sl_is_pair : Array (Option Value)}
    {oc_is_pair kV_is_pair dc_is_pair pm_is_pair cd_is_pair ct_is_pair : Value}
    (a_is_pair : PySem.W.nsIn K mainGlobals ("is_pair" : Str) = some (some (.ref f_is_pair)))
    (l_is_pair : K.lookup f_is_pair = some ⟨oc_is_pair, od_is_pair, .func (PySem.W.fnOf ("is_pair" : Str) ("is_pair" : Str) (defArgs s_is_pair) (defBody s_is_pair) (defScope s_is_pair) .none kV_is_pair dc_is_pair pm_is_pair an_is_pair cd_is_pair ct_is_pair), sl_is_pair⟩)
    (c_is_pair : PySem.W.codeIn K cd_is_pair ("is_pair" : Str) = true)
    (k_is_pair : PySem.W.keepIn K (.ref f_is_pair) = true)
    {f_is_name : Addr}
    {od_is_name an_is_name : Option Addr}
    {sl_is_name : Array (Option Value)}
    {oc_is_name kV_is_name dc_is_name pm_is_name cd_is_name ct_is_name : Value}
    (a_is_name : PySem.W.nsIn K mainGlobals ("is_name" : Str) = some (some (.ref f_is_name)))
    (l_is_name : K.lookup f_is_name = some ⟨oc_is_name, od_is_name, .func (PySem.W.fnOf ("is_name" : Str) ("is_name" : Str) (defArgs s_is_name) (defBody s_is_name) (defScope s_is_name) .none kV_is_name dc_is_name pm_is_name an_is_name cd_is_name ct_is_name), sl_is_name⟩)
    (c_is_name : PySem.W.codeIn K cd_is_name ("is_name" : Str) = true)
    (k_is_name : PySem.W.keepIn K (.ref f_is_name) = true)
    {f_is_branch : Addr}
    {od_is_branch an_is_branch : Option Addr}
    {sl_is_branch : Array (Option Value)}
    {oc_is_branch kV_is_branch dc_is_branch pm_is_branch cd_is_branch ct_is_branch : Value}
    (a_is_branch : PySem.W.nsIn K mainGlobals ("is_branch" : Str) = some (some (.ref f_is_branch)))
    (l_is_branch : K.lookup f_is_branch = some ⟨oc_is_branch, od_is_branch, .func (PySem.W.fnOf ("is_branch" : Str) ("is_branch" : Str) (defArgs s_is_branch) (defBody s_is_branch) (defScope s_is_branch) .none kV_is_branch dc_is_branch pm_is_branch an_is_branch cd_is_branch ct_is_branch), sl_is_branch⟩)
    (c_is_branch : PySem.W.codeIn K cd_is_branch ("is_branch" : Str) = true)
    (k_is_branch : PySem.W.keepIn K (.ref f_is_branch) = true)
    {f_climb : Addr}
    {od_climb an_climb : Option Addr}
    {sl_climb : Array (Option Value)}
    {oc_climb kV_climb dc_climb pm_climb cd_climb ct_climb : Value}
    (a_climb : PySem.W.nsIn K mainGlobals ("climb" : Str) = some (some (.ref f_climb)))
    (l_climb : K.lookup f_climb = some ⟨oc_climb, od_climb, .func (PySem.W.fnOf ("climb" : Str) ("climb" : Str) (defArgs s_climb) (defBody s_climb) (defScope s_climb) .none kV_climb dc_climb pm_climb an_climb cd_climb ct_climb), sl_climb⟩)
    (c_climb : PySem.W.codeIn K cd_climb ("climb" : Str) = true)
    (k_climb : PySem.W.keepIn K (.ref f_climb) = true)
    {f_is_tree : Addr}
    {od_is_tree an_is_tree : Option Addr}
    {sl_is_tree : Array (Option Value)}
    {oc_is_tree kV_is_tree dc_is_tree pm_is_tree cd_is_tree ct_is_tree : Value}
    (a_is_tree : PySem.W.nsIn K mainGlobals ("is_tree" : Str) = some (some (.ref f_is_tree)))
    (l_is_tree : K.lookup f_is_tree = some ⟨oc_is_tree, od_is_tree, .func (PySem.W.fnOf ("is_tree" : Str) ("is_tree" : Str) (defArgs s_is_tree) (defBody s_is_tree) (defScope s_is_tree) .none kV_is_tree dc_is_tree pm_is_tree an_is_tree cd_is_tree ct_is_tree), sl_is_tree⟩)
    (c_is_tree : PySem.W.codeIn K cd_is_tree ("is_tree" : Str) = true)
    (k_is_tree : PySem.W.keepIn K (.ref f_is_tree) = true)
    {f_leaves : Addr}
    {od_leaves an_leaves : Option Addr}
    {sl_leaves : Array (Option Value)}
    {oc_leaves kV_leaves dc_leaves pm_leaves cd_leaves ct_leaves : Value}
    (a_leaves : PySem.W.nsIn K mainGlobals ("leaves" : Str) = some (some (.ref f_leaves)))
    (l_leaves : K.lookup f_leaves = some ⟨oc_leaves, od_leaves, .func (PySem.W.fnOf ("leaves" : Str) ("leaves" : Str) (defArgs s_leaves) (defBody s_leaves) (defScope s_leaves) .none kV_leaves dc_leaves pm_leaves an_leaves cd_leaves ct_leaves), sl_leaves⟩)
    (c_leaves : PySem.W.codeIn K cd_leaves ("leaves" : Str) = true)
    (k_leaves : PySem.W.keepIn K (.ref f_leaves) = true)
    {f_way_up : Addr}
    {od_way_up an_way_up : Option Addr}
    {sl_way_up : Array (Option Value)}
    {oc_way_up kV_way_up dc_way_up pm_way_up cd_way_up ct_way_up : Value}
    (a_way_up : PySem.W.nsIn K mainGlobals ("way_up" : Str) = some (some (.ref f_way_up)))
    (l_way_up : K.lookup f_way_up = some ⟨oc_way_up, od_way_up, .func (PySem.W.fnOf ("way_up" : Str) ("way_up" : Str) (defArgs s_way_up) (defBody s_way_up) (defScope s_way_up) .none kV_way_up dc_way_up pm_way_up an_way_up cd_way_up ct_way_up), sl_way_up⟩)
    (c_way_up : PySem.W.codeIn K cd_way_up ("way_up" : Str) = true)
    (k_way_up : PySem.W.keepIn K (.ref f_way_up) = true)
    {f_meeting : Addr}
    {od_meeting an_meeting : Option Addr}
    {sl_meeting : Array (Option Value)}
    {oc_meeting kV_meeting dc_meeting pm_meeting cd_meeting ct_meeting : Value}
    (a_meeting : PySem.W.nsIn K mainGlobals ("meeting" : Str) = some (some (.ref f_meeting)))
    (l_meeting : K.lookup f_meeting = some ⟨oc_meeting, od_meeting, .func (PySem.W.fnOf ("meeting" : Str) ("meeting" : Str) (defArgs s_meeting) (defBody s_meeting) (defScope s_meeting) .none kV_meeting dc_meeting pm_meeting an_meeting cd_meeting ct_meeting), sl_meeting⟩)
    (c_meeting : PySem.W.codeIn K cd_meeting ("meeting" : Str) = true)
    (k_meeting : PySem.W.keepIn K (.ref f_meeting) = true)
    {f_through : Addr}
    {od_through an_through : Option Addr}
    {sl_through : Array (Option Value)}
    {oc_through kV_through dc_through pm_through cd_through ct_through : Value}
    (a_through : PySem.W.nsIn K mainGlobals ("through" : Str) = some (some (.ref f_through)))
    (l_through : K.lookup f_through = some ⟨oc_through, od_through, .func (PySem.W.fnOf ("through" : Str) ("through" : Str) (defArgs s_through) (defBody s_through) (defScope s_through) .none kV_through dc_through pm_through an_through cd_through ct_through), sl_through⟩)
    (c_through : PySem.W.codeIn K cd_through ("through" : Str) = true)
    (k_through : PySem.W.keepIn K (.ref f_through) = true)
    {f__law_box : Addr}
    {od__law_box an__law_box : Option Addr}
    {sl__law_box : Array (Option Value)}
    {oc__law_box kV__law_box dc__law_box pm__law_box cd__law_box ct__law_box : Value}
    (a__law_box : PySem.W.nsIn K mainGlobals ("_law_box" : Str) = some (some (.ref f__law_box)))
    (l__law_box : K.lookup f__law_box = some ⟨oc__law_box, od__law_box, .func (PySem.W.fnOf ("_law_box" : Str) ("_law_box" : Str) (defArgs s__law_box) (defBody s__law_box) (defScope s__law_box) .none kV__law_box dc__law_box pm__law_box an__law_box cd__law_box ct__law_box), sl__law_box⟩)
    (c__law_box : PySem.W.codeIn K cd__law_box ("_law_box" : Str) = true)
    (k__law_box : PySem.W.keepIn K (.ref f__law_box) = true)
    {f__law_take : Addr}
    {od__law_take an__law_take : Option Addr}
    {sl__law_take : Array (Option Value)}
    {oc__law_take kV__law_take dc__law_take pm__law_take cd__law_take ct__law_take : Value}
    (a__law_take : PySem.W.nsIn K mainGlobals ("_law_take" : Str) = some (some (.ref f__law_take)))
    (l__law_take : K.lookup f__law_take = some ⟨oc__law_take, od__law_take, .func (PySem.W.fnOf ("_law_take" : Str) ("_law_take" : Str) (defArgs s__law_take) (defBody s__law_take) (defScope s__law_take) .none kV__law_take dc__law_take pm__law_take an__law_take cd__law_take ct__law_take), sl__law_take⟩)
    (c__law_take : PySem.W.codeIn K cd__law_take ("_law_take" : Str) = true)
    (k__law_take : PySem.W.keepIn K (.ref f__law_take) = true)
    {f__law_of : Addr}
    {od__law_of an__law_of : Option Addr}
    {sl__law_of : Array (Option Value)}
    {oc__law_of kV__law_of dc__law_of pm__law_of cd__law_of ct__law_of : Value}
    (a__law_of : PySem.W.nsIn K mainGlobals ("_law_of" : Str) = some (some (.ref f__law_of)))
    (l__law_of : K.lookup f__law_of = some ⟨oc__law_of, od__law_of, .func (PySem.W.fnOf ("_law_of" : Str) ("_law_of" : Str) (defArgs s__law_of) (defBody s__law_of) (defScope s__law_of) .none kV__law_of dc__law_of pm__law_of an__law_of cd__law_of ct__law_of), sl__law_of⟩)
    (c__law_of : PySem.W.codeIn K cd__law_of ("_law_of" : Str) = true)
    (k__law_of : PySem.W.keepIn K (.ref f__law_of) = true)
    {f__law_same : Addr}
    {od__law_same an__law_same : Option Addr}
    {sl__law_same : Array (Option Value)}
    {oc__law_same kV__law_same dc__law_same pm__law_same cd__law_same ct__law_same : Value}
    (a__law_same : PySem.W.nsIn K mainGlobals ("_law_same" : Str) = some (some (.ref f__law_same)))
    (l__law_same : K.lookup f__law_same = some ⟨oc__law_same, od__law_same, .func (PySem.W.fnOf ("_law_same" : Str) ("_law_same" : Str) (defArgs s__law_same) (defBody s__law_same) (defScope s__law_same) .none kV__law_same dc__law_same pm__law_same an__law_same cd__law_same ct__law_same), sl__law_same⟩)
    (c__law_same : PySem.W.codeIn K cd__law_same ("_law_same" : Str) = true)
    (k__law_same : PySem.W.keepIn K (.ref f__law_same) = true)
    {f__law_lists : Addr}
    {od__law_lists an__law_lists : Option Addr}
    {sl__law_lists : Array (Option Value)}
    {oc__law_lists kV__law_lists dc__law_lists pm__law_lists cd__law_lists ct__law_lists : Value}
    (a__law_lists : PySem.W.nsIn K mainGlobals ("_law_lists" : Str) = some (some (.ref f__law_lists)))
    (l__law_lists : K.lookup f__law_lists = some ⟨oc__law_lists, od__law_lists, .func (PySem.W.fnOf ("_law_lists" : Str) ("_law_lists" : Str) (defArgs s__law_lists) (defBody s__law_lists) (defScope s__law_lists) .none kV__law_lists dc__law_lists pm__law_lists an__law_lists cd__law_lists ct__law_lists), sl__law_lists⟩)
    (c__law_lists : PySem.W.codeIn K cd__law_lists ("_law_lists" : Str) = true)
    (k__law_lists : PySem.W.keepIn K (.ref f__law_lists) = true)
    {f__law_mixed : Addr}
    {od__law_mixed an__law_mixed : Option Addr}
    {sl__law_mixed : Array (Option Value)}
    {oc__law_mixed kV__law_mixed dc__law_mixed pm__law_mixed cd__law_mixed ct__law_mixed : Value}
    (a__law_mixed : PySem.W.nsIn K mainGlobals ("_law_mixed" : Str) = some (some (.ref f__law_mixed)))
    (l__law_mixed : K.lookup f__law_mixed = some ⟨oc__law_mixed, od__law_mixed, .func (PySem.W.fnOf ("_law_mixed" : Str) ("_law_mixed" : Str) (defArgs s__law_mixed) (defBody s__law_mixed) (defScope s__law_mixed) .none kV__law_mixed dc__law_mixed pm__law_mixed an__law_mixed cd__law_mixed ct__law_mixed), sl__law_mixed⟩)
    (c__law_mixed : PySem.W.codeIn K cd__law_mixed ("_law_mixed" : Str) = true)
    (k__law_mixed : PySem.W.keepIn K (.ref f__law_mixed) = true)
    {f__law_tags : Addr}
    {od__law_tags an__law_tags : Option Addr}
    {sl__law_tags : Array (Option Value)}
    {oc__law_tags kV__law_tags dc__law_tags pm__law_tags cd__law_tags ct__law_tags : Value}
    (a__law_tags : PySem.W.nsIn K mainGlobals ("_law_tags" : Str) = some (some (.ref f__law_tags)))
    (l__law_tags : K.lookup f__law_tags = some ⟨oc__law_tags, od__law_tags, .func (PySem.W.fnOf ("_law_tags" : Str) ("_law_tags" : Str) (defArgs s__law_tags) (defBody s__law_tags) (defScope s__law_tags) .none kV__law_tags dc__law_tags pm__law_tags an__law_tags cd__law_tags ct__law_tags), sl__law_tags⟩)
    (c__law_tags : PySem.W.codeIn K cd__law_tags ("_law_tags" : Str) = true)
    (k__law_tags : PySem.W.keepIn K (.ref f__law_tags) = true)
    {f__law_wood : Addr}
    {od__law_wood an__law_wood : Option Addr}
    {sl__law_wood : Array (Option Value)}
    {oc__law_wood kV__law_wood dc__law_wood pm__law_wood cd__law_wood ct__law_wood : Value}
    (a__law_wood : PySem.W.nsIn K mainGlobals ("_law_wood" : Str) = some (some (.ref f__law_wood)))
    (l__law_wood : K.lookup f__law_wood = some ⟨oc__law_wood, od__law_wood, .func (PySem.W.fnOf ("_law_wood" : Str) ("_law_wood" : Str) (defArgs s__law_wood) (defBody s__law_wood) (defScope s__law_wood) .none kV__law_wood dc__law_wood pm__law_wood an__law_wood cd__law_wood ct__law_wood), sl__law_wood⟩)
    (c__law_wood : PySem.W.codeIn K cd__law_wood ("_law_wood" : Str) = true)
    (k__law_wood : PySem.W.keepIn K (.ref f__law_wood) = true)
    {f__law_ups : Addr}
    {od__law_ups an__law_ups : Option Addr}
    {sl__law_ups : Array (Option Value)}
    {oc__law_ups kV__law_ups dc__law_ups pm__law_ups cd__law_ups ct__law_ups : Value}
    (a__law_ups : PySem.W.nsIn K mainGlobals ("_law_ups" : Str) = some (some (.ref f__law_ups)))
    (l__law_ups : K.lookup f__law_ups = some ⟨oc__law_ups, od__law_ups, .func (PySem.W.fnOf ("_law_ups" : Str) ("_law_ups" : Str) (defArgs s__law_ups) (defBody s__law_ups) (defScope s__law_ups) .none kV__law_ups dc__law_ups pm__law_ups an__law_ups cd__law_ups ct__law_ups), sl__law_ups⟩)
    (c__law_ups : PySem.W.codeIn K cd__law_ups ("_law_ups" : Str) = true)
    (k__law_ups : PySem.W.keepIn K (.ref f__law_ups) = true)
    {f__law_lost : Addr}
    {od__law_lost an__law_lost : Option Addr}
    {sl__law_lost : Array (Option Value)}
    {oc__law_lost kV__law_lost dc__law_lost pm__law_lost cd__law_lost ct__law_lost : Value}
    (a__law_lost : PySem.W.nsIn K mainGlobals ("_law_lost" : Str) = some (some (.ref f__law_lost)))
    (l__law_lost : K.lookup f__law_lost = some ⟨oc__law_lost, od__law_lost, .func (PySem.W.fnOf ("_law_lost" : Str) ("_law_lost" : Str) (defArgs s__law_lost) (defBody s__law_lost) (defScope s__law_lost) .none kV__law_lost dc__law_lost pm__law_lost an__law_lost cd__law_lost ct__law_lost), sl__law_lost⟩)
    (c__law_lost : PySem.W.codeIn K cd__law_lost ("_law_lost" : Str) = true)
    (k__law_lost : PySem.W.keepIn K (.ref f__law_lost) = true)
    {f__law_by_hand_right : Addr}
    {od__law_by_hand_right an__law_by_hand_right : Option Addr}
    {sl__law_by_hand_right : Array (Option Value)}
    {oc__law_by_hand_right kV__law_by_hand_right dc__law_by_hand_right pm__law_by_hand_right cd__law_by_hand_right ct__law_by_hand_right : Value}
    (a__law_by_hand_right : PySem.W.nsIn K mainGlobals ("_law_by_hand_right" : Str) = some (some (.ref f__law_by_hand_right)))
    (l__law_by_hand_right : K.lookup f__law_by_hand_right = some ⟨oc__law_by_hand_right, od__law_by_hand_right, .func (PySem.W.fnOf ("_law_by_hand_right" : Str) ("_law_by_hand_right" : Str) (defArgs s__law_by_hand_right) (defBody s__law_by_hand_right) (defScope s__law_by_hand_right) .none kV__law_by_hand_right dc__law_by_hand_right pm__law_by_hand_right an__law_by_hand_right cd__law_by_hand_right ct__law_by_hand_right), sl__law_by_hand_right⟩)
    (c__law_by_hand_right : PySem.W.codeIn K cd__law_by_hand_right ("_law_by_hand_right" : Str) = true)
    (k__law_by_hand_right : PySem.W.keepIn K (.ref f__law_by_hand_right) = true)
    {f__law_is_wood : Addr}
    {od__law_is_wood an__law_is_wood : Option Addr}
    {sl__law_is_wood : Array (Option Value)}
    {oc__law_is_wood kV__law_is_wood dc__law_is_wood pm__law_is_wood cd__law_is_wood ct__law_is_wood : Value}
    (a__law_is_wood : PySem.W.nsIn K mainGlobals ("_law_is_wood" : Str) = some (some (.ref f__law_is_wood)))
    (l__law_is_wood : K.lookup f__law_is_wood = some ⟨oc__law_is_wood, od__law_is_wood, .func (PySem.W.fnOf ("_law_is_wood" : Str) ("_law_is_wood" : Str) (defArgs s__law_is_wood) (defBody s__law_is_wood) (defScope s__law_is_wood) .none kV__law_is_wood dc__law_is_wood pm__law_is_wood an__law_is_wood cd__law_is_wood ct__law_is_wood), sl__law_is_wood⟩)
    (c__law_is_wood : PySem.W.codeIn K cd__law_is_wood ("_law_is_wood" : Str) = true)
    (k__law_is_wood : PySem.W.keepIn K (.ref f__law_is_wood) = true)
    {f__law_right : Addr}
    {od__law_right an__law_right : Option Addr}
    {sl__law_right : Array (Option Value)}
    {oc__law_right kV__law_right dc__law_right pm__law_right cd__law_right ct__law_right : Value}
    (a__law_right : PySem.W.nsIn K mainGlobals ("_law_right" : Str) = some (some (.ref f__law_right)))
    (l__law_right : K.lookup f__law_right = some ⟨oc__law_right, od__law_right, .func (PySem.W.fnOf ("_law_right" : Str) ("_law_right" : Str) (defArgs s__law_right) (defBody s__law_right) (defScope s__law_right) .none kV__law_right dc__law_right pm__law_right an__law_right cd__law_right ct__law_right), sl__law_right⟩)
    (c__law_right : PySem.W.codeIn K cd__law_right ("_law_right" : Str) = true)
    (k__law_right : PySem.W.keepIn K (.ref f__law_right) = true)
    {f__law_cells : Addr}
    {od__law_cells an__law_cells : Option Addr}
    {sl__law_cells : Array (Option Value)}
    {oc__law_cells kV__law_cells dc__law_cells pm__law_cells cd__law_cells ct__law_cells : Value}
    (a__law_cells : PySem.W.nsIn K mainGlobals ("_law_cells" : Str) = some (some (.ref f__law_cells)))
    (l__law_cells : K.lookup f__law_cells = some ⟨oc__law_cells, od__law_cells, .func (PySem.W.fnOf ("_law_cells" : Str) ("_law_cells" : Str) (defArgs s__law_cells) (defBody s__law_cells) (defScope s__law_cells) .none kV__law_cells dc__law_cells pm__law_cells an__law_cells cd__law_cells ct__law_cells), sl__law_cells⟩)
    (c__law_cells : PySem.W.codeIn K cd__law_cells ("_law_cells" : Str) = true)
    (k__law_cells : PySem.W.keepIn K (.ref f__law_cells) = true)
    {od_law an_law : Option Addr}
    {sl_law : Array (Option Value)}
    {oc_law kV_law dc_law pm_law cd_law ct_law : Value}
    {f_law : Addr}
    (a_law : PySem.W.nsIn K mainGlobals ("law" : Str) = some (some (.ref f_law)))
    (l_law : K.lookup f_law = some ⟨oc_law, od_law, .func (PySem.W.fnOf "law" "law" (defArgs s_law) (defBody s_law) (defScope s_law) .none kV_law dc_law pm_law an_law cd_law ct_law), sl_law⟩)
    (c_law : PySem.W.codeIn K cd_law "law" = true)
    (k_law : PySem.W.keepIn K (.ref f_law) = true)
    (hn : PySem.W.specialIn K (.builtin "object.__class__") "__get__" = some (some (.builtin "getset_descriptor.__get__")))
    (htk : PySem.W.takesIn K (.builtin "object.__class__") = some true)
    {f_eNoStream : Addr}
    {od_eNoStream an_eNoStream : Option Addr}
    {sl_eNoStream : Array (Option Value)}
    {oc_eNoStream kV_eNoStream dc_eNoStream pm_eNoStream cd_eNoStream ct_eNoStream : Value}
    {C_NoStream N_NoStream : Addr}
    {nm_NoStream qn_NoStream : Str}
    {bs_NoStream sb_NoStream : List Value}
    {sn_NoStream : List Str}
    {ab_NoStream : Bool}
    {co_NoStream : Option Bool}
    {dd_NoStream : Option Addr}
    {m0_NoStream m1_NoStream m2_NoStream m3_NoStream m5_NoStream : Option Value}
    (a_NoStream : PySem.W.nsIn K mainGlobals "NoStream" = some (some (.ref C_NoStream)))
    (x_NoStream : K.lookup C_NoStream = some (excClassObj nm_NoStream qn_NoStream C_NoStream N_NoStream bs_NoStream [.type "LookupError", .type "Exception", .type "BaseException", .type "object"] true sn_NoStream sb_NoStream ab_NoStream co_NoStream dd_NoStream m0_NoStream m1_NoStream m2_NoStream m3_NoStream m5_NoStream "LookupError.__new__"))
    (sa_NoStream : PySem.W.findIn K (.ref C_NoStream) "__setattr__" = some (some (.builtin "object.__setattr__")))
    (ga_NoStream : PySem.W.findIn K (.ref C_NoStream) "__getattribute__" = some (some (.builtin "BaseException.__getattribute__")))
    (gg_NoStream : PySem.W.findIn K (.ref C_NoStream) "__getattr__" = some none)
    (no_NoStream : PySem.W.findIn K (.ref C_NoStream) "name" = some none)
    (a_eNoStream : PySem.W.findIn K (.ref C_NoStream) "__init__" = some (some (.ref f_eNoStream)))
    (t_eNoStream : PySem.W.typeIn K (.ref f_eNoStream) = some (.type "function"))
    (l_eNoStream : K.lookup f_eNoStream = some ⟨oc_eNoStream, od_eNoStream, .func (PySem.W.fnOf ("__init__" : Str) ("NoStream.__init__" : Str) (defArgs s_NoStream___init__) (defBody s_NoStream___init__) (defScope s_NoStream___init__) .none kV_eNoStream dc_eNoStream pm_eNoStream an_eNoStream cd_eNoStream ct_eNoStream), sl_eNoStream⟩)
    (c_eNoStream : PySem.W.codeIn K cd_eNoStream ("NoStream.__init__" : Str) = true)
    (k_eNoStream : PySem.W.keepIn K (.ref f_eNoStream) = true)
    (kk_NoStream : PySem.W.keepIn K (.ref C_NoStream) = true)
    (eb_NoStream : PySem.W.subIn K (.ref C_NoStream) (.type "BaseException") = some true)
    (ty_NoStream : PySem.W.typeIn K (.ref C_NoStream) = some (.type "type"))
    (hd_NoStream : PySem.W.hasDictIn K C_NoStream = true)
    (is_NoStream : PySem.W.isClsIn K C_NoStream = true)
    (ss_NoStream : PySem.W.subIn K (.ref C_NoStream) (.ref C_NoStream) = some true)
    (cl_NoStream : PySem.W.findIn K (.ref C_NoStream) "__class__" = some (some (.builtin "object.__class__")))
    (ob_NoStream : PySem.W.mroIn K C_NoStream (.type "object") = some true)
    (lu_NoStream : PySem.W.subIn K (.ref C_NoStream) (.type "LookupError") = some true)
    {t_FLUSH : Tok}
    (g_FLUSH : PySem.W.nsIn K mainGlobals ("FLUSH" : Str) = some (some (.str ("flush" : Str) t_FLUSH)))
    {t_LETTERS : Tok}
    (g_LETTERS : PySem.W.nsIn K mainGlobals ("LETTERS" : Str) = some (some (.str ("abcdefghijklmnopqrstuvwxyz" : Str) t_LETTERS)))
    {t_MOST_BRANCHES : Tok}
    (g_MOST_BRANCHES : PySem.W.nsIn K mainGlobals ("MOST_BRANCHES" : Str) = some (some (.int (10) t_MOST_BRANCHES)))
    {t_SCREEN : Tok}
    (g_SCREEN : PySem.W.nsIn K mainGlobals ("SCREEN" : Str) = some (some (.str ("" : Str) t_SCREEN)))
    (z_LookupError : PySem.W.nsIn K mainGlobals ("LookupError" : Str) = some none)
    (z_abs : PySem.W.nsIn K mainGlobals ("abs" : Str) = some none)
    (z_all : PySem.W.nsIn K mainGlobals ("all" : Str) = some none)
    (z_bool : PySem.W.nsIn K mainGlobals ("bool" : Str) = some none)
    (z_dict : PySem.W.nsIn K mainGlobals ("dict" : Str) = some none)
    (z_enumerate : PySem.W.nsIn K mainGlobals ("enumerate" : Str) = some none)
    (z_int : PySem.W.nsIn K mainGlobals ("int" : Str) = some none)
    (z_isinstance : PySem.W.nsIn K mainGlobals ("isinstance" : Str) = some none)
    (z_len : PySem.W.nsIn K mainGlobals ("len" : Str) = some none)
    (z_list : PySem.W.nsIn K mainGlobals ("list" : Str) = some none)
    (z_max : PySem.W.nsIn K mainGlobals ("max" : Str) = some none)
    (z_range : PySem.W.nsIn K mainGlobals ("range" : Str) = some none)
    (z_set : PySem.W.nsIn K mainGlobals ("set" : Str) = some none)
    (z_sorted : PySem.W.nsIn K mainGlobals ("sorted" : Str) = some none)
    (z_str : PySem.W.nsIn K mainGlobals ("str" : Str) = some none)
    (z_tuple : PySem.W.nsIn K mainGlobals ("tuple" : Str) = some none)
    (z_zip : PySem.W.nsIn K mainGlobals ("zip" : Str) = some none)
    : ∃ fd : FuncData, (∀ (s : Shared) (v : Value), BindsTo s fd ⟨[v], []⟩ [("_law_script", v)]) ∧ ∀ base : Heap, K.In base → base.Ns mainGlobals mg → FnOk l.prog w K mg base CX0 8 fa fd ["_law_script"] (spLaw K) := by
  have e := hfa.symm.trans (PySem.W.mg_of X G0 a_law)
  cases e
  have T : Tx mg := ⟨PySem.W.mg_none_of X G0 z_LookupError, PySem.W.mg_none_of X G0 z_abs, PySem.W.mg_none_of X G0 z_all, PySem.W.mg_none_of X G0 z_bool, PySem.W.mg_none_of X G0 z_dict, PySem.W.mg_none_of X G0 z_enumerate, PySem.W.mg_none_of X G0 z_int, PySem.W.mg_none_of X G0 z_isinstance, PySem.W.mg_none_of X G0 z_len, PySem.W.mg_none_of X G0 z_list, PySem.W.mg_none_of X G0 z_max, PySem.W.mg_none_of X G0 z_range, PySem.W.mg_none_of X G0 z_set, PySem.W.mg_none_of X G0 z_sorted, PySem.W.mg_none_of X G0 z_str, PySem.W.mg_none_of X G0 z_tuple, PySem.W.mg_none_of X G0 z_zip, ⟨_, PySem.W.mg_of X G0 g_FLUSH⟩, ⟨_, PySem.W.mg_of X G0 g_LETTERS⟩, ⟨_, PySem.W.mg_of X G0 g_MOST_BRANCHES⟩, ⟨_, PySem.W.mg_of X G0 g_SCREEN⟩⟩
  have F_is_pair_ := fun_mk (st := s_is_pair) l_is_pair c_is_pair k_is_pair
  have b_is_pair := F_is_pair_.binds (ps := [("thing" : Str)]) fun _ _ _ _ _ _ us hl => match us, hl with | [_], _ => rfl
  have F_is_name_ := fun_mk (st := s_is_name) l_is_name c_is_name k_is_name
  have b_is_name := F_is_name_.binds (ps := [("thing" : Str)]) fun _ _ _ _ _ _ us hl => match us, hl with | [_], _ => rfl
  have F_is_branch_ := fun_mk (st := s_is_branch) l_is_branch c_is_branch k_is_branch
  have b_is_branch := F_is_branch_.binds (ps := [("thing" : Str)]) fun _ _ _ _ _ _ us hl => match us, hl with | [_], _ => rfl
  have F_climb_ := fun_mk (st := s_climb) l_climb c_climb k_climb
  have b_climb := F_climb_.binds (ps := [("above" : Str), ("name" : Str)]) fun _ _ _ _ _ _ us hl => match us, hl with | [_, _], _ => rfl
  have F_is_tree_ := fun_mk (st := s_is_tree) l_is_tree c_is_tree k_is_tree
  have b_is_tree := F_is_tree_.binds (ps := [("thing" : Str)]) fun _ _ _ _ _ _ us hl => match us, hl with | [_], _ => rfl
  have F_leaves_ := fun_mk (st := s_leaves) l_leaves c_leaves k_leaves
  have b_leaves := F_leaves_.binds (ps := [("tree" : Str)]) fun _ _ _ _ _ _ us hl => match us, hl with | [_], _ => rfl
  have F_way_up_ := fun_mk (st := s_way_up) l_way_up c_way_up k_way_up
  have b_way_up := F_way_up_.binds (ps := [("tree" : Str), ("name" : Str)]) fun _ _ _ _ _ _ us hl => match us, hl with | [_, _], _ => rfl
  have F_meeting_ := fun_mk (st := s_meeting) l_meeting c_meeting k_meeting
  have b_meeting := F_meeting_.binds (ps := [("tree" : Str), ("one" : Str), ("other" : Str)]) fun _ _ _ _ _ _ us hl => match us, hl with | [_, _, _], _ => rfl
  have F_through_ := fun_mk (st := s_through) l_through c_through k_through
  have b_through := F_through_.binds (ps := [("tree" : Str), ("name" : Str)]) fun _ _ _ _ _ _ us hl => match us, hl with | [_, _], _ => rfl
  have F__law_box_ := fun_mk (st := s__law_box) l__law_box c__law_box k__law_box
  have b__law_box := F__law_box_.binds (ps := [("_law_script" : Str), ("_law_k" : Str)]) fun _ _ _ _ _ _ us hl => match us, hl with | [_, _], _ => rfl
  have F__law_take_ := fun_mk (st := s__law_take) l__law_take c__law_take k__law_take
  have b__law_take := F__law_take_.binds (ps := [("_law_urn" : Str), ("_law_low_so" : Str)]) fun _ _ _ _ _ _ us hl => match us, hl with | [_, _], _ => rfl
  have F__law_of_ := fun_mk (st := s__law_of) l__law_of c__law_of k__law_of
  have b__law_of := F__law_of_.binds (ps := [("_law_urn" : Str), ("_law_some_so" : Str)]) fun _ _ _ _ _ _ us hl => match us, hl with | [_, _], _ => rfl
  have F__law_same_ := fun_mk (st := s__law_same) l__law_same c__law_same k__law_same
  have b__law_same := F__law_same_.binds (ps := [("_law_got" : Str), ("_law_goal" : Str)]) fun _ _ _ _ _ _ us hl => match us, hl with | [_, _], _ => rfl
  have F__law_lists_ := fun_mk (st := s__law_lists) l__law_lists c__law_lists k__law_lists
  have b__law_lists := F__law_lists_.binds (ps := [("_law_thing_so" : Str)]) fun _ _ _ _ _ _ us hl => match us, hl with | [_], _ => rfl
  have F__law_mixed_ := fun_mk (st := s__law_mixed) l__law_mixed c__law_mixed k__law_mixed
  have b__law_mixed := F__law_mixed_.binds (ps := [("_law_urn" : Str), ("_law_pool" : Str)]) fun _ _ _ _ _ _ us hl => match us, hl with | [_, _], _ => rfl
  have F__law_tags_ := fun_mk (st := s__law_tags) l__law_tags c__law_tags k__law_tags
  have b__law_tags := F__law_tags_.binds (ps := [("_law_urn" : Str), ("_law_many_so" : Str)]) fun _ _ _ _ _ _ us hl => match us, hl with | [_, _], _ => rfl
  have F__law_wood_ := fun_mk (st := s__law_wood) l__law_wood c__law_wood k__law_wood
  have b__law_wood := F__law_wood_.binds (ps := [("_law_urn" : Str), ("_law_many_so" : Str)]) fun _ _ _ _ _ _ us hl => match us, hl with | [_, _], _ => rfl
  have F__law_ups_ := fun_mk (st := s__law_ups) l__law_ups c__law_ups k__law_ups
  have b__law_ups := F__law_ups_.binds (ps := [("_law_wood_so" : Str), ("_law_own" : Str)]) fun _ _ _ _ _ _ us hl => match us, hl with | [_, _], _ => rfl
  have F__law_lost_ := fun_mk (st := s__law_lost) l__law_lost c__law_lost k__law_lost
  have b__law_lost := F__law_lost_.binds (ps := [("_law_door" : Str), ("_law_wood_so" : Str), ("_law_own" : Str), ("_law_bit" : Str)]) fun _ _ _ _ _ _ us hl => match us, hl with | [_, _, _, _], _ => rfl
  have F__law_by_hand_right_ := fun_mk (st := s__law_by_hand_right) l__law_by_hand_right c__law_by_hand_right k__law_by_hand_right
  have b__law_by_hand_right := F__law_by_hand_right_.binds (ps := []) fun _ _ _ _ _ _ us hl => match us, hl with | [], _ => rfl
  have F__law_is_wood_ := fun_mk (st := s__law_is_wood) l__law_is_wood c__law_is_wood k__law_is_wood
  have b__law_is_wood := F__law_is_wood_.binds (ps := [("_law_wood_so" : Str)]) fun _ _ _ _ _ _ us hl => match us, hl with | [_], _ => rfl
  have F__law_right_ := fun_mk (st := s__law_right) l__law_right c__law_right k__law_right
  have b__law_right := F__law_right_.binds (ps := [("_law_urn" : Str)]) fun _ _ _ _ _ _ us hl => match us, hl with | [_], _ => rfl
  have F__law_cells_ := fun_mk (st := s__law_cells) l__law_cells c__law_cells k__law_cells
  have b__law_cells := F__law_cells_.binds (ps := [("_law_script" : Str), ("_law_top" : Str)]) fun _ _ _ _ _ _ us hl => match us, hl with | [_, _], _ => rfl
  have F_law_ := fun_mk (st := s_law) l_law c_law k_law
  have F_eNoStream_ := fun_mk (st := s_NoStream___init__) l_eNoStream c_eNoStream k_eNoStream
  have b_eNoStream := F_eNoStream_.binds (ps := [("self" : Str), ("name" : Str)]) fun _ _ _ _ _ _ us hl => match us, hl with | [_, _], _ => rfl
  have EO_NoStream : ErOk K C_NoStream := ⟨⟨ga_NoStream, gg_NoStream, eb_NoStream, hd_NoStream, cl_NoStream, hn, htk, ob_NoStream⟩, ⟨ga_NoStream, gg_NoStream, eb_NoStream, hd_NoStream⟩, exm_self eb_NoStream is_NoStream ty_NoStream ss_NoStream⟩
  have OX_NoStream : OxC K C_NoStream "LookupError" "LookupError.__new__" "LookupError.__init__" [.type "LookupError", .type "Exception", .type "BaseException", .type "object"] := ⟨PySem.F.excBase_LookupError, PySem.F.store_LookupError, ⟨_, _, _, _, _, _, _, _, _, _, _, _, _, _, x_NoStream⟩, sa_NoStream, eb_NoStream, ty_NoStream, kk_NoStream⟩
  let G : Gx K := ⟨fun _ => none, fun c C2 h2 => (by cases h2), fun c => if c = ("NoStream" : Str) then some C_NoStream else none, fun c C2 h2 => (by
    split at h2
    · cases h2; exact EO_NoStream
    · cases h2), fun y => none, some (l.prog, w)⟩
  have hG : G.pw = some (l.prog, w) := rfl
  have hGE_NoStream : G.exc "NoStream" = some C_NoStream := by
    show (if ("NoStream" : Str) = ("NoStream" : Str) then some C_NoStream else none) = some C_NoStream
    rw [if_pos rfl]
  have mgo : ∀ {x : Str} {f : Addr}, PySem.W.nsIn K mainGlobals x = some (some (.ref f)) → mg x = some (.ref f) := fun h => PySem.W.mg_of X G0 h
  have HE_NoStream : ∃ C, G.exc ("NoStream" : Str) = some C ∧ mg ("NoStream" : Str) = some (.ref C) := ⟨C_NoStream, hGE_NoStream, mgo a_NoStream⟩
  have XF_NoStream_name : ∀ C, G.exc ("NoStream" : Str) = some C → PySem.W.findIn K (.ref C) ("name" : Str) = some none := fun C2 h2 => by cases hGE_NoStream.symm.trans h2; exact no_NoStream
  have KI_NoStream_LookupError : ∀ C, G.exc ("NoStream" : Str) = some C → PySem.W.kitOne K (.ref C) (.type "LookupError") = some true := fun C2 h2 => by cases hGE_NoStream.symm.trans h2; exact kit_sub lu_NoStream (by decide +kernel)
  refine ⟨PySem.W.fnOf "law" "law" (defArgs s_law) (defBody s_law) (defScope s_law) .none kV_law dc_law pm_law an_law cd_law ct_law, fun s v => .of_eq rfl, fun base _ _ => ?_⟩
  have D_is_pair : DefOk l.prog w mg base G "is_pair" 1 1 F_is_pair := ⟨_, _, _, ok_is_pair T F_is_pair_, mgo a_is_pair, k_is_pair, b_is_pair⟩
  have D_is_name : DefOk l.prog w mg base G "is_name" 1 1 F_is_name := ⟨_, _, _, ok_is_name T F_is_name_, mgo a_is_name, k_is_name, b_is_name⟩
  have D_is_branch : DefOk l.prog w mg base G "is_branch" 2 1 F_is_branch := ⟨_, _, _, ok_is_branch T F_is_branch_ D_is_name D_is_pair, mgo a_is_branch, k_is_branch, b_is_branch⟩
  have D_climb : DefOk l.prog w mg base G "climb" 1 2 F_climb := ⟨_, _, _, ok_climb T F_climb_, mgo a_climb, k_climb, b_climb⟩
  have D_is_tree : DefOk l.prog w mg base G "is_tree" 3 1 F_is_tree := ⟨_, _, _, ok_is_tree T F_is_tree_ D_climb D_is_branch, mgo a_is_tree, k_is_tree, b_is_tree⟩
  have KP_is_tree_0 : DefKp l.prog w mg base G "is_tree" [("thing" : Str)] [0] 3 F_is_tree := ⟨_, _, _, ok_is_tree T F_is_tree_ D_climb D_is_branch, mgo a_is_tree, k_is_tree, fun s ws _ hl => match ws, hl with | [_], _ => .of_eq rfl⟩
  have D_leaves : DefOk l.prog w mg base G "leaves" 1 1 F_leaves := ⟨_, _, _, ok_leaves T F_leaves_, mgo a_leaves, k_leaves, b_leaves⟩
  have KP_leaves_0 : DefKp l.prog w mg base G "leaves" [("tree" : Str)] [0] 1 F_leaves := ⟨_, _, _, ok_leaves T F_leaves_, mgo a_leaves, k_leaves, fun s ws _ hl => match ws, hl with | [_], _ => .of_eq rfl⟩
  have E_NoStream : ErMk l.prog w mg base G "NoStream" "name" 1 F_NoStream := ⟨C_NoStream, f_eNoStream, _, _, _, _, _, _, OX_NoStream, a_eNoStream, t_eNoStream, ok_NoStream___init__ T OX_NoStream no_NoStream F_eNoStream_, b_eNoStream, mgo a_NoStream, hGE_NoStream⟩
  have DX_way_up : DefOkX l.prog w mg base G "way_up" 3 2 F_way_up := ⟨_, _, _, ok_way_up T F_way_up_ E_NoStream D_climb, mgo a_way_up, k_way_up, b_way_up⟩
  have KP_way_up_1_0 : DefKp l.prog w mg base G "way_up" [("name" : Str), ("tree" : Str)] [1, 0] 3 (okF F_way_up) := ⟨_, _, _, fn_calm (ok_way_up T F_way_up_ E_NoStream D_climb), mgo a_way_up, k_way_up, fun s ws _ hl => match ws, hl with | [_, _], _ => .of_eq rfl⟩
  have DX_meeting : DefOkX l.prog w mg base G "meeting" 4 3 F_meeting := ⟨_, _, _, ok_meeting T F_meeting_ DX_way_up, mgo a_meeting, k_meeting, b_meeting⟩
  have KP_meeting_2_1_0 : DefKp l.prog w mg base G "meeting" [("other" : Str), ("one" : Str), ("tree" : Str)] [2, 1, 0] 4 (okF F_meeting) := ⟨_, _, _, fn_calm (ok_meeting T F_meeting_ DX_way_up), mgo a_meeting, k_meeting, fun s ws _ hl => match ws, hl with | [_, _, _], _ => .of_eq rfl⟩
  have DX_through : DefOkX l.prog w mg base G "through" 4 2 F_through := ⟨_, _, _, ok_through T F_through_ DX_way_up, mgo a_through, k_through, b_through⟩
  have KP_through_1_0 : DefKp l.prog w mg base G "through" [("name" : Str), ("tree" : Str)] [1, 0] 4 (okF F_through) := ⟨_, _, _, fn_calm (ok_through T F_through_ DX_way_up), mgo a_through, k_through, fun s ws _ hl => match ws, hl with | [_, _], _ => .of_eq rfl⟩
  have D__law_box : DefOk l.prog w mg base G "_law_box" 1 2 F__law_box := ⟨_, _, _, ok__law_box T F__law_box_, mgo a__law_box, k__law_box, b__law_box⟩
  have D__law_take : DefOk l.prog w mg base G "_law_take" 1 2 F__law_take := ⟨_, _, _, ok__law_take T F__law_take_, mgo a__law_take, k__law_take, b__law_take⟩
  have D__law_of : DefOk l.prog w mg base G "_law_of" 2 2 F__law_of := ⟨_, _, _, ok__law_of T F__law_of_ D__law_take, mgo a__law_of, k__law_of, b__law_of⟩
  have D__law_same : DefOk l.prog w mg base G "_law_same" 6 2 (FR__law_same 6) := ⟨_, _, _, okR__law_same T F__law_same_ (mgo a__law_same) b__law_same 6, mgo a__law_same, k__law_same, b__law_same⟩
  have D__law_lists : DefOk l.prog w mg base G "_law_lists" 6 1 (FR__law_lists 6) := ⟨_, _, _, okR__law_lists T F__law_lists_ (mgo a__law_lists) b__law_lists 6, mgo a__law_lists, k__law_lists, b__law_lists⟩
  have D__law_mixed : DefOk l.prog w mg base G "_law_mixed" 2 2 F__law_mixed := ⟨_, _, _, ok__law_mixed T F__law_mixed_ D__law_take, mgo a__law_mixed, k__law_mixed, b__law_mixed⟩
  have D__law_tags : DefOk l.prog w mg base G "_law_tags" 3 2 F__law_tags := ⟨_, _, _, ok__law_tags T F__law_tags_ D__law_of D__law_take, mgo a__law_tags, k__law_tags, b__law_tags⟩
  have D__law_wood : DefOk l.prog w mg base G "_law_wood" 4 2 F__law_wood := ⟨_, _, _, ok__law_wood T F__law_wood_ D__law_mixed D__law_of D__law_tags, mgo a__law_wood, k__law_wood, b__law_wood⟩
  have D__law_ups : DefOk l.prog w mg base G "_law_ups" 1 2 F__law_ups := ⟨_, _, _, ok__law_ups T F__law_ups_, mgo a__law_ups, k__law_ups, b__law_ups⟩
  have D__law_lost : DefOk l.prog w mg base G "_law_lost" 5 4 F__law_lost := ⟨_, _, _, ok__law_lost T F__law_lost_ HE_NoStream XF_NoStream_name KI_NoStream_LookupError DX_meeting DX_through DX_way_up, mgo a__law_lost, k__law_lost, b__law_lost⟩
  have D__law_by_hand_right : DefOk l.prog w mg base G "_law_by_hand_right" 7 0 F__law_by_hand_right := ⟨_, _, _, ok__law_by_hand_right T F__law_by_hand_right_ DX_meeting DX_through DX_way_up D__law_lists D__law_lost D__law_same D_is_tree D_leaves KP_is_tree_0 KP_leaves_0 KP_meeting_2_1_0 KP_through_1_0 KP_way_up_1_0, mgo a__law_by_hand_right, k__law_by_hand_right, b__law_by_hand_right⟩
  have D__law_is_wood : DefOk l.prog w mg base G "_law_is_wood" 1 1 F__law_is_wood := ⟨_, _, _, ok__law_is_wood T F__law_is_wood_, mgo a__law_is_wood, k__law_is_wood, b__law_is_wood⟩
  have D__law_right : DefOk l.prog w mg base G "_law_right" 7 1 F__law_right := ⟨_, _, _, ok__law_right T F__law_right_ DX_meeting DX_through DX_way_up D__law_is_wood D__law_lists D__law_lost D__law_of D__law_same D__law_take D__law_ups D__law_wood D_is_tree D_leaves, mgo a__law_right, k__law_right, b__law_right⟩
  exact ok_law T F_law_ (ok__law_cells F__law_cells_ T.n_list T.n_enumerate T.n_int) (mgo a__law_cells) k__law_cells b__law_cells (D__law_by_hand_right.mono (by decide)) (D__law_right.mono (by decide)) (D__law_box.mono (by decide))
end Lw13
open PySem PySem.W PyProof.Rows
set_option maxHeartbeats 0 in
theorem PySem.Challenge.cw_lateshown_k13_trees_of_streams_holds : PySem.Challenge.rw_lateshown_k13_trees_of_streams.Holds := by
  w_on; o_law; k_head; (case hw => w_witness2)
  k_fill
  refine L2.walk_of (l := PySem.Challenge.rw_lateshown_k13_trees_of_streams) (n := 63) (k := 8) (x := "_law_script") (CX := fun _ => L2.CX0) (sp := fun w => Lw13.spLaw _) rfl (by decide) rfl ⟨rfl, by decide, by decide⟩ (fun w h Y => PySem.W.kIn_of Y) ?F (fun _ _ a ns hl _ hS => ⟨a, ns, rfl, hS, hl, fun _ => rfl⟩) (fun _ _ _ _ _ h => h)
  case F =>
    intro w mg fa h KX G hmg
    refine' Lw13.all_mk KX G hmg ?a_is_pair ?l_is_pair ?c_is_pair ?k_is_pair ?a_is_name ?l_is_name ?c_is_name ?k_is_name ?a_is_branch ?l_is_branch ?c_is_branch ?k_is_branch ?a_climb ?l_climb ?c_climb ?k_climb ?a_is_tree ?l_is_tree ?c_is_tree ?k_is_tree ?a_leaves ?l_leaves ?c_leaves ?k_leaves ?a_way_up ?l_way_up ?c_way_up ?k_way_up ?a_meeting ?l_meeting ?c_meeting ?k_meeting ?a_through ?l_through ?c_through ?k_through ?a__law_box ?l__law_box ?c__law_box ?k__law_box ?a__law_take ?l__law_take ?c__law_take ?k__law_take ?a__law_of ?l__law_of ?c__law_of ?k__law_of ?a__law_same ?l__law_same ?c__law_same ?k__law_same ?a__law_lists ?l__law_lists ?c__law_lists ?k__law_lists ?a__law_mixed ?l__law_mixed ?c__law_mixed ?k__law_mixed ?a__law_tags ?l__law_tags ?c__law_tags ?k__law_tags ?a__law_wood ?l__law_wood ?c__law_wood ?k__law_wood ?a__law_ups ?l__law_ups ?c__law_ups ?k__law_ups ?a__law_lost ?l__law_lost ?c__law_lost ?k__law_lost ?a__law_by_hand_right ?l__law_by_hand_right ?c__law_by_hand_right ?k__law_by_hand_right ?a__law_is_wood ?l__law_is_wood ?c__law_is_wood ?k__law_is_wood ?a__law_right ?l__law_right ?c__law_right ?k__law_right ?a__law_cells ?l__law_cells ?c__law_cells ?k__law_cells ?a_law ?l_law ?c_law ?k_law ?hn ?htk ?a_NoStream ?x_NoStream ?sa_NoStream ?ga_NoStream ?gg_NoStream ?no_NoStream ?a_eNoStream ?t_eNoStream ?l_eNoStream ?c_eNoStream ?k_eNoStream ?kk_NoStream ?eb_NoStream ?ty_NoStream ?hd_NoStream ?is_NoStream ?ss_NoStream ?cl_NoStream ?ob_NoStream ?lu_NoStream ?g_FLUSH ?g_LETTERS ?g_MOST_BRANCHES ?g_SCREEN ?z_LookupError ?z_abs ?z_all ?z_bool ?z_dict ?z_enumerate ?z_int ?z_isinstance ?z_len ?z_list ?z_max ?z_range ?z_set ?z_sorted ?z_str ?z_tuple ?z_zip
    (case a_is_pair => k_is)
    (case l_is_pair => k_is)
    (case c_is_pair => k_is)
    (case k_is_pair => k_is)
    (case a_is_name => k_is)
    (case l_is_name => k_is)
    (case c_is_name => k_is)
    (case k_is_name => k_is)
    (case a_is_branch => k_is)
    (case l_is_branch => k_is)
    (case c_is_branch => k_is)
    (case k_is_branch => k_is)
    (case a_climb => k_is)
    (case l_climb => k_is)
    (case c_climb => k_is)
    (case k_climb => k_is)
    (case a_is_tree => k_is)
    (case l_is_tree => k_is)
    (case c_is_tree => k_is)
    (case k_is_tree => k_is)
    (case a_leaves => k_is)
    (case l_leaves => k_is)
    (case c_leaves => k_is)
    (case k_leaves => k_is)
    (case a_way_up => k_is)
    (case l_way_up => k_is)
    (case c_way_up => k_is)
    (case k_way_up => k_is)
    (case a_meeting => k_is)
    (case l_meeting => k_is)
    (case c_meeting => k_is)
    (case k_meeting => k_is)
    (case a_through => k_is)
    (case l_through => k_is)
    (case c_through => k_is)
    (case k_through => k_is)
    (case a__law_box => k_is)
    (case l__law_box => k_is)
    (case c__law_box => k_is)
    (case k__law_box => k_is)
    (case a__law_take => k_is)
    (case l__law_take => k_is)
    (case c__law_take => k_is)
    (case k__law_take => k_is)
    (case a__law_of => k_is)
    (case l__law_of => k_is)
    (case c__law_of => k_is)
    (case k__law_of => k_is)
    (case a__law_same => k_is)
    (case l__law_same => k_is)
    (case c__law_same => k_is)
    (case k__law_same => k_is)
    (case a__law_lists => k_is)
    (case l__law_lists => k_is)
    (case c__law_lists => k_is)
    (case k__law_lists => k_is)
    (case a__law_mixed => k_is)
    (case l__law_mixed => k_is)
    (case c__law_mixed => k_is)
    (case k__law_mixed => k_is)
    (case a__law_tags => k_is)
    (case l__law_tags => k_is)
    (case c__law_tags => k_is)
    (case k__law_tags => k_is)
    (case a__law_wood => k_is)
    (case l__law_wood => k_is)
    (case c__law_wood => k_is)
    (case k__law_wood => k_is)
    (case a__law_ups => k_is)
    (case l__law_ups => k_is)
    (case c__law_ups => k_is)
    (case k__law_ups => k_is)
    (case a__law_lost => k_is)
    (case l__law_lost => k_is)
    (case c__law_lost => k_is)
    (case k__law_lost => k_is)
    (case a__law_by_hand_right => k_is)
    (case l__law_by_hand_right => k_is)
    (case c__law_by_hand_right => k_is)
    (case k__law_by_hand_right => k_is)
    (case a__law_is_wood => k_is)
    (case l__law_is_wood => k_is)
    (case c__law_is_wood => k_is)
    (case k__law_is_wood => k_is)
    (case a__law_right => k_is)
    (case l__law_right => k_is)
    (case c__law_right => k_is)
    (case k__law_right => k_is)
    (case a__law_cells => k_is)
    (case l__law_cells => k_is)
    (case c__law_cells => k_is)
    (case k__law_cells => k_is)
    (case a_law => k_is)
    (case l_law => k_is)
    (case c_law => k_is)
    (case k_law => k_is)
    (case hn => k_is)
    (case htk => k_is)
    (case a_NoStream => k_is)
    (case x_NoStream => k_is)
    (case sa_NoStream => k_is)
    (case ga_NoStream => k_is)
    (case gg_NoStream => k_is)
    (case no_NoStream => k_is)
    (case a_eNoStream => k_is)
    (case t_eNoStream => k_is)
    (case l_eNoStream => k_is)
    (case c_eNoStream => k_is)
    (case k_eNoStream => k_is)
    (case kk_NoStream => k_is)
    (case eb_NoStream => k_is)
    (case ty_NoStream => k_is)
    (case hd_NoStream => k_is)
    (case is_NoStream => k_is)
    (case ss_NoStream => first | rfl | k_is)
    (case cl_NoStream => k_is)
    (case ob_NoStream => k_is)
    (case lu_NoStream => k_is)
    (case g_FLUSH => k_is)
    (case g_LETTERS => k_is)
    (case g_MOST_BRANCHES => k_is)
    (case g_SCREEN => k_is)
    (case z_LookupError => k_is)
    (case z_abs => k_is)
    (case z_all => k_is)
    (case z_bool => k_is)
    (case z_dict => k_is)
    (case z_enumerate => k_is)
    (case z_int => k_is)
    (case z_isinstance => k_is)
    (case z_len => k_is)
    (case z_list => k_is)
    (case z_max => k_is)
    (case z_range => k_is)
    (case z_set => k_is)
    (case z_sorted => k_is)
    (case z_str => k_is)
    (case z_tuple => k_is)
    (case z_zip => k_is)
