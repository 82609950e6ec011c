import PyProof.Rows.All
import Wide.All
import OpenK.AllK
import Wide.FinOn
import HandS.ForMost
import HandS.Conv
import HandS.TupAny
import HandS.Lambda
import KE.KDictKeyed
import HandS.HeadHook1
import HandS.Exc
import HandS.TryOnly
import HandS.ExcOwn
import HandS.WordsExc
import HandS.Wide
import HandS.SortInts
import HandS.More
import HandS.ExcIs
import HandS.Defaults
import HandS.HeadHook2
import HandS.HeadEnd
import HandS.EndTab
import HandS.HeadHook3
import HandS.Head3
import HandS.Strs
import HandS.IsInst
import KE.DataMinMax
import HandS.Head0
import HandS.Head1
import HandS.Head2
import HandS.DictComp
import PyProof.CollectIter
import PyProof.WalksMore
import HandS.Zip
import KE.GoesMore
import HandS.Gcd
import HandS.RevRange
import HandS.SortKw
import HandS.Style
import HandS.SetFor
import HandS.TupLe
import PyProof.DictUpdate
import PyProof.P3In
import HandS.CallLocal
import KE.KMathGC
import PySem.Challenge.RW_turnedrows_k15_whole_rows_at_each_distan
set_option Elab.async false
set_option linter.all false
set_option maxRecDepth 100000
set_option maxHeartbeats 2000000
/-! tuples whose object is known to bear no dict of its own -/
namespace Pu
open PySem PySem.Spec PyProof.Rows L2
def TupD (K : PySem.W.Frag) (H : Hp) (a : Addr) (xs : List V) : Prop := (∃ o : Obj, H a = some (.frz o (.tup xs)) ∧ o.dict = none) ∨
  ∃ (o : Obj) (its : Array Value) (n : Nat), K.lookup a = some o ∧ o.cls = .type "tuple" ∧ o.dict = none ∧ o.data = .seq its n ∧ its.size ≤ sizeLine ∧ Vals xs its.toList
theorem TupD.sq {K : PySem.W.Frag} {H : Hp} {a : Addr} {xs : List V} (h : TupD K H a xs) : SqT K H a xs := by
  rcases h with ⟨o, h, _⟩ | ⟨o, its, n, h1, h2, _, h3, h4, h5⟩
  · exact .inl (.inr ⟨o, h⟩)
  · exact .inr ⟨o, its, n, h1, h2, h3, h4, h5⟩
/-- a new tuple at p -/
abbrev NewT (Q : VK) (H : Hp) (xs : List V) : Prop := ∀ (p : Addr) (o : Obj), H p = none → o.dict = none → Q (.ref p) (upd H p (.frz o (.tup xs)))
section
variable {X : Cx} {pins : List (Addr × Obj)} {σ : L2.St} {H : Hp} {s : Shared}
theorem Inv.tupNew {h' : Heap} {its : List Value} {xs : List V} {Q : VK} {tk : Nat} (I1 : Inv X pins σ H { s with heap := h', toks := tk }) (r : Vals xs its) (hz : xs.length ≤ sizeLine) (q : NewT Q H xs) :
    EP X pins σ Q (.ref h'.objs.size) { s with heap := h'.push { cls := .type "tuple", data := .seq its.toArray }, toks := tk } := by
  refine ⟨.ref h'.objs.size, upd H h'.objs.size (.frz { cls := .type "tuple", data := .seq its.toArray } (.tup xs)), ?_, rfl, q _ _ (I1.hok.fresh (Nat.le_refl _)) rfl⟩
  exact I1.laid (t' := tk) (fun b o e => Heap.get?_push_of_some _ e) (Nat.le_refl _) ⟨Heap.get?_push_size _ rfl, hz, its, r, IsTup.new _ _⟩
def tTupF (t : TA) : TE := fun σ H Q => t σ H fun xs H1 => xs.length ≤ sizeLine ∧ NewT Q H1 xs
theorem pe_tupF {es : List Expr} {x1 : Nat} {pos : Pos} {t : TA} (h : PA X es t) : PE X (.Tuple es x1 pos) (tTupF t) := by
  refine ⟨fun pins s σ H Q I hq => wpAny_Tuple_spliced (thn (h.run pos pins s σ H _ I hq) ?_)⟩
  rintro us s1 ⟨xs, H1, I1, r, z, q⟩
  exact ⟨by rw [← r.length]; exact z, Inv.tupNew (h' := s1.heap) (tk := s1.toks) I1 r z q⟩
def rSlF (K : PySem.W.Frag) : V → Option Int → Option Int → Hp → VK → Prop := fun x lo hi H Q => ∃ a xs, x = .ref a ∧ SqT K H a xs ∧
  ((HT.sIx xs.length 0 lo = 0 ∧ HT.sIx xs.length xs.length hi = xs.length) → Q (.ref a) H) ∧ (¬ (HT.sIx xs.length 0 lo = 0 ∧ HT.sIx xs.length xs.length hi = xs.length) → NewT Q H (cutV xs lo hi))
theorem sl_tupF : SlR X (rSlF X.K) := by
  intro pins s σ H x v vl vu lo hi sl Q I rx hs pl pu h
  obtain ⟨a, xs, rfl, hx, q1, q2⟩ := h
  cases rx
  obtain ⟨its, r, ht, hz⟩ := I.tuple hx
  have hlen : its.toArray.size = xs.length := by
    rw [List.size_toArray]
    exact r.length.symm
  refine ⟨"tuple", _, PyProof.Rows.slot_tuple_getitem.lookup, ht.typeIs, ?_⟩
  by_cases hw : HT.sIx xs.length 0 lo = 0 ∧ HT.sIx xs.length xs.length hi = xs.length
  · exact getItem_tuple_whole ht hs pl pu (by rw [hlen]; exact hw) ⟨.ref a, H, I, rfl, q1 hw⟩
  · refine HT.getItem_tuple_cut ht hs pl pu (by rw [hlen]; exact hw) ?_ (by rw [hlen]; exact hz)
    rw [hlen]
    exact Inv.tupNew (h' := s.heap) (tk := s.toks) I ((r.drop (HT.sIx xs.length 0 lo)).take _) (Nat.le_trans (cutV_length xs lo hi) hz) (q2 hw)
def rCatF (K : PySem.W.Frag) : R2 := fun x y H Q => ∃ a b xs ys, x = .ref a ∧ y = .ref b ∧ SqT K H a xs ∧ SqT K H b ys ∧ xs.length + ys.length ≤ sizeLine ∧
  (xs = [] → Q (.ref b) H) ∧ (xs ≠ [] → ys = [] → Q (.ref a) H) ∧ (xs ≠ [] → ys ≠ [] → NewT Q H (xs ++ ys))
theorem op_catF : OpR X (binaryOp .Add) (rCatF X.K) := by
  intro pins s σ H x y v u Q I rx ry h
  obtain ⟨a, b, xs, ys, rfl, rfl, ha, hb, hz, q0, q1, q2⟩ := h
  cases rx
  cases ry
  obtain ⟨its, r1, p1, _⟩ := I.tuple ha
  obtain ⟨jts, r2, p2, _⟩ := I.tuple hb
  by_cases hx : xs = []
  · subst hx
    cases r1
    exact cat_tup0 p1 p2 ⟨.ref b, H, I, rfl, q0 rfl⟩
  · refine HT.cat_tup p1 p2 (fun z => hx (r1.nil_iff.mp z)) (fun z => ⟨.ref a, H, I, rfl, q1 hx (r2.nil_iff.mp z)⟩) (fun z => ?_) (by rw [← r1.length, ← r2.length]; exact hz)
    exact Inv.tupNew (h' := s.heap) (tk := s.toks) I (r1.append r2) (by rw [List.length_append]; exact hz) (q2 hx fun w => z (r2.nil_iff.mpr w))
def rTupOfF (K : PySem.W.Frag) : List V → Hp → VK → Prop := fun xs H Q => ∃ p ys, xs = [.ref p] ∧ ((SqL K H p ys ∧ NewT Q H ys) ∨ (SqT K H p ys ∧ Q (.ref p) H))
theorem call_tuple_ofF : CallR X (.type "tuple") (rTupOfF X.K) := by
  intro pins s σ H xs us Q I r h
  obtain ⟨p, ys, rfl, h⟩ := h
  obtain ⟨u, rfl, rx⟩ := vals1 r
  cases rx
  rcases h with ⟨hq, q⟩ | ⟨hq, q⟩
  · obtain ⟨its, r1, pl, hz⟩ := I.list hq
    have hlen := r1.length
    refine call_tuple_list pl.isList (fun h1 kp => ?_) (by rw [List.size_toArray]; omega)
    exact Inv.tupNew (h' := h1) (tk := s.toks) (I.kept (t' := s.toks) kp) r1 hz q
  · obtain ⟨its, r1, pl, hz⟩ := I.tuple hq
    exact call_tuple_same pl ⟨.ref p, H, I, rfl, q⟩
def tTupRgF (te : L2.St → Hp → (Int → Int → Hp → Prop) → Prop) : TE := fun σ H Q => te σ H fun a b H1 => RgOk a b ∧ NewT Q H1 (rgV a b)
theorem pe_tupRgF {e : Expr} {te : L2.St → Hp → (Int → Int → Hp → Prop) → Prop} {p pos : Pos} (hc : X.calm = true) (hg : Gl X "tuple") (hm : X.mg "tuple" = none) (he : PRg X e te) (na : starEach [e] X.env = (false, eval e X.env) :: starEach [] X.env := by rfl) : PE X (.Call (.Name "tuple" p) [e] [] pos) (tTupRgF te) := by
  refine ⟨fun pins s σ H Q I h => Call_ (ld_blt I hg hm (show bootBuiltins "tuple" = some (.type "tuple") by decide +kernel) (PyProof.Rows.callWith_type1 (args_cons (thn (he pins s σ H _ I h) ?_) na) na))⟩
  rintro x s1 ⟨r, a, b, t, u, v, H1, rfl, hr, I1, ⟨b1, b2, b3, b4, b5⟩, q⟩
  refine args_nil (call_tuple_range (n := (b - a).toNat) (I1.ok.hd hc) hr (small_one b1 b2 b3 b4) (rangeSize_nat a b) b5 fun h1 tk acc hk hi => ?_)
  have ea : acc = acc.toList.toArray := by simp
  rw [ea]
  exact Inv.tupNew (h' := h1) (tk := tk) (I1.kept hk) (vals_rg hi) (by rw [rgV_length, sizeLine_eq]; omega) q
def rDmF : List V → Hp → VK → Prop := fun xs H Q => ∃ i j, xs = [.int i, .int j] ∧ CDiv i j ∧ NewT Q H [.int (i / j), .int (i % j)]
/-- o.m(..) of a built-in type, its kind told by one's own words -/
def tBMG (ty : V → Hp → Prop) (r : V → List V → Hp → VK → Prop) (to : TE) (t : TA) : TE := fun σ H Q => to σ H fun x H1 => ty x H1 ∧ t σ H1 fun xs H2 => r x xs H2 Q
theorem pe_bmG {T id : String} {name : Str} {o e : Expr} {es : List Expr} {to : TE} {t : TA} {apos cpos : Pos} {r : V → List V → Hp → VK → Prop} {ty : V → Hp → Prop}
    (hk : ∀ (pins : List (Addr × Obj)) (σ : L2.St) (H : Hp) (s : Shared) (x : V) (v : Value), Inv X pins σ H s → RelV x v → ty x H → s.TypeIs v T ∧ ∀ a, v = .ref a → ∃ ob, s.heap.get? a = some ob ∧ ob.dict = none)
    (pa : PlainAttrs T) (slot : Slot T name id) (hty : typeOf (.builtin id) = pure (.type "method_descriptor")) (hm : MtR X id r) (ho : PE X o to) (ha : PA X (e :: es) t)
    (hbase : attributeBase o name X.env (eval o X.env) = eval o X.env)
    (hfew : ((backTo cpos (starEach (e :: es) X.env)).all (fun x => !x.1) && (backToKw cpos (keywordEach [] X.env)).all (fun x => x.1.isSome) && decide ((e :: es).length + ([] : List Keyword).length + (if ([] : List Keyword).isEmpty then 0 else 1) < 30)) = true)
    (hline : (apos.endLine == cpos.line) = true) (hs : starEach (e :: es) X.env = (false, eval e X.env) :: starEach es X.env) (hplain : (backTo cpos (starEach es X.env)).any (·.1) = false) :
    PE X (.Call (.Attribute o name apos) (e :: es) [] cpos) (tBMG ty r to t) := by
  refine ⟨fun pins s σ H Q I h => wpAny_Call_method_late hbase hfew hline rfl (thn (ho.run pins s σ H _ I h) ?_)⟩
  rintro v s1 ⟨x, H1, I1, r1, tyx, q1⟩
  have hA := ha.run cpos pins s1 σ H1 _ I1 q1
  obtain ⟨k1, k2⟩ := hk pins σ H1 s1 x v I1 r1 tyx
  refine ⟨T, id, pa, slot, hty, k1, k2, ?_⟩
  rw [hs] at hA ⊢
  refine Calls.callWith_builtin (show (false || (backTo cpos (starEach es X.env)).any (·.1)) = false by rw [hplain]; rfl) (Calls.evalArgs_plain (thn hA ?_))
  rintro us s2 ⟨vs, H2, I2, r2, q2⟩
  exact hm pins s2 σ H2 x vs v us Q I2 r1 r2 q2
/-- a tuple of ours -/
theorem ty_tupD : ∀ (pins : List (Addr × Obj)) (σ : L2.St) (H : Hp) (s : Shared) (x : V) (v : Value), Inv X pins σ H s → RelV x v → (∃ a xs, x = .ref a ∧ TupD X.K H a xs) → s.TypeIs v "tuple" ∧ ∀ a, v = .ref a → ∃ ob, s.heap.get? a = some ob ∧ ob.dict = none := by
  rintro pins σ H s x v I rx ⟨a, xs, rfl, h⟩
  cases rx
  rcases h with ⟨o, h, hd⟩ | ⟨o, its, n, h1, h2, hd, _⟩
  · obtain ⟨e, _, jts, _, o2, e2, c2, _⟩ := I.hok a _ h
    rw [e] at e2
    cases e2
    exact ⟨⟨o, e, c2⟩, fun b z => by
      cases z
      exact ⟨o, e, hd⟩⟩
  · exact ⟨⟨o, I.kIn a o h1, h2⟩, fun b z => by
      cases z
      exact ⟨o, I.kIn a o h1, hd⟩⟩
end
end Pu

set_option Elab.async false
set_option linter.all false
set_option maxRecDepth 100000
set_option maxHeartbeats 2000000
/-! dicts from tuples of numbers to numbers, told of their one object -/
namespace Pu
open PySem PySem.Spec PyProof.Rows L2
/-- key, where the key's tuple stands, value -/
abbrev DEn := List (List Int × Addr × Int)
def VL (L : DEn) (xs : List (List Int × Addr × Value)) : Prop := Paired (fun (p : List Int × Addr × Int) (q : List Int × Addr × Value) => p.1 = q.1 ∧ p.2.1 = q.2.1 ∧ ∃ t, q.2.2 = Value.int p.2.2 t) L xs
def dctP (a : Addr) (L : DEn) (h : Heap) : Prop := (a == sysModules) = false ∧ L.length ≤ sizeLine ∧ (L.map (·.1)).Nodup ∧ ∃ (o : Obj) (es : Array DictEntry) (ep : Nat) (xs : List (List Int × Addr × Value)), h.get? a = some o ∧ o.ExactDict ∧ o.data = .dict es ep ∧ VL L xs ∧
  ∀ (P : Program) (w : World), es.toList = xs.map (entryOfKey (tupleKind (intKind P w)))
def DctO (a : Addr) (L : DEn) : HO := .ext (dctP a L)
theorem dct_ne_tbl {a : Addr} {L : DEn} (ps : Array Value) : DctO a L ≠ .tbl ps := fun z => by
  unfold DctO at z
  cases z
theorem dct_ne_frz {a : Addr} {L : DEn} {o : Obj} {u : HO} : DctO a L ≠ .frz o u := fun z => by
  unfold DctO at z
  cases z
theorem dct_inj {a : Addr} {L : DEn} {c : Addr} {q : Str} : DctO a L ≠ LamX.CodeO c q := fun z => by
  unfold DctO LamX.CodeO at z
  injection z with z
  let ob : Obj := { cls := .none, data := .fields #[.none, .str q 1] }
  let h0 : Heap := { objs := Array.replicate (c + 1) ob }
  have g : ∀ b o, h0.get? b = some o → o = ob := fun b o e => by
    unfold Heap.get? at e
    have key : ∀ x : Option Obj, h0.objs[b]? = x → (∀ y, x = some y → y = ob) := fun x hx y hy => by
      rw [hy] at hx
      have hx : (Array.replicate (c + 1) ob)[b]? = some y := hx
      rw [Array.getElem?_replicate] at hx
      split at hx
      · exact (Option.some.inj hx).symm
      · cases hx
    split at e
    · cases e
    · exact key _ rfl _ e
  have gc : h0.get? c = some ob := by
    unfold Heap.get?
    have e : h0.objs[c]? = some ob := by
      show (Array.replicate (c + 1) ob)[c]? = some ob
      rw [Array.getElem?_replicate, if_pos (by omega)]
    rw [e]
  have h2 : (fun h : Heap => ∃ (oc : Obj) (vs : Array Value) (t : Tok), h.get? c = some oc ∧ oc.data = .fields vs ∧ vs[1]? = some (.str q t)) h0 := ⟨ob, _, 1, gc, rfl, rfl⟩
  rw [← z] at h2
  obtain ⟨_, _, _, o, es, ep, xs, e1, _, e3, _⟩ := h2
  rw [g a o e1] at e3
  cases e3
end Pu

set_option Elab.async false
set_option linter.all false
set_option maxRecDepth 100000
set_option maxHeartbeats 2000000
/-! Pu: a layer over HandS in which a piece of syntax is read as a function of plain data; no heap is seen above it. -/
namespace Pu
open PySem PySem.Spec PyProof.Rows L2

/-- the tables of code objects that may be written, each with the name that its code objects bear -/
class TabL where
  T : List (Addr × Str)
instance (priority := low) tabNil : TabL := ⟨[]⟩
def NT (u : HO) : Prop := ∀ ps, u ≠ .tbl ps
/-- a known thing that is no table -/
def Nn (H : Hp) (a : Addr) : Prop := ∃ u, H a = some u ∧ NT u
theorem Nn.not {H : Hp} {a : Addr} (h : Nn H a) (z : H a = none) : False := by
  obtain ⟨u, e, _⟩ := h
  rw [z] at e
  cases e
variable [TabL]
/-- all is kept but the tables, which stay tables -/
structure Same (H H' : Hp) : Prop where
  k : ∀ a u, H a = some u → NT u → H' a = some u
  free : ∀ {a}, H' a = none → H a = none
  tab : LamX.Tabs TabL.T H → LamX.Tabs TabL.T H'
  t : ∀ a ps, H a = some (.tbl ps) → ∃ qs, H' a = some (.tbl qs)
theorem Same.app {H H' : Hp} (s : Same H H') (a : Addr) (u : HO) (h : H a = some u) (n : NT u := by first | assumption | exact fun _ z => nomatch z) : H' a = some u := s.k a u h n
instance {H H' : Hp} : CoeFun (Same H H') fun _ => ∀ a u, H a = some u → (n : NT u := by first | assumption | exact fun _ z => nomatch z) → H' a = some u := ⟨fun s => @Same.app _ _ _ s⟩
theorem Same.of {H H' : Hp} (h : L2.Same H H') : Same H H' := ⟨fun a u e _ => h a u e, fun e => h.free e, fun t => t.ext h, fun a ps e => ⟨ps, h a _ e⟩⟩
theorem Same.refl (H : Hp) : Same H H := .of (L2.Same.refl H)
theorem Same.trans {H H1 H2 : Hp} (a : Same H H1) (b : Same H1 H2) : Same H H2 := ⟨fun c o h n => b c o (a c o h n) n, fun e => a.free (b.free e), fun t => b.tab (a.tab t), fun c ps e => by
  obtain ⟨qs, e2⟩ := a.t c ps e
  exact b.t c qs e2⟩
theorem Same.nil {H : Hp} (h : LamX.Tabs TabL.T H) : Same (fun _ => Option.none) H := ⟨fun a u q => (nomatch q), fun _ => rfl, fun _ => h, fun a ps q => (nomatch q)⟩
/-- neither a table nor a thing told of the heap -/
def Plain (u : HO) : Prop := (∀ ps, u ≠ .tbl ps) ∧ ∀ (c : Addr) (q : Str), u ≠ LamX.CodeO c q
theorem no_code {u : HO} (h : ∀ f, u ≠ .ext f) : ∀ (c : Addr) (q : Str), u ≠ LamX.CodeO c q := fun _ _ => h _
theorem plain_dct {a : Addr} {L : DEn} : Plain (DctO a L) := ⟨dct_ne_tbl, fun _ _ => dct_inj⟩
theorem plain_lst {xs : List V} : Plain (.lst xs) := ⟨fun _ z => (nomatch z), no_code fun _ z => nomatch z⟩
theorem plain_frz {o : Obj} {u : HO} : Plain (.frz o u) := ⟨fun _ z => (nomatch z), no_code fun _ z => nomatch z⟩
theorem plain_dK {kvs : List (Key × V)} : Plain (.dK kvs) := ⟨fun _ z => (nomatch z), no_code fun _ z => nomatch z⟩
theorem plain_ins {C dx : Addr} {fs : List (Str × V)} : Plain (.ins C dx fs) := ⟨fun _ z => (nomatch z), no_code fun _ z => nomatch z⟩
theorem tab_upd {H : Hp} {pp : Addr} {u o : HO} (t : LamX.Tabs TabL.T H) (h : H pp = some u) (hu : Plain u) : LamX.Tabs TabL.T (upd H pp o) := fun p hp => by
  obtain ⟨ps, h1, h2, h3⟩ := t p hp
  refine ⟨ps, ?_, h2, fun pos cv e => ?_⟩
  · rw [upd_ne]
    · exact h1
    · intro z
      rw [z, h] at h1
      exact hu.1 ps (Option.some.inj h1)
  · obtain ⟨c, e1, e2⟩ := h3 pos cv e
    refine ⟨c, e1, ?_⟩
    rw [upd_ne]
    · exact e2
    · intro z
      rw [z, h] at e2
      exact hu.2 _ _ (Option.some.inj e2)
theorem Same.put {H0 H : Hp} {pp : Addr} {u o : HO} (s : Same H0 H) (h0 : H0 pp = none) (h : H pp = some u) (hu : Plain u) : Same H0 (upd H pp o) := ⟨fun a v q n => by
    rw [upd_ne]
    · exact s a v q n
    · intro z
      exact absurd q (by rw [z, h0]; simp), fun {a} q => by
    by_cases z : a = pp
    · rw [z, upd_same] at q
      cases q
    · rw [upd_ne z] at q
      exact s.free q, fun t => tab_upd (s.tab t) h hu, fun a ps q => by
    rw [upd_ne]
    · exact s.t a ps q
    · intro z
      rw [z, h0] at q
      cases q⟩
/-- all is kept but what stands at Dd (and the tables) -/
structure SameX (Dd : Addr) (H H' : Hp) : Prop where
  k : ∀ a u, a ≠ Dd → H a = some u → NT u → H' a = some u
  free : ∀ {a}, a ≠ Dd → H' a = none → H a = none
  tab : LamX.Tabs TabL.T H → LamX.Tabs TabL.T H'
  t : ∀ a ps, a ≠ Dd → H a = some (.tbl ps) → ∃ qs, H' a = some (.tbl qs)
theorem SameX.refl {Dd : Addr} {H : Hp} : SameX Dd H H := ⟨fun _ _ _ h _ => h, fun _ h => h, fun t => t, fun _ ps _ h => ⟨ps, h⟩⟩
theorem SameX.trans {Dd : Addr} {H H1 H2 : Hp} (a : SameX Dd H H1) (b : SameX Dd H1 H2) : SameX Dd H H2 := ⟨fun x u n h w => b.k x u n (a.k x u n h w) w, fun n h => a.free n (b.free n h), fun t => b.tab (a.tab t), fun c ps n h => by
  obtain ⟨qs, e⟩ := a.t c ps n h
  exact b.t c qs n e⟩
theorem SameX.of {Dd : Addr} {H H' : Hp} (s : Same H H') : SameX Dd H H' := ⟨fun a u _ h w => s.k a u h w, fun _ h => s.free h, s.tab, fun a ps _ h => s.t a ps h⟩
theorem SameX.put {Dd : Addr} {H H' : Hp} {u o : HO} (s : SameX Dd H H') (h : H' Dd = some u) (hu : Plain u) : SameX Dd H (upd H' Dd o) := ⟨fun a v n q w => by
    rw [upd_ne n]
    exact s.k a v n q w, fun n q => by
    rw [upd_ne n] at q
    exact s.free n q, fun t => tab_upd (s.tab t) h hu, fun a ps n q => by
    rw [upd_ne n]
    exact s.t a ps n q⟩
theorem SameX.back {Dd : Addr} {H1 H2 : Hp} {o : HO} (hD : H1 Dd = none) (b : SameX Dd (upd H1 Dd o) H2) : Same H1 H2 := by
  have up : ∀ a, a ≠ Dd → upd H1 Dd o a = H1 a := fun a n => upd_ne n
  refine ⟨fun a u h n => ?_, fun {a} h => ?_, fun t => b.tab (t.ext fun a u h => ?_), fun a ps h => ?_⟩
  · have ne : a ≠ Dd := fun z => by
      rw [z, hD] at h
      cases h
    exact b.k a u ne ((up a ne).trans h) n
  · by_cases z : a = Dd
    · rw [z]
      exact hD
    · exact (up a z).symm.trans (b.free z h)
  · have ne : a ≠ Dd := fun z => by
      rw [z, hD] at h
      cases h
    exact (up a ne).trans h
  · have ne : a ≠ Dd := fun z => by
      rw [z, hD] at h
      cases h
    exact b.t a ps ne ((up a ne).trans h)
theorem NT.mut {u : HO} (h : Mut (some u)) : NT u := fun ps e => by
  subst e
  exact h
abbrev Rho := List (Option PyData)
/-- an outcome: a value, an own error of that name, or nothing that is promised -/
inductive Re (α : Type) where
  | ok (a : α)
  | ex (c : Str)
  | bad
def Re.andThen {α β : Type} : Re α → (α → Re β) → Re β
  | .ok a, f => f a
  | .ex c, _ => .ex c
  | .bad, _ => .bad
/-! data that holds no list and no dict -/
mutual
def imm : PyData → Bool
  | .list _ => false
  | .dict _ => false
  | .tuple xs => immAll xs
  | _ => true
def immAll : List PyData → Bool
  | [] => true
  | x :: xs => imm x && immAll xs
end
/-- a key as data -/
def kD : Key → PyData
  | .inl i => .int i
  | .inr s => .str s
/-- a key that is a tuple -/
def ktD (k : List Key) : PyData := .tuple (k.map kD)
/-- a list that is only read -/
def FzL (K : PySem.W.Frag) (H : Hp) (S : Addr → Prop) (a : Addr) (xs : List V) : Prop := (H a = some (.lst xs) ∧ S a) ∨ (∃ o, H a = some (.frz o (.lst xs))) ∨ ∀ H' : Hp, SqL K H' a xs
/-- a dict from tuples of numbers to numbers, or one that is locked -/
def DctF (H : Hp) (S : Addr → Prop) (a : Addr) (L : DEn) : Prop := (H a = some (DctO a L) ∧ S a) ∨ ∃ o, H a = some (.frz o (DctO a L))
/-- the keys' tuples are known -/
def DctK (K : PySem.W.Frag) (H : Hp) (L : DEn) : Prop := ∀ p ∈ L, TupD K H p.2.1 (p.1.map V.int)
/-- the entries as data -/
def dctD (L : DEn) : List (PyData × PyData) := L.map fun p => (.tuple (p.1.map .int), .int p.2.2)
/-! the value v is the data d; the lists and dicts in it stand at addresses of S -/
/-- a range object, or a def of the module, told by its name -/
def RgF (K : PySem.W.Frag) (H : Hp) (a : Addr) (i : Int) (e : PyData) : Prop := (∃ j : Int, e = .int j ∧ H a = some (.rng i j)) ∨ ∃ x : Str, e = .str x ∧ a = He.ga K x
/-- a def of the module as data -/
def fnD (x : Str) : PyData := .dict [(.int 0, .str x)]
mutual
inductive Rp (K : PySem.W.Frag) (H : Hp) (S : Addr → Prop) : V → PyData → Prop
  | non : Rp K H S .non .none
  | bl (b : Bool) : Rp K H S (.bl b) (.bool b)
  | int (i : Int) : Rp K H S (.int i) (.int i)
  | str (x : Str) : Rp K H S (.str x) (.str x)
  | tup {a : Addr} {xs : List V} {ds : List PyData} : TupD K H a xs → RpA K H S xs ds → Rp K H S (.ref a) (.tuple ds)
  | lst {a : Addr} {xs : List V} {ds : List PyData} : H a = some (.lst xs) → S a → RpA K H S xs ds → Rp K H S (.ref a) (.list ds)
  | scr {a : Addr} {xs : List V} {ds : List PyData} : FzL K H S a xs → RpA K H S xs ds → Rp K H S (.ref a) (.dict [(.none, .list ds)])
  | dic {a : Addr} {ks : List Key} {xs : List V} {ds : List PyData} : H a = some (.dK (ks.zip xs)) → S a → ks.length = xs.length → RpA K H S xs ds → Rp K H S (.ref a) (.dict ((.bool true, .none) :: (ks.map kD).zip ds))
  | dit {a dx : Addr} {c : Str} {tag : PyData} {ks : List Str} {xs : List V} {ds : List PyData} : H a = some (.ins (He.ga K c) dx (ks.zip xs)) → S a → ks.length = xs.length → RpA K H S xs ds → Rp K H S (.ref a) (.dict ((.bool false, .tuple [.str c, tag]) :: (ks.map PyData.str).zip ds))
  | rng {a : Addr} {i : Int} {e : PyData} : RgF K H a i e → Rp K H S (.ref a) (.dict [(.int i, e)])
  | dct {a : Addr} {L : DEn} : DctF H S a L → DctK K H L → True → True → Rp K H S (.ref a) (.dict ((.bool true, .bool true) :: dctD L))
  | dif {a : Addr} {o : Obj} {ks : List Key} {xs : List V} {ds : List PyData} : H a = some (.frz o (.dK (ks.zip xs))) → ks.length = xs.length → RpA K H S xs ds → Rp K H S (.ref a) (.dict ((.bool true, .none) :: (ks.map kD).zip ds))
inductive RpA (K : PySem.W.Frag) (H : Hp) (S : Addr → Prop) : List V → List PyData → Prop
  | nil : RpA K H S [] []
  | cons {v : V} {vs : List V} {d : PyData} {ds : List PyData} : Rp K H S v d → RpA K H S vs ds → RpA K H S (v :: vs) (d :: ds)
end

section
variable {K : PySem.W.Frag} {H H' H1 H2 : Hp} {S S' : Addr → Prop} {a : Addr}
theorem tupD_keep {xs : List V} (h : TupD K H a xs) (k : ∀ u, H a = some u → ¬ Mut (some u) → NT u → H' a = some u) : TupD K H' a xs := by
  rcases h with ⟨o, h, hd⟩ | h
  · exact .inl ⟨o, k _ h (fun z => z) (by first | assumption | exact fun _ z => nomatch z), hd⟩
  · exact .inr h
theorem FzL.sq {xs : List V} (h : FzL K H S a xs) : SqL K H a xs := by
  rcases h with ⟨h, _⟩ | ⟨o, h⟩ | h
  · exact .inl (.inl h)
  · exact .inl (.inr ⟨o, h⟩)
  · exact h H
theorem fzL_keep {xs : List V} (h : FzL K H S a xs) (k : ∀ u, H a = some u → (S a ∨ ¬ Mut (some u)) → NT u → H' a = some u) (hs : ∀ u, S a → H a = some u → NT u → S' a) : FzL K H' S' a xs := by
  rcases h with ⟨h, z⟩ | ⟨o, h⟩ | h
  · exact .inl ⟨k _ h (.inl z) (by first | assumption | exact fun _ z => nomatch z), hs _ z h (by first | assumption | exact fun _ z => nomatch z)⟩
  · exact .inr (.inl ⟨o, k _ h (.inr fun z => z) (by first | assumption | exact fun _ z => nomatch z)⟩)
  · exact .inr (.inr h)
theorem dctF_keep {L : DEn} (h : DctF H S a L) (k : ∀ u, H a = some u → (S a ∨ ¬ Mut (some u)) → NT u → H' a = some u) (hs : ∀ u, S a → H a = some u → NT u → S' a) : DctF H' S' a L := by
  rcases h with ⟨h, z⟩ | ⟨o, h⟩
  · exact .inl ⟨k _ h (.inl z) dct_ne_tbl, hs _ z h dct_ne_tbl⟩
  · exact .inr ⟨o, k _ h (.inr fun z => z) fun _ z => nomatch z⟩
theorem dctK_keep {L : DEn} (h : DctK K H L) (k : ∀ a u, H a = some u → ¬ Mut (some u) → NT u → H' a = some u) : DctK K H' L := fun p hp => tupD_keep (h p hp) (k p.2.1)
/-- what keeps the data: the addresses of S and all that can't be written -/
structure Kp (S : Addr → Prop) (H H' : Hp) : Prop where
  k : ∀ a u, H a = some u → (S a ∨ ¬ Mut (some u)) → NT u → H' a = some u
omit [TabL] in
theorem Kp.app {S : Addr → Prop} {H H' : Hp} (s : Kp S H H') (a : Addr) (u : HO) (h : H a = some u) (c : S a ∨ ¬ Mut (some u)) (n : NT u := by first | assumption | exact fun _ z => nomatch z) : H' a = some u := s.k a u h c n
instance {S : Addr → Prop} {H H' : Hp} : CoeFun (Kp S H H') fun _ => ∀ a u, H a = some u → (S a ∨ ¬ Mut (some u)) → (n : NT u := by first | assumption | exact fun _ z => nomatch z) → H' a = some u := ⟨fun s => @Kp.app _ _ _ s⟩
theorem kp_same (e : Same H H') : Kp S H H' := ⟨fun a u h _ n => e a u h n⟩
mutual
theorem Rp.keep (k : Kp S H H') (hs : ∀ a u, S a → H a = some u → NT u → S' a) : ∀ {d : PyData} {v : V}, Rp K H S v d → Rp K H' S' v d
  | _, _, .non => .non
  | _, _, .bl b => .bl b
  | _, _, .int i => .int i
  | _, _, .str x => .str x
  | _, _, .tup h1 h2 => .tup (tupD_keep h1 fun u e nm n => k _ u e (.inr nm) n) (RpA.keep k hs h2)
  | _, _, .lst h1 h2 h3 => .lst (k _ _ h1 (.inl h2)) (hs _ _ h2 h1 (by first | assumption | exact fun _ z => nomatch z)) (RpA.keep k hs h3)
  | _, _, .scr h1 h3 => .scr (fzL_keep h1 (fun u e c n => k _ u e c n) fun u z e n => hs _ u z e n) (RpA.keep k hs h3)
  | _, _, .dic h1 h2 h3 h4 => .dic (k _ _ h1 (.inl h2)) (hs _ _ h2 h1 (by first | assumption | exact fun _ z => nomatch z)) h3 (RpA.keep k hs h4)
  | _, _, .dct h1 h2 h3 h4 => .dct (dctF_keep h1 (fun u e c n => k _ u e c n) fun u z e n => hs _ u z e n) (dctK_keep h2 fun a u e nm n => k a u e (.inr nm) n) h3 h4
  | _, _, .dit h1 h2 h3 h4 => .dit (k _ _ h1 (.inl h2)) (hs _ _ h2 h1 (by first | assumption | exact fun _ z => nomatch z)) h3 (RpA.keep k hs h4)
  | _, _, .dif h1 h3 h4 => .dif (k _ _ h1 (.inr fun z => z)) h3 (RpA.keep k hs h4)
  | _, _, .rng h1 => .rng (h1.imp (fun ⟨j, e, h1⟩ => ⟨j, e, k _ _ h1 (.inr fun z => z)⟩) id)
theorem RpA.keep (k : Kp S H H') (hs : ∀ a u, S a → H a = some u → NT u → S' a) : ∀ {ds : List PyData} {vs : List V}, RpA K H S vs ds → RpA K H' S' vs ds
  | _, _, .nil => .nil
  | _, _, .cons h1 h2 => .cons (Rp.keep k hs h1) (RpA.keep k hs h2)
end
theorem Rp.same {d : PyData} {v : V} (r : Rp K H S v d) (e : Same H H') : Rp K H' S v d := r.keep (kp_same e) fun _ _ h _ _ => h
theorem RpA.same {d : List PyData} {v : List V} (r : RpA K H S v d) (e : Same H H') : RpA K H' S v d := r.keep (kp_same e) fun _ _ h _ _ => h
theorem Rp.wide {d : PyData} {v : V} (r : Rp K H S v d) (h : ∀ a, S a → S' a) : Rp K H S' v d := r.keep (kp_same (Same.refl H)) fun a _ x _ _ => h a x
theorem RpA.wide {d : List PyData} {v : List V} (r : RpA K H S v d) (h : ∀ a, S a → S' a) : RpA K H S' v d := r.keep (kp_same (Same.refl H)) fun a _ x _ _ => h a x
theorem imm_tup {xs : List PyData} : imm (.tuple xs) = immAll xs := by rw [imm]
theorem imm_lst {xs : List PyData} : imm (.list xs) = false := by rw [imm]
theorem imm_dic {xs : List (PyData × PyData)} : imm (.dict xs) = false := by rw [imm]
theorem immAll_cons {x : PyData} {xs : List PyData} : immAll (x :: xs) = (imm x && immAll xs) := by rw [immAll]
theorem imm_no {A : Prop} {b : Bool} (e : b = false) (h : b = true) : A := by
  rw [e] at h
  cases h
/-! plain data wants no address -/
mutual
theorem Rp.noAddr : ∀ {d : PyData} {v : V}, Rp K H S v d → imm d = true → Rp K H S' v d
  | _, _, .non, _ => .non
  | _, _, .bl b, _ => .bl b
  | _, _, .int i, _ => .int i
  | _, _, .str x, _ => .str x
  | _, _, .tup h1 h2, h => .tup h1 (RpA.noAddr h2 (imm_tup.symm.trans h))
  | _, _, .lst h1 h2 h3, h => imm_no imm_lst h
  | _, _, .scr h1 h3, h => imm_no imm_dic h
  | _, _, .dic h1 h2 h3 h4, h => imm_no imm_dic h
  | _, _, .dct h1 h2 h3 h4, h => imm_no imm_dic h
  | _, _, .dit h1 h2 h3 h4, h => imm_no imm_dic h
  | _, _, .dif h1 h3 h4, h => imm_no imm_dic h
  | _, _, .rng h1, h => imm_no imm_dic h
theorem RpA.noAddr : ∀ {ds : List PyData} {vs : List V}, RpA K H S vs ds → immAll ds = true → RpA K H S' vs ds
  | _, _, .nil, _ => .nil
  | _, _, .cons h1 h2, h => .cons (Rp.noAddr h1 (Bool.and_eq_true_iff.mp (immAll_cons.symm.trans h)).1) (RpA.noAddr h2 (Bool.and_eq_true_iff.mp (immAll_cons.symm.trans h)).2)
end
theorem RpA.length : ∀ {ds : List PyData} {vs : List V}, RpA K H S vs ds → vs.length = ds.length
  | _, _, .nil => rfl
  | _, _, .cons _ h2 => by rw [List.length_cons, List.length_cons, RpA.length h2]
theorem RpA.get : ∀ {ds : List PyData} {vs : List V} {i : Nat} {v : V}, RpA K H S vs ds → vs[i]? = some v → ∃ d, ds[i]? = some d ∧ Rp K H S v d
  | _, _, _, _, .nil, e => by simp at e
  | _, _, 0, _, .cons h1 _, e => by
    simp at e
    subst e
    exact ⟨_, rfl, h1⟩
  | _, _, i + 1, v, .cons _ h2, e => by
    obtain ⟨d, h3, h4⟩ := RpA.get (i := i) (v := v) h2 (by simpa using e)
    exact ⟨d, by simpa using h3, h4⟩
theorem RpA.get' : ∀ {ds : List PyData} {vs : List V} {i : Nat} {d : PyData}, RpA K H S vs ds → ds[i]? = some d → ∃ v, vs[i]? = some v ∧ Rp K H S v d
  | _, _, _, _, .nil, e => by simp at e
  | _, _, 0, _, .cons h1 _, e => by
    simp at e
    subst e
    exact ⟨_, rfl, h1⟩
  | _, _, i + 1, v, .cons _ h2, e => by
    obtain ⟨d, h3, h4⟩ := RpA.get' (i := i) (d := v) h2 (by simpa using e)
    exact ⟨d, by simpa using h3, h4⟩
theorem RpA.append : ∀ {ds es : List PyData} {vs us : List V}, RpA K H S vs ds → RpA K H S us es → RpA K H S (vs ++ us) (ds ++ es)
  | _, _, _, _, .nil, r => r
  | _, _, _, _, .cons h1 h2, r => .cons h1 (RpA.append h2 r)
theorem RpA.take : ∀ {ds : List PyData} {vs : List V} (n : Nat), RpA K H S vs ds → RpA K H S (vs.take n) (ds.take n)
  | _, _, 0, _ => .nil
  | _, _, _ + 1, .nil => .nil
  | _, _, n + 1, .cons h1 h2 => .cons h1 (RpA.take n h2)
theorem RpA.drop : ∀ {ds : List PyData} {vs : List V} (n : Nat), RpA K H S vs ds → RpA K H S (vs.drop n) (ds.drop n)
  | _, _, 0, r => r
  | _, _, _ + 1, .nil => .nil
  | _, _, n + 1, .cons _ h2 => RpA.drop n h2
theorem RpA.set {v : V} {d : PyData} (r : Rp K H S v d) : ∀ {ds : List PyData} {vs : List V} (i : Nat), RpA K H S vs ds → RpA K H S (vs.set i v) (ds.set i d)
  | _, _, _, .nil => .nil
  | _, _, 0, .cons _ h2 => .cons r h2
  | _, _, i + 1, .cons h1 h2 => .cons h1 (RpA.set r i h2)
theorem RpA.erase : ∀ {ds : List PyData} {vs : List V} (i : Nat), RpA K H S vs ds → RpA K H S (vs.eraseIdx i) (ds.eraseIdx i)
  | _, _, _, .nil => .nil
  | _, _, 0, .cons _ h2 => h2
  | _, _, i + 1, .cons h1 h2 => .cons h1 (RpA.erase i h2)
theorem RpA.rev : ∀ {ds : List PyData} {vs : List V}, RpA K H S vs ds → RpA K H S vs.reverse ds.reverse
  | _, _, .nil => .nil
  | _, _, .cons h1 h2 => by
    rw [List.reverse_cons, List.reverse_cons]
    exact (RpA.rev h2).append (.cons h1 .nil)
theorem RpA.ints : ∀ (ns : List Int), RpA K H S (ns.map V.int) (ns.map PyData.int)
  | [] => .nil
  | n :: ns => .cons (.int n) (RpA.ints ns)
theorem RpA.of_ints : ∀ {ns : List Int} {vs : List V}, RpA K H S vs (ns.map PyData.int) → vs = ns.map V.int
  | [], _, .nil => rfl
  | n :: ns, _, .cons h1 h2 => by
    cases h1
    rw [RpA.of_ints h2]
    rfl
/-- every address of the data is tracked -/
theorem Rp.thru {d : PyData} {v : V} (r : Rp K H S v d) : Rp K H (fun a => S a ∧ Nn H a) v d := r.keep (kp_same (Same.refl H)) fun a u h e n => ⟨h, _, e, n⟩
theorem RpA.thru {d : List PyData} {v : List V} (r : RpA K H S v d) : RpA K H (fun a => S a ∧ Nn H a) v d := r.keep (kp_same (Same.refl H)) fun a u h e n => ⟨h, _, e, n⟩
end

/-! ### a frame's slots as data -/
/-- H0: the heap at the entry; S0: where lists and dicts of others may stand; M: the slots that hold lists and dicts of the frame's own, which no other value reaches -/
structure Fx where
  H0 : Hp
  S0 : Addr → Prop
def OwnA (M : Nat → Bool) (σ : L2.St) (ρ : Rho) (a : Addr) : Prop := ∃ i d, M i = true ∧ ρ[i]? = some (some d) ∧ σ[i]? = some (some (.ref a))
/-- an own list or dict -/
inductive OwR (K : PySem.W.Frag) (H : Hp) (S : Addr → Prop) (p : Addr) : PyData → Prop
  | lst {xs : List V} {ds : List PyData} : H p = some (.lst xs) → RpA K H S xs ds → OwR K H S p (.list ds)
  | dic {ks : List Key} {xs : List V} {ds : List PyData} : H p = some (.dK (ks.zip xs)) → ks.length = xs.length → RpA K H S xs ds → OwR K H S p (.dict ((.bool true, .none) :: (ks.map kD).zip ds))
  | dct {L : DEn} : H p = some (DctO p L) → DctK K H L → True → OwR K H S p (.dict ((.bool true, .bool true) :: dctD L))
  | dit {dx : Addr} {c : Str} {ks : List Str} {xs : List V} {ds : List PyData} : (H p = some (.ins (He.ga K c) dx (ks.zip xs)) ∧ H dx = some (.own p)) → ks.length = xs.length → RpA K H S xs ds → OwR K H S p (.dict ((.bool false, .tuple [.str c, .int (dx : Nat)]) :: (ks.map PyData.str).zip ds))
/-- where a value's lists may stand: lk tells whether it may reach an own list -/
def RS (M : Nat → Bool) (F : Fx) (σ : L2.St) (ρ : Rho) (lk : Bool) : Addr → Prop := fun a => F.S0 a ∧ (lk = false → ¬ OwnA M σ ρ a)
structure ER (K : PySem.W.Frag) (M : Nat → Bool) (F : Fx) (σ : L2.St) (H : Hp) (ρ : Rho) : Prop where
  len : ρ.length = σ.length
  old : Same F.H0 H
  new : ∀ a, H a = none → F.S0 a
  tab : LamX.Tabs TabL.T H
  im : ∀ i d, ρ[i]? = some (some d) → M i = false → ∃ v, σ[i]? = some (some v) ∧ Rp K H (RS M F σ ρ false) v d
  ow : ∀ i d, ρ[i]? = some (some d) → M i = true → ∃ p, σ[i]? = some (some (.ref p)) ∧ (F.H0 p = none ∧ F.S0 p) ∧ OwR K H (RS M F σ ρ false) p d
  ap : ∀ i j d e p, M i = true → M j = true → ρ[i]? = some (some d) → ρ[j]? = some (some e) → σ[i]? = some (some (.ref p)) → σ[j]? = some (some (.ref p)) → i = j

section
variable {K : PySem.W.Frag} {M : Nat → Bool} {F : Fx} {σ σ' : L2.St} {H H' : Hp} {ρ ρ' : Rho} {S S' : Addr → Prop} {p : Addr} {d : PyData}
theorem OwR.there (h : OwR K H S p d) : ∃ u, H p = some u ∧ Mut (some u) := by
  cases h with
  | lst h _ => exact ⟨_, h, trivial⟩
  | dic h _ _ => exact ⟨_, h, trivial⟩
  | dct h _ _ => exact ⟨_, h, by unfold DctO; trivial⟩
  | dit h _ _ => exact ⟨_, h.1, trivial⟩
theorem OwR.plain (h : OwR K H S p d) : ∃ u, H p = some u ∧ Plain u := by
  cases h with
  | lst h _ => exact ⟨_, h, plain_lst⟩
  | dic h _ _ => exact ⟨_, h, plain_dK⟩
  | dct h _ _ => exact ⟨_, h, plain_dct⟩
  | dit h _ _ => exact ⟨_, h.1, plain_ins⟩
theorem OwR.keep (h : OwR K H S p d) (k : Kp S H H') (hs : ∀ a u, S a → H a = some u → NT u → S' a) (hp : ∀ u, H p = some u → NT u → H' p = some u) : OwR K H' S' p d := by
  cases h with
  | lst h r => exact .lst (hp _ h (by first | assumption | exact fun _ z => nomatch z)) (r.keep k hs)
  | dic h l r => exact .dic (hp _ h (by first | assumption | exact fun _ z => nomatch z)) l (r.keep k hs)
  | dct h l r => exact .dct (hp _ h dct_ne_tbl) (dctK_keep l fun a u e nm n => k a u e (.inr nm) n) r
  | dit h l r => exact .dit ⟨hp _ h.1 (by first | assumption | exact fun _ z => nomatch z), k _ _ h.2 (.inr fun z => z)⟩ l (r.keep k hs)
theorem OwR.rp (h : OwR K H S p d) (hp : S p) : Rp K H S (.ref p) d := by
  cases h with
  | lst h r => exact .lst h hp r
  | dic h l r => exact .dic h hp l r
  | dct h l r => exact .dct (.inl ⟨h, hp⟩) l r r
  | dit h l r => exact .dit h.1 hp l r
theorem ER.own (e : ER K M F σ H ρ) {a : Addr} (o : OwnA M σ ρ a) : F.H0 a = none ∧ F.S0 a ∧ ∃ u, H a = some u := by
  obtain ⟨i, d, m, r, s⟩ := o
  obtain ⟨p, s', z, w⟩ := e.ow i d r m
  rw [s] at s'
  cases s'
  obtain ⟨u, hu, _⟩ := w.there
  exact ⟨z.1, z.2, u, hu⟩
theorem ER.fresh (e : ER K M F σ H ρ) {a : Addr} (h : H a = none) : F.H0 a = none ∧ ¬ OwnA M σ ρ a := by
  refine ⟨e.old.free h, fun o => ?_⟩
  obtain ⟨_, _, u, hu⟩ := e.own o
  rw [h] at hu
  cases hu
theorem ER.freshS (e : ER K M F σ H ρ) {lk : Bool} : ∀ a, H a = none → RS M F σ ρ lk a := fun a h => ⟨e.new a h, fun _ => (e.fresh h).2⟩
/-- new objects alone -/
theorem ER.same (e : ER K M F σ H ρ) (h : Same H H') : ER K M F σ H' ρ where
  len := e.len
  old := e.old.trans h
  new := fun a q => e.new a (h.free q)
  tab := h.tab e.tab
  im := fun i d r m => by
    obtain ⟨v, s, r⟩ := e.im i d r m
    exact ⟨v, s, r.same h⟩
  ow := fun i d r m => by
    obtain ⟨p, s, z, w⟩ := e.ow i d r m
    exact ⟨p, s, z, w.keep (kp_same h) (fun _ _ x _ _ => x) fun u q n => h _ _ q n⟩
  ap := e.ap
/-- a slot's value -/
theorem ER.get (e : ER K M F σ H ρ) {i : Nat} (r : ρ[i]? = some (some d)) : ∃ v, σ[i]? = some (some v) ∧ Rp K H (RS M F σ ρ (M i)) v d := by
  cases m : M i with
  | false => exact e.im i d r m
  | true =>
    obtain ⟨p, s, z, w⟩ := e.ow i d r m
    exact ⟨_, s, (w.keep (S' := RS M F σ ρ true) (kp_same (Same.refl H)) (fun a _ x _ _ => ⟨x.1, fun q => nomatch q⟩) fun _ q _ => q).rp ⟨z.2, fun q => nomatch q⟩⟩
theorem getSome {α : Type} {l : List α} {i : Nat} {x : α} (h : l[i]? = some x) : i < l.length := (List.getElem?_eq_some_iff.mp h).1
/-- own addresses behind a store into a slot that is not own -/
theorem own_set {i : Nat} {v : V} {d' : Option PyData} (m : M i = false) {a : Addr} : OwnA M (σ.set i (some v)) (ρ.set i d') a ↔ OwnA M σ ρ a := by
  constructor
  · rintro ⟨j, e, mj, r, s⟩
    have hj : i ≠ j := fun z => by
      subst z
      rw [m] at mj
      cases mj
    rw [List.getElem?_set_ne hj] at r s
    exact ⟨j, e, mj, r, s⟩
  · rintro ⟨j, e, mj, r, s⟩
    have hj : i ≠ j := fun z => by
      subst z
      rw [m] at mj
      cases mj
    exact ⟨j, e, mj, by rw [List.getElem?_set_ne hj]; exact r, by rw [List.getElem?_set_ne hj]; exact s⟩
theorem rs_set {i : Nat} {v : V} {d' : Option PyData} (m : M i = false) {lk : Bool} : RS M F (σ.set i (some v)) (ρ.set i d') lk = RS M F σ ρ lk := by
  funext a
  unfold RS
  rw [propext (own_set (v := v) (d' := d') (σ := σ) (ρ := ρ) (a := a) m)]
theorem ER.set (e : ER K M F σ H ρ) {i : Nat} {v : V} (m : M i = false) (r : Rp K H (RS M F σ ρ false) v d) : ER K M F (σ.set i (some v)) H (ρ.set i (some d)) where
  len := by rw [List.length_set, List.length_set]; exact e.len
  old := e.old
  new := e.new
  tab := e.tab
  im := fun j d' q mj => by
    rw [rs_set m]
    by_cases hj : i = j
    · subst hj
      have hi : i < ρ.length := by
        have := getSome q
        rwa [List.length_set] at this
      rw [List.getElem?_set_self hi] at q
      cases q
      exact ⟨v, List.getElem?_set_self (by rw [← e.len]; exact hi), r⟩
    · rw [List.getElem?_set_ne hj] at q
      obtain ⟨v', s, r'⟩ := e.im j d' q mj
      exact ⟨v', by rw [List.getElem?_set_ne hj]; exact s, r'⟩
  ow := fun j d' q mj => by
    rw [rs_set m]
    have hj : i ≠ j := fun z => by
      subst z
      rw [m] at mj
      cases mj
    rw [List.getElem?_set_ne hj] at q
    obtain ⟨p, s, z, w⟩ := e.ow j d' q mj
    exact ⟨p, by rw [List.getElem?_set_ne hj]; exact s, z, w⟩
  ap := fun j k d' e' p mj mk q1 q2 s1 s2 => by
    have hj : i ≠ j := fun z => by
      subst z
      rw [m] at mj
      cases mj
    have hk : i ≠ k := fun z => by
      subst z
      rw [m] at mk
      cases mk
    rw [List.getElem?_set_ne hj] at q1 s1
    rw [List.getElem?_set_ne hk] at q2 s2
    exact e.ap j k d' e' p mj mk q1 q2 s1 s2
/-- what is not own stays as it is and does not become own -/
def Evo (M : Nat → Bool) (σ : L2.St) (H : Hp) (ρ : Rho) (σ' : L2.St) (H' : Hp) (ρ' : Rho) : Prop := ∀ a u, H a = some u → ¬ OwnA M σ ρ a → NT u → H' a = some u ∧ ¬ OwnA M σ' ρ' a
theorem Evo.refl : Evo M σ H ρ σ H ρ := fun _ _ h n _ => ⟨h, n⟩
theorem Evo.trans {σ1 : L2.St} {H1 : Hp} {ρ1 : Rho} (a : Evo M σ H ρ σ1 H1 ρ1) (b : Evo M σ1 H1 ρ1 σ' H' ρ') : Evo M σ H ρ σ' H' ρ' := fun x u h n w => by
  obtain ⟨h1, n1⟩ := a x u h n w
  exact b x u h1 n1 w
theorem Evo.same (h : Same H H') : Evo M σ H ρ σ H' ρ := fun a u q n w => ⟨h a u q w, n⟩
theorem Evo.kp (e : ER K M F σ H ρ) (v : Evo M σ H ρ σ' H' ρ') : Kp (RS M F σ ρ false) H H' := by
  refine ⟨fun a u h x w => ?_⟩
  rcases x with x | x
  · exact (v a u h (x.2 rfl) w).1
  · refine (v a u h (fun o => ?_) w).1
    obtain ⟨i, d, m, r, s⟩ := o
    obtain ⟨p, s', z, w⟩ := e.ow i d r m
    rw [s] at s'
    cases s'
    obtain ⟨u', hu, mu⟩ := w.there
    rw [h] at hu
    cases hu
    exact x mu
theorem Evo.rs (v : Evo M σ H ρ σ' H' ρ') : ∀ a u, RS M F σ ρ false a → H a = some u → NT u → RS M F σ' ρ' false a := fun a u x h w => ⟨x.1, fun _ => (v a u h (x.2 rfl) w).2⟩
end
end Pu

set_option Elab.async false
set_option linter.all false
set_option maxRecDepth 100000
set_option maxHeartbeats 2000000
namespace Pu
open PySem PySem.Spec PyProof.Rows L2
variable [TabL]

/-! ### expressions -/
def Frs (K : PySem.W.Frag) (S : Addr → Prop) (H H' : Hp) (v : V) (d : PyData) : Prop := ∃ p, v = .ref p ∧ H p = none ∧ OwR K H' (fun a => S a ∧ a ≠ p) p d
def WE (X : Cx) (M : Nat → Bool) (F : Fx) (E : L2.St → XK) (lk fr : Bool) (σ : L2.St) (ρ : Rho) (H : Hp) (r : Re PyData) (Q : VK) : Prop :=
  match r with
  | .ok d => ∀ v H', Same H H' → Rp X.K H' (RS M F σ ρ lk) v d → (fr = true → Frs X.K (RS M F σ ρ lk) H H' v d) → Q v H'
  | .ex c => ∀ C H', X.mg c = some (.ref C) → Same H H' → E σ (.ref C) none H'
  | .bad => False
def DE (X : Cx) (M : Nat → Bool) (F : Fx) (E : L2.St → XK) (lk fr : Bool) (e : Expr) (f : Rho → Re PyData) : Prop :=
  ∃ t : TE, PE X e t ∧ ∀ σ H ρ, ER X.K M F σ H ρ → ∀ Q, WE X M F E lk fr σ ρ H (f ρ) Q → t σ H Q
def WT (X : Cx) (E : L2.St → XK) (σ : L2.St) (H : Hp) (r : Re Bool) (Q : Bool → Hp → Prop) : Prop :=
  match r with
  | .ok b => ∀ H', Same H H' → Q b H'
  | .ex c => ∀ C H', X.mg c = some (.ref C) → Same H H' → E σ (.ref C) none H'
  | .bad => False
def DT (X : Cx) (M : Nat → Bool) (F : Fx) (E : L2.St → XK) (e : Expr) (f : Rho → Re Bool) : Prop :=
  ∃ t : TT, PT X e t ∧ ∀ σ H ρ, ER X.K M F σ H ρ → ∀ Q, WT X E σ H (f ρ) Q → t σ H Q
def DW (X : Cx) (M : Nat → Bool) (F : Fx) (E : L2.St → XK) (e : Expr) (f : Rho → Re Bool) : Prop :=
  ∃ t : TT, PW X e t ∧ ∀ σ H ρ, ER X.K M F σ H ρ → ∀ Q, WT X E σ H (f ρ) Q → t σ H Q
def WA (X : Cx) (M : Nat → Bool) (F : Fx) (E : L2.St → XK) (lk : Bool) (σ : L2.St) (ρ : Rho) (H : Hp) (r : Re (List PyData)) (Q : List V → Hp → Prop) : Prop :=
  match r with
  | .ok ds => ∀ vs H', Same H H' → RpA X.K H' (RS M F σ ρ lk) vs ds → Q vs H'
  | .ex c => ∀ C H', X.mg c = some (.ref C) → Same H H' → E σ (.ref C) none H'
  | .bad => False
def DA (X : Cx) (M : Nat → Bool) (F : Fx) (E : L2.St → XK) (lk : Bool) (es : List Expr) (f : Rho → Re (List PyData)) : Prop :=
  ∃ t : TA, PA X es t ∧ ∀ σ H ρ, ER X.K M F σ H ρ → ∀ Q, WA X M F E lk σ ρ H (f ρ) Q → t σ H Q

section
variable {X : Cx} {M : Nat → Bool} {F : Fx} {E : L2.St → XK} {σ : L2.St} {ρ : Rho} {H H' H1 : Hp}
theorem rs_or1 {a b : Bool} : ∀ x, RS M F σ ρ a x → RS M F σ ρ (a || b) x := fun x h => ⟨h.1, fun q => h.2 (by cases a <;> simp_all)⟩
theorem rs_or2 {a b : Bool} : ∀ x, RS M F σ ρ b x → RS M F σ ρ (a || b) x := fun x h => ⟨h.1, fun q => h.2 (by cases a <;> simp_all)⟩
theorem rs_t {a : Bool} : ∀ x, RS M F σ ρ a x → RS M F σ ρ true x := fun x h => ⟨h.1, fun q => nomatch q⟩
theorem Frs.of (h : Frs X.K (RS M F σ ρ true) H H1 v d) (s : Same H' H) {v : V} {d : PyData} : True := trivial
/-- weaken -/
theorem DE.lk {lk fr : Bool} {e : Expr} {f : Rho → Re PyData} (h : DE X M F E lk fr e f) : DE X M F E true false e f := by
  obtain ⟨t, p, h⟩ := h
  refine ⟨t, p, fun σ H ρ er Q w => h σ H ρ er Q ?_⟩
  cases q : f ρ with
  | ok d =>
    rw [q] at w
    exact fun v H' s r _ => w v H' s (r.wide rs_t) fun z => nomatch z
  | ex c =>
    rw [q] at w
    exact w
  | bad =>
    rw [q] at w
    exact w
/-- the continuation of a part -/
theorem we_step {lk fr lk' fr' : Bool} {r : Re PyData} {Q : VK} {g : PyData → Re PyData} {K : VK} (w : WE X M F E lk fr σ ρ H (r.andThen g) Q)
    (h : ∀ d v H', r = .ok d → Same H H' → Rp X.K H' (RS M F σ ρ lk') v d → (fr' = true → Frs X.K (RS M F σ ρ lk') H H' v d) → WE X M F E lk fr σ ρ H' (g d) Q → K v H') : WE X M F E lk' fr' σ ρ H r K := by
  cases r with
  | ok d =>
    refine fun v H' s rr ff => h d v H' rfl s rr ff ?_
    show WE X M F E lk fr σ ρ H' (g d) Q
    have w : WE X M F E lk fr σ ρ H (g d) Q := w
    cases q : g d with
    | ok z =>
      rw [q] at w
      refine fun v2 H2 s2 r2 f2 => w v2 H2 (s.trans s2) r2 fun z2 => ?_
      obtain ⟨p, e1, e2, e3⟩ := f2 z2
      exact ⟨p, e1, s.free e2, e3⟩
    | ex c =>
      rw [q] at w
      exact fun C H2 m s2 => w C H2 m (s.trans s2)
    | bad =>
      rw [q] at w
      exact w
  | ex c => exact w
  | bad => exact w
theorem wt_step {r : Re PyData} {lk' fr' : Bool} {Q : Bool → Hp → Prop} {g : PyData → Re Bool} {K : VK} (w : WT X E σ H (r.andThen g) Q)
    (h : ∀ d v H', r = .ok d → Same H H' → Rp X.K H' (RS M F σ ρ lk') v d → (fr' = true → Frs X.K (RS M F σ ρ lk') H H' v d) → WT X E σ H' (g d) Q → K v H') : WE X M F E lk' fr' σ ρ H r K := by
  cases r with
  | ok d =>
    refine fun v H' s rr ff => h d v H' rfl s rr ff ?_
    have w : WT X E σ H (g d) Q := w
    cases q : g d with
    | ok z =>
      rw [q] at w
      exact fun H2 s2 => w H2 (s.trans s2)
    | ex c =>
      rw [q] at w
      exact fun C H2 m s2 => w C H2 m (s.trans s2)
    | bad =>
      rw [q] at w
      exact w
  | ex c => exact w
  | bad => exact w
theorem we_stepT {lk fr : Bool} {r : Re Bool} {Q : VK} {g : Bool → Re PyData} {K : Bool → Hp → Prop} (w : WE X M F E lk fr σ ρ H (r.andThen g) Q)
    (h : ∀ d H', r = .ok d → Same H H' → WE X M F E lk fr σ ρ H' (g d) Q → K d H') : WT X E σ H r K := by
  cases r with
  | ok d =>
    refine fun H' s => h d H' rfl s ?_
    have w : WE X M F E lk fr σ ρ H (g d) Q := w
    cases q : g d with
    | ok z =>
      rw [q] at w
      refine fun v2 H2 s2 r2 f2 => w v2 H2 (s.trans s2) r2 fun z2 => ?_
      obtain ⟨p, e1, e2, e3⟩ := f2 z2
      exact ⟨p, e1, s.free e2, e3⟩
    | ex c =>
      rw [q] at w
      exact fun C H2 m s2 => w C H2 m (s.trans s2)
    | bad =>
      rw [q] at w
      exact w
  | ex c => exact w
  | bad => exact w
theorem wt_stepT {r : Re Bool} {Q : Bool → Hp → Prop} {g : Bool → Re Bool} {K : Bool → Hp → Prop} (w : WT X E σ H (r.andThen g) Q)
    (h : ∀ d H', r = .ok d → Same H H' → WT X E σ H' (g d) Q → K d H') : WT X E σ H r K := by
  cases r with
  | ok d =>
    refine fun H' s => h d H' rfl s ?_
    have w : WT X E σ H (g d) Q := w
    cases q : g d with
    | ok z =>
      rw [q] at w
      exact fun H2 s2 => w H2 (s.trans s2)
    | ex c =>
      rw [q] at w
      exact fun C H2 m s2 => w C H2 m (s.trans s2)
    | bad =>
      rw [q] at w
      exact w
  | ex c => exact w
  | bad => exact w
theorem we_stepA {lk fr lk' : Bool} {r : Re (List PyData)} {Q : VK} {g : List PyData → Re PyData} {K : List V → Hp → Prop} (w : WE X M F E lk fr σ ρ H (r.andThen g) Q)
    (h : ∀ ds vs H', r = .ok ds → Same H H' → RpA X.K H' (RS M F σ ρ lk') vs ds → WE X M F E lk fr σ ρ H' (g ds) Q → K vs H') : WA X M F E lk' σ ρ H r K := by
  cases r with
  | ok d =>
    refine fun vs H' s rr => h d vs H' rfl s rr ?_
    have w : WE X M F E lk fr σ ρ H (g d) Q := w
    cases q : g d with
    | ok z =>
      rw [q] at w
      refine fun v2 H2 s2 r2 f2 => w v2 H2 (s.trans s2) r2 fun z2 => ?_
      obtain ⟨p, e1, e2, e3⟩ := f2 z2
      exact ⟨p, e1, s.free e2, e3⟩
    | ex c =>
      rw [q] at w
      exact fun C H2 m s2 => w C H2 m (s.trans s2)
    | bad =>
      rw [q] at w
      exact w
  | ex c => exact w
  | bad => exact w

/-! names, constants -/
def rVar (i : Nat) : Rho → Re PyData := fun ρ => match ρ[i]? with | some (some d) => .ok d | _ => .bad
theorem de_var (i : Nat) {x : Str} {pos : Pos} (hN : X.N[i]? = some x := by rfl) (hv : Vis X.env.scope x := by first | exact Or.inl rfl | exact Or.inr (Or.inl rfl) | exact Or.inr (Or.inr rfl)) (hd : (x == ("__debug__" : Str)) = false := by decide)
    (hcd : (x == ("__classdict__" : Str)) = false := by decide) : DE X M F E (M i) false (.Name x pos) (rVar i) := by
  refine ⟨_, pe_var hN hv hd hcd, fun σ H ρ er Q w => ?_⟩
  unfold rVar at w
  split at w
  · rename_i d hd
    obtain ⟨v, s, r⟩ := er.get hd
    exact ⟨v, s, w v H (Same.refl H) r fun z => nomatch z⟩
  · exact w.elim
def rC (d : PyData) : Rho → Re PyData := fun _ => .ok d
theorem de_int {i : Int} {j pos} : DE X M F E false false (.Constant (.int i) j pos) (rC (.int i)) := ⟨_, pe_int, fun σ H ρ er Q w => w _ H (Same.refl H) (.int i) fun z => nomatch z⟩
theorem de_bl {i : Bool} {j pos} : DE X M F E false false (.Constant (.bool i) j pos) (rC (.bool i)) := ⟨_, pe_bl, fun σ H ρ er Q w => w _ H (Same.refl H) (.bl i) fun z => nomatch z⟩
theorem de_non {j pos} : DE X M F E false false (.Constant .none j pos) (rC .none) := ⟨_, pe_non, fun σ H ρ er Q w => w _ H (Same.refl H) .non fun z => nomatch z⟩
theorem de_str {i : Str} {j pos} : DE X M F E false false (.Constant (.str i) j pos) (rC (.str i)) := ⟨_, pe_str, fun σ H ρ er Q w => w _ H (Same.refl H) (.str i) fun z => nomatch z⟩
/-- a module's constant -/
theorem de_glob {x : Str} {i : Int} {t : Tok} {pos : Pos} (hg : Gl X x) (hm : X.mg x = some (.int i t)) (hd : (x == ("__debug__" : Str)) = false := by decide) : DE X M F E false false (.Name x pos) (rC (.int i)) :=
  ⟨_, pe_glob (v := .int i) hg hm ⟨t, rfl⟩ hd, fun σ H ρ er Q w => w _ H (Same.refl H) (.int i) fun z => nomatch z⟩

/-! operators, by values -/
/-- the rule r reckons g -/
def SemB (K : PySem.W.Frag) (r : R2) (fr : Bool) (g : PyData → PyData → Option PyData) : Prop :=
  ∀ (S : Addr → Prop) (H : Hp) (x y : V) (d e z : PyData) (Q : VK), (∀ a, H a = none → S a) → Rp K H S x d → Rp K H S y e → g d e = some z →
    (∀ v H', Same H H' → Rp K H' S v z → (fr = true → Frs K S H H' v z) → Q v H') → r x y H Q
def SemU (K : PySem.W.Frag) (r : V → Hp → VK → Prop) (fr : Bool) (g : PyData → Option PyData) : Prop :=
  ∀ (S : Addr → Prop) (H : Hp) (x : V) (d z : PyData) (Q : VK), (∀ a, H a = none → S a) → Rp K H S x d → g d = some z →
    (∀ v H', Same H H' → Rp K H' S v z → (fr = true → Frs K S H H' v z) → Q v H') → r x H Q
def SemL (K : PySem.W.Frag) (r : List V → Hp → VK → Prop) (fr : Bool) (g : List PyData → Option PyData) : Prop :=
  ∀ (S : Addr → Prop) (H : Hp) (xs : List V) (ds : List PyData) (z : PyData) (Q : VK), (∀ a, H a = none → S a) → RpA K H S xs ds → g ds = some z →
    (∀ v H', Same H H' → Rp K H' S v z → (fr = true → Frs K S H H' v z) → Q v H') → r xs H Q
def liftO {α : Type} : Option α → Re α
  | some a => .ok a
  | none => .bad
def r2 (g : PyData → PyData → Option PyData) (fa fb : Rho → Re PyData) : Rho → Re PyData := fun ρ => (fa ρ).andThen fun x => (fb ρ).andThen fun y => liftO (g x y)
def r1 (g : PyData → Option PyData) (fa : Rho → Re PyData) : Rho → Re PyData := fun ρ => (fa ρ).andThen fun x => liftO (g x)
def asB (f : Rho → Re PyData) : Rho → Re Bool := fun ρ => (f ρ).andThen fun d => match d with | .bool b => .ok b | _ => .bad
variable {la lb fa fb : Bool} {a b : Expr} {f g : Rho → Re PyData} {pos : Pos}
/-- two parts, then a rule upon values -/
theorem two_run {ta tb : TE} {r : R2} {gg : PyData → PyData → Option PyData} {fr : Bool} (ha : ∀ σ H ρ, ER X.K M F σ H ρ → ∀ Q, WE X M F E la fa σ ρ H (f ρ) Q → ta σ H Q) (hb : ∀ σ H ρ, ER X.K M F σ H ρ → ∀ Q, WE X M F E lb fb σ ρ H (g ρ) Q → tb σ H Q)
    (hg : SemB X.K r fr gg) (er : ER X.K M F σ H ρ) {Q : VK} (w : WE X M F E (la || lb) fr σ ρ H (r2 gg f g ρ) Q) : tOp r ta tb σ H Q := by
  refine ha σ H ρ er _ (we_step w fun d v H1 e1 s1 q1 _ w1 => ?_)
  refine hb σ H1 ρ (er.same s1) _ (we_step w1 fun e u H2 e2 s2 q2 _ w2 => ?_)
  cases q : gg d e with
  | none =>
    rw [q] at w2
    exact w2.elim
  | some z =>
    rw [q] at w2
    exact hg (RS M F σ ρ (la || lb)) H2 v u d e z Q ((er.same s1).same s2).freshS ((q1.same s2).wide rs_or1) (q2.wide rs_or2) q fun v' H' s' r' f' => w2 v' H' s' r' f'
theorem de_op {op : Operator} {r : R2} {fr : Bool} {gg : PyData → PyData → Option PyData} (ho : OpR X (binaryOp op) r) (hg : SemB X.K r fr gg) (ha : DE X M F E la fa a f) (hb : DE X M F E lb fb b g) : DE X M F E (la || lb) fr (.BinOp a op b pos) (r2 gg f g) := by
  obtain ⟨ta, pa, ha⟩ := ha
  obtain ⟨tb, pb, hb⟩ := hb
  exact ⟨_, pe_op ho pa pb, fun σ H ρ er Q w => two_run ha hb hg er w⟩
theorem de_un {op : UnaryOp} {r : V → Hp → VK → Prop} {fr : Bool} {gg : PyData → Option PyData} (ho : UnR X (unaryOp op) r) (hg : SemU X.K r fr gg) (ha : DE X M F E la fa a f) : DE X M F E la fr (.UnaryOp op a pos) (r1 gg f) := by
  obtain ⟨ta, pa, ha⟩ := ha
  refine ⟨_, pe_un ho pa, fun σ H ρ er Q w => ?_⟩
  refine ha σ H ρ er _ (we_step w fun d v H1 e1 s1 q1 _ w1 => ?_)
  cases q : gg d with
  | none =>
    rw [q] at w1
    exact w1.elim
  | some z =>
    rw [q] at w1
    exact hg (RS M F σ ρ la) H1 v d z Q (er.same s1).freshS q1 q fun v' H' s' r' f' => w1 v' H' s' r' f'
theorem de_cmp {op : CmpOp} {r : R2} {gg : PyData → PyData → Option PyData} (ho : OpR X (compareOp op) r) (hg : SemB X.K r false gg) (ha : DE X M F E la fa a f) (hb : DE X M F E lb fb b g) (hm : behindInMarks op b = false) : DE X M F E (la || lb) false (.Compare a [op] [b] pos) (r2 gg f g) := by
  obtain ⟨ta, pa, ha⟩ := ha
  obtain ⟨tb, pb, hb⟩ := hb
  exact ⟨_, pe_cmpR ho pa pb hm, fun σ H ρ er Q w => two_run ha hb hg er w⟩
theorem wt_asB {t : TE} {lk fr : Bool} {h : Rho → Re PyData} (ht : ∀ σ H ρ, ER X.K M F σ H ρ → ∀ Q, WE X M F E lk fr σ ρ H (h ρ) Q → t σ H Q) (er : ER X.K M F σ H ρ) {Q : Bool → Hp → Prop} (w : WT X E σ H (asB h ρ) Q) : t σ H fun x H' => ∃ k, x = .bl k ∧ Q k H' := by
  refine ht σ H ρ er _ (wt_step w fun d v H1 e1 s1 q1 _ w1 => ?_)
  cases q1 with
  | bl k => exact ⟨k, rfl, w1 H1 (Same.refl _)⟩
  | non => exact w1.elim
  | int _ => exact w1.elim
  | str _ => exact w1.elim
  | tup _ _ => exact w1.elim
  | lst _ _ _ => exact w1.elim
  | scr _ _ => exact w1.elim
  | dic _ _ _ _ => exact w1.elim
  | dit _ _ _ _ => exact w1.elim
  | dif _ _ _ => exact w1.elim
  | rng _ => exact w1.elim
  | dct _ _ _ _ => exact w1.elim
theorem dt_cmp {op : CmpOp} {r : R2} {gg : PyData → PyData → Option PyData} (ho : OpR X (compareOp op) r) (hg : SemB X.K r false gg) (ha : DE X M F E la fa a f) (hb : DE X M F E lb fb b g) (hm : behindInMarks op b = false) : DT X M F E (.Compare a [op] [b] pos) (asB (r2 gg f g)) := by
  obtain ⟨ta, pa, ha⟩ := ha
  obtain ⟨tb, pb, hb⟩ := hb
  exact ⟨_, pt_cmpR ho pa pb hm, fun σ H ρ er Q w => wt_asB (fun σ H ρ er Q w => two_run ha hb hg er w) er w⟩
theorem dt_val (ha : DE X M F E la fa a f) (he : ∀ whole, isTrue a X.env whole = (do let v ← whole; standAt a.pos; holding [v] (truthy v)) := by intro _; rfl) : DT X M F E a (asB f) := by
  obtain ⟨ta, pa, ha⟩ := ha
  exact ⟨_, pt_val pa he, fun σ H ρ er Q w => wt_asB ha er w⟩

/-! tests -/
def tAndR (f g : Rho → Re Bool) : Rho → Re Bool := fun ρ => (f ρ).andThen fun c => if c = true then g ρ else .ok false
def tOrR (f g : Rho → Re Bool) : Rho → Re Bool := fun ρ => (f ρ).andThen fun c => if c = true then .ok true else g ρ
def tNotR (f : Rho → Re Bool) : Rho → Re Bool := fun ρ => (f ρ).andThen fun c => .ok (!c)
section
variable {c c' : Expr} {rest : List Expr} {p q : Rho → Re Bool}
theorem DW.pt {e : Expr} (h : DW X M F E e p) : DT X M F E e p := by
  obtain ⟨t, h, w⟩ := h
  exact ⟨t, h.pt, w⟩
theorem dw_and1 (h : DT X M F E c p) : DW X M F E (.BoolOp .And [c] pos) p := by
  obtain ⟨t, h, w⟩ := h
  exact ⟨t, pw_and1 h, w⟩
theorem dw_or1 (h : DT X M F E c p) : DW X M F E (.BoolOp .Or [c] pos) p := by
  obtain ⟨t, h, w⟩ := h
  exact ⟨t, pw_or1 h, w⟩
theorem dw_and (h : DT X M F E c p) (k : DW X M F E (.BoolOp .And (c' :: rest) pos) q) : DW X M F E (.BoolOp .And (c :: c' :: rest) pos) (tAndR p q) := by
  obtain ⟨t, h, w⟩ := h
  obtain ⟨u, k, y⟩ := k
  refine ⟨_, pw_and h k, fun σ H ρ er Q z => ?_⟩
  refine w σ H ρ er _ (wt_stepT z fun d H1 e s z1 => ?_)
  cases d with
  | true => exact y σ H1 ρ (er.same s) Q z1
  | false => exact z1 H1 (Same.refl _)
theorem dw_or (h : DT X M F E c p) (k : DW X M F E (.BoolOp .Or (c' :: rest) pos) q) : DW X M F E (.BoolOp .Or (c :: c' :: rest) pos) (tOrR p q) := by
  obtain ⟨t, h, w⟩ := h
  obtain ⟨u, k, y⟩ := k
  refine ⟨_, pw_or h k, fun σ H ρ er Q z => ?_⟩
  refine w σ H ρ er _ (wt_stepT z fun d H1 e s z1 => ?_)
  cases d with
  | false => exact y σ H1 ρ (er.same s) Q z1
  | true => exact z1 H1 (Same.refl _)
theorem dt_not (h : DT X M F E c p) : DT X M F E (.UnaryOp .Not c pos) (tNotR p) := by
  obtain ⟨t, h, w⟩ := h
  refine ⟨_, pt_not h, fun σ H ρ er Q z => ?_⟩
  exact w σ H ρ er _ (wt_stepT z fun d H1 e s z1 => z1 H1 (Same.refl _))
def rIf (p : Rho → Re Bool) (f g : Rho → Re PyData) : Rho → Re PyData := fun ρ => (p ρ).andThen fun c => if c = true then f ρ else g ρ
theorem de_ifExp (hc : DT X M F E c p) (ha : DE X M F E la fa a f) (hb : DE X M F E lb fb b g) : DE X M F E (la || lb) false (.IfExp c a b pos) (rIf p f g) := by
  obtain ⟨t, hc, w⟩ := hc
  obtain ⟨ta, pa, ha⟩ := ha
  obtain ⟨tb, pb, hb⟩ := hb
  refine ⟨_, pe_ifExp hc pa pb, fun σ H ρ er Q z => ?_⟩
  refine w σ H ρ er _ (we_stepT z fun d H1 e s z1 => ?_)
  cases d with
  | true =>
    refine ha σ H1 ρ (er.same s) Q ?_
    have z1 : WE X M F E (la || lb) false σ ρ H1 (f ρ) Q := z1
    revert z1
    cases f ρ with
    | ok d => exact fun z1 v H2 s2 r2 _ => z1 v H2 s2 (r2.wide rs_or1) fun z => nomatch z
    | ex c => exact fun z1 => z1
    | bad => exact fun z1 => z1
  | false =>
    refine hb σ H1 ρ (er.same s) Q ?_
    have z1 : WE X M F E (la || lb) false σ ρ H1 (g ρ) Q := z1
    revert z1
    cases g ρ with
    | ok d => exact fun z1 v H2 s2 r2 _ => z1 v H2 s2 (r2.wide rs_or2) fun z => nomatch z
    | ex c => exact fun z1 => z1
    | bad => exact fun z1 => z1
/-- and, or, not as values of bools -/
def vB (p : Rho → Re Bool) : Rho → Re PyData := fun ρ => (p ρ).andThen fun b => .ok (.bool b)
theorem de_one {op} {t : Rho → Re PyData} (h : DE X M F E la fa a t) : DE X M F E la fa (.BoolOp op [a] pos) t := by
  obtain ⟨ta, pa, ha⟩ := h
  exact ⟨ta, pe_one pa, ha⟩
def rAnd (f g : Rho → Re PyData) : Rho → Re PyData := fun ρ => (f ρ).andThen fun d => match d with | .bool true => g ρ | .bool false => .ok (.bool false) | _ => .bad
def rOr (f g : Rho → Re PyData) : Rho → Re PyData := fun ρ => (f ρ).andThen fun d => match d with | .bool false => g ρ | .bool true => .ok (.bool true) | _ => .bad
def rNot (f : Rho → Re PyData) : Rho → Re PyData := fun ρ => (f ρ).andThen fun d => match d with | .bool b => .ok (.bool (!b)) | _ => .bad
theorem we_nofr {lk fr : Bool} {r : Re PyData} {Q : VK} (w : WE X M F E lk false σ ρ H r Q) : WE X M F E lk fr σ ρ H r Q := by
  cases r with
  | ok d => exact fun v H' s r _ => w v H' s r fun z => nomatch z
  | ex c => exact w
  | bad => exact w
theorem we_lk {lk lk' fr : Bool} {r : Re PyData} {Q : VK} (h : ∀ x, RS M F σ ρ lk x → RS M F σ ρ lk' x) (w : WE X M F E lk' false σ ρ H r Q) : WE X M F E lk fr σ ρ H r Q := by
  cases r with
  | ok d => exact fun v H' s r _ => w v H' s (r.wide h) fun z => nomatch z
  | ex c => exact w
  | bad => exact w
theorem de_and {b : Expr} {rest : List Expr} (ha : DE X M F E la fa a f) (hb : DE X M F E lb fb (.BoolOp .And (b :: rest) pos) g) : DE X M F E lb false (.BoolOp .And (a :: b :: rest) pos) (rAnd f g) := by
  obtain ⟨ta, pa, ha⟩ := ha
  obtain ⟨tb, pb, hb⟩ := hb
  refine ⟨_, pe_and pa pb, fun σ H ρ er Q z => ?_⟩
  refine ha σ H ρ er _ (we_step z fun d v H1 e s r1 _ z1 => ?_)
  cases r1 with
  | bl k =>
    refine ⟨k, rfl, ?_⟩
    cases k with
    | true => exact hb σ H1 ρ (er.same s) Q (we_nofr z1)
    | false => exact z1 _ H1 (Same.refl _) (.bl false) fun z => nomatch z
  | non => exact z1.elim
  | int _ => exact z1.elim
  | str _ => exact z1.elim
  | tup _ _ => exact z1.elim
  | lst _ _ _ => exact z1.elim
  | scr _ _ => exact z1.elim
  | dic _ _ _ _ => exact z1.elim
  | dit _ _ _ _ => exact z1.elim
  | dif _ _ _ => exact z1.elim
  | rng _ => exact z1.elim
  | dct _ _ _ _ => exact z1.elim
theorem de_or {b : Expr} {rest : List Expr} (ha : DE X M F E la fa a f) (hb : DE X M F E lb fb (.BoolOp .Or (b :: rest) pos) g) : DE X M F E lb false (.BoolOp .Or (a :: b :: rest) pos) (rOr f g) := by
  obtain ⟨ta, pa, ha⟩ := ha
  obtain ⟨tb, pb, hb⟩ := hb
  refine ⟨_, pe_or pa pb, fun σ H ρ er Q z => ?_⟩
  refine ha σ H ρ er _ (we_step z fun d v H1 e s r1 _ z1 => ?_)
  cases r1 with
  | bl k =>
    refine ⟨k, rfl, ?_⟩
    cases k with
    | false => exact hb σ H1 ρ (er.same s) Q (we_nofr z1)
    | true => exact z1 _ H1 (Same.refl _) (.bl true) fun z => nomatch z
  | non => exact z1.elim
  | int _ => exact z1.elim
  | str _ => exact z1.elim
  | tup _ _ => exact z1.elim
  | lst _ _ _ => exact z1.elim
  | scr _ _ => exact z1.elim
  | dic _ _ _ _ => exact z1.elim
  | dit _ _ _ _ => exact z1.elim
  | dif _ _ _ => exact z1.elim
  | rng _ => exact z1.elim
  | dct _ _ _ _ => exact z1.elim
theorem de_not (ha : DE X M F E la fa a f) : DE X M F E false false (.UnaryOp .Not a pos) (rNot f) := by
  obtain ⟨ta, pa, ha⟩ := ha
  refine ⟨_, pe_not pa, fun σ H ρ er Q z => ?_⟩
  refine ha σ H ρ er _ (we_step z fun d v H1 e s r1 _ z1 => ?_)
  cases r1 with
  | bl k => exact ⟨k, rfl, z1 _ H1 (Same.refl _) (.bl _) fun z => nomatch z⟩
  | non => exact z1.elim
  | int _ => exact z1.elim
  | str _ => exact z1.elim
  | tup _ _ => exact z1.elim
  | lst _ _ _ => exact z1.elim
  | scr _ _ => exact z1.elim
  | dic _ _ _ _ => exact z1.elim
  | dit _ _ _ _ => exact z1.elim
  | dif _ _ _ => exact z1.elim
  | rng _ => exact z1.elim
  | dct _ _ _ _ => exact z1.elim
end

/-! arguments, displays -/
def aNil : Rho → Re (List PyData) := fun _ => .ok []
def aCons (f : Rho → Re PyData) (g : Rho → Re (List PyData)) : Rho → Re (List PyData) := fun ρ => (f ρ).andThen fun d => (g ρ).andThen fun ds => .ok (d :: ds)
theorem da_nil : DA X M F E false [] aNil := ⟨_, pa_nil, fun σ H ρ er Q w => w [] H (Same.refl _) .nil⟩
theorem wa_step {lk lk' fr' : Bool} {r : Re PyData} {Q : List V → Hp → Prop} {g : PyData → Re (List PyData)} {K : VK} (w : WA X M F E lk σ ρ H (r.andThen g) Q)
    (h : ∀ d v H', r = .ok d → Same H H' → Rp X.K H' (RS M F σ ρ lk') v d → (fr' = true → Frs X.K (RS M F σ ρ lk') H H' v d) → WA X M F E lk σ ρ H' (g d) Q → K v H') : WE X M F E lk' fr' σ ρ H r K := by
  cases r with
  | ok d =>
    refine fun v H' s rr ff => h d v H' rfl s rr ff ?_
    have w : WA X M F E lk σ ρ H (g d) Q := w
    cases q : g d with
    | ok z =>
      rw [q] at w
      exact fun v2 H2 s2 r2 => w v2 H2 (s.trans s2) r2
    | ex c =>
      rw [q] at w
      exact fun C H2 m s2 => w C H2 m (s.trans s2)
    | bad =>
      rw [q] at w
      exact w
  | ex c => exact w
  | bad => exact w
theorem wa_stepA {lk lk' : Bool} {r : Re (List PyData)} {Q : List V → Hp → Prop} {g : List PyData → Re (List PyData)} {K : List V → Hp → Prop} (w : WA X M F E lk σ ρ H (r.andThen g) Q)
    (h : ∀ d v H', r = .ok d → Same H H' → RpA X.K H' (RS M F σ ρ lk') v d → WA X M F E lk σ ρ H' (g d) Q → K v H') : WA X M F E lk' σ ρ H r K := by
  cases r with
  | ok d =>
    refine fun v H' s rr => h d v H' rfl s rr ?_
    have w : WA X M F E lk σ ρ H (g d) Q := w
    cases q : g d with
    | ok z =>
      rw [q] at w
      exact fun v2 H2 s2 r2 => w v2 H2 (s.trans s2) r2
    | ex c =>
      rw [q] at w
      exact fun C H2 m s2 => w C H2 m (s.trans s2)
    | bad =>
      rw [q] at w
      exact w
  | ex c => exact w
  | bad => exact w
theorem da_cons {es : List Expr} {gs : Rho → Re (List PyData)} (ha : DE X M F E la fa a f) (hb : DA X M F E lb es gs) (hs : starEach (a :: es) X.env = (false, eval a X.env) :: starEach es X.env := by rfl) : DA X M F E (la || lb) (a :: es) (aCons f gs) := by
  obtain ⟨ta, pa, ha⟩ := ha
  obtain ⟨tb, pb, hb⟩ := hb
  refine ⟨_, pa_cons pa pb hs, fun σ H ρ er Q z => ?_⟩
  refine ha σ H ρ er _ (wa_step z fun d v H1 e s r1 _ z1 => ?_)
  refine hb σ H1 ρ (er.same s) _ (wa_stepA z1 fun ds vs H2 e s2 r2 z2 => ?_)
  exact z2 _ H2 (Same.refl _) (.cons ((r1.same s2).wide rs_or1) (r2.wide rs_or2))
theorem same_new {H : Hp} {p : Addr} {o : HO} (h : H p = none) : Same H (upd H p o) := .of fun b x e => by
  rw [upd_ne (ne_of_none e h)]
  exact e
/-- the line of lengths that the data may have: 10000 (Python's own is greater) -/
def okLen (n : Nat) : Bool := decide (n ≤ 10000)
theorem okLen_le {n : Nat} (h : okLen n = true) : n ≤ sizeLine := Nat.le_trans (of_decide_eq_true h) (by decide)
def mkT (ds : List PyData) : Re PyData := if okLen ds.length = true then .ok (.tuple ds) else .bad
def mkL (ds : List PyData) : Re PyData := if okLen ds.length = true then .ok (.list ds) else .bad
def rTup (g : Rho → Re (List PyData)) : Rho → Re PyData := fun ρ => (g ρ).andThen mkT
def rLst (g : Rho → Re (List PyData)) : Rho → Re PyData := fun ρ => (g ρ).andThen mkL
theorem de_tup {es : List Expr} {k : Nat} {gs : Rho → Re (List PyData)} (h : DA X M F E la es gs) : DE X M F E la false (.Tuple es k pos) (rTup gs) := by
  obtain ⟨t, p, h⟩ := h
  refine ⟨_, pe_tupF p, fun σ H ρ er Q z => ?_⟩
  refine h σ H ρ er _ (we_stepA z fun ds vs H1 e s r1 z1 => ?_)
  unfold mkT at z1
  by_cases hl : okLen ds.length = true
  · rw [if_pos hl] at z1
    refine ⟨by rw [r1.length]; exact okLen_le hl, fun p o hp hd => z1 _ _ (same_new hp) ?_ fun z => nomatch z⟩
    exact .tup (.inl ⟨o, upd_same, hd⟩) (r1.same (same_new hp))
  · rw [if_neg hl] at z1
    exact z1.elim
/-- a new list at p -/
theorem frs_new {S : Addr → Prop} {K : PySem.W.Frag} {H H1 : Hp} {p : Addr} {vs : List V} {ds : List PyData} (s : Same H H1) (hp : H1 p = none) (r : RpA K H1 S vs ds) : Frs K S H (upd H1 p (.lst vs)) (.ref p) (.list ds) := by
  refine ⟨p, rfl, s.free hp, .lst upd_same ((r.thru.same (same_new hp)).wide fun a x => ⟨x.1, fun e => ?_⟩)⟩
  rw [e] at x
  exact x.2.not hp
theorem de_lst {es : List Expr} {gs : Rho → Re (List PyData)} (h : DA X M F E la es gs) : DE X M F E la true (.List es pos) (rLst gs) := by
  obtain ⟨t, p, h⟩ := h
  refine ⟨_, pe_lst p, fun σ H ρ er Q z => ?_⟩
  refine h σ H ρ er _ (we_stepA z fun ds vs H1 e s r1 z1 => ?_)
  unfold mkL at z1
  by_cases hl : okLen ds.length = true
  · rw [if_pos hl] at z1
    refine ⟨by rw [r1.length]; exact okLen_le hl, fun p hp => z1 _ _ (same_new hp) ?_ fun _ => frs_new (Same.refl _) hp r1⟩
    exact .lst upd_same ((er.same s).freshS p hp) (r1.same (same_new hp))
  · rw [if_neg hl] at z1
    exact z1.elim

/-! calls -/
/-- a def's promise, by the function that it is -/
def spD (mg : Str → Option Value) (f : List PyData → Re PyData) (K : PySem.W.Frag) : Sp := fun vs H Q Ex => ∃ (ds : List PyData) (S : Addr → Prop), RpA K H S vs ds ∧ ((∀ a, H a = none → S a) ∧ LamX.Tabs TabL.T H) ∧
  match f ds with
  | .ok d => ∀ v H', Same H H' → Rp K H' S v d → Q v H'
  | .ex c => ∀ C H', mg c = some (.ref C) → Same H H' → Ex (.ref C) none H'
  | .bad => False
def rCall (ff : List PyData → Re PyData) (g : Rho → Re (List PyData)) : Rho → Re PyData := fun ρ => (g ρ).andThen ff
theorem de_call {k : Nat} {fAd : Addr} {fd : FuncData} {ps : List Str} {ff : List PyData → Re PyData} {x : Str} {es : List Expr} {gs : Rho → Re (List PyData)} {p : Pos} (G : FnOk X.prog X.w X.K X.mg X.base (L2.CX X.prog X.w) k fAd fd ps (spD X.mg ff X.K)) (hr : Room k X.A) (hg : Gl X x)
    (hm : X.mg x = some (.ref fAd)) (hk : PySem.W.keepIn X.K (.ref fAd) = true) (hb : Binds X.K fd ps []) (hx : ∀ σ, PassesAt (L2.CX X.prog X.w) X σ (E σ)) (ha : DA X M F E la (a :: es) gs)
    (hdb : (x == ("__debug__" : Str)) = false := by decide) (he : starEach (a :: es) X.env = (false, eval a X.env) :: starEach es X.env := by rfl) (hpl : (backTo pos (starEach es X.env)).any (·.1) = false := by rfl) :
    DE X M F E la false (.Call (.Name x p) (a :: es) [] pos) (rCall ff gs) := by
  obtain ⟨t, pa, ha⟩ := ha
  refine ⟨_, pe_callS G hr hg hm hk hb hx pa hdb he hpl, fun σ H ρ er Q z => ?_⟩
  refine ha σ H ρ er _ (we_stepA z fun ds vs H1 e s r1 z1 => ?_)
  refine ⟨ds, RS M F σ ρ la, r1, ⟨(er.same s).freshS, (er.same s).tab⟩, ?_⟩
  cases q : ff ds with
  | ok d =>
    rw [q] at z1
    exact fun v H' s' r' => z1 v H' s' r' fun z => nomatch z
  | ex c =>
    rw [q] at z1
    exact z1
  | bad =>
    rw [q] at z1
    exact z1
/-- a built-in called -/
theorem de_callB {id : String} {r : List V → Hp → VK → Prop} {fr : Bool} {gg : List PyData → Option PyData} {x : Str} {es : List Expr} {gs : Rho → Re (List PyData)} {p : Pos} (hc : CallR X (.builtin id) r) (hS : SemL X.K r fr gg) (hg : Gl X x) (hm : X.mg x = none) (hv : bootBuiltins x = some (.builtin id))
    (ha : DA X M F E la (a :: es) gs) (hn : x ≠ "__name__" := by decide) (hdb : (x == ("__debug__" : Str)) = false := by decide)
    (he : starEach (a :: es) X.env = (false, eval a X.env) :: starEach es X.env := by rfl) (hpl : (backTo pos (starEach es X.env)).any (·.1) = false := by rfl) :
    DE X M F E la fr (.Call (.Name x p) (a :: es) [] pos) (fun ρ => (gs ρ).andThen fun ds => liftO (gg ds)) := by
  obtain ⟨t, pa, ha⟩ := ha
  refine ⟨_, pe_callB hc hg hm hv pa hn hdb he hpl, fun σ H ρ er Q z => ?_⟩
  refine ha σ H ρ er _ (we_stepA z fun ds vs H1 e s r1 z1 => ?_)
  cases q : gg ds with
  | none =>
    rw [q] at z1
    exact z1.elim
  | some d =>
    rw [q] at z1
    exact hS (RS M F σ ρ la) H1 vs ds d Q (er.same s).freshS r1 q fun v' H' s' r' f' => z1 v' H' s' r' f'
theorem de_callTy {id : String} {r : List V → Hp → VK → Prop} {fr : Bool} {gg : List PyData → Option PyData} {x : Str} {es : List Expr} {gs : Rho → Re (List PyData)} {p : Pos} (hc : CallR X (.type id) r) (hS : SemL X.K r fr gg) (hg : Gl X x) (hm : X.mg x = none) (hv : bootBuiltins x = some (.type id))
    (ha : DA X M F E la (a :: es) gs) (hn : x ≠ "__name__" := by decide) (hdb : (x == ("__debug__" : Str)) = false := by decide)
    (he : starEach (a :: es) X.env = (false, eval a X.env) :: starEach es X.env := by rfl) (hpl : (backTo pos (starEach es X.env)).any (·.1) = false := by rfl) :
    DE X M F E la fr (.Call (.Name x p) (a :: es) [] pos) (fun ρ => (gs ρ).andThen fun ds => liftO (gg ds)) := by
  obtain ⟨t, pa, ha⟩ := ha
  refine ⟨_, pe_callTy hc hg hm hv pa hn hdb he hpl, fun σ H ρ er Q z => ?_⟩
  refine ha σ H ρ er _ (we_stepA z fun ds vs H1 e s r1 z1 => ?_)
  cases q : gg ds with
  | none =>
    rw [q] at z1
    exact z1.elim
  | some d =>
    rw [q] at z1
    exact hS (RS M F σ ρ la) H1 vs ds d Q (er.same s).freshS r1 q fun v' H' s' r' f' => z1 v' H' s' r' f'
end
end Pu

set_option Elab.async false
set_option linter.all false
set_option maxRecDepth 100000
set_option maxHeartbeats 2000000
namespace Pu
open PySem PySem.Spec PyProof.Rows L2
variable [TabL]

/-! ### statements -/
inductive Sr where
  | nx (ρ : Rho)
  | rt (d : PyData)
  | bk (ρ : Rho)
  | ct (ρ : Rho)
  | ex (c : Str) (ρ : Rho)
  | bad
def Re.st : Re PyData → Rho → (PyData → Sr) → Sr
  | .ok d, _, k => k d
  | .ex c, ρ, _ => .ex c ρ
  | .bad, _, _ => .bad
def Re.stT : Re Bool → Rho → (Bool → Sr) → Sr
  | .ok d, _, k => k d
  | .ex c, ρ, _ => .ex c ρ
  | .bad, _, _ => .bad
def WS (X : Cx) (M : Nat → Bool) (F : Fx) (E : L2.St → XK) (σ : L2.St) (H : Hp) (ρ : Rho) (r : Sr) (D : Ends) : Prop :=
  match r with
  | .nx ρ' => ∀ σ' H', ER X.K M F σ' H' ρ' → Evo M σ H ρ σ' H' ρ' → D.nx σ' H'
  | .rt d => ∀ v H', Same F.H0 H' → Rp X.K H' F.S0 v d → D.rt v H'
  | .bk ρ' => ∀ σ' H', ER X.K M F σ' H' ρ' → Evo M σ H ρ σ' H' ρ' → D.bk σ' H'
  | .ct ρ' => ∀ σ' H', ER X.K M F σ' H' ρ' → Evo M σ H ρ σ' H' ρ' → D.ct σ' H'
  | .ex c ρ' => ∀ C σ' H', X.mg c = some (.ref C) → ER X.K M F σ' H' ρ' → Evo M σ H ρ σ' H' ρ' → E σ' (.ref C) none H'
  | .bad => False
def DS (X : Cx) (M : Nat → Bool) (F : Fx) (E : L2.St → XK) (st : Stmt) (s : Rho → Sr) : Prop := ∃ t : TS, PS X st t ∧ ∀ σ H ρ, ER X.K M F σ H ρ → ∀ D, WS X M F E σ H ρ (s ρ) D → t D σ H
def DSs (X : Cx) (M : Nat → Bool) (F : Fx) (E : L2.St → XK) (st : List Stmt) (s : Rho → Sr) : Prop := ∃ t : TS, PSs X st t ∧ ∀ σ H ρ, ER X.K M F σ H ρ → ∀ D, WS X M F E σ H ρ (s ρ) D → t D σ H

section
variable {X : Cx} {M : Nat → Bool} {F : Fx} {E : L2.St → XK} {σ σ1 : L2.St} {ρ ρ1 : Rho} {H H' H1 : Hp} {D : Ends}
/-- from a later state -/
theorem ws_evo {r : Sr} (v : Evo M σ H ρ σ1 H1 ρ1) (w : WS X M F E σ H ρ r D) : WS X M F E σ1 H1 ρ1 r D := by
  cases r with
  | nx ρ' => exact fun σ' H' e v' => w σ' H' e (v.trans v')
  | rt d => exact w
  | bk ρ' => exact fun σ' H' e v' => w σ' H' e (v.trans v')
  | ct ρ' => exact fun σ' H' e v' => w σ' H' e (v.trans v')
  | ex c ρ' => exact fun C σ' H' m e v' => w C σ' H' m e (v.trans v')
  | bad => exact w
theorem ws_step {lk fr : Bool} {r : Re PyData} {g : PyData → Sr} {K : VK} (er : ER X.K M F σ H ρ) (w : WS X M F E σ H ρ (r.st ρ g) D)
    (h : ∀ d v H', r = .ok d → Same H H' → Rp X.K H' (RS M F σ ρ lk) v d → (fr = true → Frs X.K (RS M F σ ρ lk) H H' v d) → WS X M F E σ H' ρ (g d) D → K v H') : WE X M F E lk fr σ ρ H r K := by
  cases r with
  | ok d => exact fun v H' s r f => h d v H' rfl s r f (ws_evo (Evo.same s) w)
  | ex c => exact fun C H' m s => w C σ H' m (er.same s) (Evo.same s)
  | bad => exact w
theorem ws_stepT {r : Re Bool} {g : Bool → Sr} {K : Bool → Hp → Prop} (er : ER X.K M F σ H ρ) (w : WS X M F E σ H ρ (r.stT ρ g) D)
    (h : ∀ d H', r = .ok d → Same H H' → WS X M F E σ H' ρ (g d) D → K d H') : WT X E σ H r K := by
  cases r with
  | ok d => exact fun H' s => h d H' rfl s (ws_evo (Evo.same s) w)
  | ex c => exact fun C H' m s => w C σ H' m (er.same s) (Evo.same s)
  | bad => exact w

variable {st : Stmt} {rest : List Stmt} {s u : Rho → Sr} {la fa lb fb : Bool} {a b : Expr} {f g : Rho → Re PyData} {p : Rho → Re Bool} {pos : Pos}
def sNil : Rho → Sr := fun ρ => .nx ρ
def sSeq (s u : Rho → Sr) : Rho → Sr := fun ρ => match s ρ with | .nx ρ' => u ρ' | r => r
theorem dss_nil : DSs X M F E [] sNil := ⟨_, pss_nil, fun σ H ρ er D w => w σ H er Evo.refl⟩
theorem dss_one (h : DS X M F E st s) : DSs X M F E [st] s := by
  obtain ⟨t, p, h⟩ := h
  exact ⟨t, pss_one p, h⟩
theorem dss_cons (h : DS X M F E st s) (k : DSs X M F E rest u) : DSs X M F E (st :: rest) (sSeq s u) := by
  obtain ⟨t, p, h⟩ := h
  obtain ⟨t', p', k⟩ := k
  refine ⟨_, pss_cons p p', fun σ H ρ er D w => ?_⟩
  refine h σ H ρ er _ ?_
  unfold sSeq at w
  cases q : s ρ with
  | nx ρ' =>
    rw [q] at w
    exact fun σ' H' er' ev => k σ' H' ρ' er' D (ws_evo ev w)
  | rt d =>
    rw [q] at w
    exact w
  | bk ρ' =>
    rw [q] at w
    exact w
  | ct ρ' =>
    rw [q] at w
    exact w
  | ex c ρ' =>
    rw [q] at w
    exact w
  | bad =>
    rw [q] at w
    exact w
theorem ds_pass : DS X M F E (.Pass pos) sNil := ⟨_, ps_pass, fun σ H ρ er D w => w σ H er Evo.refl⟩
theorem ds_doc {x j pos'} : DS X M F E (.Expr (.Constant (.str x) j pos) pos') sNil := ⟨_, ps_doc, fun σ H ρ er D w => w σ H er Evo.refl⟩
theorem ds_break : DS X M F E (.Break pos) (fun ρ => .bk ρ) := ⟨_, ps_break, fun σ H ρ er D w => w σ H er Evo.refl⟩
theorem ds_continue : DS X M F E (.Continue pos) (fun ρ => .ct ρ) := ⟨_, ps_continue, fun σ H ρ er D w => w σ H er Evo.refl⟩
def sIf (p : Rho → Re Bool) (s u : Rho → Sr) : Rho → Sr := fun ρ => (p ρ).stT ρ fun b => if b = true then s ρ else u ρ
theorem ds_if {c : Expr} {x y : List Stmt} (hc : DT X M F E c p) (hx : DSs X M F E x s) (hy : DSs X M F E y u) : DS X M F E (.If c x y pos) (sIf p s u) := by
  obtain ⟨t, pc, hc⟩ := hc
  obtain ⟨t1, p1, h1⟩ := hx
  obtain ⟨t2, p2, h2⟩ := hy
  refine ⟨_, ps_if pc p1 p2, fun σ H ρ er D w => ?_⟩
  refine hc σ H ρ er _ (ws_stepT er w fun d H1 e sm w1 => ?_)
  cases d with
  | true => exact h1 σ H1 ρ (er.same sm) D w1
  | false => exact h2 σ H1 ρ (er.same sm) D w1
def sRet (f : Rho → Re PyData) : Rho → Sr := fun ρ => (f ρ).st ρ fun d => .rt d
theorem ds_ret (h : DE X M F E la fa a f) : DS X M F E (.Return (some a) pos) (sRet f) := by
  obtain ⟨t, p, h⟩ := h
  refine ⟨_, ps_ret p, fun σ H ρ er D w => ?_⟩
  exact h σ H ρ er _ (ws_step er w fun d v H1 e sm r _ w1 => w1 v H1 (er.same sm).old (r.wide fun a x => x.1))
theorem ds_retN : DS X M F E (.Return none pos) (fun _ => .rt .none) := ⟨_, ps_retN, fun σ H ρ er D w => w _ H er.old .non⟩
def sDrop (f : Rho → Re PyData) : Rho → Sr := fun ρ => (f ρ).st ρ fun _ => .nx ρ
theorem ds_expr (h : DE X M F E la fa a f) (hs : swapsWith a none pos.line X.env = pure false := by rfl) : DS X M F E (.Expr a pos) (sDrop f) := by
  obtain ⟨t, p, h⟩ := h
  refine ⟨_, ps_expr p hs, fun σ H ρ er D w => ?_⟩
  exact h σ H ρ er _ (ws_step er w fun d v H1 e sm r _ w1 => w1 σ H1 (er.same sm) Evo.refl)
/-- x = e, x no list of the frame's own -/
def sSet (i : Nat) (lk : Bool) (f : Rho → Re PyData) : Rho → Sr := fun ρ => (f ρ).st ρ fun d => if lk = true → imm d = true then .nx (ρ.set i (some d)) else .bad
theorem ds_set {i : Nat} {x : Str} {pos' : Pos} (m : M i = false) (hN : X.N.Nodup) (h : DE X M F E la fa a f) (hi : X.N[i]? = some x := by rfl) (hx : Loc X.env.scope x := by first | exact Or.inl rfl | exact Or.inr rfl)
    (hs : swapsWith a (some (.Name x pos')) pos.line X.env = pure false := by rfl) (hw : swappedStores [.Name x pos'] a X.env = pure none := by rfl) (hf : X.fn x = true ∨ X.env.scope.names.lookup x = some .local := by first | exact .inl rfl | exact .inr rfl) :
    DS X M F E (.Assign [.Name x pos'] a pos) (sSet i la f) := by
  obtain ⟨t, p, h⟩ := h
  refine ⟨_, ps_asg p (pg_name hN hi hx hf) hs hw, fun σ H ρ er D w => ?_⟩
  refine h σ H ρ er _ (ws_step er w fun d v H1 e sm r _ w1 => ?_)
  by_cases hd : la = true → imm d = true
  · rw [if_pos hd] at w1
    have r' : Rp X.K H1 (RS M F σ ρ false) v d := by
      cases la with
      | false => exact r
      | true => exact r.noAddr (hd rfl)
    exact w1 _ H1 ((er.same sm).set m r') fun a u q n _ => ⟨q, fun o => n ((own_set m).mp o)⟩
  · rw [if_neg hd] at w1
    exact w1.elim

/-! own lists -/
theorem own_upd {i : Nat} {pp : Addr} (m : M i = true) {d : PyData} {a : Addr} (hi : i < ρ.length) (hl : ρ.length = σ.length) : OwnA M (σ.set i (some (.ref pp))) (ρ.set i (some d)) a → a = pp ∨ ∃ j d, j ≠ i ∧ M j = true ∧ ρ[j]? = some (some d) ∧ σ[j]? = some (some (.ref a)) := by
  rintro ⟨j, e, mj, r, s⟩
  by_cases hj : i = j
  · subst hj
    rw [List.getElem?_set_self (by rw [← hl]; exact hi)] at s
    cases s
    exact .inl rfl
  · rw [List.getElem?_set_ne hj] at r s
    exact .inr ⟨j, e, fun z => hj z.symm, mj, r, s⟩
/-- a new own list in slot i -/
theorem ER.setOwn (e : ER X.K M F σ H ρ) {i : Nat} {pp : Addr} {d : PyData} (m : M i = true) (hi : i < ρ.length) (sm : Same H H1) (hp : H pp = none) (w : OwR X.K H1 (fun a => RS M F σ ρ false a ∧ a ≠ pp) pp d) :
    ER X.K M F (σ.set i (some (.ref pp))) H1 (ρ.set i (some d)) ∧ Evo M σ H ρ (σ.set i (some (.ref pp))) H1 (ρ.set i (some d)) := by
  have h0 : F.H0 pp = none := (e.fresh hp).1
  have key : ∀ a, OwnA M (σ.set i (some (.ref pp))) (ρ.set i (some d)) a → a = pp ∨ OwnA M σ ρ a := fun a o => by
    rcases own_upd m hi e.len o with z | ⟨j, d', _, mj, r, s⟩
    · exact .inl z
    · exact .inr ⟨j, d', mj, r, s⟩
  have rs : ∀ a, RS M F σ ρ false a → a ≠ pp → RS M F (σ.set i (some (.ref pp))) (ρ.set i (some d)) false a := fun a x ne => ⟨x.1, fun _ o => by
    rcases key a o with z | z
    · exact ne z
    · exact x.2 rfl z⟩
  have e1 := e.same sm
  refine ⟨⟨by rw [List.length_set, List.length_set]; exact e.len, e1.old, e1.new, e1.tab, fun j d' q mj => ?_, fun j d' q mj => ?_, fun j k d' e' p mj mk q1 q2 s1 s2 => ?_⟩, fun a u q n w => ⟨sm a u q w, fun o => ?_⟩⟩
  · have hj : i ≠ j := fun z => by
      subst z
      rw [m] at mj
      cases mj
    rw [List.getElem?_set_ne hj] at q
    obtain ⟨v, s, r⟩ := e.im j d' q mj
    exact ⟨v, by rw [List.getElem?_set_ne hj]; exact s, r.keep (kp_same sm) fun a u x z _ => rs a x fun q => by
      rw [q, hp] at z
      cases z⟩
  · by_cases hj : i = j
    · subst hj
      rw [List.getElem?_set_self hi] at q
      cases q
      exact ⟨pp, List.getElem?_set_self (by rw [← e.len]; exact hi), ⟨h0, e.new _ hp⟩, w.keep (kp_same (Same.refl _)) (fun a u x _ _ => rs a x.1 x.2) fun _ q _ => q⟩
    · rw [List.getElem?_set_ne hj] at q
      obtain ⟨p, s, z, w'⟩ := e.ow j d' q mj
      refine ⟨p, by rw [List.getElem?_set_ne hj]; exact s, z, w'.keep (kp_same sm) (fun a u x zz _ => rs a x fun qq => ?_) fun u q n => sm _ _ q n⟩
      rw [qq, hp] at zz
      cases zz
  · have nope : ∀ j d', i ≠ j → M j = true → (ρ.set i (some d))[j]? = some (some d') → (σ.set i (some (V.ref pp)))[j]? = some (some (.ref pp)) → False := fun j d' hj mj q s => by
      rw [List.getElem?_set_ne hj] at q s
      obtain ⟨_, _, u, hu⟩ := e.own ⟨j, d', mj, q, s⟩
      rw [hp] at hu
      cases hu
    by_cases hj : i = j
    · subst hj
      by_cases hk : i = k
      · exact hk
      · rw [List.getElem?_set_self (by rw [← e.len]; exact hi)] at s1
        cases s1
        exact (nope k e' hk mk q2 s2).elim
    · by_cases hk : i = k
      · subst hk
        rw [List.getElem?_set_self (by rw [← e.len]; exact hi)] at s2
        cases s2
        exact (nope j d' hj mj q1 s1).elim
      · rw [List.getElem?_set_ne hj] at q1 s1
        rw [List.getElem?_set_ne hk] at q2 s2
        exact e.ap j k d' e' p mj mk q1 q2 s1 s2
  · rcases key a o with z | z
    · rw [z, hp] at q
      cases q
    · exact n z
/-- items of an own list -/
def itemsImm : PyData → Bool
  | .list ds => immAll ds
  | .dict (_ :: kvs) => immAll (kvs.map (·.2))
  | _ => false
theorem zip_snd : ∀ {α β : Type} (ks : List α) (ds : List β), ks.length = ds.length → (ks.zip ds).map (·.2) = ds
  | _, _, [], [], _ => rfl
  | _, _, _ :: ks, _ :: ds, h => by
    rw [List.zip_cons_cons, List.map_cons, zip_snd ks ds (by simpa using h)]
  | _, _, [], _ :: _, h => by simp at h
  | _, _, _ :: _, [], h => by simp at h
theorem OwR.noAddr {K : PySem.W.Frag} {S S' : Addr → Prop} {H : Hp} {pp : Addr} {d : PyData} (h : OwR K H S pp d) (q : itemsImm d = true) : OwR K H S' pp d := by
  cases h with
  | lst e r => exact .lst e (r.noAddr q)
  | dic e l r => exact .dic e l (r.noAddr (by
      have q' : immAll ((_ : List (PyData × PyData)).map (·.2)) = true := q
      rw [zip_snd _ _ (by rw [List.length_map, l, r.length])] at q'
      exact q'))
  | dct e l r => exact .dct e l r
  | dit e l r => exact .dit e l (r.noAddr (by
      have q' : immAll ((_ : List (PyData × PyData)).map (·.2)) = true := q
      rw [zip_snd _ _ (by rw [List.length_map, l, r.length])] at q'
      exact q'))
def sSetO (i : Nat) (lk : Bool) (f : Rho → Re PyData) : Rho → Sr := fun ρ => (f ρ).st ρ fun d => if i < ρ.length ∧ (lk = true → itemsImm d = true) then .nx (ρ.set i (some d)) else .bad
/-- x = [..], {..}, list(..): x is a list of the frame's own -/
theorem setO_run {t : TE} {i : Nat} (m : M i = true) (h : ∀ σ H ρ, ER X.K M F σ H ρ → ∀ Q, WE X M F E la true σ ρ H (f ρ) Q → t σ H Q) (er : ER X.K M F σ H ρ) (w : WS X M F E σ H ρ (sSetO i la f ρ) D) : tAsg t (gName i) D σ H := by
  refine h σ H ρ er _ ?_
  unfold sSetO at w
  cases q : f ρ with
  | ok d =>
    rw [q] at w
    refine fun v H1 sm r fr => ?_
    obtain ⟨pp, rfl, hp, ow⟩ := fr rfl
    have w : WS X M F E σ H ρ (if i < ρ.length ∧ (la = true → itemsImm d = true) then .nx (ρ.set i (some d)) else .bad) D := w
    by_cases hd : i < ρ.length ∧ (la = true → itemsImm d = true)
    · rw [if_pos hd] at w
      have ow' : OwR X.K H1 (fun a => RS M F σ ρ false a ∧ a ≠ pp) pp d := by
        cases la with
        | false => exact ow
        | true => exact ow.noAddr (hd.2 rfl)
      obtain ⟨er', ev⟩ := er.setOwn m hd.1 sm hp ow'
      exact w _ _ er' ev
    · rw [if_neg hd] at w
      exact w.elim
  | ex c =>
    rw [q] at w
    exact fun C H' mm sm => w C σ H' mm (er.same sm) (Evo.same sm)
  | bad =>
    rw [q] at w
    exact w
theorem ds_setO {i : Nat} {x : Str} {pos' : Pos} (m : M i = true) (hN : X.N.Nodup) (h : DE X M F E la true a f) (hi : X.N[i]? = some x := by rfl) (hx : Loc X.env.scope x := by first | exact Or.inl rfl | exact Or.inr rfl)
    (hs : swapsWith a (some (.Name x pos')) pos.line X.env = pure false := by rfl) (hw : swappedStores [.Name x pos'] a X.env = pure none := by rfl) (hf : X.fn x = true ∨ X.env.scope.names.lookup x = some .local := by first | exact .inl rfl | exact .inr rfl) :
    DS X M F E (.Assign [.Name x pos'] a pos) (sSetO i la f) := by
  obtain ⟨t, p, h⟩ := h
  exact ⟨_, ps_asg p (pg_name hN hi hx hf) hs hw, fun σ H ρ er D w => setO_run m h er w⟩
/-- an own list's content changes -/
theorem ER.put (e : ER X.K M F σ H ρ) {i : Nat} {pp : Addr} {d d' : PyData} {o : HO} (m : M i = true) (hr : ρ[i]? = some (some d)) (hs : σ[i]? = some (some (.ref pp))) (ow : OwR X.K (upd H pp o) (RS M F σ ρ false) pp d') :
    ER X.K M F σ (upd H pp o) (ρ.set i (some d')) ∧ Evo M σ H ρ σ (upd H pp o) (ρ.set i (some d')) := by
  have hi := getSome hr
  have oP : OwnA M σ ρ pp := ⟨i, d, m, hr, hs⟩
  obtain ⟨h0, _, uu, hu⟩ := e.own oP
  obtain ⟨p', s', z', w'⟩ := e.ow i d hr m
  rw [hs] at s'
  cases s'
  obtain ⟨u2, hu2, mu⟩ := w'.there
  have own : ∀ a, OwnA M σ (ρ.set i (some d')) a ↔ OwnA M σ ρ a := fun a => by
    constructor
    · rintro ⟨j, x, mj, r, s⟩
      by_cases hj : i = j
      · subst hj
        exact ⟨i, d, m, hr, s⟩
      · rw [List.getElem?_set_ne hj] at r
        exact ⟨j, x, mj, r, s⟩
    · rintro ⟨j, x, mj, r, s⟩
      by_cases hj : i = j
      · subst hj
        exact ⟨i, d', m, List.getElem?_set_self hi, s⟩
      · exact ⟨j, x, mj, by rw [List.getElem?_set_ne hj]; exact r, s⟩
  have rs : RS M F σ (ρ.set i (some d')) false = RS M F σ ρ false := by
    funext a
    unfold RS
    rw [propext (own a)]
  have kp : Kp (RS M F σ ρ false) H (upd H pp o) := by
    refine ⟨fun a u q x _ => ?_⟩
    rw [upd_ne]
    · exact q
    · intro z
      subst z
      rcases x with x | x
      · exact x.2 rfl oP
      · rw [q] at hu2
        cases hu2
        exact x mu
  obtain ⟨u3, hu3, pl⟩ := w'.plain
  refine ⟨⟨by rw [List.length_set]; exact e.len, e.old.put h0 hu3 pl, fun a q => e.new a ?_, tab_upd e.tab hu3 pl, fun j x q mj => ?_, fun j x q mj => ?_, fun j k x y p mj mk q1 q2 s1 s2 => ?_⟩, fun a u q n w => ⟨?_, fun oo => n ((own a).mp oo)⟩⟩
  · by_cases z : a = pp
    · rw [z, upd_same] at q
      cases q
    · rw [upd_ne z] at q
      exact q
  · have hj : i ≠ j := fun z => by
      subst z
      rw [m] at mj
      cases mj
    rw [List.getElem?_set_ne hj] at q
    obtain ⟨v, s, r⟩ := e.im j x q mj
    rw [rs]
    exact ⟨v, s, r.keep kp fun _ _ x _ _ => x⟩
  · rw [rs]
    by_cases hj : i = j
    · subst hj
      rw [List.getElem?_set_self hi] at q
      cases q
      exact ⟨pp, hs, z', ow⟩
    · rw [List.getElem?_set_ne hj] at q
      obtain ⟨p, s, z, w2⟩ := e.ow j x q mj
      refine ⟨p, s, z, w2.keep kp (fun _ _ x _ _ => x) fun u q' _ => ?_⟩
      rw [upd_ne]
      · exact q'
      · intro zz
        rw [zz] at s
        exact hj (e.ap i j d x pp m mj hr q hs s)
  · have back : ∀ j x, (ρ.set i (some d'))[j]? = some (some x) → ∃ x', ρ[j]? = some (some x') := fun j x q => by
      by_cases hj : i = j
      · subst hj
        exact ⟨d, hr⟩
      · rw [List.getElem?_set_ne hj] at q
        exact ⟨x, q⟩
    obtain ⟨x', q1⟩ := back j x q1
    obtain ⟨y', q2⟩ := back k y q2
    exact e.ap j k x' y' p mj mk q1 q2 s1 s2
  · rw [upd_ne]
    · exact q
    · intro z
      subst z
      exact n oP
end
end Pu

set_option Elab.async false
set_option linter.all false
set_option maxRecDepth 100000
set_option maxHeartbeats 2000000
namespace Pu
open PySem PySem.Spec PyProof.Rows L2
variable [TabL]

section
variable {X : Cx} {M : Nat → Bool} {F : Fx} {E : L2.St → XK} {σ σ1 : L2.St} {ρ ρ1 : Rho} {H H' H1 : Hp} {D : Ends}
variable {st : Stmt} {rest : List Stmt} {s u : Rho → Sr} {la fa lb fb : Bool} {a b : Expr} {f g : Rho → Re PyData} {p : Rho → Re Bool} {pos : Pos}

/-! ### changes of own lists -/
def getL (ρ : Rho) (i : Nat) : Option (List PyData) := match ρ[i]? with | some (some (.list ds)) => some ds | _ => none
theorem getL_some {ds : List PyData} {i : Nat} (h : getL ρ i = some ds) : ρ[i]? = some (some (.list ds)) := by
  unfold getL at h
  split at h
  · rename_i ds' e
    cases h
    exact e
  · cases h
theorem ER.lst (er : ER X.K M F σ H ρ) {i : Nat} {ds : List PyData} (m : M i = true) (h : getL ρ i = some ds) : ∃ pp xs, σ[i]? = some (some (.ref pp)) ∧ H pp = some (.lst xs) ∧ RpA X.K H (RS M F σ ρ false) xs ds := by
  obtain ⟨pp, hs, _, w⟩ := er.ow i _ (getL_some h) m
  cases w with
  | lst e r => exact ⟨pp, _, hs, e, r⟩
/-- behind a change of an own list -/
theorem ER.putL (er : ER X.K M F σ H ρ) {i : Nat} {pp : Addr} {ds ds' : List PyData} {xs xs' : List V} (m : M i = true) (h : getL ρ i = some ds) (hs : σ[i]? = some (some (.ref pp))) (hx : H pp = some (.lst xs)) (r : RpA X.K H (RS M F σ ρ false) xs' ds') :
    ER X.K M F σ (upd H pp (.lst xs')) (ρ.set i (some (.list ds'))) ∧ Evo M σ H ρ σ (upd H pp (.lst xs')) (ρ.set i (some (.list ds'))) := by
  refine er.put m (getL_some h) hs (.lst upd_same (r.keep ⟨fun a u q x _ => ?_⟩ fun _ _ x _ _ => x))
  rw [upd_ne]
  · exact q
  · intro z
    subst z
    rcases x with x | x
    · exact x.2 rfl ⟨i, _, m, getL_some h, hs⟩
    · rw [q] at hx
      cases hx
      exact x trivial
/-- after a pure part: the slots and own lists are as they were -/
theorem sq_l {pp : Addr} {xs : List V} (h : H pp = some (.lst xs)) : tyV X.K "list" (.ref pp) H := Or.inl ⟨rfl, _, SqL.of h⟩
def sApp (i : Nat) (lk : Bool) (f : Rho → Re PyData) : Rho → Sr := fun ρ => match getL ρ i with
  | some ds => (f ρ).st ρ fun d => if okLen (ds.length + 1) = true ∧ (lk = true → imm d = true) then .nx (ρ.set i (some (.list (ds ++ [d])))) else .bad
  | none => .bad
theorem rp_lk {d : PyData} {v : V} (r : Rp X.K H (RS M F σ ρ la) v d) (h : la = true → imm d = true) : Rp X.K H (RS M F σ ρ false) v d := by
  cases la with
  | false => exact r
  | true => exact r.noAddr (h rfl)
theorem ds_app {i : Nat} {x : Str} {p1 p2 p3 : Pos} (m : M i = true) (h : DE X M F E la fa a f) (hN : X.N[i]? = some x := by rfl) (hv : Vis X.env.scope x := by first | exact Or.inl rfl | exact Or.inr (Or.inl rfl) | exact Or.inr (Or.inr rfl)) (hd : (x == ("__debug__" : Str)) = false := by decide)
    (hcd : (x == ("__classdict__" : Str)) = false := by decide)
    (hs : swapsWith (.Call (.Attribute (.Name x p1) "append" p2) [a] [] p3) none pos.line X.env = pure false := by rfl) (hbase : attributeBase (.Name x p1) "append" X.env (eval (.Name x p1) X.env) = eval (.Name x p1) X.env := by rfl)
    (hfew : ((backTo p3 (starEach (a :: []) X.env)).all (fun x => !x.1) && (backToKw p3 (keywordEach [] X.env)).all (fun x => x.1.isSome)
      && decide ((a :: ([] : List Expr)).length + ([] : List Keyword).length + (if ([] : List Keyword).isEmpty then 0 else 1) < 30)) = true := by rfl)
    (hline : (p2.endLine == p3.line) = true := by rfl) (hst : starEach (a :: []) X.env = (false, eval a X.env) :: starEach [] X.env := by rfl) (hplain : (backTo p3 (starEach [] X.env)).any (·.1) = false := by rfl) :
    DS X M F E (.Expr (.Call (.Attribute (.Name x p1) "append" p2) [a] [] p3) pos) (sApp i la f) := by
  obtain ⟨t, pa, h⟩ := h
  refine ⟨_, ps_expr (pe_bm PySem.F.plainAttrs_list PySem.F.slot_list_append PySem.F.type_list_append mt_append (pe_var hN hv hd hcd) (pa_cons pa pa_nil hst) hbase hfew hline hst hplain) hs, fun σ H ρ er D w => ?_⟩
  unfold sApp at w
  cases hl : getL ρ i with
  | none =>
    rw [hl] at w
    exact w.elim
  | some ds =>
    rw [hl] at w
    obtain ⟨pp, xs, hs', hx, rx⟩ := er.lst m hl
    refine ⟨.ref pp, hs', sq_l hx, h σ H ρ er _ (ws_step er w fun d v H1 e sm r _ w1 => ?_)⟩
    by_cases hc : okLen (ds.length + 1) = true ∧ (la = true → imm d = true)
    · rw [if_pos hc] at w1
      have er1 := er.same sm
      have hx1 := sm _ _ hx
      have hz : xs.length < sizeLine := by
        have := of_decide_eq_true hc.1
        rw [rx.length]
        exact Nat.lt_of_lt_of_le (Nat.lt_of_succ_le this) (by decide)
      obtain ⟨er2, ev2⟩ := er1.putL m hl hs' hx1 ((rx.same sm).append (.cons (rp_lk r hc.2) .nil))
      exact ⟨pp, xs, v, rfl, rfl, hx1, hz, w1 σ _ er2 ev2⟩
    · rw [if_neg hc] at w1
      exact w1.elim
/-- x.append(y.pop(e)) -/
def popAt (ρ : Rho) (j : Nat) (d : PyData) : Option (PyData × List PyData) := match getL ρ j, d with
  | some es, .int n => if okLen es.length = true then (match ixN es.length n with
    | some k => (match es[k]? with | some y => some (y, es.eraseIdx k) | none => none)
    | none => none) else none
  | _, _ => none
theorem popAt_some {j : Nat} {d y : PyData} {es' : List PyData} (h : popAt ρ j d = some (y, es')) : ∃ es n k, getL ρ j = some es ∧ d = .int n ∧ okLen es.length = true ∧ ixN es.length n = some k ∧ es[k]? = some y ∧ es' = es.eraseIdx k := by
  unfold popAt at h
  split at h
  · rename_i es n he
    split at h
    · rename_i hz
      split at h
      · rename_i k hk
        split at h
        · rename_i y' hy
          cases h
          exact ⟨es, n, k, by assumption, rfl, hz, hk, hy, rfl⟩
        · cases h
      · cases h
    · cases h
  · cases h
theorem rpop_ok {j : Nat} {pp : Addr} {xs : List V} {es : List PyData} {n : Int} {k : Nat} {y : PyData} {S : Addr → Prop} {Q : VK} (hx : H pp = some (.lst xs)) (rx : RpA X.K H S xs es) (hz : okLen es.length = true) (hk : ixN es.length n = some k) (hy : es[k]? = some y)
    (h : ∀ v, Rp X.K H S v y → xs[k]? = some v → Q v (upd H pp (.lst (xs.eraseIdx k)))) : rPopAt (.ref pp) [.int n] H Q := by
  have hlen := rx.length
  rw [← hlen] at hk hz
  obtain ⟨h1, h2, h3, h4⟩ := ixN_seq hk
  obtain ⟨v, hv, rv⟩ := rx.get' hy
  have := of_decide_eq_true hz
  exact ⟨pp, xs, n, k, v, rfl, rfl, hx, by omega, by omega, h1, hv, h v rv hv⟩
def sAppPop (i j : Nat) (f : Rho → Re PyData) : Rho → Sr := fun ρ => match getL ρ i, getL ρ j with
  | some ds, some _ => (f ρ).st ρ fun d => match popAt ρ j d with
    | some (y, es') => if okLen (ds.length + 1) = true ∧ i ≠ j then .nx ((ρ.set j (some (.list es'))).set i (some (.list (ds ++ [y])))) else .bad
    | none => .bad
  | _, _ => .bad
theorem getL_set {i j : Nat} (h : i ≠ j) {d : Option PyData} : getL (ρ.set j d) i = getL ρ i := by
  unfold getL
  rw [List.getElem?_set_ne (Ne.symm h)]
theorem ds_appPop {i j : Nat} {x y : Str} {p1 p2 p3 q1 q2 q3 : Pos} (m : M i = true) (mj : M j = true) (h : DE X M F E la fa a f) (hN : X.N[i]? = some x := by rfl) (hv : Vis X.env.scope x := by first | exact Or.inl rfl | exact Or.inr (Or.inl rfl) | exact Or.inr (Or.inr rfl)) (hd : (x == ("__debug__" : Str)) = false := by decide)
    (hcd : (x == ("__classdict__" : Str)) = false := by decide)
    (hNy : X.N[j]? = some y := by rfl) (hvy : Vis X.env.scope y := by first | exact Or.inl rfl | exact Or.inr (Or.inl rfl) | exact Or.inr (Or.inr rfl)) (hdy : (y == ("__debug__" : Str)) = false := by decide)
    (hcdy : (y == ("__classdict__" : Str)) = false := by decide)
    (hs : swapsWith (.Call (.Attribute (.Name x p1) "append" p2) [.Call (.Attribute (.Name y q1) "pop" q2) [a] [] q3] [] p3) none pos.line X.env = pure false := by rfl)
    (hbase : attributeBase (.Name x p1) "append" X.env (eval (.Name x p1) X.env) = eval (.Name x p1) X.env := by rfl)
    (hfew : ((backTo p3 (starEach (Expr.Call (.Attribute (.Name y q1) "pop" q2) [a] [] q3 :: []) X.env)).all (fun x => !x.1) && (backToKw p3 (keywordEach [] X.env)).all (fun x => x.1.isSome)
      && decide ((Expr.Call (.Attribute (.Name y q1) "pop" q2) [a] [] q3 :: ([] : List Expr)).length + ([] : List Keyword).length + (if ([] : List Keyword).isEmpty then 0 else 1) < 30)) = true := by rfl)
    (hline : (p2.endLine == p3.line) = true := by rfl) (hst : starEach (Expr.Call (.Attribute (.Name y q1) "pop" q2) [a] [] q3 :: []) X.env = (false, eval (.Call (.Attribute (.Name y q1) "pop" q2) [a] [] q3) X.env) :: starEach [] X.env := by rfl) (hplain : (backTo p3 (starEach [] X.env)).any (·.1) = false := by rfl)
    (hbase2 : attributeBase (.Name y q1) "pop" X.env (eval (.Name y q1) X.env) = eval (.Name y q1) X.env := by rfl)
    (hfew2 : ((backTo q3 (starEach (a :: []) X.env)).all (fun x => !x.1) && (backToKw q3 (keywordEach [] X.env)).all (fun x => x.1.isSome)
      && decide ((a :: ([] : List Expr)).length + ([] : List Keyword).length + (if ([] : List Keyword).isEmpty then 0 else 1) < 30)) = true := by rfl)
    (hline2 : (q2.endLine == q3.line) = true := by rfl) (hst2 : starEach (a :: []) X.env = (false, eval a X.env) :: starEach [] X.env := by rfl) (hplain2 : (backTo q3 (starEach [] X.env)).any (·.1) = false := by rfl) :
    DS X M F E (.Expr (.Call (.Attribute (.Name x p1) "append" p2) [.Call (.Attribute (.Name y q1) "pop" q2) [a] [] q3] [] p3) pos) (sAppPop i j f) := by
  obtain ⟨t, pa, h⟩ := h
  refine ⟨_, ps_expr (pe_bm PySem.F.plainAttrs_list PySem.F.slot_list_append PySem.F.type_list_append mt_append (pe_var hN hv hd hcd)
    (pa_cons (pe_bm PySem.F.plainAttrs_list PySem.F.slot_list_pop PySem.F.type_list_pop mt_popAt (pe_var hNy hvy hdy hcdy) (pa_cons pa pa_nil hst2) hbase2 hfew2 hline2 hst2 hplain2) pa_nil hst) hbase hfew hline hst hplain) hs, fun σ H ρ er D w => ?_⟩
  unfold sAppPop at w
  cases hl : getL ρ i with
  | none =>
    rw [hl] at w
    exact w.elim
  | some ds =>
    cases hl2 : getL ρ j with
    | none =>
      rw [hl, hl2] at w
      exact w.elim
    | some es =>
      rw [hl, hl2] at w
      obtain ⟨pp, xs, hs', hx, rx⟩ := er.lst m hl
      obtain ⟨qq, ys, hs2, hy, ry⟩ := er.lst mj hl2
      refine ⟨.ref pp, hs', sq_l hx, .ref qq, hs2, sq_l hy, h σ H ρ er _ (ws_step er w fun d v H1 e sm r _ w1 => ?_)⟩
      cases hp : popAt ρ j d with
      | none =>
        rw [hp] at w1
        exact w1.elim
      | some z =>
        obtain ⟨y0, es'⟩ := z
        rw [hp] at w1
        have w1 : WS X M F E σ H1 ρ (if okLen (ds.length + 1) = true ∧ i ≠ j then .nx ((ρ.set j (some (.list es'))).set i (some (.list (ds ++ [y0])))) else .bad) D := w1
        by_cases hc : okLen (ds.length + 1) = true ∧ i ≠ j
        · rw [if_pos hc] at w1
          obtain ⟨es2, n, k, g1, rfl, g2, g3, g4, rfl⟩ := popAt_some hp
          rw [hl2] at g1
          cases g1
          cases r
          have er1 := er.same sm
          refine rpop_ok (X := X) (j := j) (sm _ _ hy) (ry.same sm) g2 g3 g4 fun v rv hv' => ?_
          obtain ⟨er2, ev2⟩ := er1.putL mj hl2 hs2 (sm _ _ hy) ((ry.same sm).erase k)
          have hl3 : getL (ρ.set j (some (.list (es.eraseIdx k)))) i = some ds := by rw [getL_set hc.2]; exact hl
          have ne : pp ≠ qq := fun z => hc.2 (er.ap i j _ _ pp m mj (getL_some hl) (getL_some hl2) hs' (by rw [z]; exact hs2))
          obtain ⟨pp', xs', hs3, hx3, rx3⟩ := er2.lst m hl3
          rw [hs'] at hs3
          cases hs3
          have hx3' := hx3
          rw [upd_ne ne, sm _ _ hx] at hx3'
          cases hx3'
          have hz : xs.length < sizeLine := by
            have := of_decide_eq_true hc.1
            rw [rx.length]
            exact Nat.lt_of_lt_of_le (Nat.lt_of_succ_le this) (by decide)
          have rv' : Rp X.K (upd H1 qq (.lst (ys.eraseIdx k))) (RS M F σ (ρ.set j (some (.list (es.eraseIdx k)))) false) v y0 := rv.keep (Evo.kp er1 ev2) fun a u x q n => Evo.rs ev2 a u x q n
          obtain ⟨er4, ev4⟩ := er2.putL m hl3 hs' hx3 (rx3.append (.cons rv' .nil))
          exact ⟨pp, xs, v, rfl, rfl, hx3, hz, w1 σ _ er4 (ev2.trans ev4)⟩
        · rw [if_neg hc] at w1
          exact w1.elim
/-- x.pop(e) as a statement -/
def sPop (j : Nat) (f : Rho → Re PyData) : Rho → Sr := fun ρ => match getL ρ j with
  | some _ => (f ρ).st ρ fun d => match popAt ρ j d with
    | some (_, es') => .nx (ρ.set j (some (.list es')))
    | none => .bad
  | none => .bad
theorem ds_pop {j : Nat} {y : Str} {q1 q2 q3 : Pos} (mj : M j = true) (h : DE X M F E la fa a f) 
    (hNy : X.N[j]? = some y := by rfl) (hvy : Vis X.env.scope y := by first | exact Or.inl rfl | exact Or.inr (Or.inl rfl) | exact Or.inr (Or.inr rfl)) (hdy : (y == ("__debug__" : Str)) = false := by decide)
    (hcdy : (y == ("__classdict__" : Str)) = false := by decide)
    (hs : swapsWith (.Call (.Attribute (.Name y q1) "pop" q2) [a] [] q3) none pos.line X.env = pure false := by rfl)
    (hbase2 : attributeBase (.Name y q1) "pop" X.env (eval (.Name y q1) X.env) = eval (.Name y q1) X.env := by rfl)
    (hfew2 : ((backTo q3 (starEach (a :: []) X.env)).all (fun x => !x.1) && (backToKw q3 (keywordEach [] X.env)).all (fun x => x.1.isSome)
      && decide ((a :: ([] : List Expr)).length + ([] : List Keyword).length + (if ([] : List Keyword).isEmpty then 0 else 1) < 30)) = true := by rfl)
    (hline2 : (q2.endLine == q3.line) = true := by rfl) (hst2 : starEach (a :: []) X.env = (false, eval a X.env) :: starEach [] X.env := by rfl) (hplain2 : (backTo q3 (starEach [] X.env)).any (·.1) = false := by rfl) :
    DS X M F E (.Expr (.Call (.Attribute (.Name y q1) "pop" q2) [a] [] q3) pos) (sPop j f) := by
  obtain ⟨t, pa, h⟩ := h
  refine ⟨_, ps_expr (pe_bm PySem.F.plainAttrs_list PySem.F.slot_list_pop PySem.F.type_list_pop mt_popAt (pe_var hNy hvy hdy hcdy) (pa_cons pa pa_nil hst2) hbase2 hfew2 hline2 hst2 hplain2) hs, fun σ H ρ er D w => ?_⟩
  unfold sPop at w
  cases hl2 : getL ρ j with
  | none =>
    rw [hl2] at w
    exact w.elim
  | some es =>
    rw [hl2] at w
    obtain ⟨qq, ys, hs2, hy, ry⟩ := er.lst mj hl2
    refine ⟨.ref qq, hs2, sq_l hy, h σ H ρ er _ (ws_step er w fun d v H1 e sm r _ w1 => ?_)⟩
    cases hp : popAt ρ j d with
    | none =>
      rw [hp] at w1
      exact w1.elim
    | some z =>
      obtain ⟨y0, es'⟩ := z
      rw [hp] at w1
      have w1 : WS X M F E σ H1 ρ (.nx (ρ.set j (some (.list es')))) D := w1
      obtain ⟨es2, n, k, g1, rfl, g2, g3, g4, rfl⟩ := popAt_some hp
      rw [hl2] at g1
      cases g1
      cases r
      have er1 := er.same sm
      refine rpop_ok (X := X) (j := j) (sm _ _ hy) (ry.same sm) g2 g3 g4 fun v rv hv' => ?_
      obtain ⟨er2, ev2⟩ := er1.putL mj hl2 hs2 (sm _ _ hy) ((ry.same sm).erase k)
      exact w1 σ _ er2 ev2
/-- x[e] = v, x a list of the frame's own -/
def sPut (i : Nat) (lk : Bool) (f g : Rho → Re PyData) : Rho → Sr := fun ρ => (f ρ).st ρ fun d => (match getL ρ i with
  | some ds => (g ρ).st ρ fun e => (match e with
    | .int n => (match ixN ds.length n with
      | some k => if (lk = true → imm d = true) then .nx (ρ.set i (some (.list (ds.set k d)))) else .bad
      | none => .bad)
    | _ => .bad)
  | none => .bad)
theorem ds_put {i : Nat} {x : Str} {p1 p2 : Pos} (m : M i = true) (h : DE X M F E la fa a f) (hg : DE X M F E lb fb b g) (hN : X.N[i]? = some x := by rfl) (hv : Vis X.env.scope x := by first | exact Or.inl rfl | exact Or.inr (Or.inl rfl) | exact Or.inr (Or.inr rfl)) (hd : (x == ("__debug__" : Str)) = false := by decide)
    (hcd : (x == ("__classdict__" : Str)) = false := by decide)
    (hs : swapsWithSole [.Subscript (.Name x p1) b p2] a pos.line X.env = pure false := by rfl) (hw : swappedStores [.Subscript (.Name x p1) b p2] a X.env = pure none := by rfl)
    (ha : ∀ v, assign (.Subscript (.Name x p1) b p2) X.env v = (do
      let ov ← holding [v] (eval (.Name x p1) X.env)
      let iv ← holding [v, ov] (eval b X.env)
      standAt p2
      holding [v, ov, iv] (setItem ov iv v)
      release [v, ov, iv] []) := by intro _; rfl) :
    DS X M F E (.Assign [.Subscript (.Name x p1) b p2] a pos) (sPut i la f g) := by
  obtain ⟨t, pa, h⟩ := h
  obtain ⟨t2, pb, h2⟩ := hg
  refine ⟨_, ps_asg pa (pg_sub (pe_var hN hv hd hcd) pb set_list ha) hs hw, fun σ H ρ er D w => ?_⟩
  unfold sPut at w
  refine h σ H ρ er _ (ws_step er w fun d v H1 e sm r _ w1 => ?_)
  cases hl : getL ρ i with
  | none =>
    rw [hl] at w1
    exact w1.elim
  | some ds =>
    rw [hl] at w1
    have er1 := er.same sm
    obtain ⟨pp, xs, hs', hx, rx⟩ := er1.lst m hl
    refine ⟨.ref pp, hs', h2 σ H1 ρ er1 _ (ws_step er1 w1 fun d2 v2 H2 e2 sm2 r2 _ w2 => ?_)⟩
    cases r2 with
    | int n =>
      have w2 : WS X M F E σ H2 ρ (match ixN ds.length n with
      | some k => if (la = true → imm d = true) then .nx (ρ.set i (some (.list (ds.set k d)))) else .bad
      | none => .bad) D := w2
      cases hk : ixN ds.length n with
      | none =>
        rw [hk] at w2
        exact w2.elim
      | some k =>
        rw [hk] at w2
        have w2 : WS X M F E σ H2 ρ (if (la = true → imm d = true) then .nx (ρ.set i (some (.list (ds.set k d)))) else .bad) D := w2
        by_cases hc : la = true → imm d = true
        · rw [if_pos hc] at w2
          have er2 := er1.same sm2
          have rv : Rp X.K H2 (RS M F σ ρ false) v d := rp_lk (r.same sm2) hc
          obtain ⟨er3, ev3⟩ := er2.putL m hl hs' (sm2 _ _ hx) (RpA.set rv k (rx.same sm2))
          exact ⟨pp, xs, n, k, rfl, rfl, sm2 _ _ hx, by rw [rx.length]; exact hk, w2 σ _ er3 ev3⟩
        · rw [if_neg hc] at w2
          exact w2.elim
    | bl _ => exact w2.elim
    | non => exact w2.elim
    | str _ => exact w2.elim
    | tup _ _ => exact w2.elim
    | lst _ _ _ => exact w2.elim
    | scr _ _ => exact w2.elim
    | dic _ _ _ _ => exact w2.elim
    | dit _ _ _ _ => exact w2.elim
    | dif _ _ _ => exact w2.elim
    | rng _ => exact w2.elim
    | dct _ _ _ _ => exact w2.elim
end
end Pu

set_option Elab.async false
set_option linter.all false
set_option maxRecDepth 100000
set_option maxHeartbeats 2000000
namespace Pu
open PySem PySem.Spec PyProof.Rows L2
variable [TabL]

/-! ### targets -/
theorem wipe_set {σ : L2.St} {i : Nat} {x y : Option V} : ∀ vs : List Nat, (wipe (σ.set i x) vs).set i y = (wipe σ vs).set i y
  | [] => by
    show (σ.set i x).set i y = σ.set i y
    rw [List.set_set]
  | v :: vs => by
    show ((wipe (σ.set i x) vs).set v none).set i y = ((wipe σ vs).set v none).set i y
    by_cases h : v = i
    · subst h
      rw [List.set_set, List.set_set]
      exact wipe_set vs
    · rw [List.set_comm _ _ h, wipe_set vs, List.set_comm _ _ (Ne.symm h)]
theorem wipe_mem {σ : L2.St} {i : Nat} {x : Option V} : ∀ {vs : List Nat}, i ∈ vs → wipe (σ.set i x) vs = wipe σ vs
  | v :: vs, h => by
    show (wipe (σ.set i x) vs).set v none = (wipe σ vs).set v none
    by_cases hv : v = i
    · subst hv
      exact wipe_set vs
    · rw [wipe_mem ((List.mem_cons.mp h).resolve_left fun e => hv e.symm)]
def DG (X : Cx) (M : Nat → Bool) (F : Fx) (tg : Expr) (ts : List Nat) (g : PyData → Rho → Option Rho) : Prop :=
  ∃ t : TG, PG X tg t ∧ ∀ σ H ρ v d ρ', ER X.K M F σ H ρ → Rp X.K H (RS M F σ ρ false) v d → g d ρ = some ρ' → ∀ Q : L2.St → Hp → Prop,
    (∀ σ', ER X.K M F σ' H ρ' → Evo M σ H ρ σ' H ρ' → (∀ vs, (∀ i ∈ ts, i ∈ vs) → wipe σ' vs = wipe σ vs) → (∀ a, OwnA M σ ρ a → OwnA M σ' ρ' a) → Q σ' H) → t v σ H Q
def DGs (X : Cx) (M : Nat → Bool) (F : Fx) (tg : List Expr) (ts : List Nat) (g : List PyData → Rho → Option Rho) : Prop :=
  ∃ t : TGs, PGs X tg t ∧ ∀ σ H ρ v d ρ', ER X.K M F σ H ρ → RpA X.K H (RS M F σ ρ false) v d → g d ρ = some ρ' → ∀ Q : L2.St → Hp → Prop,
    (∀ σ', ER X.K M F σ' H ρ' → Evo M σ H ρ σ' H ρ' → (∀ vs, (∀ i ∈ ts, i ∈ vs) → wipe σ' vs = wipe σ vs) → (∀ a, OwnA M σ ρ a → OwnA M σ' ρ' a) → Q σ' H) → t v σ H Q
section
variable {X : Cx} {M : Nat → Bool} {F : Fx} {E : L2.St → XK} {σ σ1 : L2.St} {ρ ρ1 : Rho} {H H' H1 : Hp} {D : Ends}
variable {st : Stmt} {rest : List Stmt} {s u : Rho → Sr} {la fa lb fb : Bool} {a b : Expr} {f g : Rho → Re PyData} {p : Rho → Re Bool} {pos : Pos}
def gSlot (i : Nat) : PyData → Rho → Option Rho := fun d ρ => some (ρ.set i (some d))
theorem dg_name (i : Nat) {x : Str} (m : M i = false) (hN : X.N.Nodup) (hi : X.N[i]? = some x := by rfl) (hx : Loc X.env.scope x := by first | exact Or.inl rfl | exact Or.inr rfl) (hf : X.fn x = true ∨ X.env.scope.names.lookup x = some .local := by first | exact .inl rfl | exact .inr rfl) :
    DG X M F (.Name x pos) [i] (gSlot i) := by
  refine ⟨_, pg_name hN hi hx hf, fun σ H ρ v d ρ' er r e Q k => ?_⟩
  cases e
  exact k _ (er.set m r) (fun a u q n _ => ⟨q, fun o => n ((own_set m).mp o)⟩) (fun vs h => wipe_mem (h i List.mem_cons_self)) fun a o => (own_set m).mpr o
def gNone : List PyData → Rho → Option Rho := fun ds ρ => match ds with | [] => some ρ | _ => none
def gMore (g : PyData → Rho → Option Rho) (h : List PyData → Rho → Option Rho) : List PyData → Rho → Option Rho := fun ds ρ => match ds with | d :: ds => (g d ρ).bind (h ds) | [] => none
theorem dgs_nil : DGs X M F [] [] gNone := by
  refine ⟨_, pgs_nil, fun σ H ρ v d ρ' er r e Q k => ?_⟩
  unfold gNone at e
  split at e
  · cases e
    cases r
    exact ⟨rfl, k σ er Evo.refl (fun _ _ => rfl) fun _ o => o⟩
  · cases e
theorem dgs_cons {e : Expr} {es : List Expr} {ts us : List Nat} {gg : PyData → Rho → Option Rho} {gs : List PyData → Rho → Option Rho} (h : DG X M F e ts gg) (hs : DGs X M F es us gs)
    (hq : (assignEach (e :: es) X.env).map (·.2) = assign e X.env :: (assignEach es X.env).map (·.2) := by rfl) : DGs X M F (e :: es) (ts ++ us) (gMore gg gs) := by
  obtain ⟨t, pt, h⟩ := h
  obtain ⟨t', pt', h'⟩ := hs
  refine ⟨_, pgs_cons pt pt' hq, fun σ H ρ v d ρ' er r e Q k => ?_⟩
  cases r with
  | nil => cases e
  | cons r1 r2 =>
    rename_i v vs d ds
    have e : (gg d ρ).bind (gs ds) = some ρ' := e
    obtain ⟨ρ1, e1, e2⟩ := Option.bind_eq_some_iff.mp e
    refine ⟨v, vs, rfl, h σ H ρ v d ρ1 er r1 e1 _ fun σ1 er1 ev1 w1 o1 => ?_⟩
    refine h' σ1 H ρ1 vs ds ρ' er1 (r2.keep (Evo.kp er ev1) (Evo.rs ev1)) e2 _ fun σ2 er2 ev2 w2 o2 => ?_
    exact k σ2 er2 (ev1.trans ev2) (fun vs hv => by rw [w2 vs fun i hi => hv i (List.mem_append_right _ hi), w1 vs fun i hi => hv i (List.mem_append_left _ hi)]) fun a o => o2 a (o1 a o)
/-- (a, b, ..): a tuple of as many -/
def gTupD (n : Nat) (g : List PyData → Rho → Option Rho) : PyData → Rho → Option Rho := fun d ρ => match d with | .tuple ds => if ds.length = n then g ds ρ else none | _ => none
theorem dg_tup {es : List Expr} {ts : List Nat} {k : Nat} {n : Nat} {gs : List PyData → Rho → Option Rho} (hc : X.calm = true) (h : DGs X M F es ts gs) (hn : (assignEach es X.env).length = n := by rfl) (hst : (assignEach es X.env).findIdx? (·.1) = none := by rfl) :
    DG X M F (.Tuple es k pos) ts (gTupD n gs) := by
  obtain ⟨t, pt, h⟩ := h
  refine ⟨_, pg_tup hc pt hn hst, fun σ H ρ v d ρ' er r e Q kk => ?_⟩
  unfold gTupD at e
  cases r with
  | tup hs ha =>
    rename_i a xs ds
    have e : (if ds.length = n then gs ds ρ else none) = some ρ' := e
    by_cases hl : ds.length = n
    · rw [if_pos hl] at e
      exact ⟨a, xs, rfl, hs.sq, by rw [ha.length]; exact hl, h σ H ρ xs ds ρ' er ha e Q kk⟩
    · rw [if_neg hl] at e
      cases e
  | bl _ => cases e
  | non => cases e
  | int _ => cases e
  | str _ => cases e
  | lst _ _ _ => cases e
  | scr _ _ => cases e
  | dic _ _ _ _ => cases e
  | dit _ _ _ _ => cases e
  | dif _ _ _ => cases e
  | rng _ => cases e
  | dct _ _ _ _ => cases e
/-- .. a list of as many -/
def gLstD (n : Nat) (g : List PyData → Rho → Option Rho) : PyData → Rho → Option Rho := fun d ρ => match d with | .list ds => if ds.length = n then g ds ρ else none | _ => none
theorem dg_lst {es : List Expr} {ts : List Nat} {k : Nat} {n : Nat} {gs : List PyData → Rho → Option Rho} (hc : X.calm = true) (h : DGs X M F es ts gs) (hn : (assignEach es X.env).length = n := by rfl) (hst : (assignEach es X.env).findIdx? (·.1) = none := by rfl) :
    DG X M F (.Tuple es k pos) ts (gLstD n gs) := by
  obtain ⟨t, pt, h⟩ := h
  refine ⟨_, pg_lst hc pt hn hst, fun σ H ρ v d ρ' er r e Q kk => ?_⟩
  unfold gLstD at e
  cases r with
  | lst he hS ha =>
    rename_i a xs ds
    have e : (if ds.length = n then gs ds ρ else none) = some ρ' := e
    by_cases hl : ds.length = n
    · rw [if_pos hl] at e
      exact ⟨a, xs, rfl, SqL.of he, by rw [ha.length]; exact hl, h σ H ρ xs ds ρ' er ha e Q kk⟩
    · rw [if_neg hl] at e
      cases e
  | bl _ => cases e
  | non => cases e
  | int _ => cases e
  | str _ => cases e
  | tup _ _ => cases e
  | scr _ _ => cases e
  | dic _ _ _ _ => cases e
  | dit _ _ _ _ => cases e
  | dif _ _ _ => cases e
  | rng _ => cases e
  | dct _ _ _ _ => cases e
/-- target = e -/
def sAsg (lk : Bool) (g : PyData → Rho → Option Rho) (f : Rho → Re PyData) : Rho → Sr := fun ρ => (f ρ).st ρ fun d => if lk = true → imm d = true then (match g d ρ with | some ρ' => .nx ρ' | none => .bad) else .bad
theorem ds_asg {tg : Expr} {ts : List Nat} {gg : PyData → Rho → Option Rho} (hg : DG X M F tg ts gg) (h : DE X M F E la fa a f) (h1 : (assignEach [tg] X.env).map (·.2) = [assign tg X.env] := by rfl) (hs : swapsWithSole [tg] a pos.line X.env = pure false := by rfl) (hw : swappedStores [tg] a X.env = pure none := by rfl) : DS X M F E (.Assign [tg] a pos) (sAsg la gg f) := by
  obtain ⟨t, pa, h⟩ := h
  obtain ⟨t', pt, hg⟩ := hg
  refine ⟨_, ps_asg pa pt hs hw (h1 := h1), fun σ H ρ er D w => ?_⟩
  refine h σ H ρ er _ (ws_step er w fun d v H1 e sm r _ w1 => ?_)
  by_cases hd : la = true → imm d = true
  · rw [if_pos hd] at w1
    cases q : gg d ρ with
    | none =>
      rw [q] at w1
      exact w1.elim
    | some ρ' =>
      rw [q] at w1
      exact hg σ H1 ρ v d ρ' (er.same sm) (rp_lk r hd) q _ fun σ' er' ev _ _ => w1 σ' H1 er' ev
  · rw [if_neg hd] at w1
    exact w1.elim

/-! ### what a loop walks -/
def Walks (K : PySem.W.Frag) (S : Addr → Prop) (J : It) (ds : List PyData) (H1 : Hp) : Prop :=
  ∀ H2, Kp S H1 H2 → ∀ i, (∀ d, ds[i]? = some d → J.go i H2 ∧ ∀ x H', J.yld i H2 x H' → Same H2 H' ∧ Rp K H' S x d) ∧ (i = ds.length → J.stop i H2)
def WI (X : Cx) (M : Nat → Bool) (F : Fx) (E : L2.St → XK) (σ : L2.St) (ρ : Rho) (H : Hp) (r : Re (List PyData)) (R : It → Hp → Prop) : Prop :=
  match r with
  | .ok ds => ∀ J H', Same H H' → Walks X.K (fun a => RS M F σ ρ false a ∧ Nn H' a) J ds H' → R J H'
  | .ex c => ∀ C H', X.mg c = some (.ref C) → Same H H' → E σ (.ref C) none H'
  | .bad => False
def DI (X : Cx) (M : Nat → Bool) (F : Fx) (E : L2.St → XK) (tg it : Expr) (f : Rho → Re (List PyData)) : Prop := ∃ wi : TI, PI X tg it wi ∧ ∀ σ H ρ, ER X.K M F σ H ρ → ∀ R, WI X M F E σ ρ H (f ρ) R → wi σ H R
theorem wi_step {lk fr : Bool} {r : Re PyData} {R : It → Hp → Prop} {g : PyData → Re (List PyData)} {K : VK} (w : WI X M F E σ ρ H (r.andThen g) R)
    (h : ∀ d v H', r = .ok d → Same H H' → Rp X.K H' (RS M F σ ρ lk) v d → WI X M F E σ ρ H' (g d) R → K v H') : WE X M F E lk fr σ ρ H r K := by
  cases r with
  | ok d =>
    refine fun v H' s rr _ => h d v H' rfl s rr ?_
    have w : WI X M F E σ ρ H (g d) R := w
    cases q : g d with
    | ok z =>
      rw [q] at w
      exact fun J H2 s2 k => w J H2 (s.trans s2) k
    | ex c =>
      rw [q] at w
      exact fun C H2 m s2 => w C H2 m (s.trans s2)
    | bad =>
      rw [q] at w
      exact w
  | ex c => exact w
  | bad => exact w
theorem wi_stepA {lk : Bool} {r : Re (List PyData)} {R : It → Hp → Prop} {g : List PyData → Re (List PyData)} {K : List V → Hp → Prop} (w : WI X M F E σ ρ H (r.andThen g) R)
    (h : ∀ d v H', r = .ok d → Same H H' → RpA X.K H' (RS M F σ ρ lk) v d → WI X M F E σ ρ H' (g d) R → K v H') : WA X M F E lk σ ρ H r K := by
  cases r with
  | ok d =>
    refine fun v H' s rr => h d v H' rfl s rr ?_
    have w : WI X M F E σ ρ H (g d) R := w
    cases q : g d with
    | ok z =>
      rw [q] at w
      exact fun J H2 s2 k => w J H2 (s.trans s2) k
    | ex c =>
      rw [q] at w
      exact fun C H2 m s2 => w C H2 m (s.trans s2)
    | bad =>
      rw [q] at w
      exact w
  | ex c => exact w
  | bad => exact w
/-- over a list or a tuple that no own list is -/
def itL (d : PyData) : Re (List PyData) := match d with | .list ds => .ok ds | _ => .bad
def itT (d : PyData) : Re (List PyData) := match d with | .tuple ds => .ok ds | _ => .bad
def iOf (h : PyData → Re (List PyData)) (f : Rho → Re PyData) : Rho → Re (List PyData) := fun ρ => (f ρ).andThen h
theorem walk_l {S : Addr → Prop} {K : PySem.W.Frag} {aa : Addr} {xs : List V} {ds : List PyData} (e : H1 aa = some (.lst xs)) (hS : S aa) (r : RpA K H1 S xs ds) : Walks K (fun a => S a ∧ Nn H1 a) (Itl K aa) ds H1 := fun H2 kp i => by
  have e2 := kp aa _ e (.inl ⟨hS, _, e, by first | assumption | exact fun _ z => nomatch z⟩)
  refine ⟨fun d hd => ?_, fun hl => ⟨xs, SqL.of e2, by rw [r.length]; exact Nat.le_of_eq hl.symm⟩⟩
  obtain ⟨v, hv, rv⟩ := r.thru.get' hd
  refine ⟨⟨xs, v, SqL.of e2, hv⟩, fun x H' y => ?_⟩
  obtain ⟨rfl, y⟩ := y
  have := y xs (SqL.of e2)
  rw [hv] at this
  cases this
  exact ⟨Same.refl _, rv.keep kp fun _ _ x _ _ => x⟩
theorem walk_t {S : Addr → Prop} {K : PySem.W.Frag} {aa : Addr} {xs : List V} {ds : List PyData} (e : TupD K H1 aa xs) (r : RpA K H1 S xs ds) : Walks K (fun a => S a ∧ Nn H1 a) (Itt K aa) ds H1 := fun H2 kp i => by
  have e2 : SqT K H2 aa xs := (tupD_keep e fun u q m n => kp aa u q (.inr m) n).sq
  refine ⟨fun d hd => ?_, fun hl => ⟨xs, e2, by rw [r.length]; exact Nat.le_of_eq hl.symm⟩⟩
  obtain ⟨v, hv, rv⟩ := r.thru.get' hd
  refine ⟨⟨xs, v, e2, hv⟩, fun x H' y => ?_⟩
  obtain ⟨rfl, y⟩ := y
  have := y xs e2
  rw [hv] at this
  cases this
  exact ⟨Same.refl _, rv.keep kp fun _ _ x _ _ => x⟩
theorem di_list {tg : Expr} (h : DE X M F E false fa a f) : DI X M F E tg a (iOf itL f) := by
  obtain ⟨t, pa, h⟩ := h
  refine ⟨_, pi_list pa, fun σ H ρ er R w => ?_⟩
  refine h σ H ρ er _ (wi_step w fun d v H1 e sm r w1 => ?_)
  cases r with
  | lst e2 hS ha => exact ⟨_, rfl, ⟨_, SqL.of e2⟩, w1 _ H1 (Same.refl _) (walk_l e2 hS ha)⟩
  | bl _ => exact w1.elim
  | non => exact w1.elim
  | int _ => exact w1.elim
  | str _ => exact w1.elim
  | tup _ _ => exact w1.elim
  | scr _ _ => exact w1.elim
  | dic _ _ _ _ => exact w1.elim
  | dit _ _ _ _ => exact w1.elim
  | dif _ _ _ => exact w1.elim
  | rng _ => exact w1.elim
  | dct _ _ _ _ => exact w1.elim
theorem di_tup {tg : Expr} (h : DE X M F E false fa a f) : DI X M F E tg a (iOf itT f) := by
  obtain ⟨t, pa, h⟩ := h
  refine ⟨_, pi_tup pa, fun σ H ρ er R w => ?_⟩
  refine h σ H ρ er _ (wi_step w fun d v H1 e sm r w1 => ?_)
  cases r with
  | tup e2 ha => exact ⟨_, rfl, ⟨_, e2.sq⟩, w1 _ H1 (Same.refl _) (walk_t e2 ha)⟩
  | bl _ => exact w1.elim
  | non => exact w1.elim
  | int _ => exact w1.elim
  | str _ => exact w1.elim
  | lst _ _ _ => exact w1.elim
  | scr _ _ => exact w1.elim
  | dic _ _ _ _ => exact w1.elim
  | dit _ _ _ _ => exact w1.elim
  | dif _ _ _ => exact w1.elim
  | rng _ => exact w1.elim
  | dct _ _ _ _ => exact w1.elim
/-- range -/
def upFrom (lo : Int) (n : Nat) : List PyData := (List.range n).map fun (k : Nat) => PyData.int (lo + (k : Int))
def small62 (i : Int) : Bool := decide (-(2 ^ 62) ≤ i) && decide (i < 2 ^ 62)
def rg1 (ds : List PyData) : Re (List PyData) := match ds with | [.int j] => if small62 j = true then .ok (upFrom 0 j.toNat) else .bad | _ => .bad
def rg2 (ds : List PyData) : Re (List PyData) := match ds with | [.int i, .int j] => if small62 i = true ∧ small62 j = true then .ok (upFrom i (j - i).toNat) else .bad | _ => .bad
theorem walk_r {S : Addr → Prop} {K : PySem.W.Frag} {lo : Int} {n : Nat} : Walks K S (Itr lo n) (upFrom lo n) H1 := fun H2 kp i => by
  have hlen : (upFrom lo n).length = n := by simp [upFrom]
  refine ⟨fun d hd => ?_, fun hl => by rw [hlen] at hl; exact Nat.le_of_eq hl.symm⟩
  have hi : i < n := by
    have := getSome hd
    rwa [hlen] at this
  have hd' : d = .int (lo + i) := by
    unfold upFrom at hd
    rw [List.getElem?_map, List.getElem?_range hi] at hd
    exact (Option.some.inj hd).symm
  refine ⟨hi, fun x H' y => ?_⟩
  obtain ⟨rfl, rfl⟩ := y
  rw [hd']
  exact ⟨Same.refl _, .int _⟩
theorem di_rg1 {tg : Expr} {gs : Rho → Re (List PyData)} {pp : Pos} (hg : Gl X "range") (hm : X.mg "range" = none) (ha : DA X M F E la [a] gs) (hs : starEach [a] X.env = [(false, eval a X.env)] := by rfl)  :
    DI X M F E tg (.Call (.Name "range" pp) [a] [] pos) (fun ρ => (gs ρ).andThen rg1) := by
  obtain ⟨t, pa, ha⟩ := ha
  refine ⟨_, pi_range1 hg hm pa hs, fun σ H ρ er R w => ?_⟩
  refine ha σ H ρ er _ (wi_stepA w fun ds vs H1 e sm r w1 => ?_)
  unfold rg1 at w1
  split at w1
  · rename_i j
    cases r with
    | cons r1 r2 =>
      cases r1
      cases r2
      by_cases hj : small62 j = true
      · rw [if_pos hj] at w1
        unfold small62 at hj
        simp only [Bool.and_eq_true, decide_eq_true_eq] at hj
        exact ⟨j, rfl, hj.1, hj.2, w1 _ H1 (Same.refl _) walk_r⟩
      · rw [if_neg hj] at w1
        exact w1.elim
  · exact w1.elim
theorem di_rg2 {tg : Expr} {gs : Rho → Re (List PyData)} {pp : Pos} (hg : Gl X "range") (hm : X.mg "range" = none) (ha : DA X M F E la [a, b] gs) (hs : starEach [a, b] X.env = [(false, eval a X.env), (false, eval b X.env)] := by rfl) (hs2 : starEach [b] X.env = [(false, eval b X.env)] := by rfl) :
    DI X M F E tg (.Call (.Name "range" pp) [a, b] [] pos) (fun ρ => (gs ρ).andThen rg2) := by
  obtain ⟨t, pa, ha⟩ := ha
  refine ⟨_, pi_range2 hg hm pa hs hs2, fun σ H ρ er R w => ?_⟩
  refine ha σ H ρ er _ (wi_stepA w fun ds vs H1 e sm r w1 => ?_)
  unfold rg2 at w1
  split at w1
  · rename_i i j
    cases r with
    | cons r1 r2 =>
      cases r1
      cases r2 with
      | cons r2 r3 =>
        cases r2
        cases r3
        by_cases hj : small62 i = true ∧ small62 j = true
        · rw [if_pos hj] at w1
          unfold small62 at hj
          simp only [Bool.and_eq_true, decide_eq_true_eq] at hj
          exact ⟨i, j, rfl, ⟨hj.1.1, hj.1.2, hj.2.1, hj.2.2⟩, w1 _ H1 (Same.refl _) walk_r⟩
        · rw [if_neg hj] at w1
          exact w1.elim
  · exact w1.elim

/-! ### loops -/
def sLoop (g : PyData → Rho → Option Rho) (body : Rho → Sr) : List PyData → Rho → Sr
  | [], ρ => .nx ρ
  | d :: ds, ρ => match g d ρ with
    | none => .bad
    | some ρ1 => match body ρ1 with
      | .nx ρ2 => sLoop g body ds ρ2
      | .ct ρ2 => sLoop g body ds ρ2
      | .bk ρ2 => .nx ρ2
      | .rt d => .rt d
      | .ex c ρ2 => .ex c ρ2
      | .bad => .bad
def Re.stL : Re (List PyData) → Rho → (List PyData → Sr) → Sr
  | .ok d, _, k => k d
  | .ex c, ρ, _ => .ex c ρ
  | .bad, _, _ => .bad
def sFor (it : Rho → Re (List PyData)) (g : PyData → Rho → Option Rho) (body : Rho → Sr) : Rho → Sr := fun ρ => (it ρ).stL ρ fun ds => sLoop g body ds ρ
theorem drop_get {α : Type} {l : List α} {i : Nat} {x : α} (h : l[i]? = some x) : l.drop i = x :: l.drop (i + 1) := by
  obtain ⟨hi, e⟩ := List.getElem?_eq_some_iff.mp h
  rw [List.drop_eq_getElem_cons hi, e]
theorem ds_for {tg it : Expr} {ts : List Nat} {body : List Stmt} {its : Rho → Re (List PyData)} {gg : PyData → Rho → Option Rho} (hp : PassesOwn (model X.prog X.w) X.A X.env X.xe) (hc : X.calm = true) (hi : DI X M F E tg it its) (hg : DG X M F tg ts gg) (hb : DSs X M F E body s)
    (hs : ∀ x, foldedSetIterable it X.env x = pure x := by intro _; rfl) : DS X M F E (.For tg it body [] pos) (sFor its gg s) := by
  obtain ⟨wi, pi, hi⟩ := hi
  obtain ⟨t, pg, hg⟩ := hg
  obtain ⟨tb, pb, hb⟩ := hb
  refine ⟨_, ps_for hp hc pi pg pb hs, fun σ H ρ er D w => ?_⟩
  refine hi σ H ρ er _ ?_
  unfold sFor at w
  cases q : its ρ with
  | ex c =>
    rw [q] at w
    exact fun C H' m sm => w C σ H' m (er.same sm) (Evo.same sm)
  | bad =>
    rw [q] at w
    exact w
  | ok ds =>
    rw [q] at w
    refine fun J H1 sm wk => ?_
    have w : WS X M F E σ H ρ (sLoop gg s ds ρ) D := w
    have er1 := er.same sm
    have w1 := ws_evo (Evo.same sm) w
    refine ⟨fun i m σ' H' => m = ds.length - i ∧ i ≤ ds.length ∧ ∃ ρ', ER X.K M F σ' H' ρ' ∧ Evo M σ H1 ρ σ' H' ρ' ∧ WS X M F E σ' H' ρ' (sLoop gg s (ds.drop i) ρ') D, ⟨ds.length, by simp, Nat.zero_le _, ρ, er1, Evo.refl, w1⟩, ?_⟩
    rintro i m σ' H' ⟨rfl, hi', ρ', er', ev', w'⟩
    have kp : Kp (fun a => RS M F σ ρ false a ∧ Nn H1 a) H1 H' := ⟨fun a u e x n => (Evo.kp er1 ev').k a u e (x.elim (fun x => .inl x.1) .inr) n⟩
    by_cases hlt : i < ds.length
    · obtain ⟨go, yl⟩ := (wk H' kp i).1 _ (List.getElem?_eq_getElem hlt)
      refine .inr ⟨go, fun σ2 H2 => ds.length - (i + 1) = ds.length - (i + 1) ∧ i + 1 ≤ ds.length ∧ ∃ ρ2, ER X.K M F σ2 H2 ρ2 ∧ Evo M σ H1 ρ σ2 H2 ρ2 ∧ WS X M F E σ2 H2 ρ2 (sLoop gg s (ds.drop (i + 1)) ρ2) D, fun σ2 H2 x => ⟨ds.length - (i + 1), by omega, x⟩, fun x H2 y => ?_⟩
      obtain ⟨s2, rx⟩ := yl x H2 y
      rw [drop_get (List.getElem?_eq_getElem hlt)] at w'
      have w' : WS X M F E σ' H' ρ' (match gg ds[i] ρ' with
        | none => .bad
        | some ρ1 => match s ρ1 with
          | .nx ρ2 => sLoop gg s (ds.drop (i + 1)) ρ2
          | .ct ρ2 => sLoop gg s (ds.drop (i + 1)) ρ2
          | .bk ρ2 => .nx ρ2
          | .rt d => .rt d
          | .ex c ρ2 => .ex c ρ2
          | .bad => .bad) D := w'
      cases q1 : gg ds[i] ρ' with
      | none =>
        rw [q1] at w'
        exact w'.elim
      | some ρ1 =>
        rw [q1] at w'
        have er2 := er'.same s2
        have ev2 : Evo M σ H1 ρ σ' H2 ρ' := ev'.trans (Evo.same s2)
        have rx' : Rp X.K H2 (RS M F σ' ρ' false) x ds[i] := rx.keep (kp_same (Same.refl _)) fun a u z _ _ => by
          obtain ⟨u', hu', nhu'⟩ := z.2
          exact Evo.rs ev' a u' z.1 hu' nhu'
        refine hg σ' H2 ρ' x ds[i] ρ1 er2 rx' q1 _ fun σ3 er3 ev3 _ _ => ?_
        have w3 := ws_evo ((Evo.same s2).trans ev3) w'
        have w3 : WS X M F E σ3 H2 ρ1 (match s ρ1 with
          | .nx ρ2 => sLoop gg s (ds.drop (i + 1)) ρ2
          | .ct ρ2 => sLoop gg s (ds.drop (i + 1)) ρ2
          | .bk ρ2 => .nx ρ2
          | .rt d => .rt d
          | .ex c ρ2 => .ex c ρ2
          | .bad => .bad) D := w3
        have ev3' := ev2.trans ev3
        refine hb σ3 H2 ρ1 er3 _ ?_
        cases q2 : s ρ1 with
        | nx ρ2 =>
          rw [q2] at w3
          exact fun σ4 H4 er4 ev4 => ⟨rfl, hlt, ρ2, er4, ev3'.trans ev4, ws_evo ev4 w3⟩
        | ct ρ2 =>
          rw [q2] at w3
          exact fun σ4 H4 er4 ev4 => ⟨rfl, hlt, ρ2, er4, ev3'.trans ev4, ws_evo ev4 w3⟩
        | bk ρ2 =>
          rw [q2] at w3
          exact w3
        | rt d =>
          rw [q2] at w3
          exact w3
        | ex c ρ2 =>
          rw [q2] at w3
          exact w3
        | bad =>
          rw [q2] at w3
          exact w3
    · have e : i = ds.length := by omega
      subst e
      rw [List.drop_length] at w'
      exact .inl ⟨(wk H' kp _).2 rfl, w' σ' H' er' Evo.refl⟩
/-- while, at most n turns are looked at -/
def sWhile (p : Rho → Re Bool) (body : Rho → Sr) : Nat → Rho → Sr
  | 0, _ => .bad
  | n + 1, ρ => (p ρ).stT ρ fun b => if b = true then (match body ρ with
      | .nx ρ2 => sWhile p body n ρ2
      | .ct ρ2 => sWhile p body n ρ2
      | .bk ρ2 => .nx ρ2
      | .rt d => .rt d
      | .ex c ρ2 => .ex c ρ2
      | .bad => .bad) else .nx ρ
theorem ds_while {c : Expr} {body : List Stmt} (n : Nat) (hp : PassesOwn (model X.prog X.w) X.A X.env X.xe) (hc : DT X M F E c p) (hb : DSs X M F E body s) : DS X M F E (.While c body [] pos) (sWhile p s n) := by
  obtain ⟨tc, pc, hc⟩ := hc
  obtain ⟨tb, pb, hb⟩ := hb
  refine ⟨_, ps_while hp pc pb, fun σ H ρ er D w => ?_⟩
  refine ⟨fun m σ' H' => ∃ ρ', ER X.K M F σ' H' ρ' ∧ WS X M F E σ' H' ρ' (sWhile p s m ρ') D, ⟨n, ρ, er, w⟩, ?_⟩
  rintro m σ' H' ⟨ρ', er', w'⟩
  cases m with
  | zero => exact w'.elim
  | succ m =>
    refine hc σ' H' ρ' er' _ (ws_stepT er' (show WS X M F E σ' H' ρ' ((p ρ').stT ρ' _) D from w') fun b H1 e sm w1 => ?_)
    cases b with
    | false => exact w1 σ' H1 (er'.same sm) Evo.refl
    | true =>
      refine ⟨fun σ2 H2 => ∃ m', m' < m + 1 ∧ ∃ ρ2, ER X.K M F σ2 H2 ρ2 ∧ WS X M F E σ2 H2 ρ2 (sWhile p s m' ρ2) D, fun σ2 H2 x => x, ?_⟩
      refine hb σ' H1 ρ' (er'.same sm) _ ?_
      have w1 : WS X M F E σ' H1 ρ' (match s ρ' with
        | .nx ρ2 => sWhile p s m ρ2
        | .ct ρ2 => sWhile p s m ρ2
        | .bk ρ2 => .nx ρ2
        | .rt d => .rt d
        | .ex c ρ2 => .ex c ρ2
        | .bad => .bad) D := w1
      cases q2 : s ρ' with
      | nx ρ2 =>
        rw [q2] at w1
        exact fun σ4 H4 er4 ev4 => ⟨m, Nat.lt_succ_self _, ρ2, er4, ws_evo ev4 w1⟩
      | ct ρ2 =>
        rw [q2] at w1
        exact fun σ4 H4 er4 ev4 => ⟨m, Nat.lt_succ_self _, ρ2, er4, ws_evo ev4 w1⟩
      | bk ρ2 =>
        rw [q2] at w1
        exact w1
      | rt d =>
        rw [q2] at w1
        exact w1
      | ex c ρ2 =>
        rw [q2] at w1
        exact w1
      | bad =>
        rw [q2] at w1
        exact w1
end
end Pu

set_option Elab.async false
set_option linter.all false
set_option maxRecDepth 100000
set_option maxHeartbeats 2000000
namespace Pu
open PySem PySem.Spec PyProof.Rows L2
variable [TabL]

section
variable {X : Cx} {M : Nat → Bool} {F : Fx} {E : L2.St → XK} {σ σ1 : L2.St} {ρ ρ1 : Rho} {H H' H1 : Hp} {D : Ends}
variable {st : Stmt} {rest : List Stmt} {s u : Rho → Sr} {la fa lb fb : Bool} {a b : Expr} {f g : Rho → Re PyData} {p : Rho → Re Bool} {pos : Pos}

/-! ### one reading for all contexts -/
def canE (X : Cx) (M : Nat → Bool) (E : L2.St → XK) (lk fr : Bool) (f : Rho → Re PyData) : TE := fun σ H Q => ∃ (F : Fx) (ρ : Rho), ER X.K M F σ H ρ ∧ WE X M F E lk fr σ ρ H (f ρ) Q
def canT (X : Cx) (M : Nat → Bool) (E : L2.St → XK) (f : Rho → Re Bool) : TT := fun σ H Q => ∃ (F : Fx) (ρ : Rho), ER X.K M F σ H ρ ∧ WT X E σ H (f ρ) Q
def canG (X : Cx) (M : Nat → Bool) (ts : List Nat) (g : PyData → Rho → Option Rho) : TG := fun v σ H Q => ∃ (F : Fx) (ρ : Rho) (d : PyData) (ρ' : Rho), ER X.K M F σ H ρ ∧ Rp X.K H (RS M F σ ρ false) v d ∧ g d ρ = some ρ' ∧
    (∀ σ', ER X.K M F σ' H ρ' → Evo M σ H ρ σ' H ρ' → (∀ vs, (∀ i ∈ ts, i ∈ vs) → wipe σ' vs = wipe σ vs) → (∀ a, OwnA M σ ρ a → OwnA M σ' ρ' a) → Q σ' H)
theorem canE_ok {lk fr : Bool} {e : Expr} (h : ∀ F, DE X M F E lk fr e f) : PE X e (canE X M E lk fr f) := ⟨fun pins s σ H Q I ⟨F, ρ, er, w⟩ => by
  obtain ⟨t, pt, h⟩ := h F
  exact pt.run pins s σ H Q I (h σ H ρ er Q w)⟩
theorem canT_ok {e : Expr} (h : ∀ F, DT X M F E e p) : PT X e (canT X M E p) := ⟨fun pins s σ H Q I ⟨F, ρ, er, w⟩ => by
  obtain ⟨t, pt, h⟩ := h F
  exact pt.run pins s σ H Q I (h σ H ρ er Q w)⟩
theorem canG_ok {e : Expr} {ts : List Nat} {gg : PyData → Rho → Option Rho} (h : ∀ F, DG X M F e ts gg) : PG X e (canG X M ts gg) := ⟨fun pins s σ H v u Q I r ⟨F, ρ, d, ρ', er, rp, e, w⟩ => by
  obtain ⟨t, pt, h⟩ := h F
  exact pt.run pins s σ H v u Q I r (h σ H ρ v d ρ' er rp e Q w)⟩
/-- tests of a clause: none, or one -/
def DTs (X : Cx) (M : Nat → Bool) (E : L2.St → XK) (ifs : List Expr) (f : Rho → Re Bool) : Prop := PTs X ifs (canT X M E f)
def yesR : Rho → Re Bool := fun _ => .ok true
theorem dts_nil : DTs X M E [] yesR := ⟨fun pins s σ H Q I ⟨F, ρ, er, w⟩ => pts_nil.run pins s σ H Q I (w H (Same.refl _))⟩
theorem dts_one {c : Expr} (h : ∀ F, DT X M F E c p) : DTs X M E [c] p := pts_one (canT_ok h)

/-! ### list comprehensions -/
def E0s : L2.St → XK := fun _ _ _ _ => False
def wipeR (ρ : Rho) : List Nat → Rho
  | [] => ρ
  | v :: vs => (wipeR ρ vs).set v none
def lcGo (g : PyData → Rho → Option Rho) (t : Rho → Re Bool) (f : Rho → Re PyData) (ρ : Rho) : List PyData → Option (List PyData)
  | [] => some []
  | d :: ds => match g d ρ with
    | none => none
    | some ρ1 => match t ρ1 with
      | .ok true => (match f ρ1 with | .ok x => (match lcGo g t f ρ ds with | some xs => some (x :: xs) | none => none) | _ => none)
      | .ok false => lcGo g t f ρ ds
      | _ => none
def rLc (its : Rho → Re (List PyData)) (vs : List Nat) (g : PyData → Rho → Option Rho) (t : Rho → Re Bool) (f : Rho → Re PyData) : Rho → Re PyData := fun ρ => (its ρ).andThen fun ds => if okLen ds.length = true then (match lcGo g t f (wipeR ρ vs) ds with | some xs => .ok (.list xs) | none => .bad) else .bad
theorem ER.wipe1 (e : ER X.K M F σ H ρ) {i : Nat} (m : M i = false) : ER X.K M F (σ.set i none) H (ρ.set i none) ∧ ∀ lk, RS M F (σ.set i none) (ρ.set i none) lk = RS M F σ ρ lk := by
  have own : ∀ a, OwnA M (σ.set i none) (ρ.set i none) a ↔ OwnA M σ ρ a := fun a => by
    constructor
    · rintro ⟨j, x, mj, r, s⟩
      have hj : i ≠ j := fun z => by
        subst z
        rw [m] at mj
        cases mj
      rw [List.getElem?_set_ne hj] at r s
      exact ⟨j, x, mj, r, s⟩
    · rintro ⟨j, x, mj, r, s⟩
      have hj : i ≠ j := fun z => by
        subst z
        rw [m] at mj
        cases mj
      exact ⟨j, x, mj, by rw [List.getElem?_set_ne hj]; exact r, by rw [List.getElem?_set_ne hj]; exact s⟩
  have rs : ∀ lk, RS M F (σ.set i none) (ρ.set i none) lk = RS M F σ ρ lk := fun lk => by
    funext a
    unfold RS
    rw [propext (own a)]
  have back : ∀ {j : Nat} {d : PyData}, (ρ.set i none)[j]? = some (some d) → i ≠ j ∧ ρ[j]? = some (some d) := fun {j d} q => by
    have hj : i ≠ j := fun z => by
      subst z
      have hi := getSome q
      rw [List.length_set] at hi
      rw [List.getElem?_set_self hi] at q
      cases q
    rw [List.getElem?_set_ne hj] at q
    exact ⟨hj, q⟩
  refine ⟨⟨by rw [List.length_set, List.length_set]; exact e.len, e.old, e.new, e.tab, fun j d q mj => ?_, fun j d q mj => ?_, fun j k d e' p mj mk q1 q2 s1 s2 => ?_⟩, rs⟩
  · obtain ⟨hj, q⟩ := back q
    obtain ⟨v, s, r⟩ := e.im j d q mj
    rw [rs]
    exact ⟨v, by rw [List.getElem?_set_ne hj]; exact s, r⟩
  · obtain ⟨hj, q⟩ := back q
    obtain ⟨p, s, z, w⟩ := e.ow j d q mj
    rw [rs]
    exact ⟨p, by rw [List.getElem?_set_ne hj]; exact s, z, w⟩
  · obtain ⟨hj, q1⟩ := back q1
    obtain ⟨hk, q2⟩ := back q2
    rw [List.getElem?_set_ne hj] at s1
    rw [List.getElem?_set_ne hk] at s2
    exact e.ap j k d e' p mj mk q1 q2 s1 s2
theorem ER.wipe (e : ER X.K M F σ H ρ) : ∀ {vs : List Nat}, (∀ i ∈ vs, M i = false) → ER X.K M F (wipe σ vs) H (wipeR ρ vs) ∧ ∀ lk, RS M F (L2.wipe σ vs) (wipeR ρ vs) lk = RS M F σ ρ lk
  | [], _ => ⟨e, fun _ => rfl⟩
  | v :: vs, h => by
    obtain ⟨e1, r1⟩ := e.wipe (vs := vs) fun i hi => h i (List.mem_cons_of_mem _ hi)
    obtain ⟨e2, r2⟩ := e1.wipe1 (h v List.mem_cons_self)
    exact ⟨e2, fun lk => (r2 lk).trans (r1 lk)⟩
/-- within a block: the new list at Dd is no one's -/
def inBlk (F : Fx) (Dd : Addr) : Fx := ⟨fun _ => none, fun a => F.S0 a ∧ a ≠ Dd⟩
theorem ER.blk (e : ER X.K M F σ H ρ) {Dd : Addr} {o : HO} (hD : H Dd = none) (sm : Same H H') (hD' : H' Dd = some o) : ER X.K M (inBlk F Dd) σ H' ρ where
  len := e.len
  old := .nil (sm.tab e.tab)
  tab := sm.tab e.tab
  new := fun a q => ⟨e.new a (sm.free q), fun z => by
    rw [z, hD'] at q
    cases q⟩
  im := fun i d r m => by
    obtain ⟨v, s, r⟩ := e.im i d r m
    exact ⟨v, s, r.keep (kp_same sm) fun a u x q _ => ⟨⟨x.1, fun z => by
      rw [z, hD] at q
      cases q⟩, x.2⟩⟩
  ow := fun i d r m => by
    obtain ⟨p, s, z, w⟩ := e.ow i d r m
    obtain ⟨u, hu, _⟩ := w.there
    exact ⟨p, s, ⟨rfl, z.2, fun zz => by
      rw [zz, hD] at hu
      cases hu⟩, w.keep (kp_same sm) (fun a u x q _ => ⟨⟨x.1, fun z => by
      rw [z, hD] at q
      cases q⟩, x.2⟩) fun u q n => sm _ _ q n⟩
  ap := e.ap
theorem lc_run {ts vs : List Nat} {wi : TI} {its : Rho → Re (List PyData)} {gg : PyData → Rho → Option Rho} {tt : Rho → Re Bool} {lk fr : Bool} (hi : ∀ σ H ρ, ER X.K M F σ H ρ → ∀ R, WI X M F E σ ρ H (its ρ) R → wi σ H R)
    (hv : ∀ i ∈ vs, M i = false) (hts : ∀ i ∈ ts, i ∈ vs) (er : ER X.K M F σ H ρ) {Q : VK} (w : WE X M F E lk true σ ρ H (rLc its vs gg tt f ρ) Q) : tLc wi (canG X M ts gg) (canT X M E0s tt) (canE X M E0s lk fr f) vs σ H Q := by
  refine hi σ H ρ er _ ?_
  unfold rLc at w
  cases q : its ρ with
  | ex c =>
    rw [q] at w
    exact w
  | bad =>
    rw [q] at w
    exact w
  | ok ds =>
    rw [q] at w
    have w : WE X M F E lk true σ ρ H (if okLen ds.length = true then (match lcGo gg tt f (wipeR ρ vs) ds with | some xs => .ok (.list xs) | none => .bad) else .bad) Q := w
    by_cases hz : okLen ds.length = true
    · rw [if_pos hz] at w
      cases q2 : lcGo gg tt f (wipeR ρ vs) ds with
      | none =>
        rw [q2] at w
        exact w.elim
      | some tot =>
        rw [q2] at w
        refine fun J H1 sm wk Dd hD => ?_
        have er1 := er.same sm
        refine ⟨fun i m H2 => m = ds.length - i ∧ i ≤ ds.length ∧ Same H1 H2 ∧ ∃ acc accd rst, H2 Dd = some (.lst acc) ∧ RpA X.K H2 (fun a => RS M F σ ρ lk a ∧ a ≠ Dd) acc accd ∧ acc.length ≤ i ∧ lcGo gg tt f (wipeR ρ vs) (ds.drop i) = some rst ∧ tot = accd ++ rst,
          ⟨ds.length, by simp, Nat.zero_le _, same_new hD, [], [], tot, upd_same, .nil, Nat.le_refl _, q2, rfl⟩, ?_⟩
        rintro i m H2 ⟨rfl, hi', sm2, acc, accd, rst, e1, r1, l1, g1, t1⟩
        have kp : Kp (fun a => RS M F σ ρ false a ∧ Nn H1 a) H1 H2 := kp_same sm2
        by_cases hlt : i < ds.length
        · obtain ⟨go, yl⟩ := (wk H2 kp i).1 _ (List.getElem?_eq_getElem hlt)
          refine .inr ⟨go, fun H3 => ds.length - (i + 1) = ds.length - (i + 1) ∧ i + 1 ≤ ds.length ∧ Same H1 H3 ∧ ∃ acc accd rst, H3 Dd = some (.lst acc) ∧ RpA X.K H3 (fun a => RS M F σ ρ lk a ∧ a ≠ Dd) acc accd ∧ acc.length ≤ i + 1 ∧ lcGo gg tt f (wipeR ρ vs) (ds.drop (i + 1)) = some rst ∧ tot = accd ++ rst, fun H3 x => ⟨ds.length - (i + 1), by omega, x⟩, fun x H3 y => ?_⟩
          obtain ⟨s3, rx⟩ := yl x H3 y
          rw [drop_get (List.getElem?_eq_getElem hlt)] at g1
          have g1 : (match gg ds[i] (wipeR ρ vs) with
            | none => none
            | some ρ1 => match tt ρ1 with
              | .ok true => (match f ρ1 with | .ok x => (match lcGo gg tt f (wipeR ρ vs) (ds.drop (i + 1)) with | some xs => some (x :: xs) | none => none) | _ => none)
              | .ok false => lcGo gg tt f (wipeR ρ vs) (ds.drop (i + 1))
              | _ => none) = some rst := g1
          cases q3 : gg ds[i] (wipeR ρ vs) with
          | none =>
            rw [q3] at g1
            cases g1
          | some ρ1 =>
            rw [q3] at g1
            have g1 : (match tt ρ1 with
              | .ok true => (match f ρ1 with | .ok x => (match lcGo gg tt f (wipeR ρ vs) (ds.drop (i + 1)) with | some xs => some (x :: xs) | none => none) | _ => none)
              | .ok false => lcGo gg tt f (wipeR ρ vs) (ds.drop (i + 1))
              | _ => none) = some rst := g1
            obtain ⟨erw, rsw⟩ := er1.wipe (vs := vs) hv
            have s13 : Same H1 H3 := sm2.trans s3
            have e3 : H3 Dd = some (.lst acc) := s3 _ _ e1
            have erb := erw.blk hD s13 e3
            have rx' : Rp X.K H3 (RS M (inBlk F Dd) (wipe σ vs) (wipeR ρ vs) false) x ds[i] := rx.wide fun a z => by
              have := rsw false
              refine ⟨⟨z.1.1, fun zz => ?_⟩, ?_⟩
              · rw [zz] at z
                exact z.2.not hD
              · have z1 : RS M F (wipe σ vs) (wipeR ρ vs) false a := by
                  rw [this]
                  exact z.1
                exact z1.2
            refine ⟨inBlk F Dd, wipeR ρ vs, ds[i], ρ1, erb, rx', q3, fun σ4 er4 ev4 wp4 ow4 => ⟨?_, ?_⟩⟩
            · rw [wp4 vs hts]
              exact (show wipe (wipe σ vs) vs = wipe σ vs from by
                have : ∀ (l : List Nat) (τ : L2.St), (∀ i ∈ l, i < τ.length → τ[i]? = some none) → wipe τ l = τ := by
                  intro l
                  induction l with
                  | nil => intro τ _; rfl
                  | cons v l ih =>
                    intro τ h
                    show (wipe τ l).set v none = τ
                    rw [ih τ fun i hi => h i (List.mem_cons_of_mem _ hi)]
                    by_cases hv : v < τ.length
                    · have := h v List.mem_cons_self hv
                      obtain ⟨h1, h2⟩ := List.getElem?_eq_some_iff.mp this
                      rw [← h2, List.set_getElem_self]
                    · rw [List.set_eq_of_length_le (by omega)]
                refine this vs _ fun i hi hl => ?_
                have mem : ∀ (l : List Nat) (i : Nat), i ∈ l → i < (wipe σ l).length → (wipe σ l)[i]? = some none := by
                  intro l
                  induction l with
                  | nil => intro i h; cases h
                  | cons v l ih =>
                    intro i h hl
                    show ((wipe σ l).set v none)[i]? = some none
                    have hl' : i < (wipe σ l).length := by
                      have hl2 : i < ((wipe σ l).set v none).length := hl
                      rwa [List.length_set] at hl2
                    by_cases e : v = i
                    · subst e
                      rw [List.getElem?_set_self hl']
                    · rw [List.getElem?_set_ne e]
                      exact ih i ((List.mem_cons.mp h).resolve_left fun z => e z.symm) hl'
                exact mem vs i hi hl)
            · refine ⟨inBlk F Dd, ρ1, er4, ?_⟩
              cases q4 : tt ρ1 with
              | ex c =>
                rw [q4] at g1
                cases g1
              | bad =>
                rw [q4] at g1
                cases g1
              | ok bb =>
                rw [q4] at g1
                cases bb with
                | false =>
                  refine fun H5 s5 => ?_
                  show (if false = true then _ else _)
                  rw [if_neg Bool.false_ne_true]
                  exact ⟨rfl, hlt, s13.trans s5, acc, accd, rst, s5 _ _ e3, r1.same (s3.trans s5), by omega, g1, t1⟩
                | true =>
                  refine fun H5 s5 => ?_
                  show (if true = true then _ else _)
                  rw [if_pos rfl]
                  have g1 : (match f ρ1 with | .ok x => (match lcGo gg tt f (wipeR ρ vs) (ds.drop (i + 1)) with | some xs => some (x :: xs) | none => none) | _ => none) = some rst := g1
                  cases q5 : f ρ1 with
                  | ex c =>
                    rw [q5] at g1
                    cases g1
                  | bad =>
                    rw [q5] at g1
                    cases g1
                  | ok xd =>
                    rw [q5] at g1
                    have g1 : (match lcGo gg tt f (wipeR ρ vs) (ds.drop (i + 1)) with | some xs => some (xd :: xs) | none => none) = some rst := g1
                    cases q6 : lcGo gg tt f (wipeR ρ vs) (ds.drop (i + 1)) with
                    | none =>
                      rw [q6] at g1
                      cases g1
                    | some xs =>
                      rw [q6] at g1
                      have g1 : some (xd :: xs) = some rst := g1
                      cases g1
                      refine ⟨inBlk F Dd, ρ1, er4.same s5, ?_⟩
                      rw [q5]
                      refine fun v H6 s6 r6 _ => ?_
                      have e6 : H6 Dd = some (.lst acc) := s6 _ _ (s5 _ _ e3)
                      have acl : acc.length < sizeLine := by
                        have := of_decide_eq_true hz
                        exact Nat.lt_of_lt_of_le (show acc.length < 10001 by omega) (by decide)
                      refine ⟨acc, e6, acl, rfl, hlt, ((s13.trans s5).trans s6).put hD e6 plain_lst, acc ++ [v], accd ++ [xd], xs, upd_same, ?_, ?_, rfl, ?_⟩
                      · have kpD : Kp (fun a => RS M F σ ρ lk a ∧ a ≠ Dd) H6 (upd H6 Dd (.lst (acc ++ [v]))) := by
                          refine ⟨fun a u qa xa _ => ?_⟩
                          rw [upd_ne]
                          · exact qa
                          · intro za
                            subst za
                            rcases xa with xa | xa
                            · exact xa.2 rfl
                            · rw [e6] at qa
                              cases qa
                              exact xa trivial
                        have rA : RpA X.K H6 (fun a => RS M F σ ρ lk a ∧ a ≠ Dd) acc accd := r1.same ((s3.trans s5).trans s6)
                        have rV : Rp X.K H6 (fun a => RS M F σ ρ lk a ∧ a ≠ Dd) v xd := r6.wide fun a za => by
                          refine ⟨⟨za.1.1, fun zl => fun o => ?_⟩, za.1.2⟩
                          have rw0 := rsw false
                          -- an own address ahead is own in the block
                          obtain ⟨hh0, hs0, uu, hu⟩ := er1.own o
                          have nb : ¬ OwnA M (wipe σ vs) (wipeR ρ vs) a → False := fun nn => by
                            have : RS M F (wipe σ vs) (wipeR ρ vs) false a := ⟨hs0, fun _ => nn⟩
                            rw [rw0] at this
                            exact this.2 rfl o
                          refine za.2 zl ?_
                          by_cases ob : OwnA M (wipe σ vs) (wipeR ρ vs) a
                          · exact ow4 a ob
                          · exact (nb ob).elim
                        exact (rA.append (.cons rV .nil)).keep kpD fun _ _ x _ _ => x
                      · rw [List.length_append]
                        show acc.length + 1 ≤ i + 1
                        omega
                      · rw [t1, List.append_assoc]
                        rfl
        · have ei : i = ds.length := by omega
          subst ei
          rw [List.drop_length] at g1
          have g1 : some ([] : List PyData) = some rst := g1
          cases g1
          rw [List.append_nil] at t1
          subst t1
          refine .inl ⟨(wk H2 kp _).2 rfl, w (.ref Dd) H2 (sm.trans sm2) (.lst e1 ?_ (r1.wide fun a x => x.1)) fun _ => ⟨Dd, rfl, sm.free hD, .lst e1 r1⟩⟩
          exact er1.freshS _ hD
    · rw [if_neg hz] at w
      exact w.elim
end
end Pu

set_option Elab.async false
set_option linter.all false
set_option maxRecDepth 100000
set_option maxHeartbeats 2000000
namespace Pu
open PySem PySem.Spec PyProof.Rows L2
variable [TabL]

section
variable {X : Cx} {M : Nat → Bool} {F : Fx} {E : L2.St → XK} {σ σ1 : L2.St} {ρ ρ1 : Rho} {H H' H1 : Hp} {D : Ends}
variable {st : Stmt} {rest : List Stmt} {s u : Rho → Sr} {la fa lb fb lk fr : Bool} {a b : Expr} {f g : Rho → Re PyData} {p : Rho → Re Bool} {pos : Pos}
/-! ### comprehensions, as a value and given to a name -/
section
variable {elt tg iter : Expr} {ifs : List Expr} {scope : Scope} {own : List (Str × Nat)} {ts : List Nat} (vs : List Nat) {its : Rho → Re (List PyData)} {gg : PyData → Rho → Option Rho} {tt : Rho → Re Bool}
theorem de_lc (hc : X.calm = true) (hN : X.N.Nodup) (hi : DI X M F E tg iter its) (ok : BlkOk X.N X.env.scope scope own) (hv : ∀ i ∈ vs, M i = false)
    (hg : ∀ (s : Shared) (H : Hp) (C : Addr) (cl : List (Str × Addr)) (fp : List Addr) (F : Fx), DG (X.blk s H scope (compEnvC scope cl C X.env) fp) M F tg ts gg)
    (ht : ∀ (s : Shared) (H : Hp) (C : Addr) (cl : List (Str × Addr)) (fp : List Addr), DTs (X.blk s H scope (compEnvC scope cl C X.env) fp) M E0s ifs tt)
    (he : ∀ (s : Shared) (H : Hp) (C : Addr) (cl : List (Str × Addr)) (fp : List Addr) (F : Fx), DE (X.blk s H scope (compEnvC scope cl C X.env) fp) M F E0s lk fr elt f)
    (hvs : own.map (·.2) = vs := by rfl) (hts : ∀ i ∈ ts, i ∈ vs := by decide) (hs : ∀ x, foldedSetIterable iter X.env x = pure x := by intro _; rfl) :
    DE X M F E lk true (.ListComp elt [⟨tg, iter, ifs, 0⟩] scope pos) (rLc its vs gg tt f) := by
  subst hvs
  obtain ⟨wi, pw, hi⟩ := hi
  exact ⟨_, pe_lc (g := canG X M ts gg) (tt := canT X M E0s tt) (te := canE X M E0s lk fr f) hc hN pw ok (fun s H C cl fp => canG_ok (hg s H C cl fp)) (fun s H C cl fp => ht s H C cl fp) (fun s H C cl fp => canE_ok (he s H C cl fp)) hs, fun σ H ρ er Q w => lc_run hi hv hts er w⟩
/-- y = [..] on one row -/
theorem ds_setLc {i : Nat} {y : Str} {py spos : Pos} (m : M i = false) (hc : X.calm = true) (hN : X.N.Nodup) (hi : DI X M F E tg iter its) (ok : BlkOk X.N X.env.scope scope own) (hv : ∀ i ∈ vs, M i = false)
    (hg : ∀ (s : Shared) (H : Hp) (C : Addr) (cl : List (Str × Addr)) (fp : List Addr) (F : Fx), DG (X.blk s H scope (compEnvC scope cl C X.env) fp) M F tg ts gg)
    (ht : ∀ (s : Shared) (H : Hp) (C : Addr) (cl : List (Str × Addr)) (fp : List Addr), DTs (X.blk s H scope (compEnvC scope cl C X.env) fp) M E0s ifs tt)
    (he : ∀ (s : Shared) (H : Hp) (C : Addr) (cl : List (Str × Addr)) (fp : List Addr) (F : Fx), DE (X.blk s H scope (compEnvC scope cl C X.env) fp) M F E0s lk fr elt f)
    (hsw : swapsWith (.ListComp elt [⟨tg, iter, ifs, 0⟩] scope pos) (some (.Name y py)) spos.line X.env = pure true)
    (hy : X.N[i]? = some y := by rfl) (hyl : X.env.scope.names.lookup y = some .local := by rfl)
    (hvs : own.map (·.2) = vs := by rfl) (hts : ∀ i ∈ ts, i ∈ vs := by decide) (hs : ∀ x, foldedSetIterable iter X.env x = pure x := by intro _; rfl) :
    DS X M F E (.Assign [.Name y py] (.ListComp elt [⟨tg, iter, ifs, 0⟩] scope pos) spos) (sSet i lk (rLc its vs gg tt f)) := by
  subst hvs
  obtain ⟨wi, pw, hi⟩ := hi
  refine ⟨_, ps_setLc (g := canG X M ts gg) (tt := canT X M E0s tt) (te := canE X M E0s lk fr f) hc hN hy hyl hsw pw ok (fun s H C cl fp => canG_ok (hg s H C cl fp)) (fun s H C cl fp => ht s H C cl fp) (fun s H C cl fp => canE_ok (he s H C cl fp)) hs, fun σ H ρ er D w => ?_⟩
  refine lc_run (lk := lk) (fr := fr) (X := X) hi hv hts er ?_
  refine ws_step er w fun d v H1 e sm r _ w1 => ?_
  by_cases hd : lk = true → imm d = true
  · rw [if_pos hd] at w1
    exact w1 _ H1 ((er.same sm).set m (rp_lk r hd)) fun a u q n _ => ⟨q, fun o => n ((own_set m).mp o)⟩
  · rw [if_neg hd] at w1
    exact w1.elim
theorem ds_setOLc {i : Nat} {y : Str} {py spos : Pos} (m : M i = true) (hc : X.calm = true) (hN : X.N.Nodup) (hi : DI X M F E tg iter its) (ok : BlkOk X.N X.env.scope scope own) (hv : ∀ i ∈ vs, M i = false)
    (hg : ∀ (s : Shared) (H : Hp) (C : Addr) (cl : List (Str × Addr)) (fp : List Addr) (F : Fx), DG (X.blk s H scope (compEnvC scope cl C X.env) fp) M F tg ts gg)
    (ht : ∀ (s : Shared) (H : Hp) (C : Addr) (cl : List (Str × Addr)) (fp : List Addr), DTs (X.blk s H scope (compEnvC scope cl C X.env) fp) M E0s ifs tt)
    (he : ∀ (s : Shared) (H : Hp) (C : Addr) (cl : List (Str × Addr)) (fp : List Addr) (F : Fx), DE (X.blk s H scope (compEnvC scope cl C X.env) fp) M F E0s lk fr elt f)
    (hsw : swapsWith (.ListComp elt [⟨tg, iter, ifs, 0⟩] scope pos) (some (.Name y py)) spos.line X.env = pure true)
    (hy : X.N[i]? = some y := by rfl) (hyl : X.env.scope.names.lookup y = some .local := by rfl)
    (hvs : own.map (·.2) = vs := by rfl) (hts : ∀ i ∈ ts, i ∈ vs := by decide) (hs : ∀ x, foldedSetIterable iter X.env x = pure x := by intro _; rfl) :
    DS X M F E (.Assign [.Name y py] (.ListComp elt [⟨tg, iter, ifs, 0⟩] scope pos) spos) (sSetO i lk (rLc its vs gg tt f)) := by
  subst hvs
  obtain ⟨wi, pw, hi⟩ := hi
  refine ⟨_, ps_setLc (g := canG X M ts gg) (tt := canT X M E0s tt) (te := canE X M E0s lk fr f) hc hN hy hyl hsw pw ok (fun s H C cl fp => canG_ok (hg s H C cl fp)) (fun s H C cl fp => ht s H C cl fp) (fun s H C cl fp => canE_ok (he s H C cl fp)) hs, fun σ H ρ er D w => ?_⟩
  exact setO_run m (fun σ H ρ er Q w => lc_run (lk := lk) (fr := fr) (X := X) hi hv hts er w) er w
end

/-! ### a def -/
def runF (n m : Nat) (s : Rho → Sr) (ds : List PyData) : Re PyData := if ds.length = n then (match s (ds.map some ++ List.replicate (m - n) none) with
  | .nx _ => .ok .none
  | .rt d => .ok d
  | .ex c _ => .ex c
  | _ => .bad) else .bad
/-- where a body runs -/
structure Gd (X : Cx) (E : L2.St → XK) (k : Nat) : Prop where
  room : Room k X.A
  pass : ∀ σ, PassesAt (L2.CX X.prog X.w) X σ (E σ)
  tk : Takes X (fun cls d σ H => E σ cls d H)
  own : PassesOwn (model X.prog X.w) X.A X.env X.xe
  stk : X.stack = X.env :: X.outer
  frm : X.env.frame = some X.env.locals
theorem passF {X : Cx} (σ : L2.St) : PassesAt (L2.CX X.prog X.w) X σ (E0s σ) := fun _ _ _ _ _ _ c => by
  obtain ⟨_, _, _, _, _, _, _, _, _, _, _, _, z⟩ := c
  exact z.elim
end

section
variable {P : Program} {w : World} {K : PySem.W.Frag} {mg : Str → Option Value} {base : Heap} {x qual : Str} {params : Arguments} {body : List Stmt} {scope : Scope} {dvs : List V} {kws : List (Str × V)} {fA : Addr} {fd : FuncData}
theorem start_get {N : List Str} {vs : List V} {i : Nat} {v : V} (h : vs[i]? = some v) : (L2.start N vs)[i]? = some (some v) := by
  unfold L2.start
  have hi := getSome h
  rw [List.getElem?_append_left (by simpa using hi), List.getElem?_map, h]
  rfl
theorem funD_okC {cp : Value → Prop} {CX : CXT} {N ps : List Str} {k : Nat} {sp : Sp} (F : FunD K x qual params body scope dvs kws fA fd) (hc : ∀ (oc : Value) (od : Option Addr) (dV kV doc pm : Value) (an : Option Addr) (cdv ct : Value) (osl : Array (Option Value)), K.lookup fA = some ⟨oc, od, .func (PySem.W.fnOf x qual params body scope dV kV doc pm an cdv ct), osl⟩ → PySem.W.codeIn K cdv qual = true → cp cdv)
    (S : FnScope N ps scope) (len : ∀ vs H Q E, sp vs H Q E → vs.length = ps.length)
    (hbody : ∀ (cdv : Value), cp cdv → ∀ (A : Around) (outer : List Env) (s : Shared) (H : Hp) (vs : List V) (Q : VK) (E : XK), Room k (A.deeper (envOfC qual scope s.heap.objs.size fA cdv)) → sp vs H Q E →
      ∃ t, PSs (cxOf CX P w K mg base N qual scope fA cdv A outer s H E) body t ∧ t { nx := fun _ H' => Q .non H', rt := Q } (L2.start N vs) H) : FnOk P w K mg base CX (k + 1) fA fd ps sp := by
  obtain ⟨oc, od, dV, kV, doc, pm, an, cdv, ct, osl, rfl, lk, hcd, _, _⟩ := F.ex
  exact fn_of lk hcd S len fun A outer s H vs Q E hr hsp => hbody cdv (hc _ _ _ _ _ _ _ _ _ _ lk hcd) A outer s H vs Q E hr hsp
theorem def_okC {cp : Value → Prop} {N ps : List Str} {k : Nat} (Fd : FunD K x qual params body scope dvs kws fA fd) (hc : ∀ (oc : Value) (od : Option Addr) (dV kV doc pm : Value) (an : Option Addr) (cdv ct : Value) (osl : Array (Option Value)), K.lookup fA = some ⟨oc, od, .func (PySem.W.fnOf x qual params body scope dV kV doc pm an cdv ct), osl⟩ → PySem.W.codeIn K cdv qual = true → cp cdv)
    (S : FnScope N ps scope) (M : Nat → Bool) (hM : ∀ i, i < ps.length → M i = false) (s : Rho → Sr)
    (hb : ∀ (cdv : Value), cp cdv → ∀ (A : Around) (outer : List Env) (sh : Shared) (H : Hp) (Ex : XK), Gd (cxOf (L2.CX P w) P w K mg base N qual scope fA cdv A outer sh H Ex) (fun _ => Ex) k →
      ∀ F : Fx, DSs (cxOf (L2.CX P w) P w K mg base N qual scope fA cdv A outer sh H Ex) M F (fun _ => Ex) body s) :
    FnOk P w K mg base (L2.CX P w) (k + 1) fA fd ps (spD mg (runF ps.length N.length s) K) := by
  refine funD_okC Fd hc S (fun vs H Q E h => ?_) fun cdv hcd A outer sh H vs Q Ex hr h => ?_
  · obtain ⟨ds, Sx, r, _, h⟩ := h
    unfold runF at h
    by_cases hl : ds.length = ps.length
    · rw [r.length, hl]
    · rw [if_neg hl] at h
      exact h.elim
  · obtain ⟨ds, Sx, r, ⟨new, tb⟩, h⟩ := h
    unfold runF at h
    by_cases hl : ds.length = ps.length
    · rw [if_pos hl] at h
      have tk : Takes (cxOf (L2.CX P w) P w K mg base N qual scope fA cdv A outer sh H Ex) (fun cls d σ H => Ex cls d H) := takes_of rfl rfl rfl rfl
      have gd : Gd (cxOf (L2.CX P w) P w K mg base N qual scope fA cdv A outer sh H Ex) (fun _ => Ex) k := ⟨hr, fun σ => passAt tk σ, tk, passes_of rfl, rfl, rfl⟩
      obtain ⟨t, pt, ht⟩ := hb cdv hcd A outer sh H Ex gd ⟨H, Sx⟩
      refine ⟨t, pt, ?_⟩
      have hNl : ps.length ≤ N.length := by
        have := congrArg List.length S.pre
        rw [List.length_take] at this
        omega
      have r0 : ∀ i d, (ds.map some ++ List.replicate (N.length - ps.length) none : Rho)[i]? = some (some d) → i < ps.length ∧ ds[i]? = some d := fun i d q => by
        by_cases hi : i < ps.length
        · rw [List.getElem?_append_left (by rw [List.length_map, hl]; exact hi), List.getElem?_map] at q
          refine ⟨hi, ?_⟩
          cases e : ds[i]? with
          | none =>
            rw [e] at q
            cases q
          | some d' =>
            rw [e] at q
            cases q
            rfl
        · rw [List.getElem?_append_right (by rw [List.length_map, hl]; omega), List.getElem?_replicate] at q
          split at q <;> cases q
      have nown : ∀ a, ¬ OwnA M (L2.start N vs) (ds.map some ++ List.replicate (N.length - ps.length) none) a := fun a o => by
        obtain ⟨i, d, m, q, _⟩ := o
        rw [hM i (r0 i d q).1] at m
        cases m
      have er : ER K M ⟨H, Sx⟩ (L2.start N vs) H (ds.map some ++ List.replicate (N.length - ps.length) none) := by
        refine ⟨?_, Same.refl _, new, tb, fun i d q m => ?_, fun i d q m => ?_, fun i j d e p mi mj q1 q2 s1 s2 => ?_⟩
        · unfold L2.start
          rw [List.length_append, List.length_append, List.length_map, List.length_map, List.length_replicate, List.length_replicate, r.length, hl]
        · obtain ⟨hi, e⟩ := r0 i d q
          obtain ⟨v, hv, rv⟩ := r.get' e
          exact ⟨v, start_get hv, rv.wide fun a x => ⟨x, fun _ => nown a⟩⟩
        · rw [hM i (r0 i d q).1] at m
          cases m
        · rw [hM i (r0 i d q1).1] at mi
          cases mi
      refine ht _ H _ er _ ?_
      cases q : s (ds.map some ++ List.replicate (N.length - ps.length) none) with
      | nx ρ' =>
        rw [q] at h
        exact fun σ' H' er' _ => h .non H' er'.old .non
      | rt d =>
        rw [q] at h
        exact h
      | ex c ρ' =>
        rw [q] at h
        exact fun C σ' H' m er' _ => h C H' m er'.old
      | bk ρ' =>
        rw [q] at h
        exact h.elim
      | ct ρ' =>
        rw [q] at h
        exact h.elim
      | bad =>
        rw [q] at h
        exact h.elim
    · rw [if_neg hl] at h
      exact h.elim
theorem def_ok {N ps : List Str} {k : Nat} (Fd : FunD K x qual params body scope dvs kws fA fd) (S : FnScope N ps scope) (M : Nat → Bool) (hM : ∀ i, i < ps.length → M i = false) (s : Rho → Sr)
    (hb : ∀ (cdv : Value) (A : Around) (outer : List Env) (sh : Shared) (H : Hp) (Ex : XK), Gd (cxOf (L2.CX P w) P w K mg base N qual scope fA cdv A outer sh H Ex) (fun _ => Ex) k →
      ∀ F : Fx, DSs (cxOf (L2.CX P w) P w K mg base N qual scope fA cdv A outer sh H Ex) M F (fun _ => Ex) body s) :
    FnOk P w K mg base (L2.CX P w) (k + 1) fA fd ps (spD mg (runF ps.length N.length s) K) :=
  def_okC (cp := fun _ => True) Fd (fun _ _ _ _ _ _ _ _ _ _ _ _ => trivial) S M hM s fun cdv _ => hb cdv
end

section
variable {X : Cx} {M : Nat → Bool} {F : Fx} {E : L2.St → XK} {σ σ1 : L2.St} {ρ ρ1 : Rho} {H H' H1 : Hp} {D : Ends}
variable {st : Stmt} {rest : List Stmt} {s u : Rho → Sr} {la fa lb fb lk fr : Bool} {a b : Expr} {f g : Rho → Re PyData} {p : Rho → Re Bool} {pos : Pos}
/-! ### own errors -/
/-- an own error under ValueError, at C -/
structure ErrC (K : PySem.W.Frag) (mg : Str → Option Value) (c : Str) (C : Addr) : Prop where
  gC : mg c = some (.ref C)
  xP : PySem.W.excIn K C He.veBase "ValueError.__new__" = true
  kP : PySem.W.keepIn K (.ref C) = true
  bP : PySem.W.subIn K (.ref C) (.type "BaseException") = some true
  tP : PySem.W.typeIn K (.ref C) = some (.type "type")
  eP : PySem.W.exmOne K (.ref C) (.ref C) = some true
theorem ds_raise {c m : Str} {C : Addr} {j : Nat} {p1 p2 p3 : Pos} {k : Nat} (G : Gd X E k) (hc : X.calm = true) (Ec : ErrC X.K X.mg c C) (hg : Gl X c) (hdb : (c == ("__debug__" : Str)) = false := by decide) :
    DS X M F E (.Raise (some (.Call (.Name c p1) [.Constant (.str m) j p2] [] p3)) none pos) (fun ρ => .ex c ρ) :=
  ⟨_, ps_raise hc G.tk (pmk_own PySem.F.excBase_ValueError Ec.xP Ec.gC Ec.kP (raises_own Ec.bP Ec.tP) hg hdb), fun σ H ρ er D w => w C σ H Ec.gC er Evo.refl⟩
/-- one reading of a block for all contexts -/
def canS (X : Cx) (M : Nat → Bool) (E : L2.St → XK) (s : Rho → Sr) : TS := fun D σ H => ∃ (F : Fx) (ρ : Rho), ER X.K M F σ H ρ ∧ WS X M F E σ H ρ (s ρ) D
theorem canS_ok {b : List Stmt} (h : ∀ F, DSs X M F E b s) : PSs X b (canS X M E s) := ⟨fun pins sh σ H D I ⟨F, ρ, er, w⟩ => by
  obtain ⟨t, pt, h⟩ := h F
  exact pt.run pins sh σ H D I (h σ H ρ er D w)⟩
/-- try: body; except c: suite -/
def sTry (c : Str) (s u : Rho → Sr) : Rho → Sr := fun ρ => match s ρ with
  | .ex c' ρ' => if c' = c then (match u ρ' with | .ex _ _ => .bad | r => r) else .bad
  | r => r
theorem ds_try {c : Str} {C : Addr} {body suite : List Stmt} {b0 : Stmt} {np pos' : Pos} {k : Nat} (G : Gd X E k) (Ec : ErrC X.K X.mg c C) (hn : Gl X c ∧ (c == ("__debug__" : Str)) = false)
    (hb : ∀ (W : WX) (pn : List (Addr × Obj)) (xe : Value → Shared → Prop), Gd (X.tr pn xe) (fun σ cls d H => W cls d σ H) k → ∀ F, DSs (X.tr pn xe) M F (fun σ cls d H => W cls d σ H) body s)
    (hs : ∀ (a : Addr) (oe : Obj) (pn : List (Addr × Obj)) (F : Fx), DSs (X.suite a ((a, oe) :: pn)) M F E0s (b0 :: suite) u) :
    DS X M F E (.Try body [.ExceptHandler (some (.Name c np)) none (b0 :: suite) pos'] [] [] pos) (sTry c s u) := by
  refine ⟨_, ps_try_only (tb := fun W => canS X M (fun σ cls d H => W cls d σ H) s) (ts := fun _ _ _ => canS X M E0s u) G.stk G.frm ⟨hn.1, hn.2, .inl Ec.gC⟩ G.tk
    (fun W pn xe tk po => canS_ok (hb W pn xe ⟨G.room, fun σ => passAt tk σ, tk, po, G.stk, G.frm⟩)) (fun a oe cls d pn _ _ => canS_ok (hs a oe pn)), fun σ H ρ er D w => ?_⟩
  refine ⟨F, ρ, er, ?_⟩
  unfold sTry at w
  cases q : s ρ with
  | ex c' ρ' =>
    rw [q] at w
    have w2 : WS X M F E σ H ρ (if c' = c then (match u ρ' with | .ex _ _ => .bad | r => r) else .bad) D := w
    clear w
    by_cases hc : c' = c
    · rw [if_pos hc] at w2
      rw [hc]
      refine fun C' σ' H' m er' ev => ⟨true, ?_, fun _ a _ => ⟨F, ρ', er', ?_⟩, fun z => nomatch z⟩
      · rw [Ec.gC] at m
        cases m
        exact Ec.eP
      · have w1 := ws_evo ev w2
        revert w1
        generalize u ρ' = r
        intro w1
        cases r with
        | ex c2 ρ2 => exact w1.elim
        | nx ρ2 => exact w1
        | rt d => exact w1
        | bk ρ2 => exact w1
        | ct ρ2 => exact w1
        | bad => exact w1
    · rw [if_neg hc] at w2
      exact w2.elim
  | nx ρ' =>
    rw [q] at w
    exact w
  | rt d =>
    rw [q] at w
    exact w
  | bk ρ' =>
    rw [q] at w
    exact w
  | ct ρ' =>
    rw [q] at w
    exact w
  | bad =>
    rw [q] at w
    exact w
end
end Pu

set_option Elab.async false
set_option linter.all false
set_option maxRecDepth 100000
set_option maxHeartbeats 2000000
namespace Pu
open PySem PySem.Spec PyProof.Rows L2
variable [TabL]

/-! ### a def and its mirror -/
def Has (P : Program) (w : World) (K : PySem.W.Frag) (mg : Str → Option Value) (base : Heap) (k : Nat) (x : Str) (ps : List Str) (f : List PyData → Re PyData) : Prop :=
  ∃ (fA : Addr) (fd : FuncData), FnOk P w K mg base (L2.CX P w) k fA fd ps (spD mg f K) ∧ mg x = some (.ref fA) ∧ PySem.W.keepIn K (.ref fA) = true ∧ Binds K fd ps []
def FnAt (K : PySem.W.Frag) (mg : Str → Option Value) (x : Str) (st : Stmt) : Prop := ∃ (fA : Addr) (fd : FuncData), FunD K x x (defArgs st) (defBody st) (defScope st) [] [] fA fd ∧ mg x = some (.ref fA)
section
variable {P : Program} {w : World} {K : PySem.W.Frag} {mg : Str → Option Value} {base : Heap}
theorem has_of {x : Str} {st : Stmt} {N ps : List Str} {k : Nat} (h : FnAt K mg x st) (S : FnScope N ps (defScope st)) (M : Nat → Bool) (hM : ∀ i, i < ps.length → M i = false) (s : Rho → Sr)
    (hbn : ∀ (kV doc pm : Value) (an : Option Addr) (cdv ct : Value) (us : List Value), us.length = ps.length → bindArgs (PySem.W.fnOf x x (defArgs st) (defBody st) (defScope st) .none kV doc pm an cdv ct) ⟨us, []⟩ = pure (ps.zip us))
    (hb : ∀ (fA : Addr) (cdv : Value) (A : Around) (outer : List Env) (sh : Shared) (H : Hp) (Ex : XK), Gd (cxOf (L2.CX P w) P w K mg base N x (defScope st) fA cdv A outer sh H Ex) (fun _ => Ex) k →
      ∀ F : Fx, DSs (cxOf (L2.CX P w) P w K mg base N x (defScope st) fA cdv A outer sh H Ex) M F (fun _ => Ex) (defBody st) s) :
    Has P w K mg base (k + 1) x ps (runF ps.length N.length s) := by
  obtain ⟨fA, fd, Fd, hg⟩ := h
  exact ⟨fA, fd, def_ok Fd S M hM s fun cdv A outer sh H Ex G F => hb fA cdv A outer sh H Ex G F, hg, Fd.kp, Fd.bindsN hbn⟩
end
section
variable {X : Cx} {M : Nat → Bool} {F : Fx} {E : L2.St → XK} {la fa : Bool} {a : Expr} {pos : Pos}
theorem de_fn {k : Nat} {ps : List Str} {ff : List PyData → Re PyData} {x : Str} {es : List Expr} {gs : Rho → Re (List PyData)} {p : Pos} (h : Has X.prog X.w X.K X.mg X.base k x ps ff) (hr : Room k X.A) (hx : ∀ σ, PassesAt (L2.CX X.prog X.w) X σ (E σ)) (ha : DA X M F E la (a :: es) gs)
    (hg : Gl X x := by rfl) (hdb : (x == ("__debug__" : Str)) = false := by decide) (he : starEach (a :: es) X.env = (false, eval a X.env) :: starEach es X.env := by rfl) (hpl : (backTo pos (starEach es X.env)).any (·.1) = false := by rfl) :
    DE X M F E la false (.Call (.Name x p) (a :: es) [] pos) (rCall ff gs) := by
  obtain ⟨fA, fd, G, hm, kp, bb⟩ := h
  exact de_call G hr hg hm kp bb hx ha hdb he hpl
end

/-! ### the law's end -/
theorem rpA_ints {K : PySem.W.Frag} {H : Hp} {S : Addr → Prop} : ∀ ns : List Int, RpA K H S (ns.map V.int) (ns.map PyData.int)
  | [] => .nil
  | n :: ns => .cons (.int n) (rpA_ints ns)
/-- the script as data -/
def scrD (ns : List Int) : PyData := .dict [(.none, .list (ns.map PyData.int))]
theorem end_sp {mg : Str → Option Value} {K : PySem.W.Frag} {f : List PyData → Re PyData} {ns : List Int} {H : Hp} {a : Addr} (h : f [scrD ns] = .ok (.bool true)) (hT : LamX.Tabs TabL.T H) (hS : SqL K H a (ns.map V.int)) (hx : ∀ H' : Hp, ((∃ o, H a = some (.frz o (.lst (ns.map V.int)))) ∨ H a = some (.lst (ns.map V.int))) ∨ SqL K H' a (ns.map V.int)) : spD mg f K [.ref a] H (fun v _ => v = .bl true) fun _ _ _ => False := by
  refine ⟨[scrD ns], fun _ => True, .cons (.scr ?_ (rpA_ints ns)) .nil, ⟨fun _ _ => trivial, hT⟩, ?_⟩
  · by_cases c : (∃ o, H a = some (.frz o (.lst (ns.map V.int)))) ∨ H a = some (.lst (ns.map V.int))
    · rcases c with c | c
      · exact .inr (.inl c)
      · exact .inl ⟨c, trivial⟩
    · exact .inr (.inr fun H' => (hx H').resolve_left c)
  · rw [h]
    intro v H' _ r
    cases r
    rfl
/-- cs: the code objects and their tables; T tells their lambdas' names -/
theorem walkT {l : PySem.W.OpenLaw} {n k : Nat} {q : Program} {loose : List Str} {XP : (Str → Option Value) → Heap → Prop} {YP : World → Heap → Prop} {d : DefRec} {x : Str} {f : List PyData → Re PyData}
    (hn : l.most = some n) (hn2 : n ≤ sizeLine) (hdf : d.params.defaults = []) (hr : Room k callerA)
    (hf : ∀ ns : List Int, ns.length ≤ n → f [scrD ns] = .ok (.bool true))
    (F : ∀ (w : World) (mg : Str → Option Value) (fa : Addr) (h : Heap), YP w h → h.Ns mainGlobals mg → mg d.name = some (.ref fa) →
      ∃ (K : PySem.W.Frag) (fd : FuncData) (cs : List (Addr × Addr)) (T : List (Addr × Str)), K.In h ∧ (∀ p ∈ cs, h.get? p.2 = some { cls := .none, data := .fields #[] }) ∧ (∀ p ∈ cs, K.lookup p.2 = none) ∧ (∀ p ∈ cs, PySem.W.CodeHd h p.1 p.2) ∧ (∀ t ∈ T, ∃ p ∈ cs, p.2 = t.1) ∧
        (∀ (s : Shared) (u : Value), BindsTo s fd ⟨[u], []⟩ [(x, u)]) ∧ ∀ base : Heap, K.In base → base.Ns mainGlobals mg → (∀ p ∈ cs, LamX.TabB base mg p.1 p.2) → letI : TabL := ⟨T⟩; FnOk l.prog w K mg base (L2.CX l.prog w) k fa fd [x] (spD mg f K)) :
    PySem.W.WalkO q loose XP YP l.row.toRowW d [] (fun f vs => PySem.call f vs) := by
  refine Att.attach_callB hn hdf fun w s₀ s₁ mg mb fA o pm cd doc a vs ns G Y ho hd hcd hmg hobj hints hlen hbits hg => ?_
  obtain ⟨K, fd, cs, T, KX, h1, h2, h3, h4, h5, h6⟩ := F w mg fA _ Y G.T.g hmg
  refine LamX.law_callTs KX G.T.g G.T.b G.T.builtins G.T.nolimit hg h1 h2 h3 G.T.bmain hobj hints (Nat.le_trans hlen hn2) hr h6 h5 (fun H hH hS => ?_) fun H e s' c => ?_
  · letI : TabL := ⟨T⟩
    refine end_sp (hf ns hlen) (fun t ht => ?_) hS fun H' => ?_
    · obtain ⟨p, hp, e⟩ := h4 t ht
      exact LamX.TabS.nil (e ▸ hH p hp)
    · rcases hS with (h1 | h1) | h1
      · exact .inl (.inr h1)
      · exact .inl (.inl h1)
      · exact .inr (.inr h1)
  · obtain ⟨_, _, _, _, _, _, _, _, _, _, _, _, z⟩ := c
    exact z.elim
/-- the law's def, where the row calls it -/
theorem law_fn {P : Program} {w : World} {K : PySem.W.Frag} {mg : Str → Option Value} {x p : Str} {st : Stmt} {k : Nat} {f : List PyData → Re PyData} {fa : Addr} (hx : mg x = some (.ref fa)) (h : FnAt K mg x st)
    (hbn : ∀ (kV doc pm : Value) (an : Option Addr) (cdv ct : Value) (us : List Value), us.length = [p].length → bindArgs (PySem.W.fnOf x x (defArgs st) (defBody st) (defScope st) .none kV doc pm an cdv ct) ⟨us, []⟩ = pure ([p].zip us))
    (hh : ∀ base : Heap, K.In base → base.Ns mainGlobals mg → ∀ (fA : Addr) (fd : FuncData), FunD K x x (defArgs st) (defBody st) (defScope st) [] [] fA fd → mg x = some (.ref fA) → FnOk P w K mg base (L2.CX P w) k fA fd [p] (spD mg f K)) :
    ∃ fd : FuncData, (∀ (s : Shared) (u : Value), BindsTo s fd ⟨[u], []⟩ [(p, u)]) ∧ ∀ base : Heap, K.In base → base.Ns mainGlobals mg → FnOk P w K mg base (L2.CX P w) k fa fd [p] (spD mg f K) := by
  obtain ⟨fA, fd, Fd, hg⟩ := h
  have e := hx.symm.trans hg
  cases e
  have b := FunD.bindsA (ps := [p]) Fd hbn
  exact ⟨fd, fun s u => b s [u] rfl, fun base h1 h2 => hh base h1 h2 _ fd Fd hg⟩

/-! ### the head: facts of one's own beside He.Fa -/
def excB (K : PySem.W.Frag) (D : Addr) : Bool := He.eqO (PySem.W.findIn K (.ref D) "__getattribute__") (some (some (.builtin "BaseException.__getattribute__"))) && (He.eqO (PySem.W.findIn K (.ref D) "__getattr__") (some none) &&
  (decide (PySem.W.subIn K (.ref D) (.type "BaseException") = some true) && (PySem.W.hasDictIn K D && (He.eqO (PySem.W.findIn K (.ref D) "__class__") (some (some (.builtin "object.__class__"))) &&
  (He.eqO (PySem.W.specialIn K (.builtin "object.__class__") "__get__") (some (some (.builtin "getset_descriptor.__get__"))) && (decide (PySem.W.takesIn K (.builtin "object.__class__") = some true) && decide (PySem.W.mroIn K D (.type "object") = some true)))))))
theorem excB_ok {K : PySem.W.Frag} {D : Addr} (h : excB K D = true) : ExcC K D := by
  obtain ⟨h1, h⟩ := He.ba h
  obtain ⟨h2, h⟩ := He.ba h
  obtain ⟨h3, h⟩ := He.ba h
  obtain ⟨h4, h⟩ := He.ba h
  obtain ⟨h5, h⟩ := He.ba h
  obtain ⟨h6, h⟩ := He.ba h
  obtain ⟨h7, h8⟩ := He.ba h
  exact ⟨He.eqO_ok h1, He.eqO_ok h2, of_decide_eq_true h3, h4, He.eqO_ok h5, He.eqO_ok h6, of_decide_eq_true h7, of_decide_eq_true h8⟩
/-- y: isinstance of an error of x is b -/
def kitB2 (K : PySem.W.Frag) (x y : Str) (b : Bool) : Bool := decide (PySem.W.kitOne K (.ref (He.ga K x)) (.ref (He.ga K y)) = some b)
def kitT2 (K : PySem.W.Frag) (x T : Str) (t : String) (b : Bool) : Bool := decide (PySem.W.kitOne K (.ref (He.ga K x)) (.type t) = some b)
inductive Fx2 where
  | exc (x : Str)
  | kit (x y : Str) (b : Bool)
  | kitT (x : Str) (t : String) (b : Bool)
  | blt (x : Str) (id : String)
  | own (x : Str)
  | kitR (t : String) (y : Str) (b : Bool)
  | subR (t : String) (y : Str)
/-- what isinstance asks of an own class -/
def ownB (K : PySem.W.Frag) (D : Addr) : Bool := He.eqO (PySem.W.findIn K (.ref D) "__class__") (some (some (.builtin "object.__class__"))) && (He.eqO (PySem.W.specialIn K (.builtin "object.__class__") "__get__") (some (some (.builtin "getset_descriptor.__get__"))) &&
  (decide (PySem.W.takesIn K (.builtin "object.__class__") = some true) && decide (PySem.W.mroIn K D (.type "object") = some true)))
structure OwnC (K : PySem.W.Frag) (D : Addr) : Prop where
  ha : PySem.W.findIn K (.ref D) "__class__" = some (some (.builtin "object.__class__"))
  hn : PySem.W.specialIn K (.builtin "object.__class__") "__get__" = some (some (.builtin "getset_descriptor.__get__"))
  htk : PySem.W.takesIn K (.builtin "object.__class__") = some true
  hm : PySem.W.mroIn K D (.type "object") = some true
theorem ownB_ok {K : PySem.W.Frag} {D : Addr} (h : ownB K D = true) : OwnC K D := by
  obtain ⟨h1, h⟩ := He.ba h
  obtain ⟨h2, h⟩ := He.ba h
  obtain ⟨h3, h4⟩ := He.ba h
  exact ⟨He.eqO_ok h1, He.eqO_ok h2, of_decide_eq_true h3, of_decide_eq_true h4⟩
def Fx2.ok (K : PySem.W.Frag) : Fx2 → Bool
  | .exc x => excB K (He.ga K x)
  | .kit x y b => decide (PySem.W.kitOne K (.ref (He.ga K x)) (.ref (He.ga K y)) = some b)
  | .kitT x t b => decide (PySem.W.kitOne K (.ref (He.ga K x)) (.type t) = some b)
  | .blt x id => He.eqO (PySem.W.nsIn K mainGlobals x) (some (some (.builtin id)))
  | .own x => ownB K (He.ga K x)
  | .kitR t y b => decide (PySem.W.kitOne K (.type t) (.ref (He.ga K y)) = some b)
  | .subR t y => decide (PySem.W.subIn K (.type t) (.ref (He.ga K y)) = some false)
theorem blt_ok {K : PySem.W.Frag} {mg : Str → Option Value} {h : Heap} {x : Str} {id : String} (X : K.In h) (G : h.Ns mainGlobals mg) (c : (Fx2.blt x id).ok K = true) : mg x = some (.builtin id) := PySem.W.mg_of X G (He.eqO_ok c)
def obsP (fa : List He.Fa) (fx : List Fx2) (fn : List He.DefD) (K : PySem.W.Frag) : He.AlD := ((He.obsD fa fn K).1 && fx.all fun f => f.ok K, (He.obsD fa fn K).2)
def SaysP (fa : List He.Fa) (fx : List Fx2) (fn : List He.DefD) (K : PySem.W.Frag) : Prop := obsP fa fx fn K = He.valD fn
def obsPG (n : Nat) (fa : List He.Fa) (fx : List Fx2) (fn : List He.DefD) (g : Addr → Option Obj) : He.AlD := obsP fa fx fn (He.frG g (He.asD g n))
def hookP (n : Nat) (fa : List He.Fa) (fx : List Fx2) (fn : List He.DefD) : PySem.W.Hook where
  α := He.AlD
  obs := fun s => obsPG n fa fx fn s.heap.get?
  val := fun _ => He.valD fn
  says := fun _ h => ∃ K : PySem.W.Frag, K.In h ∧ SaysP fa fx fn K
  of := fun _ _ e => ⟨_, He.frG_in, e⟩
  keeps := fun _ _ _ ⟨K, hK, c⟩ k => ⟨K, PySem.W.Frag.In.keeps hK k, c⟩
theorem obsPG_eq {n : Nat} {fa : List He.Fa} {fx : List Fx2} {fn : List He.DefD} {g : Addr → Option Obj} {s : Shared} (h : ∀ a, g a = s.heap.get? a) : obsPG n fa fx fn g = (hookP n fa fx fn).obs s := by
  rw [show g = s.heap.get? from funext h] <;> rfl
theorem SaysP.d {fa : List He.Fa} {fx : List Fx2} {fn : List He.DefD} {K : PySem.W.Frag} (c : SaysP fa fx fn K) : He.SaysD fa fn K := by
  have h1 : ((He.obsD fa fn K).1 && fx.all fun f => f.ok K) = true := congrArg (fun z : He.AlD => z.1) c
  have c1 : obsP fa fx fn K = He.valD fn := c
  have h2 := congrArg (fun z : He.AlD => z.2) c1
  exact Prod.ext (He.ba h1).1 h2
theorem SaysP.x {fa : List He.Fa} {fx : List Fx2} {fn : List He.DefD} {K : PySem.W.Frag} (c : SaysP fa fx fn K) (i : Nat) {f : Fx2} (h : fx[i]? = some f := by rfl) : f.ok K = true := by
  have h1 : ((He.obsD fa fn K).1 && fx.all fun f => f.ok K) = true := congrArg (fun z : He.AlD => z.1) c
  exact List.all_eq_true.mp (He.ba h1).2 f (List.mem_of_getElem? h)
theorem errC_of {K : PySem.W.Frag} {mg : Str → Option Value} {h : Heap} {x : Str} (X : K.In h) (G : h.Ns mainGlobals mg) (h1 : (He.Fa.glo x).ok K = true) (h2 : (He.Fa.exc x).ok K = true) (h3 : (He.Fa.exm x x true).ok K = true) : ErrC K mg x (He.ga K x) := by
  obtain ⟨a, b, c, d⟩ := He.exc_ok h2
  exact ⟨He.glo_ok X G h1, a, b, c, d, He.exm_ok h3⟩
theorem fnAt_of {K : PySem.W.Frag} {mg : Str → Option Value} {h : Heap} {x : Str} {st : Stmt} {fa : List He.Fa} {fx : List Fx2} {fn : List He.DefD} (X : K.In h) (G : h.Ns mainGlobals mg) (c : SaysP fa fx fn K) (i j : Nat)
    (hd : fn[i]? = some ⟨(x, none), x, x, defArgs st, defBody st, defScope st, [], []⟩ := by rfl) (hg : fa[j]? = some (.glo x) := by rfl) : FnAt K mg x st := by
  obtain ⟨fd, Fd⟩ := c.d.def_ i hd
  exact ⟨_, fd, Fd, He.glo_ok X G (c.d.fact j hg)⟩
end Pu

set_option Elab.async false
set_option linter.all false
set_option maxRecDepth 100000
set_option maxHeartbeats 2000000
/-! a table of the module: words and numbers -/
namespace Pu
open PySem PySem.Spec PyProof.Rows L2
variable [TabL]
/-- what stands in a table of the module: a number, a text, a def of the module -/
inductive TV where
  | n (i : Int) | s (z : Str) | f (x : Str)
def TV.dv : TV → He.Dv
  | .n i => .int i
  | .s z => .str z
  | .f x => .glo x
def TV.d : TV → Option PyData
  | .n i => some (.int i)
  | .s z => some (.str z)
  | .f x => some (fnD x)
def TabC (K : PySem.W.Frag) (mg : Str → Option Value) (w : World) (x : Str) (kvs : List (Str × TV)) : Prop :=
  (∃ es n, KDict K w (He.ga K x) es n) ∧ mg x = some (.ref (He.ga K x)) ∧ (∀ z, z ∉ kvs.map (·.1) → PySem.W.nsIn K (He.ga K x) z = some none) ∧ ∀ q ∈ kvs, ∃ u, PySem.W.nsIn K (He.ga K x) q.1 = some (some u) ∧ RelV (q.2.dv.v K) u
theorem dicW_none {K : PySem.W.Frag} {w : World} {a : Addr} {ks : List Str} {z : Str} (h : He.dicW K a = some (He.keysIn w.params ks)) (hz : z ∉ ks) : PySem.W.nsIn K a z = some none := by
  obtain ⟨es, n, D⟩ := He.dicW_ok h
  unfold He.dicW at h
  rw [D.at_] at h
  have h2 : es.toList.map He.keyOf = He.keysIn w.params ks := by
    have h1 : (match decide (("dict" : String) = "dict") && ((#[] : Array _).isEmpty && !(a == sysModules)) with
      | true => some (es.toList.map He.keyOf)
      | false => none) = some (He.keysIn w.params ks) := h
    rw [D.low] at h1
    exact Option.some.inj h1
  have key : ∀ e ∈ es.toList, ∃ k t, e.key = .str k t ∧ k ∈ ks := fun e he => by
    obtain ⟨k, t, e1, _⟩ := D.lit.all e he
    refine ⟨k, t, e1, ?_⟩
    have m : He.keyOf e ∈ He.keysIn w.params ks := by
      rw [← h2]
      exact List.mem_map.mpr ⟨e, he, rfl⟩
    unfold He.keysIn at m
    obtain ⟨k', hk', e2⟩ := List.mem_map.mp m
    unfold He.keyOf at e2
    rw [e1] at e2
    have e3 : some (k', PyData.keyHash w.params k') = some (k, e.hash) := e2
    have e4 := congrArg Prod.fst (Option.some.inj e3)
    have e5 : k' = k := e4
    rw [← e5]
    exact hk'
  unfold PySem.W.nsIn
  rw [D.at_]
  show (match es.toList.find? (·.key.isStr z) with
      | some e => some (some e.val)
      | none => if es.toList.any (·.refKey) then none else some none) = some none
  have f : es.toList.find? (·.key.isStr z) = none := by
    rw [List.find?_eq_none]
    intro e he q
    obtain ⟨k, t, e1, hk⟩ := key e he
    rw [e1] at q
    have : k = z := by simpa [Value.isStr] using q
    exact hz (this ▸ hk)
  rw [f]
  have g : es.toList.any (·.refKey) = false := by
    rw [List.any_eq_false]
    intro e he
    obtain ⟨k, t, e1, hk⟩ := key e he
    unfold DictEntry.refKey
    rw [e1]
    simp
  rw [g]
  rfl
theorem look_none {z : Str} : ∀ {kvs : List (Str × TV)}, kvs.lookup z = none → z ∉ kvs.map (·.1)
  | [], _ => fun h => nomatch h
  | (k, v) :: kvs, h => by
    rw [List.lookup_cons] at h
    split at h
    · cases h
    · rename_i e
      intro m
      rcases List.mem_cons.mp m with q | q
      · subst q
        simp at e
      · exact look_none h q
theorem look_mem {z : Str} {i : TV} : ∀ {kvs : List (Str × TV)}, kvs.lookup z = some i → (z, i) ∈ kvs
  | (k, v) :: kvs, h => by
    rw [List.lookup_cons] at h
    split at h
    · rename_i e
      cases h
      rw [eq_of_beq e]
      exact List.mem_cons_self
    · exact List.mem_cons_of_mem _ (look_mem h)
def tabIn (kvs : List (Str × TV)) (neg : Bool) : PyData → Option PyData := fun d => match d with
  | .str z => some (.bool (if (kvs.lookup z).isSome then !neg else neg))
  | _ => none
def tabGet (kvs : List (Str × TV)) : PyData → Option PyData := fun d => match d with
  | .str z => (kvs.lookup z).bind TV.d
  | _ => none
section
variable {X : Cx} {M : Nat → Bool} {F : Fx} {E : L2.St → XK} {la fa : Bool} {a : Expr} {pos : Pos} {f : Rho → Re PyData}
theorem de_inTab {x : Str} {p : Pos} {kvs : List (Str × TV)} (T : TabC X.K X.mg X.w x kvs) (ha : DE X M F E la fa a f) (hg : Gl X x := by rfl) (hd : (x == ("__debug__" : Str)) = false := by decide) (hm : behindInMarks .In (.Name x p) = false := by rfl) : DE X M F E la false (.Compare a [.In] [.Name x p] pos) (r1 (tabIn kvs false) f) := by
  obtain ⟨⟨es, n, D⟩, g, T⟩ := T
  obtain ⟨t, pa, h⟩ := ha
  refine ⟨_, pe_cmpR (op_in_kd D) pa (pe_glob (v := .ref (He.ga X.K x)) hg g rfl hd) hm, fun σ H ρ er Q w => ?_⟩
  refine h σ H ρ er _ (we_step w fun d v H1 e s1 r1 _ w1 => ?_)
  cases r1 with
  | str z =>
    have w1 : WE X M F E la false σ ρ H1 (liftO (some (.bool (if (kvs.lookup z).isSome then !false else false)))) Q := w1
    cases q : kvs.lookup z with
    | none =>
      rw [q] at w1
      exact ⟨z, _, rfl, rfl, T.1 z (look_none q), w1 _ H1 (Same.refl _) (.bl false) fun z => nomatch z⟩
    | some i =>
      rw [q] at w1
      obtain ⟨tk, e2, ru⟩ := T.2 _ (look_mem q)
      exact ⟨z, _, rfl, rfl, e2, w1 _ H1 (Same.refl _) (.bl true) fun z => nomatch z⟩
  | bl _ => exact w1.elim
  | non => exact w1.elim
  | int _ => exact w1.elim
  | tup _ _ => exact w1.elim
  | lst _ _ _ => exact w1.elim
  | scr _ _ => exact w1.elim
  | dic _ _ _ _ => exact w1.elim
  | dit _ _ _ _ => exact w1.elim
  | dif _ _ _ => exact w1.elim
  | rng _ => exact w1.elim
  | dct _ _ _ _ => exact w1.elim
theorem de_notInTab {x : Str} {p : Pos} {kvs : List (Str × TV)} (T : TabC X.K X.mg X.w x kvs) (ha : DE X M F E la fa a f) (hg : Gl X x := by rfl) (hd : (x == ("__debug__" : Str)) = false := by decide) (hm : behindInMarks .NotIn (.Name x p) = false := by rfl) : DE X M F E la false (.Compare a [.NotIn] [.Name x p] pos) (r1 (tabIn kvs true) f) := by
  obtain ⟨⟨es, n, D⟩, g, T⟩ := T
  obtain ⟨t, pa, h⟩ := ha
  refine ⟨_, pe_cmpR (op_notIn_kd D) pa (pe_glob (v := .ref (He.ga X.K x)) hg g rfl hd) hm, fun σ H ρ er Q w => ?_⟩
  refine h σ H ρ er _ (we_step w fun d v H1 e s1 r1 _ w1 => ?_)
  cases r1 with
  | str z =>
    have w1 : WE X M F E la false σ ρ H1 (liftO (some (.bool (if (kvs.lookup z).isSome then !true else true)))) Q := w1
    cases q : kvs.lookup z with
    | none =>
      rw [q] at w1
      exact ⟨z, _, rfl, rfl, T.1 z (look_none q), w1 _ H1 (Same.refl _) (.bl true) fun z => nomatch z⟩
    | some i =>
      rw [q] at w1
      obtain ⟨tk, e2, ru⟩ := T.2 _ (look_mem q)
      exact ⟨z, _, rfl, rfl, e2, w1 _ H1 (Same.refl _) (.bl false) fun z => nomatch z⟩
  | bl _ => exact w1.elim
  | non => exact w1.elim
  | int _ => exact w1.elim
  | tup _ _ => exact w1.elim
  | lst _ _ _ => exact w1.elim
  | scr _ _ => exact w1.elim
  | dic _ _ _ _ => exact w1.elim
  | dit _ _ _ _ => exact w1.elim
  | dif _ _ _ => exact w1.elim
  | rng _ => exact w1.elim
  | dct _ _ _ _ => exact w1.elim
theorem dt_notInTab {x : Str} {p : Pos} {kvs : List (Str × TV)} (T : TabC X.K X.mg X.w x kvs) (ha : DE X M F E la fa a f) (hg : Gl X x := by rfl) (hd : (x == ("__debug__" : Str)) = false := by decide) (hm : behindInMarks .NotIn (.Name x p) = false := by rfl) : DT X M F E (.Compare a [.NotIn] [.Name x p] pos) (asB (r1 (tabIn kvs true) f)) := by
  obtain ⟨⟨es, n, D⟩, g, T'⟩ := id T
  obtain ⟨t, pa, h⟩ := id ha
  refine ⟨_, pt_cmpR (op_notIn_kd D) pa (pe_glob (v := .ref (He.ga X.K x)) hg g rfl hd) hm, fun σ H ρ er Q w => ?_⟩
  refine wt_asB (lk := la) (fr := false) (h := r1 (tabIn kvs true) f) (fun σ H ρ er Q w => ?_) er w
  refine h σ H ρ er _ (we_step w fun d v H1 e s1 r1 _ w1 => ?_)
  cases r1 with
  | str z =>
    have w1 : WE X M F E la false σ ρ H1 (liftO (some (.bool (if (kvs.lookup z).isSome then !true else true)))) Q := w1
    cases q : kvs.lookup z with
    | none =>
      rw [q] at w1
      exact ⟨z, _, rfl, rfl, T'.1 z (look_none q), w1 _ H1 (Same.refl _) (.bl true) fun z => nomatch z⟩
    | some i =>
      rw [q] at w1
      obtain ⟨tk, e2, ru⟩ := T'.2 _ (look_mem q)
      exact ⟨z, _, rfl, rfl, e2, w1 _ H1 (Same.refl _) (.bl false) fun z => nomatch z⟩
  | bl _ => exact w1.elim
  | non => exact w1.elim
  | int _ => exact w1.elim
  | tup _ _ => exact w1.elim
  | lst _ _ _ => exact w1.elim
  | scr _ _ => exact w1.elim
  | dic _ _ _ _ => exact w1.elim
  | dit _ _ _ _ => exact w1.elim
  | dif _ _ _ => exact w1.elim
  | rng _ => exact w1.elim
  | dct _ _ _ _ => exact w1.elim
theorem de_getTab {x : Str} {p : Pos} {kvs : List (Str × TV)} (T : TabC X.K X.mg X.w x kvs) (ha : DE X M F E la fa a f) (hg : Gl X x := by rfl) (hd : (x == ("__debug__" : Str)) = false := by decide) (hs : PlainIx a := by intro _ _; rfl) : DE X M F E la false (.Subscript (.Name x p) a pos) (r1 (tabGet kvs) f) := by
  obtain ⟨⟨es, n, D⟩, g, T⟩ := T
  obtain ⟨t, pa, h⟩ := ha
  refine ⟨_, pe_ix ix_kdict (pe_glob (v := .ref (He.ga X.K x)) hg g rfl hd) pa hs, fun σ H ρ er Q w => ?_⟩
  refine h σ H ρ er _ (we_step w fun d v H1 e s1 r1 _ w1 => ?_)
  cases r1 with
  | str z =>
    have w1 : WE X M F E la false σ ρ H1 (liftO ((kvs.lookup z).bind TV.d)) Q := w1
    cases q : kvs.lookup z with
    | none =>
      rw [q] at w1
      exact w1.elim
    | some i =>
      rw [q] at w1
      obtain ⟨tk, e2, ru⟩ := T.2 _ (look_mem q)
      cases i with
      | n j => exact ⟨_, z, .int j, rfl, rfl, ⟨es, n, _, D.at_, D.lit, e2, ru⟩, w1 _ H1 (Same.refl _) (.int j) fun z => nomatch z⟩
      | s y => exact ⟨_, z, .str y, rfl, rfl, ⟨es, n, _, D.at_, D.lit, e2, ru⟩, w1 _ H1 (Same.refl _) (.str y) fun z => nomatch z⟩
      | f y => exact ⟨_, z, .ref (He.ga X.K y), rfl, rfl, ⟨es, n, _, D.at_, D.lit, e2, ru⟩, w1 _ H1 (Same.refl _) (.rng (.inr ⟨y, rfl, rfl⟩)) fun z => nomatch z⟩
  | bl _ => exact w1.elim
  | non => exact w1.elim
  | int _ => exact w1.elim
  | tup _ _ => exact w1.elim
  | lst _ _ _ => exact w1.elim
  | scr _ _ => exact w1.elim
  | dic _ _ _ _ => exact w1.elim
  | dit _ _ _ _ => exact w1.elim
  | dif _ _ _ => exact w1.elim
  | rng _ => exact w1.elim
  | dct _ _ _ _ => exact w1.elim
end
/-! the head with tables -/
def obsT2 (fa : List He.Fa) (fx : List Fx2) (fn : List He.DefD) (ts : List (Str × List (Str × TV))) (K : PySem.W.Frag) : He.AlT := (((obsP fa fx fn K).1 && ts.all fun t => He.valsB K (He.ga K t.1) (t.2.map fun q => (q.1, q.2.dv)), (obsP fa fx fn K).2), ts.map fun t => He.dicW K (He.ga K t.1))
def valT2 (fn : List He.DefD) (ts : List (Str × List (Str × TV))) (w : World) : He.AlT := (He.valD fn, ts.map fun t => some (He.keysIn w.params (t.2.map (·.1))))
def SaysT2 (fa : List He.Fa) (fx : List Fx2) (fn : List He.DefD) (ts : List (Str × List (Str × TV))) (w : World) (K : PySem.W.Frag) : Prop := obsT2 fa fx fn ts K = valT2 fn ts w
def obsT2G (n : Nat) (fa : List He.Fa) (fx : List Fx2) (fn : List He.DefD) (ts : List (Str × List (Str × TV))) (g : Addr → Option Obj) : He.AlT := obsT2 fa fx fn ts (He.frG g (He.asD g n))
def hookT2 (n : Nat) (fa : List He.Fa) (fx : List Fx2) (fn : List He.DefD) (ts : List (Str × List (Str × TV))) : PySem.W.Hook where
  α := He.AlT
  obs := fun s => obsT2G n fa fx fn ts s.heap.get?
  val := fun w => valT2 fn ts w
  says := fun w h => ∃ K : PySem.W.Frag, K.In h ∧ SaysT2 fa fx fn ts w K
  of := fun _ _ e => ⟨_, He.frG_in, e⟩
  keeps := fun _ _ _ ⟨K, hK, c⟩ k => ⟨K, PySem.W.Frag.In.keeps hK k, c⟩
section
variable {fa : List He.Fa} {fx : List Fx2} {fn : List He.DefD} {ts : List (Str × List (Str × TV))} {w : World} {K : PySem.W.Frag}
theorem obsT2G_eq {n : Nat} {g : Addr → Option Obj} {s : Shared} (h : ∀ a, g a = s.heap.get? a) : obsT2G n fa fx fn ts g = (hookT2 n fa fx fn ts).obs s := by
  rw [show g = s.heap.get? from funext h] <;> rfl
theorem SaysT2.p (c : SaysT2 fa fx fn ts w K) : SaysP fa fx fn K := by
  have c1 : obsT2 fa fx fn ts K = valT2 fn ts w := c
  have h1 : ((obsP fa fx fn K).1 && ts.all fun t => He.valsB K (He.ga K t.1) (t.2.map fun q => (q.1, q.2.dv))) = true := congrArg (fun z : He.AlT => z.1.1) c1
  have h2 := congrArg (fun z : He.AlT => z.1.2) c1
  exact Prod.ext (He.ba h1).1 h2
theorem SaysT2.tab {mg : Str → Option Value} {h : Heap} (X : K.In h) (G : h.Ns mainGlobals mg) (c : SaysT2 fa fx fn ts w K) (i j : Nat) {x : Str} {kvs : List (Str × TV)} (ht : ts[i]? = some (x, kvs) := by rfl) (hg : fa[j]? = some (.glo x) := by rfl) : TabC K mg w x kvs := by
  have c1 : obsT2 fa fx fn ts K = valT2 fn ts w := c
  have h1 : ((obsP fa fx fn K).1 && ts.all fun t => He.valsB K (He.ga K t.1) (t.2.map fun q => (q.1, q.2.dv))) = true := congrArg (fun z : He.AlT => z.1.1) c1
  have h3 : (ts.map fun t => He.dicW K (He.ga K t.1)) = ts.map fun t => some (He.keysIn w.params (t.2.map (·.1))) := congrArg (fun z : He.AlT => z.2) c1
  have e2 : (ts.map fun t => He.dicW K (He.ga K t.1))[i]? = (ts.map fun t => some (He.keysIn w.params (t.2.map (·.1))))[i]? := by rw [h3]
  rw [List.getElem?_map, List.getElem?_map, ht] at e2
  have v := List.all_eq_true.mp (He.ba h1).2 _ (List.mem_of_getElem? ht)
  refine ⟨He.dicW_ok (Option.some.inj e2), He.glo_ok X G (c.p.d.fact j hg), fun z hz => dicW_none (Option.some.inj e2) hz, fun q hq => ?_⟩
  obtain ⟨u, e, r⟩ := He.valsB_ok v (List.mem_map.mpr ⟨q, hq, rfl⟩)
  exact ⟨u, e, r⟩
end
end Pu

set_option Elab.async false
set_option linter.all false
set_option maxRecDepth 100000
set_option maxHeartbeats 0
namespace Gn
open PySem PySem.Spec PyProof.Rows L2 Pu
def top (i : Nat) : Stmt := PySem.Challenge.pw_turnedrows_k15_whole_rows_at_each_distan.main.body.getD i (.Pass ⟨0, 0, 0, 0⟩)
abbrev st__law_cell : Stmt := top 139
abbrev st__law_digits : Stmt := top 140
abbrev st__law_is_integer : Stmt := top 142
abbrev st_rows_by_rings : Stmt := top 10
abbrev st_by_blocks : Stmt := top 17
abbrev st_by_nexts : Stmt := top 12
abbrev st_by_swaps : Stmt := top 11
abbrev st_fillings : Stmt := top 14
abbrev st_shapes : Stmt := top 13
abbrev st_rows_that_rise : Stmt := top 15
abbrev st_by_takes : Stmt := top 16
abbrev st_how_many : Stmt := top 19
abbrev st__law_refused : Stmt := top 144
abbrev st__law_rich : Stmt := top 141
abbrev st__law_rows : Stmt := top 143
abbrev st_functions_of : Stmt := top 136
abbrev st_blocks_lead : Stmt := top 30
abbrev st_sorted_row : Stmt := top 22
abbrev st_check_row : Stmt := top 23
abbrev st_ring_from : Stmt := top 26
abbrev st_rings_of : Stmt := top 27
abbrev st_block_rings : Stmt := top 31
abbrev st_check_same_length : Stmt := top 24
abbrev st_relative_row : Stmt := top 25
abbrev st_least_blocks : Stmt := top 43
abbrev st_wrong_pairs : Stmt := top 92
abbrev st_least_nexts : Stmt := top 93
abbrev st_places_lead : Stmt := top 28
abbrev st_rings : Stmt := top 29
abbrev st_least_swaps : Stmt := top 116
abbrev st_heights : Stmt := top 130
abbrev st_rising : Stmt := top 131
abbrev st_least_takes : Stmt := top 132
abbrev st_least : Stmt := top 137
abbrev st_law : Stmt := top 145
def tab_COUNTS : List (Str × TV) := [("swap", .f "by_swaps"), ("next", .f "by_nexts"), ("take", .f "by_takes"), ("blocks", .f "by_blocks")]
def fns : List He.DefD := [⟨("_law_cell", none), "_law_cell", "_law_cell", defArgs st__law_cell, defBody st__law_cell, defScope st__law_cell, [], []⟩, ⟨("_law_digits", none), "_law_digits", "_law_digits", defArgs st__law_digits, defBody st__law_digits, defScope st__law_digits, [], []⟩, ⟨("_law_is_integer", none), "_law_is_integer", "_law_is_integer", defArgs st__law_is_integer, defBody st__law_is_integer, defScope st__law_is_integer, [], []⟩, ⟨("rows_by_rings", none), "rows_by_rings", "rows_by_rings", defArgs st_rows_by_rings, defBody st_rows_by_rings, defScope st_rows_by_rings, [], []⟩, ⟨("by_blocks", none), "by_blocks", "by_blocks", defArgs st_by_blocks, defBody st_by_blocks, defScope st_by_blocks, [], []⟩, ⟨("by_nexts", none), "by_nexts", "by_nexts", defArgs st_by_nexts, defBody st_by_nexts, defScope st_by_nexts, [], []⟩, ⟨("by_swaps", none), "by_swaps", "by_swaps", defArgs st_by_swaps, defBody st_by_swaps, defScope st_by_swaps, [], []⟩, ⟨("fillings", none), "fillings", "fillings", defArgs st_fillings, defBody st_fillings, defScope st_fillings, [], []⟩, ⟨("shapes", none), "shapes", "shapes", defArgs st_shapes, defBody st_shapes, defScope st_shapes, [], []⟩, ⟨("rows_that_rise", none), "rows_that_rise", "rows_that_rise", defArgs st_rows_that_rise, defBody st_rows_that_rise, defScope st_rows_that_rise, [], []⟩, ⟨("by_takes", none), "by_takes", "by_takes", defArgs st_by_takes, defBody st_by_takes, defScope st_by_takes, [], []⟩, ⟨("how_many", none), "how_many", "how_many", defArgs st_how_many, defBody st_how_many, defScope st_how_many, [], []⟩, ⟨("_law_refused", none), "_law_refused", "_law_refused", defArgs st__law_refused, defBody st__law_refused, defScope st__law_refused, [], []⟩, ⟨("_law_rich", none), "_law_rich", "_law_rich", defArgs st__law_rich, defBody st__law_rich, defScope st__law_rich, [], []⟩, ⟨("_law_rows", none), "_law_rows", "_law_rows", defArgs st__law_rows, defBody st__law_rows, defScope st__law_rows, [], []⟩, ⟨("functions_of", none), "functions_of", "functions_of", defArgs st_functions_of, defBody st_functions_of, defScope st_functions_of, [], []⟩, ⟨("blocks_lead", none), "blocks_lead", "blocks_lead", defArgs st_blocks_lead, defBody st_blocks_lead, defScope st_blocks_lead, [], []⟩, ⟨("sorted_row", none), "sorted_row", "sorted_row", defArgs st_sorted_row, defBody st_sorted_row, defScope st_sorted_row, [], []⟩, ⟨("check_row", none), "check_row", "check_row", defArgs st_check_row, defBody st_check_row, defScope st_check_row, [], []⟩, ⟨("ring_from", none), "ring_from", "ring_from", defArgs st_ring_from, defBody st_ring_from, defScope st_ring_from, [], []⟩, ⟨("rings_of", none), "rings_of", "rings_of", defArgs st_rings_of, defBody st_rings_of, defScope st_rings_of, [], []⟩, ⟨("block_rings", none), "block_rings", "block_rings", defArgs st_block_rings, defBody st_block_rings, defScope st_block_rings, [], []⟩, ⟨("check_same_length", none), "check_same_length", "check_same_length", defArgs st_check_same_length, defBody st_check_same_length, defScope st_check_same_length, [], []⟩, ⟨("relative_row", none), "relative_row", "relative_row", defArgs st_relative_row, defBody st_relative_row, defScope st_relative_row, [], []⟩, ⟨("least_blocks", none), "least_blocks", "least_blocks", defArgs st_least_blocks, defBody st_least_blocks, defScope st_least_blocks, [], []⟩, ⟨("wrong_pairs", none), "wrong_pairs", "wrong_pairs", defArgs st_wrong_pairs, defBody st_wrong_pairs, defScope st_wrong_pairs, [], []⟩, ⟨("least_nexts", none), "least_nexts", "least_nexts", defArgs st_least_nexts, defBody st_least_nexts, defScope st_least_nexts, [], []⟩, ⟨("places_lead", none), "places_lead", "places_lead", defArgs st_places_lead, defBody st_places_lead, defScope st_places_lead, [], []⟩, ⟨("rings", none), "rings", "rings", defArgs st_rings, defBody st_rings, defScope st_rings, [], []⟩, ⟨("least_swaps", none), "least_swaps", "least_swaps", defArgs st_least_swaps, defBody st_least_swaps, defScope st_least_swaps, [], []⟩, ⟨("heights", none), "heights", "heights", defArgs st_heights, defBody st_heights, defScope st_heights, [], []⟩, ⟨("rising", none), "rising", "rising", defArgs st_rising, defBody st_rising, defScope st_rising, [], []⟩, ⟨("least_takes", none), "least_takes", "least_takes", defArgs st_least_takes, defBody st_least_takes, defScope st_least_takes, [], []⟩, ⟨("least", none), "least", "least", defArgs st_least, defBody st_least, defScope st_least, [], []⟩, ⟨("law", none), "law", "law", defArgs st_law, defBody st_law, defScope st_law, [], []⟩]
def fas : List He.Fa := [.glo "_law_cell", .glo "_law_digits", .glo "_law_is_integer", .glo "rows_by_rings", .glo "by_blocks", .glo "by_nexts", .glo "by_swaps", .glo "fillings", .glo "shapes", .glo "rows_that_rise", .glo "by_takes", .glo "how_many", .glo "_law_refused", .glo "_law_rich", .glo "_law_rows", .glo "functions_of", .glo "blocks_lead", .glo "sorted_row", .glo "check_row", .glo "ring_from", .glo "rings_of", .glo "block_rings", .glo "check_same_length", .glo "relative_row", .glo "least_blocks", .glo "wrong_pairs", .glo "least_nexts", .glo "places_lead", .glo "rings", .glo "least_swaps", .glo "heights", .glo "rising", .glo "least_takes", .glo "least", .glo "law", .glo "block_script", .glo "closed_turn_script", .glo "flip_script", .glo "least_closed_turns", .glo "least_flips", .glo "least_recuts", .glo "least_singles", .glo "least_turns", .glo "next_script", .glo "recut_script", .glo "single_script", .glo "swap_script", .glo "take_script", .glo "turn_script", .glo "COUNTS", .free "bool", .free "int", .free "isinstance", .free "len", .free "max", .free "min", .free "range", .free "reversed", .free "sorted", .free "sum", .free "tuple", .free "zip", .int "MOST_PIECES" 40, .int "MOST_PIECES_COUNTED" 20, .glo "InvalidRow", .exc "InvalidRow", .exm "InvalidRow" "InvalidRow" true, .glo "OutOfRange", .exc "OutOfRange", .exm "OutOfRange" "OutOfRange" true]
def fxs : List Fx2 := [.blt "comb" "math.comb", .blt "factorial" "math.factorial"]
def tabs : List (Str × List (Str × TV)) := [("COUNTS", tab_COUNTS)]
abbrev R : PySem.W.OpenRow := PySem.W.OpenLaw.row PySem.Challenge.rw_turnedrows_k15_whole_rows_at_each_distan
abbrev hk : PySem.W.Hook := hookT2 2 fas fxs fns tabs
def ob (s : PySem.W.SharedT) : He.AlT := obsT2G 2 fas fxs fns tabs (HandSHeadRun.getT s)
theorem ob_eq (s : PySem.W.SharedT) : ob s = hk.obs s.abs := obsT2G_eq (HandSHeadRun.getT_eq s)
def loose : List Str := "TurnedrowsError" :: "InvalidRow" :: "InvalidMove" :: "InvalidBody" :: "OutOfRange" :: "rows_by_rings" :: "by_swaps" :: "by_nexts" :: "shapes" :: "fillings" :: "rows_that_rise" :: "by_takes" :: "by_blocks" :: "how_many" :: "sorted_row" :: "check_row" :: "check_same_length" :: "relative_row" :: "ring_from" :: "rings_of" :: "places_lead" :: "rings" :: "blocks_lead" :: "block_rings" :: "is_move" :: "swapped" :: "taken" :: "flipped" :: "exchanged" :: "moved" :: "do_move" :: "least_blocks" :: "best_exchange" :: "block_script" :: "unsigned" :: "check_signed" :: "turned" :: "do_turn" :: "relative_signed" :: "break_places" :: "marks" :: "light_lines" :: "across" :: "dark_across" :: "rings_along" :: "is_oriented" :: "crosses" :: "part_with" :: "parts_among" :: "is_bad" :: "bad_among" :: "round_of" :: "hurdles_among" :: "great_among" :: "is_fortress_among" :: "turns_by_rings" :: "turns_by_hurdles" :: "turns_to_sorted" :: "best_turn" :: "least_turns" :: "turn_script" :: "opened" :: "opened_both" :: "least_closed_turns" :: "closed_turn_script" :: "signings" :: "nearest_signing" :: "least_flips" :: "flip_script" :: "wrong_pairs" :: "least_nexts" :: "next_script" :: "side_across" :: "entered_by" :: "number_from" :: "is_strand" :: "is_body" :: "joints_of_strand" :: "strand_from" :: "normal_strands" :: "Body" :: "body_of" :: "check_same_pieces" :: "is_pair" :: "is_recut" :: "new_joints" :: "do_cut" :: "least_swaps" :: "swap_script" :: "ends_from" :: "ways_of" :: "web" :: "least_recuts" :: "recut_toward" :: "recut_script" :: "joints_of_one" :: "least_singles" :: "single_script" :: "heights" :: "rising" :: "least_takes" :: "place_behind" :: "take_script" :: "functions_of" :: "least" :: "_law_cell" :: "_law_digits" :: "_law_rich" :: "_law_is_integer" :: "_law_rows" :: "_law_refused" :: "MOST_PIECES_COUNTED" :: "MOST_PIECES" :: "MOST_TO_SCRIPT" :: "MOST_TO_SCRIPT_CLOSED" :: "MOST_TO_FLIP" :: "COUNTS" :: "NUMBERS_moves" :: "NUMBERS_cuts" :: "is_move_moves" :: "is_move_cuts" :: "__name__" :: []
section
variable (r : PySem.W.OpenRow) (q : Program) (M : Nat) (loose : List Str) (w : World)
noncomputable abbrev endF := HandSHeadRun.wholeF (fun p => HandSHeadRun.stepQ (HandSHeadRun.denQ HandSHeadRun.tabQ) p w)
  HandSHeadRun.fenceQ M r.prog
def PartL : Prop :=
  (endF r M w).map (fun z => HandSHeadRun.looksF r.prog z.1.heap z.2.abs) = some true
def PartS : Prop :=
  (endF r M w).map (fun z =>
    HandSHeadRun.seenQ q loose (PySem.importedModules r.prog.main.body)
      (fun y => PySem.W.xlAt q [] y && PySem.W.recOk r.toRowW.records y) z.2.abs)
    = some (PySem.W.openGood q loose)
def PartO (H : PySem.W.Hook) (ob : PySem.W.SharedT → H.α) : Prop :=
  (endF r M w).map (fun z => ob z.2) = some (H.val w)
end
theorem parts3 {r : PySem.W.OpenRow} {q : Program} {M : Nat} {loose : List Str} {w : World} {H : PySem.W.Hook} {ob : PySem.W.SharedT → H.α}
    (h1 : PartL r M w) (h2 : PartS r q M loose w) (h3 : PartO r M w H ob) : HandSHeadRun.RunEqI r q H ob M loose w := by
  unfold PartL endF at h1
  unfold PartS endF at h2
  unfold PartO endF at h3
  unfold HandSHeadRun.RunEqI
  generalize HandSHeadRun.wholeF _ _ M r.prog = o at h1 h2 h3 ⊢
  cases o with
  | none => cases h1
  | some x =>
    rw [Option.map_some] at h1 h2 h3 ⊢
    rw [Option.some.inj h1, Option.some.inj h2, Option.some.inj h3]
theorem runLA (w : World) : PartL R 60000 (w.withFollow "special-get-raises" false) := by
  unfold PartL endF
  kernel_rfl
theorem runSA (w : World) : PartS R (PySem.W.view R.prog [0, 1, 145]) 60000 loose (w.withFollow "special-get-raises" false) := by
  unfold PartS endF
  kernel_rfl
theorem runOA (w : World) : PartO R 60000 (w.withFollow "special-get-raises" false) hk ob := by
  unfold PartO endF
  kernel_rfl
theorem hrunA (w : World) : HandSHeadRun.RunEqI R (PySem.W.view R.prog [0, 1, 145]) hk ob 60000 loose (w.withFollow "special-get-raises" false) := parts3 (runLA w) (runSA w) (runOA w)
theorem runLB (w : World) : PartL R 60000 (w.withFollow "special-get-raises" true) := by
  unfold PartL endF
  kernel_rfl
theorem runSB (w : World) : PartS R (PySem.W.view R.prog [0, 1, 145]) 60000 loose (w.withFollow "special-get-raises" true) := by
  unfold PartS endF
  kernel_rfl
theorem runOB (w : World) : PartO R 60000 (w.withFollow "special-get-raises" true) hk ob := by
  unfold PartO endF
  kernel_rfl
theorem hrunB (w : World) : HandSHeadRun.RunEqI R (PySem.W.view R.prog [0, 1, 145]) hk ob 60000 loose (w.withFollow "special-get-raises" true) := parts3 (runLB w) (runSB w) (runOB w)
theorem run (w : World) : HandSHeadRun.RunEqI R (PySem.W.view R.prog [0, 1, 145]) hk ob 60000 loose w := PySem.W.byRow2 "special-get-raises" (P := fun w => HandSHeadRun.RunEqI R (PySem.W.view R.prog [0, 1, 145]) hk ob 60000 loose w) hrunA hrunB w
end Gn

set_option Elab.async false
set_option linter.all false
set_option maxRecDepth 100000
set_option maxHeartbeats 2000000
namespace Pu
open PySem PySem.Spec PyProof.Rows L2
variable [TabL]

/-! ### numbers -/
theorem SemB.int {K : PySem.W.Frag} {C : Int → Int → Prop} {v : Int → Int → V} {r : R2} {gg : PyData → PyData → Option PyData} (hr : ∀ i j H Q, C i j → Q (v i j) H → r (.int i) (.int j) H Q)
    (hg : ∀ d e z, gg d e = some z → ∃ i j, d = .int i ∧ e = .int j ∧ C i j ∧ ∀ H S, Rp K H S (v i j) z) : SemB K r false gg := fun S H x y d e z Q _ rx ry q k => by
  obtain ⟨i, j, rfl, rfl, c, rz⟩ := hg d e z q
  cases rx
  cases ry
  exact hr i j H Q c (k _ H (Same.refl H) (rz H S) fun z => nomatch z)
def oSub : PyData → PyData → Option PyData := fun d e => match d, e with | .int i, .int j => some (.int (i - j)) | _, _ => none
def mulOk (i j : Int) : Bool := decide (j.natAbs < 2 ^ 63) || decide (i.natAbs < 2 ^ 63) || decide (i.natAbs.log2 + j.natAbs.log2 < 1000000)
def oMul : PyData → PyData → Option PyData := fun d e => match d, e with | .int i, .int j => if mulOk i j = true then some (.int (i * j)) else none | _, _ => none
def divOk (j : Int) : Bool := decide (0 < j) && decide (j < 2 ^ 240)
def oDiv : PyData → PyData → Option PyData := fun d e => match d, e with | .int i, .int j => if divOk j = true then some (.int (i / j)) else none | _, _ => none
def oMod : PyData → PyData → Option PyData := fun d e => match d, e with | .int i, .int j => if 0 < j then some (.int (i % j)) else none | _, _ => none
def powOk (i j : Int) : Bool := decide (0 ≤ j) && decide (j ≤ 1000000) && decide (i.natAbs < 2 ^ 63)
def oPow : PyData → PyData → Option PyData := fun d e => match d, e with | .int i, .int j => if powOk i j = true then some (.int (i ^ j.toNat)) else none | _, _ => none
def oNeg : PyData → Option PyData := fun d => match d with | .int i => some (.int (-i)) | _ => none
def oLt : PyData → PyData → Option PyData := fun d e => match d, e with | .int i, .int j => some (.bool (decide (i < j))) | _, _ => none
def oLe : PyData → PyData → Option PyData := fun d e => match d, e with | .int i, .int j => some (.bool (decide (i ≤ j))) | _, _ => none
def oGt : PyData → PyData → Option PyData := fun d e => match d, e with | .int i, .int j => some (.bool (decide (j < i))) | _, _ => none
def oGe : PyData → PyData → Option PyData := fun d e => match d, e with | .int i, .int j => some (.bool (decide (j ≤ i))) | _, _ => none
section
variable {X : Cx} {K : PySem.W.Frag}
theorem ints2 {P : Int → Int → Option PyData} {d e z : PyData} (h : (match d, e with | .int i, .int j => P i j | _, _ => none) = some z) : ∃ i j, d = .int i ∧ e = .int j ∧ P i j = some z := by
  split at h
  · exact ⟨_, _, rfl, rfl, h⟩
  · cases h
theorem if_some {c : Prop} [Decidable c] {a z : PyData} (h : (if c then some a else none) = some z) : c ∧ z = a := by
  by_cases hc : c
  · rw [if_pos hc] at h
    exact ⟨hc, (Option.some.inj h).symm⟩
  · rw [if_neg hc] at h
    cases h
theorem s_sub : SemB K (rI0 fun i j => .int (i - j)) false oSub := SemB.int (C := fun _ _ => True) (v := fun i j => .int (i - j)) (fun i j H Q _ q => ⟨i, j, rfl, rfl, q⟩) fun d e z q => by
  obtain ⟨i, j, h1, h2, h3⟩ := ints2 q
  cases h3
  exact ⟨i, j, h1, h2, trivial, fun _ _ => .int _⟩
theorem s_mul : SemB K (fun x y H Q => rI CMul (fun i j => .int (i * j)) x y H Q ∨ rI CMulW (fun i j => .int (i * j)) x y H Q) false oMul :=
  SemB.int (C := fun i j => mulOk i j = true) (v := fun i j => .int (i * j)) (fun i j H Q c q => by
    unfold mulOk at c
    simp only [Bool.or_eq_true, decide_eq_true_eq] at c
    rcases c with (c | c) | c
    · exact .inl ⟨i, j, rfl, rfl, .inr (by omega), q⟩
    · exact .inl ⟨i, j, rfl, rfl, .inl (by omega), q⟩
    · exact .inr ⟨i, j, rfl, rfl, c, q⟩) fun d e z q => by
  obtain ⟨i, j, h1, h2, h3⟩ := ints2 q
  obtain ⟨h4, rfl⟩ := if_some h3
  exact ⟨i, j, h1, h2, h4, fun _ _ => .int _⟩
theorem s_div : SemB K (rI CDivW fun i j => .int (i / j)) false oDiv := SemB.int (C := fun _ j => divOk j = true) (v := fun i j => .int (i / j)) (fun i j H Q c q => by
    unfold divOk at c
    simp only [Bool.and_eq_true, decide_eq_true_eq] at c
    have hb : j.natAbs < 2 ^ 240 := by
      have h2 := c.2
      have h1 := c.1
      have e : (2 : Int) ^ 240 = ((2 ^ 240 : Nat) : Int) := by rw [Int.natCast_pow]; rfl
      rw [e] at h2
      omega
    exact ⟨i, j, rfl, rfl, wide_div c.1 hb (by decide) (by decide), q⟩) fun d e z q => by
  obtain ⟨i, j, h1, h2, h3⟩ := ints2 q
  obtain ⟨h4, rfl⟩ := if_some h3
  exact ⟨i, j, h1, h2, h4, fun _ _ => .int _⟩
theorem s_mod : SemB K (rI (fun _ j => 0 < j) fun i j => .int (i % j)) false oMod := SemB.int (C := fun _ j => 0 < j) (v := fun i j => .int (i % j)) (fun i j H Q c q => ⟨i, j, rfl, rfl, c, q⟩) fun d e z q => by
  obtain ⟨i, j, h1, h2, h3⟩ := ints2 q
  obtain ⟨h4, rfl⟩ := if_some h3
  exact ⟨i, j, h1, h2, h4, fun _ _ => .int _⟩
theorem s_pow : SemB K (rI CPow fun i j => .int (i ^ j.toNat)) false oPow := SemB.int (C := fun i j => powOk i j = true) (v := fun i j => .int (i ^ j.toNat)) (fun i j H Q c q => by
    unfold powOk at c
    simp only [Bool.and_eq_true, decide_eq_true_eq] at c
    exact ⟨i, j, rfl, rfl, ⟨c.1.1, c.1.2, Nat.lt_trans c.2 (by decide)⟩, q⟩) fun d e z q => by
  obtain ⟨i, j, h1, h2, h3⟩ := ints2 q
  obtain ⟨h4, rfl⟩ := if_some h3
  exact ⟨i, j, h1, h2, h4, fun _ _ => .int _⟩
theorem s_neg : SemU K (rU fun i => .int (-i)) false oNeg := fun S H x d z Q _ rx q k => by
  unfold oNeg at q
  split at q
  · cases q
    cases rx
    exact ⟨_, rfl, k _ H (Same.refl H) (.int _) fun z => nomatch z⟩
  · cases q
theorem s_lt : SemB K (rI0 fun i j => .bl (decide (i < j))) false oLt := SemB.int (C := fun _ _ => True) (v := fun i j => .bl (decide (i < j))) (fun i j H Q _ q => ⟨i, j, rfl, rfl, q⟩) fun d e z q => by
  obtain ⟨i, j, h1, h2, h3⟩ := ints2 q
  cases h3
  exact ⟨i, j, h1, h2, trivial, fun _ _ => .bl _⟩
theorem s_le : SemB K (rI0 fun i j => .bl (decide (i ≤ j))) false oLe := SemB.int (C := fun _ _ => True) (v := fun i j => .bl (decide (i ≤ j))) (fun i j H Q _ q => ⟨i, j, rfl, rfl, q⟩) fun d e z q => by
  obtain ⟨i, j, h1, h2, h3⟩ := ints2 q
  cases h3
  exact ⟨i, j, h1, h2, trivial, fun _ _ => .bl _⟩
theorem s_gt : SemB K (rI0 fun i j => .bl (decide (j < i))) false oGt := SemB.int (C := fun _ _ => True) (v := fun i j => .bl (decide (j < i))) (fun i j H Q _ q => ⟨i, j, rfl, rfl, q⟩) fun d e z q => by
  obtain ⟨i, j, h1, h2, h3⟩ := ints2 q
  cases h3
  exact ⟨i, j, h1, h2, trivial, fun _ _ => .bl _⟩
theorem s_ge : SemB K (rI0 fun i j => .bl (decide (j ≤ i))) false oGe := SemB.int (C := fun _ _ => True) (v := fun i j => .bl (decide (j ≤ i))) (fun i j H Q _ q => ⟨i, j, rfl, rfl, q⟩) fun d e z q => by
  obtain ⟨i, j, h1, h2, h3⟩ := ints2 q
  cases h3
  exact ⟨i, j, h1, h2, trivial, fun _ _ => .bl _⟩
theorem op_mulA : OpR X (binaryOp .Mult) (fun x y H Q => rI CMul (fun i j => .int (i * j)) x y H Q ∨ rI CMulW (fun i j => .int (i * j)) x y H Q) := op_mul.or op_mulW

/-! + of numbers, tuples, lists, texts -/
def oAdd : PyData → PyData → Option PyData := fun d e => match d, e with
  | .int i, .int j => some (.int (i + j))
  | .tuple xs, .tuple ys => if okLen (xs.length + ys.length) = true then some (.tuple (xs ++ ys)) else none
  | .list xs, .list ys => if okLen (xs.length + ys.length) = true then some (.list (xs ++ ys)) else none
  | .str a, .str b => if okLen (a.length + b.length) = true then some (.str (a ++ b)) else none
  | _, _ => none
abbrev rAddA (K : PySem.W.Frag) : R2 := fun x y H Q => rI0 (fun i j => .int (i + j)) x y H Q ∨ (rCatF K x y H Q ∨ (rCat x y H Q ∨ (∃ i j, x = .str i ∧ y = .str j ∧ i.length + j.length ≤ sizeLine ∧ Q (.str (i ++ j)) H)))
theorem op_addA : OpR X (binaryOp .Add) (rAddA X.K) := op_add.or (op_catF.or (op_cat.or op_add_str))
theorem frs_lst {S : Addr → Prop} {H : Hp} {p : Addr} {vs : List V} {ds : List PyData} (hp : H p = none) (r : RpA K H S vs ds) : Frs K S H (upd H p (.lst vs)) (.ref p) (.list ds) := frs_new (Same.refl H) hp r
theorem s_add : SemB K (rAddA K) false oAdd := fun S H x y d e z Q new rx ry q k => by
  unfold oAdd at q
  split at q
  · cases q
    cases rx
    cases ry
    exact .inl ⟨_, _, rfl, rfl, k _ H (Same.refl H) (.int _) fun z => nomatch z⟩
  · obtain ⟨hl, rfl⟩ := if_some q
    cases rx with
    | tup h1 r1 =>
      cases ry with
      | tup h2 r2 =>
        refine .inr (.inl ⟨_, _, _, _, rfl, rfl, h1.sq, h2.sq, by rw [r1.length, r2.length]; exact okLen_le hl, fun e => ?_, fun ne e => ?_, fun _ _ p o hp hd => ?_⟩)
        · subst e
          cases r1
          exact k _ H (Same.refl H) (.tup h2 r2) fun z => nomatch z
        · subst e
          cases r2
          rw [List.append_nil] at k
          exact k _ H (Same.refl H) (.tup h1 r1) fun z => nomatch z
        · exact k _ _ (same_new hp) (.tup (.inl ⟨o, upd_same, hd⟩) ((r1.append r2).same (same_new hp))) fun z => nomatch z
  · obtain ⟨hl, rfl⟩ := if_some q
    cases rx with
    | lst h1 s1 r1 =>
      cases ry with
      | lst h2 s2 r2 =>
        refine .inr (.inr (.inl ⟨_, _, _, _, rfl, rfl, h1, h2, by rw [r1.length, r2.length]; exact okLen_le hl, fun p hp => ?_⟩))
        exact k _ _ (same_new hp) (.lst upd_same (new p hp) ((r1.append r2).same (same_new hp))) fun z => nomatch z
  · obtain ⟨hl, rfl⟩ := if_some q
    cases rx
    cases ry
    exact .inr (.inr (.inr ⟨_, _, rfl, rfl, okLen_le hl, k _ H (Same.refl H) (.str _) fun z => nomatch z⟩))
  · cases q
/-- .. of lists alone: a new list -/
def oAddL : PyData → PyData → Option PyData := fun d e => match d, e with
  | .list xs, .list ys => if okLen (xs.length + ys.length) = true then some (.list (xs ++ ys)) else none
  | _, _ => none
theorem s_addL : SemB K rCat true oAddL := fun S H x y d e z Q new rx ry q k => by
  unfold oAddL at q
  split at q
  · obtain ⟨hl, rfl⟩ := if_some q
    cases rx with
    | lst h1 s1 r1 =>
      cases ry with
      | lst h2 s2 r2 =>
        refine ⟨_, _, _, _, rfl, rfl, h1, h2, by rw [r1.length, r2.length]; exact okLen_le hl, fun p hp => ?_⟩
        exact k _ _ (same_new hp) (.lst upd_same (new p hp) ((r1.append r2).same (same_new hp))) fun _ => frs_lst hp (r1.append r2)
  · cases q

/-! == and != of data -/
theorem Rp.dp {S : Addr → Prop} {H : Hp} : ∀ {d : PyData} {v : V}, Rp K H S v d → SeqAt.shaped d = true → Dp K H v d := by
  have key : (∀ {v : V} {d : PyData}, Rp K H S v d → d.canLay0 = true → Dp K H v d) ∧ (∀ {vs : List V} {ds : List PyData}, RpA K H S vs ds → PyData.canLayAll0 ds = true → DpAll K H vs ds) := by
    refine ⟨fun {v d} r => ?_, fun {vs ds} r => ?_⟩
    · exact Rp.rec (K := K) (H := H) (S := S) (motive_1 := fun v d _ => d.canLay0 = true → Dp K H v d) (motive_2 := fun vs ds _ => PyData.canLayAll0 ds = true → DpAll K H vs ds)
        (fun _ => .non) (fun b _ => .bl b) (fun i _ => .int i) (fun x _ => .str x) (fun h _ ih c => .tup h.sq (ih (by simpa [PyData.canLay0] using c))) (fun h _ _ ih c => .lst (SqL.of h) (ih (by simpa [PyData.canLay0] using c)))
        (fun _ _ _ c => by simp [PyData.canLay0] at c) (fun _ _ _ _ _ c => by simp [PyData.canLay0] at c) (fun _ _ _ _ _ c => by simp [PyData.canLay0] at c) (fun _ c => by simp [PyData.canLay0] at c) (fun _ _ _ _ c => by simp [PyData.canLay0] at c) (fun _ _ _ _ c => by simp [PyData.canLay0] at c) (fun _ => .nil)
        (fun _ _ ih1 ih2 c => by
          simp only [PyData.canLayAll0, Bool.and_eq_true] at c
          exact .cons (ih1 c.1) (ih2 c.2)) r
    · exact RpA.rec (K := K) (H := H) (S := S) (motive_1 := fun v d _ => d.canLay0 = true → Dp K H v d) (motive_2 := fun vs ds _ => PyData.canLayAll0 ds = true → DpAll K H vs ds)
        (fun _ => .non) (fun b _ => .bl b) (fun i _ => .int i) (fun x _ => .str x) (fun h _ ih c => .tup h.sq (ih (by simpa [PyData.canLay0] using c))) (fun h _ _ ih c => .lst (SqL.of h) (ih (by simpa [PyData.canLay0] using c)))
        (fun _ _ _ c => by simp [PyData.canLay0] at c) (fun _ _ _ _ _ c => by simp [PyData.canLay0] at c) (fun _ _ _ _ _ c => by simp [PyData.canLay0] at c) (fun _ c => by simp [PyData.canLay0] at c) (fun _ _ _ _ c => by simp [PyData.canLay0] at c) (fun _ _ _ _ c => by simp [PyData.canLay0] at c) (fun _ => .nil)
        (fun _ _ ih1 ih2 c => by
          simp only [PyData.canLayAll0, Bool.and_eq_true] at c
          exact .cons (ih1 c.1) (ih2 c.2)) r
  intro d v r c
  exact key.1 r (SeqAt.canLay_of_shaped c)
def oEq : PyData → PyData → Option PyData := fun d e => if SeqAt.shaped d = true ∧ SeqAt.shaped e = true then some (.bool (PyData.eqv d e)) else none
def oNe : PyData → PyData → Option PyData := fun d e => if SeqAt.shaped d = true ∧ SeqAt.shaped e = true then some (.bool (!PyData.eqv d e)) else none
theorem s_eq : SemB K (rEqD K) false oEq := fun S H x y d e z Q new rx ry q k => by
  obtain ⟨h, rfl⟩ := if_some q
  exact ⟨d, e, rx.dp h.1, ry.dp h.2, h.1, h.2, k _ H (Same.refl H) (.bl _) fun z => nomatch z⟩
theorem s_ne : SemB K (rNeD K) false oNe := fun S H x y d e z Q new rx ry q k => by
  obtain ⟨h, rfl⟩ := if_some q
  exact ⟨d, e, rx.dp h.1, ry.dp h.2, h.1, h.2, k _ H (Same.refl H) (.bl _) fun z => nomatch z⟩
/-! is None -/
def isNon : PyData → Bool
  | .none => true
  | _ => false
def oIsN : PyData → PyData → Option PyData := fun d e => match e with | .none => some (.bool (isNon d)) | _ => none
def oNotN : PyData → PyData → Option PyData := fun d e => match e with | .none => some (.bool (!isNon d)) | _ => none
theorem isNon_of {S : Addr → Prop} {H : Hp} {v : V} {d : PyData} (r : Rp K H S v d) : isNon d = decide (v = .non) := by
  cases r <;> rfl
theorem s_isN : SemB K (fun x y H Q => y = .non ∧ Q (.bl (decide (x = .non))) H) false oIsN := fun S H x y d e z Q new rx ry q k => by
  unfold oIsN at q
  split at q
  · cases q
    cases ry
    rw [isNon_of rx] at k
    exact ⟨rfl, k _ H (Same.refl H) (.bl _) fun z => nomatch z⟩
  · cases q
theorem s_notN : SemB K (fun x y H Q => y = .non ∧ Q (.bl (!decide (x = .non))) H) false oNotN := fun S H x y d e z Q new rx ry q k => by
  unfold oNotN at q
  split at q
  · cases q
    cases ry
    rw [isNon_of rx] at k
    exact ⟨rfl, k _ H (Same.refl H) (.bl _) fun z => nomatch z⟩
  · cases q
/-! in -/
def flatD : PyData → Bool
  | .none | .bool _ | .int _ | .str _ => true
  | _ => false
theorem flat_of {S : Addr → Prop} {H : Hp} {v : V} {d : PyData} (r : Rp K H S v d) (h : flatD d = true) : flatV v = true := by
  cases r with
  | non => rfl
  | bl _ => rfl
  | int _ => rfl
  | str _ => rfl
  | tup _ _ => cases h
  | lst _ _ _ => cases h
  | scr _ _ => cases h
  | dic _ _ _ _ => cases h
  | dit _ _ _ _ => cases h
  | dif _ _ _ => cases h
  | rng _ => cases h
  | dct _ _ _ _ => cases h
theorem eqV_of {S : Addr → Prop} {H : Hp} {v u : V} {d e : PyData} (r : Rp K H S v d) (t : Rp K H S u e) (hd : flatD d = true) (he : flatD e = true) : eqV v u = PyData.eqv d e := by
  cases r <;> first | cases hd | skip
  all_goals (cases t <;> first | cases he | skip)
  all_goals first
    | rfl
    | (simp only [eqV, PyData.eqv]; done)
    | (simp only [eqV, PyData.eqv]; rfl)
def inD (x : PyData) (ds : List PyData) : Bool := ds.any fun e => PyData.eqv e x
theorem inV_of {S : Addr → Prop} {H : Hp} {v : V} {d : PyData} (r : Rp K H S v d) (hd : flatD d = true) : ∀ {vs : List V} {ds : List PyData}, RpA K H S vs ds → ds.all flatD = true → inV v vs = inD d ds ∧ vs.all flatV = true
  | _, _, .nil, _ => ⟨rfl, rfl⟩
  | _, _, .cons (v := u) (vs := us) (d := e) (ds := es) h1 h2, h => by
    rw [List.all_cons, Bool.and_eq_true] at h
    obtain ⟨i1, i2⟩ := inV_of r hd h2 h.2
    refine ⟨?_, by rw [List.all_cons, flat_of h1 h.1, i2]; rfl⟩
    unfold inV inD at i1 ⊢
    rw [List.any_cons, List.any_cons, eqV_of h1 r h.1 hd, i1]
def oIn (neg : Bool) : PyData → PyData → Option PyData := fun d e => match e with
  | .list ds => if flatD d = true ∧ ds.all flatD = true then some (.bool (if neg then !inD d ds else inD d ds)) else none
  | .tuple ds => if flatD d = true ∧ ds.all flatD = true then some (.bool (if neg then !inD d ds else inD d ds)) else none
  | _ => none
theorem s_in (neg : Bool) : SemB K (rIn K neg) false (oIn neg) := fun S H x y d e z Q new rx ry q k => by
  unfold oIn at q
  split at q
  · obtain ⟨h, rfl⟩ := if_some q
    cases ry with
    | lst h1 s1 r1 =>
      obtain ⟨i1, i2⟩ := inV_of rx h.1 r1 h.2
      refine ⟨_, _, rfl, .inl (SqL.of h1), flat_of rx h.1, i2, ?_⟩
      rw [i1]
      exact k _ H (Same.refl H) (.bl _) fun z => nomatch z
  · obtain ⟨h, rfl⟩ := if_some q
    cases ry with
    | tup h1 r1 =>
      obtain ⟨i1, i2⟩ := inV_of rx h.1 r1 h.2
      refine ⟨_, _, rfl, .inr h1.sq, flat_of rx h.1, i2, ?_⟩
      rw [i1]
      exact k _ H (Same.refl H) (.bl _) fun z => nomatch z
  · cases q

/-! ### built-ins -/
def bLen : List PyData → Option PyData := fun ds => match ds with
  | [.list xs] => some (.int xs.length)
  | [.tuple xs] => some (.int xs.length)
  | [.dict [(.none, .list xs)]] => some (.int xs.length)
  | _ => none
theorem s_len : SemL K (fun xs H Q => ∃ p ys, xs = [.ref p] ∧ (SqL K H p ys ∨ SqT K H p ys) ∧ Q (.int ys.length) H) false bLen := fun S H xs ds z Q new r q k => by
  unfold bLen at q
  split at q
  · cases q
    cases r with
    | cons r1 r2 =>
      cases r2
      cases r1 with
      | lst h1 s1 r1 =>
        refine ⟨_, _, rfl, .inl (SqL.of h1), ?_⟩
        rw [r1.length]
        exact k _ H (Same.refl H) (.int _) fun z => nomatch z
  · cases q
    cases r with
    | cons r1 r2 =>
      cases r2
      cases r1 with
      | tup h1 r1 =>
        refine ⟨_, _, rfl, .inr h1.sq, ?_⟩
        rw [r1.length]
        exact k _ H (Same.refl H) (.int _) fun z => nomatch z
  · cases q
    cases r with
    | cons r1 r2 =>
      cases r2
      generalize e : PyData.dict [(PyData.none, PyData.list _)] = dd at r1
      cases r1 with
      | scr h1 r1 =>
        cases e
        refine ⟨_, _, rfl, .inl h1.sq, ?_⟩
        rw [r1.length]
        exact k _ H (Same.refl H) (.int _) fun z => nomatch z
      | dic _ _ _ _ => cases e
      | dit _ _ _ _ => cases e
      | dif _ _ _ => cases e
      | rng _ => cases e
      | dct _ _ _ _ => cases e
      | non => cases e
      | bl _ => cases e
      | int _ => cases e
      | str _ => cases e
      | tup _ _ => cases e
      | lst _ _ _ => cases e
  · cases q
def bInt : List PyData → Option PyData := fun ds => match ds with
  | [.int i] => some (.int i)
  | [.bool b] => some (.int (if b then 1 else 0))
  | _ => none
theorem s_int : SemL K (fun xs H Q => (∃ i, xs = [.int i] ∧ Q (.int i) H) ∨ ∃ k, xs = [.bl k] ∧ Q (.int (if k then 1 else 0)) H) false bInt := fun S H xs ds z Q new r q k => by
  unfold bInt at q
  split at q
  · cases q
    cases r with
    | cons r1 r2 =>
      cases r2
      cases r1
      exact .inl ⟨_, rfl, k _ H (Same.refl H) (.int _) fun z => nomatch z⟩
  · cases q
    cases r with
    | cons r1 r2 =>
      cases r2
      cases r1
      exact .inr ⟨_, rfl, k _ H (Same.refl H) (.int _) fun z => nomatch z⟩
  · cases q
def bAbs : List PyData → Option PyData := fun ds => match ds with
  | [.int i] => some (.int (if i < 0 then -i else i))
  | _ => none
theorem s_abs : SemL K (fun xs H Q => ∃ i, xs = [.int i] ∧ Q (.int (if i < 0 then -i else i)) H) false bAbs := fun S H xs ds z Q new r q k => by
  unfold bAbs at q
  split at q
  · cases q
    cases r with
    | cons r1 r2 =>
      cases r2
      cases r1
      exact ⟨_, rfl, k _ H (Same.refl H) (.int _) fun z => nomatch z⟩
  · cases q
def bMax2 : List PyData → Option PyData := fun ds => match ds with
  | [.int i, .int j] => some (.int (if j > i then j else i))
  | _ => none
theorem s_max2 : SemL K (fun xs H Q => ∃ i j, xs = [.int i, .int j] ∧ Q (.int (if j > i then j else i)) H) false bMax2 := fun S H xs ds z Q new r q k => by
  unfold bMax2 at q
  split at q
  · cases q
    cases r with
    | cons r1 r2 =>
      cases r2 with
      | cons r2 r3 =>
        cases r3
        cases r1
        cases r2
        exact ⟨_, _, rfl, k _ H (Same.refl H) (.int _) fun z => nomatch z⟩
  · cases q
def bMin2 : List PyData → Option PyData := fun ds => match ds with
  | [.int i, .int j] => some (.int (if j < i then j else i))
  | _ => none
theorem s_min2 : SemL K (fun xs H Q => ∃ i j, xs = [.int i, .int j] ∧ Q (.int (if j < i then j else i)) H) false bMin2 := fun S H xs ds z Q new r q k => by
  unfold bMin2 at q
  split at q
  · cases q
    cases r with
    | cons r1 r2 =>
      cases r2 with
      | cons r2 r3 =>
        cases r3
        cases r1
        cases r2
        exact ⟨_, _, rfl, k _ H (Same.refl H) (.int _) fun z => nomatch z⟩
  · cases q
def bList : List PyData → Option PyData := fun ds => match ds with
  | [.list xs] => some (.list xs)
  | [.tuple xs] => some (.list xs)
  | _ => none
theorem s_list : SemL K (fun xs H Q => ∃ p ys, xs = [.ref p] ∧ (SqL K H p ys ∨ SqT K H p ys) ∧ ∀ l, H l = none → Q (.ref l) (upd H l (.lst ys))) true bList := fun S H xs ds z Q new r q k => by
  unfold bList at q
  split at q
  · cases q
    cases r with
    | cons r1 r2 =>
      cases r2
      cases r1 with
      | lst h1 s1 r1 => exact ⟨_, _, rfl, .inl (SqL.of h1), fun p hp => k _ _ (same_new hp) (.lst upd_same (new p hp) (r1.same (same_new hp))) fun _ => frs_lst hp r1⟩
  · cases q
    cases r with
    | cons r1 r2 =>
      cases r2
      cases r1 with
      | tup h1 r1 => exact ⟨_, _, rfl, .inr h1.sq, fun p hp => k _ _ (same_new hp) (.lst upd_same (new p hp) (r1.same (same_new hp))) fun _ => frs_lst hp r1⟩
  · cases q
def bTuple : List PyData → Option PyData := fun ds => match ds with
  | [.list xs] => some (.tuple xs)
  | [.tuple xs] => some (.tuple xs)
  | _ => none
theorem s_tuple : SemL K (rTupOfF K) false bTuple := fun S H xs ds z Q new r q k => by
  unfold bTuple at q
  split at q
  · cases q
    cases r with
    | cons r1 r2 =>
      cases r2
      cases r1 with
      | lst h1 s1 r1 => exact ⟨_, _, rfl, .inl ⟨SqL.of h1, fun p o hp hd => k _ _ (same_new hp) (.tup (.inl ⟨o, upd_same, hd⟩) (r1.same (same_new hp))) fun z => nomatch z⟩⟩
  · cases q
    cases r with
    | cons r1 r2 =>
      cases r2
      cases r1 with
      | tup h1 r1 => exact ⟨_, _, rfl, .inr ⟨h1.sq, k _ H (Same.refl H) (.tup h1 r1) fun z => nomatch z⟩⟩
  · cases q
/-! numbers in a row -/
def asInts : List PyData → Option (List Int)
  | [] => some []
  | .int i :: ds => (asInts ds).map (i :: ·)
  | _ => none
theorem asInts_eq : ∀ {ds : List PyData} {ns : List Int}, asInts ds = some ns → ds = ns.map PyData.int
  | [], ns, h => by
    cases h
    rfl
  | d :: ds, ns, h => by
    cases d with
    | int i =>
      have h : (asInts ds).map (i :: ·) = some ns := h
      cases e : asInts ds with
      | none =>
        rw [e] at h
        cases h
      | some ms =>
        rw [e] at h
        cases h
        rw [asInts_eq e]
        rfl
    | none => cases h
    | bool _ => cases h
    | str _ => cases h
    | list _ => cases h
    | tuple _ => cases h
    | dict _ => cases h
theorem asInts_map : ∀ ns : List Int, asInts (ns.map PyData.int) = some ns
  | [] => rfl
  | n :: ns => by
    show (asInts (ns.map PyData.int)).map (n :: ·) = some (n :: ns)
    rw [asInts_map ns]
    rfl
def sumZ : List Int → Int := List.sum
def bSum : List PyData → Option PyData := fun ds => match ds with
  | [.list xs] => (asInts xs).map fun ns => .int ns.sum
  | _ => none
theorem s_sum : SemL K (rSum K) false bSum := fun S H xs ds z Q new r q k => by
  unfold bSum at q
  split at q
  · rename_i ys
    obtain ⟨ns, e, rfl⟩ := Option.map_eq_some_iff.mp q
    cases r with
    | cons r1 r2 =>
      cases r2
      cases r1 with
      | lst h1 s1 r1 =>
        rw [asInts_eq e] at r1
        rw [RpA.of_ints r1] at h1
        exact ⟨_, ns, rfl, SqL.of h1, k _ H (Same.refl H) (.int _) fun z => nomatch z⟩
  · cases q
/-- the least, the greatest -/
def minZ (n : Int) (ns : List Int) : Int := ns.foldl (fun a b => if b < a then b else a) n
def maxZ (n : Int) (ns : List Int) : Int := ns.foldl (fun a b => if a < b then b else a) n
theorem minZ_mem : ∀ (ns : List Int) (n : Int), minZ n ns ∈ n :: ns ∧ ∀ y ∈ n :: ns, minZ n ns ≤ y
  | [], n => ⟨List.mem_cons_self, fun y hy => by
    have : y = n := by simpa using hy
    rw [this]
    exact Int.le_refl _⟩
  | m :: ns, n => by
    obtain ⟨h1, h2⟩ := minZ_mem ns (if m < n then m else n)
    have e : minZ n (m :: ns) = minZ (if m < n then m else n) ns := rfl
    rw [e]
    have h3 := h2 _ List.mem_cons_self
    refine ⟨?_, fun y hy => ?_⟩
    · rcases List.mem_cons.mp h1 with z | z
      · rw [z]
        split
        · exact List.mem_cons_of_mem _ List.mem_cons_self
        · exact List.mem_cons_self
      · exact List.mem_cons_of_mem _ (List.mem_cons_of_mem _ z)
    · rcases List.mem_cons.mp hy with z | hy
      · rw [z]
        exact Int.le_trans h3 (by split <;> omega)
      · rcases List.mem_cons.mp hy with z | hy
        · rw [z]
          exact Int.le_trans h3 (by split <;> omega)
        · exact h2 y (List.mem_cons_of_mem _ hy)
theorem maxZ_mem : ∀ (ns : List Int) (n : Int), maxZ n ns ∈ n :: ns ∧ ∀ y ∈ n :: ns, y ≤ maxZ n ns
  | [], n => ⟨List.mem_cons_self, fun y hy => by
    have : y = n := by simpa using hy
    rw [this]
    exact Int.le_refl _⟩
  | m :: ns, n => by
    obtain ⟨h1, h2⟩ := maxZ_mem ns (if n < m then m else n)
    have e : maxZ n (m :: ns) = maxZ (if n < m then m else n) ns := rfl
    rw [e]
    have h3 := h2 _ List.mem_cons_self
    refine ⟨?_, fun y hy => ?_⟩
    · rcases List.mem_cons.mp h1 with z | z
      · rw [z]
        split
        · exact List.mem_cons_of_mem _ List.mem_cons_self
        · exact List.mem_cons_self
      · exact List.mem_cons_of_mem _ (List.mem_cons_of_mem _ z)
    · rcases List.mem_cons.mp hy with z | hy
      · rw [z]
        exact Int.le_trans (by split <;> omega) h3
      · rcases List.mem_cons.mp hy with z | hy
        · rw [z]
          exact Int.le_trans (by split <;> omega) h3
        · exact h2 y (List.mem_cons_of_mem _ hy)
def bMin : List PyData → Option PyData := fun ds => match ds with
  | [.list xs] => (match asInts xs with | some (n :: ns) => some (.int (minZ n ns)) | _ => none)
  | _ => none
def bMax : List PyData → Option PyData := fun ds => match ds with
  | [.list xs] => (match asInts xs with | some (n :: ns) => some (.int (maxZ n ns)) | _ => none)
  | _ => none
theorem s_min : SemL K (rMin K) false bMin := fun S H xs ds z Q new r q k => by
  unfold bMin at q
  split at q
  · split at q
    · rename_i ys n ns e
      cases q
      cases r with
      | cons r1 r2 =>
        cases r2
        cases r1 with
        | lst h1 s1 r1 =>
          rw [asInts_eq e] at r1
          rw [RpA.of_ints r1] at h1
          refine ⟨_, n :: ns, rfl, SqL.of h1, Nat.succ_pos _, fun m hm hle => ?_⟩
          obtain ⟨g1, g2⟩ := minZ_mem ns n
          have : m = minZ n ns := Int.le_antisymm (hle _ g1) (g2 _ hm)
          rw [this]
          exact k _ H (Same.refl H) (.int _) fun z => nomatch z
    · cases q
  · cases q
theorem s_max : SemL K (rMax K) false bMax := fun S H xs ds z Q new r q k => by
  unfold bMax at q
  split at q
  · split at q
    · rename_i ys n ns e
      cases q
      cases r with
      | cons r1 r2 =>
        cases r2
        cases r1 with
        | lst h1 s1 r1 =>
          rw [asInts_eq e] at r1
          rw [RpA.of_ints r1] at h1
          refine ⟨_, n :: ns, rfl, SqL.of h1, Nat.succ_pos _, fun m hm hle => ?_⟩
          obtain ⟨g1, g2⟩ := maxZ_mem ns n
          have : m = maxZ n ns := Int.le_antisymm (g2 _ hm) (hle _ g1)
          rw [this]
          exact k _ H (Same.refl H) (.int _) fun z => nomatch z
    · cases q
  · cases q
end
end Pu

set_option Elab.async false
set_option linter.all false
set_option maxRecDepth 100000
set_option maxHeartbeats 2000000
namespace Pu
open PySem PySem.Spec PyProof.Rows L2
variable [TabL]

/-! ### sorted of a list or a tuple of numbers -/
section
variable {prog : Program} {w : World} {A : Around} {E : Value → Shared → Prop} {s : Shared}
theorem sorted_seqO {l : Addr} {T : String} {o : Obj} {n : Nat} {vs : List Value} {ltv : Value → Value → Bool} {Q : Value → Shared → Prop} (O : SrtO.Swo ltv) (hT : T = "list" ∨ T = "tuple") (ho : s.heap.get? l = some o) (hc : o.cls = .type T) (hd : o.data = .seq vs.toArray n) (hz : vs.length ≤ sizeLine)
    (hS : 2 ≤ vs.length → ∀ (h1 : Heap) (a : Addr), SrtO.SortableO prog w A.in1.in1 { s with heap := h1 } a vs ltv)
    (h : ∀ (out : List Value) (h1 h2 : Heap) (e : Nat), SrtO.Srtd ltv out → SrtO.Stb ltv out vs → (∀ b ob, s.heap.get? b = some ob → h1.get? b = some ob) → h2.get? h1.objs.size = some { cls := .type "list", data := .seq out.toArray e } → (∀ b ob, h1.get? b = some ob → h2.get? b = some ob) → Q (.ref h1.objs.size) { s with heap := h2 }) :
    wpAny (model prog w) A (call (.builtin "sorted") [.ref l]) Q E s := by
  refine Calls.call_function_entry PyProof.Rows.kind_sorted PyProof.Rows.plain_sorted PyProof.Rows.entry_sorted (PyProof.Rows.args_sorted1 _) ?_
  unfold Builtin.«sorted»
  refine wpAny_bind (m := checkCount "sorted" 1 1 _) (wpAny_pure ?_)
  refine wpAny_bind (wpAny_collect_seq (items := vs.toArray) (n := n) l hT ho hc hd (fun h1 k1 => ?_) (by rw [List.size_toArray]; exact hz))
  refine wpAny_bind (wpAny_newList ?_ (by simpa using hz))
  have hoL : (h1.push (PyProof.Rows.seqObj "list" vs.toArray 0)).get? h1.objs.size = some (PyProof.Rows.seqObj "list" vs.toArray 0) := Heap.get?_push_size _ rfl
  have e0 : vs.toArray.toList = vs := by simp
  rw [e0]
  show wpAny _ _ _ _ _ { s with heap := h1.push (PyProof.Rows.seqObj "list" vs.toArray 0) }
  refine wpAny_bind (wpAny_holding (wpAny_call_entry PyProof.Rows.slot_list_sort ⟨_, hoL, rfl⟩ PyProof.Rows.entry_list_sort (SrtO.list_sort_ord O hoL hz (fun h2 => hS h2 _ _) fun out hs hb => ⟨_, rfl, ?_⟩) (PyProof.Rows.args_list_sort _)))
  obtain ⟨e, he⟩ := PyProof.Rows.sortedHeap_at (out := out.toArray) hoL
  refine wpAny_pure ⟨_, rfl, h out h1 _ e hs hb k1 he fun b ob q => ?_⟩
  have hb' := Heap.lt_size q
  rw [PyProof.Rows.sortedHeap_old (Nat.ne_of_lt hb') (by rw [PyProof.Rows.size_push']; exact Nat.lt_succ_of_lt hb')]
  exact Heap.get?_push_of_some _ q
end
section
variable {X : Cx} {K : PySem.W.Frag}
/-- sorted(x): x a list or a tuple of ints -/
def rSrt (K : PySem.W.Frag) : List V → Hp → VK → Prop := fun vs H Q => ∃ (a : Addr) (ns : List Int), vs = [V.ref a] ∧ (SqL K H a (ns.map V.int) ∨ SqT K H a (ns.map V.int)) ∧
  ∀ (ns' : List Int) (p : Addr), ns'.Perm ns → ns'.Pairwise (· ≤ ·) → H p = none → Q (.ref p) (upd H p (.lst (ns'.map V.int)))
theorem cr_srt : CallR X (.builtin "sorted") (rSrt X.K) := by
  intro pins s σ H vs us Q I r h
  obtain ⟨a, ns, rfl, hs, q⟩ := h
  rw [Vals.ref1 r]
  have fin : ∀ (T : String) (o : Obj) (n : Nat) (its : List Value), (T = "list" ∨ T = "tuple") → s.heap.get? a = some o → o.cls = .type T → o.data = .seq its.toArray n → Vals (ns.map V.int) its → (ns.map V.int).length ≤ sizeLine →
      wpAny (model X.prog X.w) X.A (call (.builtin "sorted") [.ref a]) (EP X pins σ Q) X.xe s := fun T o n its hT ho hc hd rv hz => by
    have hi := rv.ints
    refine sorted_seqO SrtO.swo_int hT ho hc hd (by rw [← rv.length]; exact hz) (fun h2 h1 a' => SrtO.ints_sortable hi h2) fun out h1 h2 e s1 s2 k1 he k2 => ?_
    obtain ⟨g1, g2, g3⟩ := SrtO.ints_out hi s1 s2
    have I1 : Inv X pins σ H { s with heap := h1 } := I.kept (t' := s.toks) k1
    have hl : ((out.map SrtO.iv).map V.int).length ≤ sizeLine := by
      rw [List.length_map, g2.length_eq]
      rw [List.length_map] at hz
      exact hz
    exact ⟨.ref _, upd H h1.objs.size (.lst ((out.map SrtO.iv).map V.int)), I1.laid (t' := s.toks) k2 (Nat.le_refl _) ⟨hl, out, e, vals_of_ints g1, he⟩, rfl, q _ _ g2 g3 (I1.hok.fresh (Nat.le_refl _))⟩
  rcases hs with hs | hs
  · obtain ⟨its, rv, ⟨o, n, ho, hc, _, hd⟩, hz⟩ := I.list hs
    exact fin "list" o n its (.inl rfl) ho hc hd rv hz
  · obtain ⟨its, rv, ⟨o, ho, hc, n, hd⟩, hz⟩ := I.tuple hs
    exact fin "tuple" o n its (.inr rfl) ho hc hd rv hz
def srtZ (ns : List Int) : List Int := ns.mergeSort fun a b => decide (a ≤ b)
theorem srtZ_perm (ns : List Int) : (srtZ ns).Perm ns := List.mergeSort_perm _ _
theorem srtZ_sorted (ns : List Int) : (srtZ ns).Pairwise (· ≤ ·) := by
  have := List.pairwise_mergeSort (le := fun (a b : Int) => decide (a ≤ b)) (fun a b c h1 h2 => by
    simp only [decide_eq_true_eq] at *
    omega) (fun a b => by
    simp only [Bool.or_eq_true, decide_eq_true_eq]
    omega) ns
  exact this.imp fun h => by simpa using h
theorem srtZ_uniq {ns ms : List Int} (h : ms.Perm ns) (hs : ms.Pairwise (· ≤ ·)) : ms = srtZ ns :=
  List.Perm.eq_of_pairwise (fun a b _ _ h1 h2 => Int.le_antisymm h1 h2) hs (srtZ_sorted ns) (h.trans (srtZ_perm ns).symm)
def bSorted : List PyData → Option PyData := fun ds => match ds with
  | [.list xs] => (asInts xs).map fun ns => .list ((srtZ ns).map PyData.int)
  | [.tuple xs] => (asInts xs).map fun ns => .list ((srtZ ns).map PyData.int)
  | _ => none
theorem s_sorted : SemL K (rSrt K) true bSorted := fun S H xs ds z Q new r q k => by
  unfold bSorted at q
  split at q
  · obtain ⟨ns, e, rfl⟩ := Option.map_eq_some_iff.mp q
    cases r with
    | cons r1 r2 =>
      cases r2
      cases r1 with
      | lst h1 s1 r1 =>
        rw [asInts_eq e] at r1
        rw [RpA.of_ints r1] at h1
        refine ⟨_, ns, rfl, .inl (SqL.of h1), fun ns' p hp hs hn => ?_⟩
        rw [srtZ_uniq hp hs]
        exact k _ _ (same_new hn) (.lst upd_same (new p hn) (RpA.ints _)) fun _ => frs_lst hn (RpA.ints _)
  · obtain ⟨ns, e, rfl⟩ := Option.map_eq_some_iff.mp q
    cases r with
    | cons r1 r2 =>
      cases r2
      cases r1 with
      | tup h0 r1 =>
        have h1 := h0.sq
        rw [asInts_eq e] at r1
        rw [RpA.of_ints r1] at h1
        refine ⟨_, ns, rfl, .inr h1, fun ns' p hp hs hn => ?_⟩
        rw [srtZ_uniq hp hs]
        exact k _ _ (same_new hn) (.lst upd_same (new p hn) (RpA.ints _)) fun _ => frs_lst hn (RpA.ints _)
  · cases q

/-! ### min, max of a tuple of numbers -/
def rMinT (K : PySem.W.Frag) : List V → Hp → VK → Prop := fun vs H Q => ∃ (a : Addr) (n : Int) (ns : List Int), vs = [V.ref a] ∧ SqT K H a ((n :: ns).map V.int) ∧ Q (.int (minZ n ns)) H
def rMaxT (K : PySem.W.Frag) : List V → Hp → VK → Prop := fun vs H Q => ∃ (a : Addr) (n : Int) (ns : List Int), vs = [V.ref a] ∧ SqT K H a ((n :: ns).map V.int) ∧ Q (.int (maxZ n ns)) H
theorem dpAll_ints {H : Hp} : ∀ ns : List Int, DpAll K H (ns.map V.int) (ns.map PyData.int)
  | [] => .nil
  | n :: ns => .cons (.int n) (dpAll_ints ns)
theorem minD_ints : ∀ (ns : List Int) (n : Int), PySem.W.minD (.int n) (ns.map PyData.int) = .int (minZ n ns)
  | [], n => rfl
  | m :: ns, n => by
    show List.foldl _ (if PySem.W.dataLt (.int m) (.int n) then PyData.int m else PyData.int n) (ns.map PyData.int) = PyData.int (minZ (if m < n then m else n) ns)
    have e : PySem.W.dataLt (.int m) (.int n) = decide (m < n) := by
      unfold PySem.W.dataLt
      simp [PySem.W.keyToks, PyProof.Rows.lexLt, itemOrd]
      rfl
    rw [e]
    by_cases h : m < n
    · rw [if_pos (decide_eq_true h), if_pos h]
      exact minD_ints ns m
    · rw [if_neg (by simpa using h), if_neg h]
      exact minD_ints ns n
theorem maxD_ints : ∀ (ns : List Int) (n : Int), PySem.W.maxD (.int n) (ns.map PyData.int) = .int (maxZ n ns)
  | [], n => rfl
  | m :: ns, n => by
    show List.foldl _ (if PySem.W.dataLt (.int n) (.int m) then PyData.int m else PyData.int n) (ns.map PyData.int) = PyData.int (maxZ (if n < m then m else n) ns)
    have e : PySem.W.dataLt (.int n) (.int m) = decide (n < m) := by
      unfold PySem.W.dataLt
      simp [PySem.W.keyToks, PyProof.Rows.lexLt, itemOrd]
      rfl
    rw [e]
    by_cases h : n < m
    · rw [if_pos (decide_eq_true h), if_pos h]
      exact maxD_ints ns m
    · rw [if_neg (by simpa using h), if_neg h]
      exact maxD_ints ns n
theorem alike_ints (ns : List Int) : PySem.W.AlikeAll (ns.map PyData.int) := by
  refine ⟨fun x hx y hy => ?_, fun x hx => ?_⟩
  · obtain ⟨i, _, rfl⟩ := List.mem_map.mp hx
    obtain ⟨j, _, rfl⟩ := List.mem_map.mp hy
    rfl
  · obtain ⟨i, _, rfl⟩ := List.mem_map.mp hx
    exact fun z => nomatch z
theorem depth_ints : ∀ ns : List Int, PyData.depthAll (ns.map PyData.int) ≤ 1
  | [] => by simp [PyData.depthAll]
  | n :: ns => by
    have := depth_ints ns
    simp only [List.map_cons, PyData.depthAll, PyData.depth]
    omega
theorem cr_minT (hc : X.calm = true) {k : Nat} (hr : Room k X.A) : CallR X (.builtin "min") (rMinT X.K) := by
  intro pins s σ H vs us Q I r h
  obtain ⟨a, n, ns, rfl, hs, q⟩ := h
  rw [Vals.ref1 r]
  obtain ⟨its, rv, ⟨o, ho, hcl, m, hd⟩, hz⟩ := I.tuple hs
  obtain ⟨as, ra⟩ := Dp.readsAll I ((n :: ns).map PyData.int) _ its (dpAll_ints (n :: ns)) rv
  have hu := hr.units
  have hde := depth_ints (n :: ns)
  refine PySem.W.min_tuple_data (x := .int n) (xs := ns.map PyData.int) (I.ok.hd hc) ⟨o, ho, hcl, m, hd⟩ ra (alike_ints (n :: ns)) (by
    have e : PyData.depthAll (PyData.int n :: ns.map PyData.int) = PyData.depthAll ((n :: ns).map PyData.int) := rfl
    rw [e]
    omega) fun i v h' tk bs hv rd kp => ?_
  rw [minD_ints] at rd
  obtain ⟨t, rfl⟩ : ∃ t, v = .int (minZ n ns) t := by
    cases rd
    exact ⟨_, rfl⟩
  exact ⟨.int _, H, I.kept (t' := tk) kp, ⟨t, rfl⟩, q⟩
theorem cr_maxT (hc : X.calm = true) {k : Nat} (hr : Room k X.A) : CallR X (.builtin "max") (rMaxT X.K) := by
  intro pins s σ H vs us Q I r h
  obtain ⟨a, n, ns, rfl, hs, q⟩ := h
  rw [Vals.ref1 r]
  obtain ⟨its, rv, ⟨o, ho, hcl, m, hd⟩, hz⟩ := I.tuple hs
  obtain ⟨as, ra⟩ := Dp.readsAll I ((n :: ns).map PyData.int) _ its (dpAll_ints (n :: ns)) rv
  have hu := hr.units
  have hde := depth_ints (n :: ns)
  refine PySem.W.max_tuple_data (x := .int n) (xs := ns.map PyData.int) (I.ok.hd hc) ⟨o, ho, hcl, m, hd⟩ ra (alike_ints (n :: ns)) (by
    have e : PyData.depthAll (PyData.int n :: ns.map PyData.int) = PyData.depthAll ((n :: ns).map PyData.int) := rfl
    rw [e]
    omega) fun i v h' tk bs hv rd kp => ?_
  rw [maxD_ints] at rd
  obtain ⟨t, rfl⟩ : ∃ t, v = .int (maxZ n ns) t := by
    cases rd
    exact ⟨_, rfl⟩
  exact ⟨.int _, H, I.kept (t' := tk) kp, ⟨t, rfl⟩, q⟩
def bMinA : List PyData → Option PyData := fun ds => match ds with
  | [.list xs] => (match asInts xs with | some (n :: ns) => some (.int (minZ n ns)) | _ => none)
  | [.tuple xs] => (match asInts xs with | some (n :: ns) => some (.int (minZ n ns)) | _ => none)
  | _ => none
def bMaxA : List PyData → Option PyData := fun ds => match ds with
  | [.list xs] => (match asInts xs with | some (n :: ns) => some (.int (maxZ n ns)) | _ => none)
  | [.tuple xs] => (match asInts xs with | some (n :: ns) => some (.int (maxZ n ns)) | _ => none)
  | _ => none
theorem s_minA : SemL K (fun xs H Q => rMin K xs H Q ∨ rMinT K xs H Q) false bMinA := fun S H xs ds z Q new r q k => by
  unfold bMinA at q
  split at q
  · exact .inl (s_min S H _ _ z Q new r q k)
  · split at q
    · rename_i ys n ns e
      cases q
      cases r with
      | cons r1 r2 =>
        cases r2
        cases r1 with
        | tup h0 r1 =>
          have h1 := h0.sq
          rw [asInts_eq e] at r1
          rw [RpA.of_ints r1] at h1
          exact .inr ⟨_, n, ns, rfl, h1, k _ H (Same.refl H) (.int _) fun z => nomatch z⟩
    · cases q
  · cases q
theorem s_maxA : SemL K (fun xs H Q => rMax K xs H Q ∨ rMaxT K xs H Q) false bMaxA := fun S H xs ds z Q new r q k => by
  unfold bMaxA at q
  split at q
  · exact .inl (s_max S H _ _ z Q new r q k)
  · split at q
    · rename_i ys n ns e
      cases q
      cases r with
      | cons r1 r2 =>
        cases r2
        cases r1 with
        | tup h0 r1 =>
          have h1 := h0.sq
          rw [asInts_eq e] at r1
          rw [RpA.of_ints r1] at h1
          exact .inr ⟨_, n, ns, rfl, h1, k _ H (Same.refl H) (.int _) fun z => nomatch z⟩
    · cases q
  · cases q
theorem cr_minA (hc : X.calm = true) {k : Nat} (hr : Room k X.A) : CallR X (.builtin "min") (fun xs H Q => rMin X.K xs H Q ∨ rMinT X.K xs H Q) := (cr_min hc).or (cr_minT hc hr)
theorem cr_maxA (hc : X.calm = true) {k : Nat} (hr : Room k X.A) : CallR X (.builtin "max") (fun xs H Q => rMax X.K xs H Q ∨ rMaxT X.K xs H Q) := (cr_max hc).or (cr_maxT hc hr)

/-! ### items and slices -/
def atD (ds : List PyData) (i : Int) : Option PyData := (ixN ds.length i).bind fun j => ds[j]?
def oIx : PyData → PyData → Option PyData := fun d e => match d, e with
  | .list ds, .int i => atD ds i
  | .tuple ds, .int i => atD ds i
  | .dict [(.none, .list ds)], .int i => atD ds i
  | _, _ => none
theorem atD_of {S : Addr → Prop} {H : Hp} {vs : List V} {ds : List PyData} {i : Int} {z : PyData} (r : RpA K H S vs ds) (q : atD ds i = some z) : ∃ v, atI vs i = some v ∧ Rp K H S v z := by
  unfold atD at q
  obtain ⟨j, e1, e2⟩ := Option.bind_eq_some_iff.mp q
  obtain ⟨v, hv, rv⟩ := r.get' e2
  refine ⟨v, ?_, rv⟩
  unfold atI
  rw [r.length, e1]
  exact hv
theorem s_ix : SemB K (rIx K) false oIx := fun S H x y d e z Q new rx ry q k => by
  unfold oIx at q
  split at q
  · cases ry
    cases rx with
    | lst h1 s1 r1 =>
      obtain ⟨v, hv, rv⟩ := atD_of r1 q
      exact .inl ⟨_, _, _, v, rfl, rfl, SqL.of h1, hv, k v H (Same.refl H) rv fun z => nomatch z⟩
  · cases ry
    cases rx with
    | tup h1 r1 =>
      obtain ⟨v, hv, rv⟩ := atD_of r1 q
      exact .inr (.inl ⟨_, _, _, v, rfl, rfl, h1.sq, hv, k v H (Same.refl H) rv fun z => nomatch z⟩)
  · cases ry
    rename_i ds i
    generalize e : PyData.dict [(PyData.none, PyData.list ds)] = dd at rx
    cases rx with
    | scr h1 r1 =>
      cases e
      obtain ⟨v, hv, rv⟩ := atD_of r1 q
      exact .inl ⟨_, _, _, v, rfl, rfl, h1.sq, hv, k v H (Same.refl H) rv fun z => nomatch z⟩
    | dic _ _ _ _ => cases e
    | dit _ _ _ _ => cases e
    | dif _ _ _ => cases e
    | rng _ => cases e
    | dct _ _ _ _ => cases e
    | non => cases e
    | bl _ => cases e
    | int _ => cases e
    | str _ => cases e
    | tup _ _ => cases e
    | lst _ _ _ => cases e
  · cases q
section
variable {M : Nat → Bool} {F : Fx} {E : L2.St → XK} {la lb fa fb : Bool} {a b : Expr} {f g : Rho → Re PyData} {pos : Pos}
theorem de_ix (ha : DE X M F E la fa a f) (hb : DE X M F E lb fb b g) (hs : PlainIx b := by intro _ _; rfl) : DE X M F E (la || lb) false (.Subscript a b pos) (r2 oIx f g) := by
  obtain ⟨ta, pa, ha⟩ := ha
  obtain ⟨tb, pb, hb⟩ := hb
  exact ⟨_, pe_ix ix_seq pa pb hs, fun σ H ρ er Q w => two_run ha hb s_ix er w⟩
/-- the ends of a slice -/
def WO (X : Cx) (E : L2.St → XK) (σ : L2.St) (H : Hp) (r : Re (Option Int)) (Q : Option Int → Hp → Prop) : Prop :=
  match r with
  | .ok b => ∀ H', Same H H' → Q b H'
  | .ex c => ∀ C H', X.mg c = some (.ref C) → Same H H' → E σ (.ref C) none H'
  | .bad => False
def DO (X : Cx) (M : Nat → Bool) (F : Fx) (E : L2.St → XK) (e : Option Expr) (f : Rho → Re (Option Int)) : Prop := ∃ t : TO, PO X e t ∧ ∀ σ H ρ, ER X.K M F σ H ρ → ∀ Q, WO X E σ H (f ρ) Q → t σ H Q
def asI (f : Rho → Re PyData) : Rho → Re (Option Int) := fun ρ => (f ρ).andThen fun d => match d with | .int i => .ok (some i) | _ => .bad
def noI : Rho → Re (Option Int) := fun _ => .ok none
theorem do_none : DO X M F E none noI := ⟨_, po_none, fun σ H ρ er Q w => w H (Same.refl H)⟩
theorem do_some (h : DE X M F E la fa a f) : DO X M F E (some a) (asI f) := by
  obtain ⟨t, p, h⟩ := h
  refine ⟨_, po_some p, fun σ H ρ er Q w => h σ H ρ er _ ?_⟩
  unfold asI at w
  cases q : f ρ with
  | ok d =>
    rw [q] at w
    refine fun v H1 s r _ => ?_
    have w : WO X E σ H ((fun d : PyData => match d with | .int i => Re.ok (some i) | _ => Re.bad) d) Q := w
    cases r with
    | int i => exact ⟨i, rfl, w H1 s⟩
    | bl _ => exact w.elim
    | non => exact w.elim
    | str _ => exact w.elim
    | tup _ _ => exact w.elim
    | lst _ _ _ => exact w.elim
    | scr _ _ => exact w.elim
    | dic _ _ _ _ => exact w.elim
    | dit _ _ _ _ => exact w.elim
    | dif _ _ _ => exact w.elim
    | rng _ => exact w.elim
    | dct _ _ _ _ => exact w.elim
  | ex c =>
    rw [q] at w
    exact w
  | bad =>
    rw [q] at w
    exact w
def cutD (ds : List PyData) (lo hi : Option Int) : List PyData := (ds.drop (HT.sIx ds.length 0 lo)).take (HT.sIx ds.length ds.length hi - HT.sIx ds.length 0 lo)
def oCut (d : PyData) (lo hi : Option Int) : Re PyData := match d with
  | .tuple ds => .ok (.tuple (cutD ds lo hi))
  | .list ds => .ok (.list (cutD ds lo hi))
  | _ => .bad
theorem cut_rp {S : Addr → Prop} {H : Hp} {vs : List V} {ds : List PyData} {lo hi : Option Int} (r : RpA K H S vs ds) : RpA K H S (cutV vs lo hi) (cutD ds lo hi) := by
  unfold cutV cutD
  rw [r.length]
  exact (r.drop _).take _
theorem cut_whole {ds : List PyData} {lo hi : Option Int} (h : HT.sIx ds.length 0 lo = 0 ∧ HT.sIx ds.length ds.length hi = ds.length) : cutD ds lo hi = ds := by
  unfold cutD
  rw [h.1, h.2, List.drop_zero, Nat.sub_zero, List.take_length]
abbrev rSlTL (K : PySem.W.Frag) : V → Option Int → Option Int → Hp → VK → Prop := fun x lo hi H Q => rSlF K x lo hi H Q ∨ rSlL K x lo hi H Q
theorem sl_tl : SlR X (rSlTL X.K) := sl_tupF.or sl_list
def rCut (f : Rho → Re PyData) (lo hi : Rho → Re (Option Int)) : Rho → Re PyData := fun ρ => (f ρ).andThen fun d => (lo ρ).andThen fun l => (hi ρ).andThen fun h => oCut d l h
theorem wo_step {lk fr : Bool} {σ : L2.St} {ρ : Rho} {H : Hp} {r : Re (Option Int)} {Q : VK} {g : Option Int → Re PyData} {K : Option Int → Hp → Prop} (w : WE X M F E lk fr σ ρ H (r.andThen g) Q)
    (h : ∀ d H', r = .ok d → Same H H' → WE X M F E lk fr σ ρ H' (g d) Q → K d H') : WO X E σ H r K := by
  cases r with
  | ok d =>
    refine fun H' s => h d H' rfl s ?_
    have w : WE X M F E lk fr σ ρ H (g d) Q := w
    cases q : g d with
    | ok z =>
      rw [q] at w
      refine fun v2 H2 s2 r2 f2 => w v2 H2 (s.trans s2) r2 fun z2 => ?_
      obtain ⟨p, e1, e2, e3⟩ := f2 z2
      exact ⟨p, e1, s.free e2, e3⟩
    | ex c =>
      rw [q] at w
      exact fun C H2 m s2 => w C H2 m (s.trans s2)
    | bad =>
      rw [q] at w
      exact w
  | ex c => exact w
  | bad => exact w
theorem de_cut {lo hi : Option Expr} {fl fh : Rho → Re (Option Int)} {p2 : Pos} (ha : DE X M F E la fa a f) (hl : DO X M F E lo fl) (hh : DO X M F E hi fh) : DE X M F E la false (.Subscript a (.Slice lo hi none p2) pos) (rCut f fl fh) := by
  obtain ⟨ta, pa, ha⟩ := ha
  obtain ⟨tl, pl, hl⟩ := hl
  obtain ⟨th, ph, hh⟩ := hh
  refine ⟨_, pe_slice sl_tl pa pl ph, fun σ H ρ er Q w => ?_⟩
  refine ha σ H ρ er _ (we_step w fun d v H1 e1 s1 r1 _ w1 => ?_)
  refine hl σ H1 ρ (er.same s1) _ (wo_step w1 fun l H2 e2 s2 w2 => ?_)
  refine hh σ H2 ρ ((er.same s1).same s2) _ (wo_step w2 fun h H3 e3 s3 w3 => ?_)
  have er3 := ((er.same s1).same s2).same s3
  have r3 := r1.same (s2.trans s3)
  have w3 : WE X M F E la false σ ρ H3 (oCut d l h) Q := w3
  cases r3 with
  | tup h1 rr =>
    refine .inl ⟨_, _, rfl, h1.sq, fun hw => ?_, fun hw p o hp hd => w3 _ _ (same_new hp) (.tup (.inl ⟨o, upd_same, hd⟩) ((cut_rp rr).same (same_new hp))) fun z => nomatch z⟩
    rw [rr.length] at hw
    refine w3 _ H3 (Same.refl _) ?_ fun z => nomatch z
    rw [cut_whole hw]
    exact .tup h1 rr
  | lst h1 ss rr => exact .inr ⟨_, _, rfl, SqL.of h1, fun p hp => w3 _ _ (same_new hp) (.lst upd_same (er3.freshS p hp) ((cut_rp rr).same (same_new hp))) fun z => nomatch z⟩
  | bl _ => exact w3.elim
  | non => exact w3.elim
  | int _ => exact w3.elim
  | str _ => exact w3.elim
  | scr _ _ => exact w3.elim
  | dic _ _ _ _ => exact w3.elim
  | dit _ _ _ _ => exact w3.elim
  | dif _ _ _ => exact w3.elim
  | rng _ => exact w3.elim
  | dct _ _ _ _ => exact w3.elim

/-! ### tuple(range(..)), list(range(..)) -/
def rgOk (a b : Int) : Bool := decide (-1000000 ≤ a) && decide (a ≤ 1000000) && decide (-1000000 ≤ b) && decide (b ≤ 1000000)
theorem rgOk_ok {a b : Int} (h : rgOk a b = true) : RgOk a b := by
  unfold rgOk at h
  simp only [Bool.and_eq_true, decide_eq_true_eq] at h
  obtain ⟨⟨⟨h1, h2⟩, h3⟩, h4⟩ := h
  exact ⟨by omega, by omega, by omega, by omega, by omega⟩
theorem rg_rp {S : Addr → Prop} {H : Hp} (a b : Int) : RpA K H S (rgV a b) (upFrom a (b - a).toNat) := by
  have e1 : rgV a b = ((List.range (b - a).toNat).map fun i => a + ((i : Nat) : Int)).map V.int := by
    unfold rgV
    rw [List.map_map]
    rfl
  have e2 : upFrom a (b - a).toNat = ((List.range (b - a).toNat).map fun i => a + ((i : Nat) : Int)).map PyData.int := by
    unfold upFrom
    rw [List.map_map]
    rfl
  rw [e1, e2]
  exact RpA.ints _
def rTupRg (f g : Rho → Re PyData) : Rho → Re PyData := r2 (fun d e => match d, e with | .int i, .int j => if rgOk i j = true then some (.tuple (upFrom i (j - i).toNat)) else none | _, _ => none) f g
theorem de_tupRg {pp q : Pos} (hc : X.calm = true) (hg : Gl X "tuple") (hm : X.mg "tuple" = none) (hg2 : Gl X "range") (hm2 : X.mg "range" = none) (ha : DE X M F E la fa a f) (hb : DE X M F E lb fb b g)
    (na : starEach [a, b] X.env = (false, eval a X.env) :: starEach [b] X.env := by rfl) (nb : starEach [b] X.env = (false, eval b X.env) :: starEach [] X.env := by rfl)
    (np : (backTo q (starEach [b] X.env)).any (·.1) = false := by rfl) (nc : starEach [Expr.Call (.Name "range" pp) [a, b] [] q] X.env = (false, eval (.Call (.Name "range" pp) [a, b] [] q) X.env) :: starEach [] X.env := by rfl) {p0 : Pos} :
    DE X M F E (la || lb) false (.Call (.Name "tuple" p0) [.Call (.Name "range" pp) [a, b] [] q] [] pos) (rTupRg f g) := by
  obtain ⟨ta, pa, ha⟩ := ha
  obtain ⟨tb, pb, hb⟩ := hb
  refine ⟨_, pe_tupRgF hc hg hm (prg_2 hg2 hm2 pa pb na nb np) nc, fun σ H ρ er Q w => ?_⟩
  refine ha σ H ρ er _ (we_step w fun d v H1 e1 s1 q1 _ w1 => ?_)
  refine hb σ H1 ρ (er.same s1) _ (we_step w1 fun e u H2 e2 s2 q2 _ w2 => ?_)
  cases q1 with
  | int i =>
    cases q2 with
    | int j =>
      have w2 : WE X M F E (la || lb) false σ ρ H2 (liftO (if rgOk i j = true then some (.tuple (upFrom i (j - i).toNat)) else none)) Q := w2
      by_cases hr : rgOk i j = true
      · rw [if_pos hr] at w2
        exact ⟨i, j, rfl, rfl, rgOk_ok hr, fun p o hp hd => w2 _ _ (same_new hp) (.tup (.inl ⟨o, upd_same, hd⟩) (rg_rp i j)) fun z => nomatch z⟩
      · rw [if_neg hr] at w2
        exact w2.elim
    | bl _ => exact w2.elim
    | non => exact w2.elim
    | str _ => exact w2.elim
    | tup _ _ => exact w2.elim
    | lst _ _ _ => exact w2.elim
    | scr _ _ => exact w2.elim
    | dic _ _ _ _ => exact w2.elim
    | dit _ _ _ _ => exact w2.elim
    | dif _ _ _ => exact w2.elim
    | rng _ => exact w2.elim
    | dct _ _ _ _ => exact w2.elim
  | bl _ => exact w2.elim
  | non => exact w2.elim
  | str _ => exact w2.elim
  | tup _ _ => exact w2.elim
  | lst _ _ _ => exact w2.elim
  | scr _ _ => exact w2.elim
  | dic _ _ _ _ => exact w2.elim
  | dit _ _ _ _ => exact w2.elim
  | dif _ _ _ => exact w2.elim
  | rng _ => exact w2.elim
  | dct _ _ _ _ => exact w2.elim
end
end
end Pu

set_option Elab.async false
set_option linter.all false
set_option maxRecDepth 100000
set_option maxHeartbeats 2000000
namespace Pu
open PySem PySem.Spec PyProof.Rows L2
variable [TabL]

section
variable {X : Cx} {K : PySem.W.Frag} {M : Nat → Bool} {F : Fx} {E : L2.St → XK} {la lb fa fb : Bool} {a b : Expr} {f g : Rho → Re PyData} {pos : Pos} {s u : Rho → Sr}
/-! ### a list or a tuple is walked, is unpacked -/
theorem pi_or {tg it : Expr} {w1 w2 : TI} (h1 : PI X tg it w1) (h2 : PI X tg it w2) : PI X tg it (fun σ H R => w1 σ H R ∨ w2 σ H R) := ⟨fun pins s σ H R I h => h.elim (h1.run pins s σ H R I) (h2.run pins s σ H R I)⟩
theorem pg_or {tg : Expr} {w1 w2 : TG} (h1 : PG X tg w1) (h2 : PG X tg w2) : PG X tg (fun v σ H Q => w1 v σ H Q ∨ w2 v σ H Q) := ⟨fun pins s σ H v u Q I r h => h.elim (h1.run pins s σ H v u Q I r) (h2.run pins s σ H v u Q I r)⟩
def itS (d : PyData) : Re (List PyData) := match d with | .list ds => .ok ds | .tuple ds => .ok ds | _ => .bad
theorem di_seq {tg : Expr} (h : DE X M F E false fa a f) : DI X M F E tg a (iOf itS f) := by
  obtain ⟨t1, p1, h1⟩ := di_list (tg := tg) h
  obtain ⟨t2, p2, h2⟩ := di_tup (tg := tg) h
  refine ⟨_, pi_or p1 p2, fun σ H ρ er R w => ?_⟩
  unfold iOf at w h1 h2
  cases q : f ρ with
  | ex c =>
    rw [q] at w
    refine .inl (h1 σ H ρ er R ?_)
    rw [q]
    exact w
  | bad =>
    rw [q] at w
    exact w.elim
  | ok d =>
    rw [q] at w
    cases d with
    | list ds =>
      refine .inl (h1 σ H ρ er R ?_)
      rw [q]
      exact w
    | tuple ds =>
      refine .inr (h2 σ H ρ er R ?_)
      rw [q]
      exact w
    | none => exact w.elim
    | bool _ => exact w.elim
    | int _ => exact w.elim
    | str _ => exact w.elim
    | dict _ => exact w.elim
def gSeqD (n : Nat) (g : List PyData → Rho → Option Rho) : PyData → Rho → Option Rho := fun d ρ => match d with | .tuple ds => if ds.length = n then g ds ρ else none | .list ds => if ds.length = n then g ds ρ else none | _ => none
theorem dg_seq {es : List Expr} {ts : List Nat} {k : Nat} {n : Nat} {gs : List PyData → Rho → Option Rho} (hc : X.calm = true) (h : DGs X M F es ts gs) (hn : (assignEach es X.env).length = n := by rfl) (hst : (assignEach es X.env).findIdx? (·.1) = none := by rfl) :
    DG X M F (.Tuple es k pos) ts (gSeqD n gs) := by
  obtain ⟨t1, p1, h1⟩ := dg_tup (k := k) (pos := pos) hc h hn hst
  obtain ⟨t2, p2, h2⟩ := dg_lst (k := k) (pos := pos) hc h hn hst
  refine ⟨_, pg_or p1 p2, fun σ H ρ v d ρ' er r e Q kk => ?_⟩
  cases d with
  | tuple ds => exact .inl (h1 σ H ρ v (.tuple ds) ρ' er r e Q kk)
  | list ds => exact .inr (h2 σ H ρ v (.list ds) ρ' er r e Q kk)
  | none => cases e
  | bool _ => cases e
  | int _ => cases e
  | str _ => cases e
  | dict _ => cases e

/-! ### a name's constant -/
theorem de_globE {x : Str} {i : Int} {pos : Pos} (hm : ∃ t, X.mg x = some (.int i t)) (hg : Gl X x := by rfl) (hd : (x == ("__debug__" : Str)) = false := by decide) : DE X M F E false false (.Name x pos) (rC (.int i)) := by
  obtain ⟨t, h⟩ := hm
  exact de_glob hg h hd

/-! ### isinstance -/
def tyD : PyData → String
  | .none => "NoneType"
  | .bool _ => "bool"
  | .int _ => "int"
  | .str _ => "str"
  | .list _ => "list"
  | .tuple _ => "tuple"
  | .dict _ => "dict"
def isD (d : PyData) (T : String) : Option Bool := match d with
  | .dict _ => none
  | d => kitB (tyD d) T
theorem ty_of {S : Addr → Prop} {H : Hp} {v : V} {d : PyData} (r : Rp K H S v d) (nd : ∀ kvs, d ≠ .dict kvs) : TyX K H v (.type (tyD d)) := by
  cases r with
  | non => exact .base .non
  | bl b => exact .base (.bl b)
  | int i => exact .base (.int i)
  | str x => exact .base (.str x)
  | tup h _ =>
    rcases h with ⟨o, h, _⟩ | ⟨o, its, n, hk, hc, _⟩
    · exact .fTuple h
    · exact .kTuple hk hc
  | lst h _ _ => exact .base (.lst h)
  | scr _ _ => exact absurd rfl (nd _)
  | dic _ _ _ _ => exact absurd rfl (nd _)
  | dit _ _ _ _ => exact absurd rfl (nd _)
  | dif _ _ _ => exact absurd rfl (nd _)
  | rng _ => exact absurd rfl (nd _)
  | dct _ _ _ _ => exact absurd rfl (nd _)
/-- isinstance(x, T), T a built-in class -/
theorem de_isi {T : String} {x : Str} {p p1 p2 : Pos} (hg : Gl X "isinstance") (hm : X.mg "isinstance" = none) (hgT : Gl X x) (hmT : X.mg x = none) (hv : bootBuiltins x = some (.type T)) (ha : DE X M F E la fa a f)
    (hnT : x ≠ "__name__" := by decide) (hdT : (x == ("__debug__" : Str)) = false := by decide)
    (h1 : starEach [a, .Name x p1] X.env = (false, eval a X.env) :: starEach [.Name x p1] X.env := by rfl) (h2 : starEach [.Name x p1] X.env = (false, eval (.Name x p1) X.env) :: starEach [] X.env := by rfl) (hpl : (backTo pos (starEach [.Name x p1] X.env)).any (·.1) = false := by rfl) :
    DE X M F E false false (.Call (.Name "isinstance" p) [a, .Name x p1] [] pos) (fun ρ => (f ρ).andThen fun d => liftO ((isD d T).map PyData.bool)) := by
  obtain ⟨t, pa, h⟩ := ha
  refine ⟨_, pe_callB call_isi hg hm PyProof.Rows.boot_isinstance (pa_cons pa (pa_cons (pe_bltn (v := .ty T) hgT hmT hv rfl hnT hdT) pa_nil h2) h1) (he := h1) (hpl := hpl), fun σ H ρ er Q w => ?_⟩
  refine h σ H ρ er _ (we_step w fun d v H1 e s1 r1 _ w1 => ?_)
  cases q : isD d T with
  | none =>
    rw [q] at w1
    exact w1.elim
  | some bb =>
    rw [q] at w1
    have nd : ∀ kvs, d ≠ .dict kvs := fun kvs z => by
      rw [z] at q
      cases q
    have q' : kitB (tyD d) T = some bb := by
      unfold isD at q
      split at q
      · cases q
      · exact q
    exact ⟨v, .ty T, .type (tyD d), .type T, bb, rfl, .ty T, ty_of r1 nd, kit_ty q', w1 _ H1 (Same.refl _) (.bl bb) fun z => nomatch z⟩

/-! ### t.index(x): numbers in a tuple or a list -/
def rIdxT (K : PySem.W.Frag) : V → List V → Hp → VK → Prop := fun x xs H Q => ∃ (p : Addr) (ys : List Int) (z : Int) (j : Nat), x = .ref p ∧ xs = [.int z] ∧ SqT K H p (ys.map V.int) ∧ ys[j]? = some z ∧ (∀ m, m < j → ys[m]? ≠ some z) ∧ Q (.int (j : Nat)) H
theorem all_flat_ints (ys : List Int) : (ys.map V.int).all flatV = true := by
  rw [List.all_map]
  exact List.all_eq_true.mpr fun _ _ => rfl
end
section
variable {X : Cx}
theorem mt_idxT : MtR X "tuple.index" (rIdxT X.K) := by
  intro pins s σ H x xs v us Q I rx rs h
  obtain ⟨p, ys, z, j, rfl, rfl, hq, hy, hno, q⟩ := h
  cases rx
  obtain ⟨u, rfl, t, rfl⟩ := vals1 rs
  obtain ⟨its, r, pl, hz⟩ := I.tuple hq
  obtain ⟨⟨cl, dd, dt, sl⟩, ho, hc, n, hd⟩ := pl
  simp only at hc hd
  subst hc hd
  have hl : its.toArray.size = ys.length := by rw [List.size_toArray, ← r.length, List.length_map]
  have hj : j < its.toArray.size := by rw [hl]; exact getSome hy
  have at1 : ∀ (m : Nat) (hm : m < its.toArray.size), ∃ y t', ys[m]? = some y ∧ its.toArray[m] = Value.int y t' := fun m hm => by
    have hm' : m < ys.length := by rw [← hl]; exact hm
    obtain ⟨w, hw, t', hw'⟩ := r.get (i := m) (x := .int ys[m]) (by simp [hm'])
    refine ⟨ys[m], t', List.getElem?_eq_getElem hm', ?_⟩
    have e := (List.getElem?_eq_some_iff.mp hw).2
    rw [← hw', ← e]
    simp
  refine call_meets PySem.F.slot_tuple_index ⟨_, ho, rfl⟩ PySem.F.entry_tuple_index (PySem.F.args_tuple_index_2 _ _) (TI.tuple_indexAt p its.toArray n dd sl (.int z t) (eqU (.int z)) j hj ?_ ?_)
    ⟨ho, fun w hw => mem_eqAt (x := .int z) ⟨t, rfl⟩ rfl r (all_flat_ints ys) w (by simpa using hw), ⟨.int (j : Nat), H, I.tok _, ⟨_, rfl⟩, q⟩⟩
  · obtain ⟨y, t', h1, h2⟩ := at1 j hj
    rw [hy] at h1
    cases h1
    rw [h2]
    show (z == z) = true
    exact beq_self_eq_true z
  · intro m hm hmj
    obtain ⟨y, t', h1, h2⟩ := at1 m hm
    rw [h2]
    show (y == z) = false
    exact beq_eq_false_iff_ne.mpr fun e => hno m hmj (e ▸ h1)
end
end Pu

set_option Elab.async false
set_option linter.all false
set_option maxRecDepth 100000
set_option maxHeartbeats 2000000
namespace Pu
open PySem PySem.Spec PyProof.Rows L2
variable [TabL]

section
variable {X : Cx} {K : PySem.W.Frag} {M : Nat → Bool} {F : Fx} {E : L2.St → XK} {la lb fa fb : Bool} {a b : Expr} {f g : Rho → Re PyData} {pos : Pos} {s u : Rho → Sr}
/-! ### t.index(x), l.index(x) of numbers -/
/-- the first place of z -/
def idxZ (z : Int) : List Int → Option Nat
  | [] => none
  | n :: ns => if n = z then some 0 else (idxZ z ns).map (· + 1)
theorem idxZ_some {z : Int} : ∀ {ns : List Int} {j : Nat}, idxZ z ns = some j → ns[j]? = some z ∧ ∀ m, m < j → ns[m]? ≠ some z
  | [], j, h => by cases h
  | n :: ns, j, h => by
    unfold idxZ at h
    by_cases e : n = z
    · rw [if_pos e] at h
      cases h
      exact ⟨by simp [e], fun m hm => absurd hm (Nat.not_lt_zero _)⟩
    · rw [if_neg e] at h
      obtain ⟨k, hk, rfl⟩ := Option.map_eq_some_iff.mp h
      obtain ⟨h1, h2⟩ := idxZ_some hk
      refine ⟨by simpa using h1, fun m hm => ?_⟩
      cases m with
      | zero => simpa using e
      | succ m => simpa using h2 m (by omega)
def oIdx : PyData → List PyData → Option PyData := fun d es => match d, es with
  | .tuple ds, [.int z] => (asInts ds).bind fun ns => (idxZ z ns).map fun j => .int (j : Nat)
  | _, _ => none
def oIdxL : PyData → List PyData → Option PyData := fun d es => match d, es with
  | .list ds, [.int z] => (asInts ds).bind fun ns => (idxZ z ns).map fun j => .int (j : Nat)
  | _, _ => none
theorem oIdx_some {ds0 es : List PyData} {z : PyData} (q : oIdx (.tuple ds0) es = some z) : ∃ ns z0 j, asInts ds0 = some ns ∧ es = [.int z0] ∧ idxZ z0 ns = some j ∧ z = .int (j : Nat) := by
  unfold oIdx at q
  split at q
  · next x1 x2 a1 a2 e1 =>
    cases e1
    obtain ⟨ns, e3, q⟩ := Option.bind_eq_some_iff.mp q
    obtain ⟨j, e4, e5⟩ := Option.map_eq_some_iff.mp q
    exact ⟨ns, _, j, e3, rfl, e4, e5.symm⟩
  · cases q
theorem oIdxL_some {ds0 es : List PyData} {z : PyData} (q : oIdxL (.list ds0) es = some z) : ∃ ns z0 j, asInts ds0 = some ns ∧ es = [.int z0] ∧ idxZ z0 ns = some j ∧ z = .int (j : Nat) := by
  unfold oIdxL at q
  split at q
  · next x1 x2 a1 a2 e1 =>
    cases e1
    obtain ⟨ns, e3, q⟩ := Option.bind_eq_some_iff.mp q
    obtain ⟨j, e4, e5⟩ := Option.map_eq_some_iff.mp q
    exact ⟨ns, _, j, e3, rfl, e4, e5.symm⟩
  · cases q
def rMeth (o : PyData → List PyData → Option PyData) (f : Rho → Re PyData) (g : Rho → Re (List PyData)) : Rho → Re PyData := fun ρ => (f ρ).andThen fun d => (match d with | .tuple _ => (g ρ).andThen fun es => liftO (o d es) | _ => .bad)
def rMethL (o : PyData → List PyData → Option PyData) (f : Rho → Re PyData) (g : Rho → Re (List PyData)) : Rho → Re PyData := fun ρ => (f ρ).andThen fun d => (match d with | .list _ => (g ρ).andThen fun es => liftO (o d es) | _ => .bad)
theorem de_idxT {es : List Expr} {gs : Rho → Re (List PyData)} {p2 : Pos} (ha : DE X M F E la fa a f) (hb : DA X M F E lb (b :: es) gs)
    (hbase : attributeBase a "index" X.env (eval a X.env) = eval a X.env := by rfl)
    (hfew : ((backTo pos (starEach (b :: es) X.env)).all (fun x => !x.1) && (backToKw pos (keywordEach [] X.env)).all (fun x => x.1.isSome) && decide ((b :: es).length + ([] : List Keyword).length + (if ([] : List Keyword).isEmpty then 0 else 1) < 30)) = true := by rfl)
    (hline : (p2.endLine == pos.line) = true := by rfl) (hs : starEach (b :: es) X.env = (false, eval b X.env) :: starEach es X.env := by rfl) (hplain : (backTo pos (starEach es X.env)).any (·.1) = false := by rfl) :
    DE X M F E false false (.Call (.Attribute a "index" p2) (b :: es) [] pos) (rMeth oIdx f gs) := by
  obtain ⟨ta, pa, ha⟩ := ha
  obtain ⟨tb, pb, hb⟩ := hb
  refine ⟨_, pe_bmG (ty_tupD (X := X)) PySem.F.plainAttrs_tuple PySem.F.slot_tuple_index PySem.F.type_tuple_index mt_idxT pa pb hbase hfew hline hs hplain, fun σ H ρ er Q w => ?_⟩
  refine ha σ H ρ er _ (we_step w fun d v H1 e1 s1 r1 _ w1 => ?_)
  have er1 := er.same s1
  cases r1 with
  | tup h1 rr =>
    refine ⟨⟨_, _, rfl, h1⟩, hb σ H1 ρ er1 _ (we_stepA (lk' := lb) w1 fun ds vs H2 e2 s2 r2 w2 => ?_)⟩
    have h2 := tupD_keep h1 fun u q nm n => s2 _ u q n
    have rr2 := rr.same s2
    have w2 : WE X M F E false false σ ρ H2 (liftO (oIdx (.tuple _) ds)) Q := w2
    generalize q : oIdx (.tuple _) ds = oo at w2
    cases oo with
    | none => exact w2.elim
    | some z =>
      obtain ⟨ns, z0, j, e3, rfl, e4, rfl⟩ := oIdx_some q
      cases r2 with
      | cons r2 r3 =>
        cases r2
        cases r3
        obtain ⟨g1, g2⟩ := idxZ_some e4
        rw [asInts_eq e3] at rr2
        rw [RpA.of_ints rr2] at h2
        exact ⟨_, ns, _, j, rfl, rfl, h2.sq, g1, g2, w2 _ H2 (Same.refl _) (.int _) fun z => nomatch z⟩
  | bl _ => exact w1.elim
  | non => exact w1.elim
  | int _ => exact w1.elim
  | str _ => exact w1.elim
  | lst _ _ _ => exact w1.elim
  | scr _ _ => exact w1.elim
  | dic _ _ _ _ => exact w1.elim
  | dit _ _ _ _ => exact w1.elim
  | dif _ _ _ => exact w1.elim
  | rng _ => exact w1.elim
  | dct _ _ _ _ => exact w1.elim
theorem de_idxL {es : List Expr} {gs : Rho → Re (List PyData)} {p2 : Pos} (ha : DE X M F E la fa a f) (hb : DA X M F E lb (b :: es) gs)
    (hbase : attributeBase a "index" X.env (eval a X.env) = eval a X.env := by rfl)
    (hfew : ((backTo pos (starEach (b :: es) X.env)).all (fun x => !x.1) && (backToKw pos (keywordEach [] X.env)).all (fun x => x.1.isSome)
      && decide ((b :: es).length + ([] : List Keyword).length + (if ([] : List Keyword).isEmpty then 0 else 1) < 30)) = true := by rfl)
    (hline : (p2.endLine == pos.line) = true := by rfl) (hs : starEach (b :: es) X.env = (false, eval b X.env) :: starEach es X.env := by rfl) (hplain : (backTo pos (starEach es X.env)).any (·.1) = false := by rfl) :
    DE X M F E false false (.Call (.Attribute a "index" p2) (b :: es) [] pos) (rMethL oIdxL f gs) := by
  obtain ⟨ta, pa, ha⟩ := ha
  obtain ⟨tb, pb, hb⟩ := hb
  refine ⟨_, pe_bm PySem.F.plainAttrs_list PySem.F.slot_list_index PySem.F.type_list_index mt_index pa pb hbase hfew hline hs hplain, fun σ H ρ er Q w => ?_⟩
  refine ha σ H ρ er _ (we_step w fun d v H1 e1 s1 r1 _ w1 => ?_)
  have er1 := er.same s1
  cases r1 with
  | lst h1 _ rr =>
    refine ⟨sq_l h1, hb σ H1 ρ er1 _ (we_stepA (lk' := lb) w1 fun ds vs H2 e2 s2 r2 w2 => ?_)⟩
    have h2 := s2 _ _ h1
    have rr2 := rr.same s2
    have w2 : WE X M F E false false σ ρ H2 (liftO (oIdxL (.list _) ds)) Q := w2
    generalize q : oIdxL (.list _) ds = oo at w2
    cases oo with
    | none => exact w2.elim
    | some z =>
      obtain ⟨ns, z0, j, e3, rfl, e4, rfl⟩ := oIdxL_some q
      cases r2 with
      | cons r2 r3 =>
        cases r2
        cases r3
        obtain ⟨g1, g2⟩ := idxZ_some e4
        rw [asInts_eq e3] at rr2
        rw [RpA.of_ints rr2] at h2
        refine ⟨_, _, _, j, _, rfl, rfl, SqL.of h2, rfl, all_flat_ints ns, by rw [List.getElem?_map, g1]; rfl, ?_, fun m z' hm hz' => ?_, w2 _ H2 (Same.refl _) (.int _) fun z => nomatch z⟩
        · show (_ == _) = true
          exact beq_self_eq_true _
        · rw [List.getElem?_map] at hz'
          obtain ⟨y, hy, rfl⟩ := Option.map_eq_some_iff.mp hz'
          show (y == _) = false
          exact beq_eq_false_iff_ne.mpr fun e => g2 m hm (e ▸ hy)
  | bl _ => exact w1.elim
  | non => exact w1.elim
  | int _ => exact w1.elim
  | str _ => exact w1.elim
  | tup _ _ => exact w1.elim
  | scr _ _ => exact w1.elim
  | dic _ _ _ _ => exact w1.elim
  | dit _ _ _ _ => exact w1.elim
  | dif _ _ _ => exact w1.elim
  | rng _ => exact w1.elim
  | dct _ _ _ _ => exact w1.elim

/-! ### chains of comparisons -/
def PCh (X : Cx) (ops : List CmpOp) (rs : List (Sem Value)) (t : V → TE) : Prop := ∀ (pos : Pos) (pins : List (Addr × Obj)) (s : Shared) (σ : L2.St) (H : Hp) (x : V) (v : Value) (Q : VK), Inv X pins σ H s → RelV x v → t x σ H Q →
  wpAny (model X.prog X.w) X.A (compareChain pos v ops rs) (EP X pins σ Q) X.xe s
def PChT (X : Cx) (ops : List CmpOp) (rs : List (Sem Value)) (t : V → TT) : Prop := ∀ (pos : Pos) (pins : List (Addr × Obj)) (s : Shared) (σ : L2.St) (H : Hp) (x : V) (v : Value) (Q : Bool → Hp → Prop), Inv X pins σ H s → RelV x v → t x σ H Q →
  wpAny (model X.prog X.w) X.A (testChain pos v ops rs) (TP X pins σ Q) X.xe s
/-- .. as functions of data -/
def DCh (X : Cx) (M : Nat → Bool) (F : Fx) (E : L2.St → XK) (ops : List CmpOp) (rs : List (Sem Value)) (g : PyData → Rho → Re PyData) : Prop := ∃ t : V → TE, PCh X ops rs t ∧ ∀ σ H ρ x d lk, ER X.K M F σ H ρ → Rp X.K H (RS M F σ ρ lk) x d → ∀ Q, WE X M F E true false σ ρ H (g d ρ) Q → t x σ H Q
def DChT (X : Cx) (M : Nat → Bool) (F : Fx) (E : L2.St → XK) (ops : List CmpOp) (rs : List (Sem Value)) (g : PyData → Rho → Re Bool) : Prop := ∃ t : V → TT, PChT X ops rs t ∧ ∀ σ H ρ x d lk, ER X.K M F σ H ρ → Rp X.K H (RS M F σ ρ lk) x d → ∀ Q, WT X E σ H (g d ρ) Q → t x σ H Q
def cLast (gg : PyData → PyData → Option PyData) (g : Rho → Re PyData) : PyData → Rho → Re PyData := fun d ρ => (g ρ).andThen fun e => liftO (gg d e)
def cLink (gg : PyData → PyData → Option PyData) (g : Rho → Re PyData) (k : PyData → Rho → Re PyData) : PyData → Rho → Re PyData := fun d ρ => (g ρ).andThen fun e => match gg d e with | some (.bool true) => k e ρ | some (.bool false) => .ok (.bool false) | _ => .bad
def asR (d : Option PyData) : Re Bool := match d with | some (.bool b) => .ok b | _ => .bad
def cLastT (gg : PyData → PyData → Option PyData) (g : Rho → Re PyData) : PyData → Rho → Re Bool := fun d ρ => (g ρ).andThen fun e => asR (gg d e)
def cLinkT (gg : PyData → PyData → Option PyData) (g : Rho → Re PyData) (k : PyData → Rho → Re Bool) : PyData → Rho → Re Bool := fun d ρ => (g ρ).andThen fun e => match gg d e with | some (.bool true) => k e ρ | some (.bool false) => .ok false | _ => .bad
variable {op op' : CmpOp} {ops : List CmpOp} {rs : List (Sem Value)} {r : R2} {gg : PyData → PyData → Option PyData}
theorem rp_true {lk : Bool} {σ : L2.St} {ρ : Rho} {H : Hp} {x : V} {d : PyData} (h : Rp X.K H (RS M F σ ρ lk) x d) : Rp X.K H (RS M F σ ρ true) x d := h.wide rs_t
theorem dch_last (ho : OpR X (compareOp op) r) (hg : SemB X.K r false gg) (hb : DE X M F E lb fb b g) : DCh X M F E [op] [eval b X.env] (cLast gg g) := by
  obtain ⟨tb, pb, hb⟩ := hb
  refine ⟨fun x σ H Q => tb σ H fun y H2 => r x y H2 Q, fun pos pins s σ H x v Q I rx h => ?_, fun σ H ρ x d lk er rx Q w => ?_⟩
  · refine chain_last (thn (pb.run pins s σ H _ I h) ?_)
    rintro w' s4 ⟨z', H4, I4, r4, q4⟩
    exact ho pins s4 σ H4 x z' v w' Q I4 rx r4 q4
  · refine hb σ H ρ er _ (we_step (lk' := lb) w fun e v H1 e1 s1 r1 _ w1 => ?_)
    cases q : gg d e with
    | none =>
      rw [q] at w1
      exact w1.elim
    | some z =>
      rw [q] at w1
      exact hg (RS M F σ ρ true) H1 x v d e z Q (er.same s1).freshS ((rp_true rx).same s1) (rp_true r1) q fun v' H' s' r' f' => w1 v' H' s' r' f'
theorem dch_link {g1 : Sem Value} {k : PyData → Rho → Re PyData} (ho : OpR X (compareOp op) r) (hg : SemB X.K r false gg) (hb : DE X M F E lb fb b g) (hk : DCh X M F E (op' :: ops) (g1 :: rs) k) : DCh X M F E (op :: op' :: ops) (eval b X.env :: g1 :: rs) (cLink gg g k) := by
  obtain ⟨tb, pb, hb⟩ := hb
  obtain ⟨tk, pk, hk⟩ := hk
  refine ⟨fun x σ H Q => tb σ H fun y H2 => r x y H2 fun z H3 => ∃ c, z = .bl c ∧ (if c = true then tk y σ H3 Q else Q (.bl false) H3), fun pos pins s σ H x v Q I rx h => ?_, fun σ H ρ x d lk er rx Q w => ?_⟩
  · refine chain_link (thn (pb.run pins s σ H _ I h) ?_)
    rintro w' s4 ⟨z', H4, I4, r4, q4⟩
    refine thn (ho pins s4 σ H4 x z' v w' _ I4 rx r4 q4) ?_
    rintro d' s5 ⟨z2, H5, I5, r5, c, e2, q5⟩
    subst e2
    cases r5
    refine wpAny_truthy_bool ?_
    cases c with
    | true => exact pk pos pins s5 σ H5 z' w' Q I5 r4 q5
    | false => exact ⟨.bl false, H5, I5, rfl, q5⟩
  · refine hb σ H ρ er _ (we_step (lk' := lb) w fun e v H1 e1 s1 r1 _ w1 => ?_)
    have er1 := er.same s1
    have w1 : WE X M F E true false σ ρ H1 (match gg d e with | some (.bool true) => k e ρ | some (.bool false) => .ok (.bool false) | _ => .bad) Q := w1
    split at w1
    · rename_i q
      refine hg (RS M F σ ρ true) H1 x v d e (.bool true) _ er1.freshS ((rp_true rx).same s1) (rp_true r1) q fun v' H' s' r' f' => ?_
      cases r'
      refine ⟨true, rfl, ?_⟩
      refine hk σ H' ρ v e true (er1.same s') ((rp_true r1).same s') Q ?_
      revert w1
      cases k e ρ with
      | ok z => exact fun w1 v2 H2 s2 r2 f2 => w1 v2 H2 (s'.trans s2) r2 fun z => nomatch z
      | ex c => exact fun w1 C H2 m s2 => w1 C H2 m (s'.trans s2)
      | bad => exact fun w1 => w1
    · rename_i q
      refine hg (RS M F σ ρ true) H1 x v d e (.bool false) _ er1.freshS ((rp_true rx).same s1) (rp_true r1) q fun v' H' s' r' f' => ?_
      cases r'
      exact ⟨false, rfl, w1 _ H' s' (.bl false) fun z => nomatch z⟩
    · exact w1.elim
theorem dch_lastT (ho : OpR X (compareOp op) r) (hg : SemB X.K r false gg) (hb : DE X M F E lb fb b g) : DChT X M F E [op] [eval b X.env] (cLastT gg g) := by
  obtain ⟨tb, pb, hb⟩ := hb
  refine ⟨fun x σ H Q => tb σ H fun y H2 => r x y H2 fun z H3 => ∃ c, z = .bl c ∧ Q c H3, fun pos pins s σ H x v Q I rx h => ?_, fun σ H ρ x d lk er rx Q w => ?_⟩
  · refine test_last (thn (pb.run pins s σ H _ I h) ?_)
    rintro w' s4 ⟨z', H4, I4, r4, q4⟩
    refine thn (ho pins s4 σ H4 x z' v w' _ I4 rx r4 q4) ?_
    rintro d' s5 ⟨z2, H5, I5, r5, c, e2, q5⟩
    subst e2
    cases r5
    exact wpAny_truthy_bool ⟨H5, I5, q5⟩
  · refine hb σ H ρ er _ (wt_step (M := M) (F := F) (lk' := lb) w fun e v H1 e1 s1 r1 _ w1 => ?_)
    have w1 : WT X E σ H1 (asR (gg d e)) Q := w1
    unfold asR at w1
    split at w1
    · rename_i bb q
      refine hg (RS M F σ ρ true) H1 x v d e (.bool bb) _ (er.same s1).freshS ((rp_true rx).same s1) (rp_true r1) q fun v' H' s' r' f' => ?_
      cases r'
      exact ⟨bb, rfl, w1 H' s'⟩
    · exact w1.elim
theorem dch_linkT {g1 : Sem Value} {k : PyData → Rho → Re Bool} (ho : OpR X (compareOp op) r) (hg : SemB X.K r false gg) (hb : DE X M F E lb fb b g) (hk : DChT X M F E (op' :: ops) (g1 :: rs) k) : DChT X M F E (op :: op' :: ops) (eval b X.env :: g1 :: rs) (cLinkT gg g k) := by
  obtain ⟨tb, pb, hb⟩ := hb
  obtain ⟨tk, pk, hk⟩ := hk
  refine ⟨fun x σ H Q => tb σ H fun y H2 => r x y H2 fun z H3 => ∃ c, z = .bl c ∧ (if c = true then tk y σ H3 Q else Q false H3), fun pos pins s σ H x v Q I rx h => ?_, fun σ H ρ x d lk er rx Q w => ?_⟩
  · refine test_link (thn (pb.run pins s σ H _ I h) ?_)
    rintro w' s4 ⟨z', H4, I4, r4, q4⟩
    refine thn (ho pins s4 σ H4 x z' v w' _ I4 rx r4 q4) ?_
    rintro d' s5 ⟨z2, H5, I5, r5, c, e2, q5⟩
    subst e2
    cases r5
    refine wpAny_truthy_bool ?_
    cases c with
    | true => exact pk pos pins s5 σ H5 z' w' Q I5 r4 q5
    | false => exact ⟨H5, I5, q5⟩
  · refine hb σ H ρ er _ (wt_step (M := M) (F := F) (lk' := lb) w fun e v H1 e1 s1 r1 _ w1 => ?_)
    have er1 := er.same s1
    have w1 : WT X E σ H1 (match gg d e with | some (.bool true) => k e ρ | some (.bool false) => .ok false | _ => .bad) Q := w1
    split at w1
    · rename_i q
      refine hg (RS M F σ ρ true) H1 x v d e (.bool true) _ er1.freshS ((rp_true rx).same s1) (rp_true r1) q fun v' H' s' r' f' => ?_
      cases r'
      refine ⟨true, rfl, ?_⟩
      refine hk σ H' ρ v e true (er1.same s') ((rp_true r1).same s') Q ?_
      revert w1
      cases k e ρ with
      | ok z => exact fun w1 H2 s2 => w1 H2 (s'.trans s2)
      | ex c => exact fun w1 C H2 m s2 => w1 C H2 m (s'.trans s2)
      | bad => exact fun w1 => w1
    · rename_i q
      refine hg (RS M F σ ρ true) H1 x v d e (.bool false) _ er1.freshS ((rp_true rx).same s1) (rp_true r1) q fun v' H' s' r' f' => ?_
      cases r'
      exact ⟨false, rfl, w1 H' s'⟩
    · exact w1.elim
def rCh (f : Rho → Re PyData) (g : PyData → Rho → Re PyData) : Rho → Re PyData := fun ρ => (f ρ).andThen fun d => g d ρ
def rChT (f : Rho → Re PyData) (g : PyData → Rho → Re Bool) : Rho → Re Bool := fun ρ => (f ρ).andThen fun d => g d ρ
theorem de_chain {c1 c2 : Expr} {cs : List Expr} {h : PyData → Rho → Re PyData} (ha : DE X M F E la fa a f) (hk : DCh X M F E (op :: op' :: ops) (eval c1 X.env :: eval c2 X.env :: evalEach cs X.env) h) (hm : lastMarks (op :: op' :: ops) (c1 :: c2 :: cs) = false := by with_unfolding_all rfl) :
    DE X M F E true false (.Compare a (op :: op' :: ops) (c1 :: c2 :: cs) pos) (rCh f h) := by
  obtain ⟨ta, pa, ha⟩ := ha
  obtain ⟨tk, pk, hk⟩ := hk
  refine ⟨fun σ H Q => ta σ H fun x H1 => tk x σ H1 Q, ⟨fun pins s σ H Q I hw => Compare_chain (thn (pa.run pins s σ H _ I hw) ?_) hm⟩, fun σ H ρ er Q w => ?_⟩
  · rintro v s1 ⟨x, H1, I1, r1, q1⟩
    exact pk _ pins s1 σ H1 x v Q I1 r1 q1
  · exact ha σ H ρ er _ (we_step (lk' := la) w fun d v H1 e1 s1 r1 _ w1 => hk σ H1 ρ v d la (er.same s1) r1 Q w1)
theorem dt_chain {c1 c2 : Expr} {cs : List Expr} {h : PyData → Rho → Re Bool} (ha : DE X M F E la fa a f) (hk : DChT X M F E (op :: op' :: ops) (eval c1 X.env :: eval c2 X.env :: evalEach cs X.env) h) (hm : lastMarks (op :: op' :: ops) (c1 :: c2 :: cs) = false := by with_unfolding_all rfl) :
    DT X M F E (.Compare a (op :: op' :: ops) (c1 :: c2 :: cs) pos) (rChT f h) := by
  obtain ⟨ta, pa, ha⟩ := ha
  obtain ⟨tk, pk, hk⟩ := hk
  refine ⟨fun σ H Q => ta σ H fun x H1 => tk x σ H1 Q, ⟨fun pins s σ H Q I hw => isTrue_chain (thn (pa.run pins s σ H _ I hw) ?_) hm⟩, fun σ H ρ er Q w => ?_⟩
  · rintro v s1 ⟨x, H1, I1, r1, q1⟩
    exact pk _ pins s1 σ H1 x v Q I1 r1 q1
  · exact ha σ H ρ er _ (wt_step (M := M) (F := F) (lk' := la) w fun d v H1 e1 s1 r1 _ w1 => hk σ H1 ρ v d la (er.same s1) r1 Q w1)
end
end Pu

set_option Elab.async false
set_option linter.all false
set_option maxRecDepth 100000
set_option maxHeartbeats 2000000
namespace Pu
open PySem PySem.Spec PyProof.Rows L2
variable [TabL]

section
variable {X : Cx} {M : Nat → Bool} {F : Fx} {E : L2.St → XK} {s u : Rho → Sr} {pos : Pos} {i : Nat} {a : Addr} {b b' : Bool}
/-! ### a suite whose slot i holds the error at a -/
def DSE (X : Cx) (M : Nat → Bool) (F : Fx) (E : L2.St → XK) (i : Nat) (a : Addr) (st : List Stmt) (s : Rho → Sr) : Prop := ∃ t : TS, PSs X st t ∧ ∀ σ H ρ, ER X.K M F σ H ρ → σ[i]? = some (some (.ref a)) → ∀ D, WS X M F E σ H ρ (s ρ) D → t D σ H
theorem dse_of {st : List Stmt} (h : DSs X M F E st s) : DSE X M F E i a st s := by
  obtain ⟨t, p, h⟩ := h
  exact ⟨t, p, fun σ H ρ er _ D w => h σ H ρ er D w⟩
def DEe (X : Cx) (i : Nat) (a : Addr) (e : Expr) (b : Bool) : Prop := ∃ t : TE, PE X e t ∧ ∀ σ H, σ[i]? = some (some (.ref a)) → ∀ Q : VK, Q (.bl b) H → t σ H Q
def DTe (X : Cx) (i : Nat) (a : Addr) (e : Expr) (b : Bool) : Prop := ∃ t : TT, PT X e t ∧ ∀ σ H, σ[i]? = some (some (.ref a)) → ∀ Q : Bool → Hp → Prop, Q b H → t σ H Q
def DWe (X : Cx) (i : Nat) (a : Addr) (e : Expr) (b : Bool) : Prop := ∃ t : TT, PW X e t ∧ ∀ σ H, σ[i]? = some (some (.ref a)) → ∀ Q : Bool → Hp → Prop, Q b H → t σ H Q
theorem DWe.pt {e : Expr} (h : DWe X i a e b) : DTe X i a e b := by
  obtain ⟨t, p, h⟩ := h
  exact ⟨t, p.pt, h⟩
theorem dte_val {e : Expr} (h : DEe X i a e b) (he : ∀ whole, isTrue e X.env whole = (do let v ← whole; standAt e.pos; holding [v] (truthy v)) := by intro _; rfl) : DTe X i a e b := by
  obtain ⟨t, p, h⟩ := h
  exact ⟨_, pt_val p he, fun σ H hs Q q => h σ H hs _ ⟨b, rfl, q⟩⟩
theorem dte_not {c : Expr} (h : DTe X i a c b) : DTe X i a (.UnaryOp .Not c pos) (!b) := by
  obtain ⟨t, p, h⟩ := h
  exact ⟨_, pt_not p, fun σ H hs Q q => h σ H hs _ q⟩
theorem dwe_or1 {c : Expr} (h : DTe X i a c b) : DWe X i a (.BoolOp .Or [c] pos) b := by
  obtain ⟨t, p, h⟩ := h
  exact ⟨t, pw_or1 p, h⟩
theorem dwe_or {c d : Expr} {rest : List Expr} (h : DTe X i a c b) (k : DWe X i a (.BoolOp .Or (d :: rest) pos) b') : DWe X i a (.BoolOp .Or (c :: d :: rest) pos) (b || b') := by
  obtain ⟨t, p, h⟩ := h
  obtain ⟨t', p', k⟩ := k
  refine ⟨_, pw_or p p', fun σ H hs Q q => h σ H hs _ ?_⟩
  cases b with
  | true => exact q
  | false => exact k σ H hs Q q
theorem dwe_and1 {c : Expr} (h : DTe X i a c b) : DWe X i a (.BoolOp .And [c] pos) b := by
  obtain ⟨t, p, h⟩ := h
  exact ⟨t, pw_and1 p, h⟩
theorem dwe_and {c d : Expr} {rest : List Expr} (h : DTe X i a c b) (k : DWe X i a (.BoolOp .And (d :: rest) pos) b') : DWe X i a (.BoolOp .And (c :: d :: rest) pos) (b && b') := by
  obtain ⟨t, p, h⟩ := h
  obtain ⟨t', p', k⟩ := k
  refine ⟨_, pw_and p p', fun σ H hs Q q => h σ H hs _ ?_⟩
  cases b with
  | true => exact k σ H hs Q q
  | false => exact q
theorem dse_if {c : Expr} {x y rest : List Stmt} {s1 s2 : Rho → Sr} (hc : DTe X i a c b) (hx : DSs X M F E x s1) (hy : DSs X M F E y s2) (hr : DSs X M F E rest u) : DSE X M F E i a (.If c x y pos :: rest) (sSeq (if b = true then s1 else s2) u) := by
  obtain ⟨t, pc, hc⟩ := hc
  obtain ⟨t1, p1, h1⟩ := hx
  obtain ⟨t2, p2, h2⟩ := hy
  obtain ⟨t3, p3, h3⟩ := hr
  refine ⟨_, pss_cons (ps_if pc p1 p2) p3, fun σ H ρ er hs D w => ?_⟩
  refine hc σ H hs _ ?_
  have key : ∀ {s' : Rho → Sr} {t' : TS}, (∀ σ H ρ, ER X.K M F σ H ρ → ∀ D, WS X M F E σ H ρ (s' ρ) D → t' D σ H) → WS X M F E σ H ρ (sSeq s' u ρ) D → t' { D with nx := fun σ' H' => t3 D σ' H' } σ H := by
    intro s' t' ht w
    refine ht σ H ρ er _ ?_
    unfold sSeq at w
    cases q : s' ρ with
    | nx ρ' =>
      rw [q] at w
      exact fun σ' H' er' ev => h3 σ' H' ρ' er' D (ws_evo ev w)
    | rt d =>
      rw [q] at w
      exact w
    | bk ρ' =>
      rw [q] at w
      exact w
    | ct ρ' =>
      rw [q] at w
      exact w
    | ex c ρ' =>
      rw [q] at w
      exact w
    | bad =>
      rw [q] at w
      exact w
  cases b with
  | true => exact key h1 w
  | false => exact key h2 w
/-- isinstance(e, C), C an own class -/
theorem dee_own {D Cy : Addr} {oe : Obj} {pn : List (Addr × Obj)} {n y : Str} {p p1 p2 : Pos} (Ex : ExcC X.K D) (hz : Zc (.ref D) none oe) (hf : ∃ vs, oe.data = .fields vs) (hg : Gl X "isinstance") (hm : X.mg "isinstance" = none)
    (hN : X.N[i]? = some n) (hv : Vis X.env.scope n) (hy : Gl X y) (hmy : X.mg y = some (.ref Cy)) (hk : PySem.W.kitOne X.K (.ref D) (.ref Cy) = some b)
    (hdn : (n == ("__debug__" : Str)) = false := by decide) (hcd : (n == ("__classdict__" : Str)) = false := by decide) (hdy : (y == ("__debug__" : Str)) = false := by decide)
    (h1 : starEach [.Name n p1, .Name y p2] X.env = (false, eval (.Name n p1) X.env) :: starEach [.Name y p2] X.env := by rfl) (h2 : starEach [.Name y p2] X.env = (false, eval (.Name y p2) X.env) :: starEach [] X.env := by rfl) (hpl : (backTo pos (starEach [.Name y p2] X.env)).any (·.1) = false := by rfl) :
    DEe (X.suite a ((a, oe) :: pn)) i a (.Call (.Name "isinstance" p) [.Name n p1, .Name y p2] [] pos) b := by
  refine ⟨_, pe_callB (X := X.suite a ((a, oe) :: pn)) (call_isE Ex hz hf) hg hm PyProof.Rows.boot_isinstance (pa_cons (pe_var hN hv hdn hcd) (pa_cons (pe_glob (v := .ref Cy) hy hmy rfl hdy) pa_nil h2) h1) (he := h1) (hpl := hpl), fun σ H hs Q q => ?_⟩
  exact ⟨_, hs, .ref Cy, .ref Cy, b, rfl, fun _ r => r, hk, q⟩
/-- .. a built-in class -/
theorem dee_ty {D : Addr} {T : String} {oe : Obj} {pn : List (Addr × Obj)} {n y : Str} {p p1 p2 : Pos} (Ex : ExcC X.K D) (hz : Zc (.ref D) none oe) (hf : ∃ vs, oe.data = .fields vs) (hg : Gl X "isinstance") (hm : X.mg "isinstance" = none)
    (hN : X.N[i]? = some n) (hv : Vis X.env.scope n) (hy : Gl X y) (hmy : X.mg y = none) (hb : bootBuiltins y = some (.type T)) (hk : PySem.W.kitOne X.K (.ref D) (.type T) = some b)
    (hnT : y ≠ "__name__" := by decide) (hdn : (n == ("__debug__" : Str)) = false := by decide) (hcd : (n == ("__classdict__" : Str)) = false := by decide) (hdy : (y == ("__debug__" : Str)) = false := by decide)
    (h1 : starEach [.Name n p1, .Name y p2] X.env = (false, eval (.Name n p1) X.env) :: starEach [.Name y p2] X.env := by rfl) (h2 : starEach [.Name y p2] X.env = (false, eval (.Name y p2) X.env) :: starEach [] X.env := by rfl) (hpl : (backTo pos (starEach [.Name y p2] X.env)).any (·.1) = false := by rfl) :
    DEe (X.suite a ((a, oe) :: pn)) i a (.Call (.Name "isinstance" p) [.Name n p1, .Name y p2] [] pos) b := by
  refine ⟨_, pe_callB (X := X.suite a ((a, oe) :: pn)) (call_isE Ex hz hf) hg hm PyProof.Rows.boot_isinstance (pa_cons (pe_var hN hv hdn hcd) (pa_cons (pe_bltn (v := .ty T) hy hmy hb rfl hnT hdy) pa_nil h2) h1) (he := h1) (hpl := hpl), fun σ H hs Q q => ?_⟩
  exact ⟨_, hs, .ty T, .type T, b, rfl, fun _ r => r, hk, q⟩

/-- try: body; except c as n: suite -/
def sTryAs (c : Str) (i : Nat) (s u : Rho → Sr) : Rho → Sr := fun ρ => match s ρ with
  | .ex c' ρ' => if c' = c ∧ i < ρ'.length then (match u (ρ'.set i none) with
    | .nx ρ2 => .nx (ρ2.set i none)
    | .bk ρ2 => .bk (ρ2.set i none)
    | .ct ρ2 => .ct (ρ2.set i none)
    | .rt d => .rt d
    | .ex _ _ => .bad
    | .bad => .bad) else .bad
  | r => r
def canSE (X : Cx) (M : Nat → Bool) (E : L2.St → XK) (i : Nat) (a : Addr) (s : Rho → Sr) : TS := fun D σ H => ∃ (F : Fx) (ρ : Rho), ER X.K M F σ H ρ ∧ σ[i]? = some (some (.ref a)) ∧ WS X M F E σ H ρ (s ρ) D
theorem canSE_ok {st : List Stmt} (h : ∀ F, DSE X M F E i a st s) : PSs X st (canSE X M E i a s) := ⟨fun pins sh σ H D I ⟨F, ρ, er, hs, w⟩ => by
  obtain ⟨t, pt, h⟩ := h F
  exact pt.run pins sh σ H D I (h σ H ρ er hs D w)⟩

theorem ER.blot {σ : L2.St} {ρ : Rho} {H : Hp} (e : ER X.K M F σ H ρ) {i : Nat} (m : M i = false) (w : Option V) : ER X.K M F (σ.set i w) H (ρ.set i none) ∧ Evo M σ H ρ (σ.set i w) H (ρ.set i none) := by
  have own : ∀ a, OwnA M (σ.set i w) (ρ.set i none) a ↔ OwnA M σ ρ a := fun a => by
    constructor
    · rintro ⟨j, x, mj, r, s⟩
      have hj : i ≠ j := fun z => by
        subst z
        rw [m] at mj
        cases mj
      rw [List.getElem?_set_ne hj] at r s
      exact ⟨j, x, mj, r, s⟩
    · rintro ⟨j, x, mj, r, s⟩
      have hj : i ≠ j := fun z => by
        subst z
        rw [m] at mj
        cases mj
      exact ⟨j, x, mj, by rw [List.getElem?_set_ne hj]; exact r, by rw [List.getElem?_set_ne hj]; exact s⟩
  have rs : ∀ lk, RS M F (σ.set i w) (ρ.set i none) lk = RS M F σ ρ lk := fun lk => by
    funext a
    unfold RS
    rw [propext (own a)]
  have back : ∀ {j : Nat} {d : PyData}, (ρ.set i none)[j]? = some (some d) → i ≠ j ∧ ρ[j]? = some (some d) := fun {j d} q => by
    have hj : i ≠ j := fun z => by
      subst z
      have hi := getSome q
      rw [List.length_set] at hi
      rw [List.getElem?_set_self hi] at q
      cases q
    rw [List.getElem?_set_ne hj] at q
    exact ⟨hj, q⟩
  refine ⟨⟨by rw [List.length_set, List.length_set]; exact e.len, e.old, e.new, e.tab, fun j d q mj => ?_, fun j d q mj => ?_, fun j k d e' p mj mk q1 q2 s1 s2 => ?_⟩, fun a u q n _ => ⟨q, fun o => n ((own a).mp o)⟩⟩
  · obtain ⟨hj, q⟩ := back q
    obtain ⟨v, s, r⟩ := e.im j d q mj
    rw [rs]
    exact ⟨v, by rw [List.getElem?_set_ne hj]; exact s, r⟩
  · obtain ⟨hj, q⟩ := back q
    obtain ⟨p, s, z, w⟩ := e.ow j d q mj
    rw [rs]
    exact ⟨p, by rw [List.getElem?_set_ne hj]; exact s, z, w⟩
  · obtain ⟨hj, q1⟩ := back q1
    obtain ⟨hk, q2⟩ := back q2
    rw [List.getElem?_set_ne hj] at s1
    rw [List.getElem?_set_ne hk] at s2
    exact e.ap j k d e' p mj mk q1 q2 s1 s2
theorem ds_tryAs {c n : Str} {C : Addr} {i : Nat} {body suite : List Stmt} {b0 : Stmt} {np pos' : Pos} {k : Nat} (G : Gd X E k) (Ec : ErrC X.K X.mg c C) (hn : Gl X c ∧ (c == ("__debug__" : Str)) = false)
    (mi : M i = false) (hN : X.N.Nodup)
    (hb : ∀ (W : WX) (pn : List (Addr × Obj)) (xe : Value → Shared → Prop), Gd (X.tr pn xe) (fun σ cls d H => W cls d σ H) k → ∀ F, DSs (X.tr pn xe) M F (fun σ cls d H => W cls d σ H) body s)
    (hs : ∀ (a : Addr) (oe : Obj) (pn : List (Addr × Obj)) (F : Fx), Zc (.ref C) none oe → (∃ vs, oe.data = .fields vs) → DSE (X.suite a ((a, oe) :: pn)) M F E0s i a (b0 :: suite) u)
    (hi : X.N[i]? = some n := by rfl) (hln : X.env.kindOf n = some .local := by rfl) :
    DS X M F E (.Try body [.ExceptHandler (some (.Name c np)) (some n) (b0 :: suite) pos'] [] [] pos) (sTryAs c i s u) := by
  refine ⟨_, ps_try_as (tb := fun W => canS X M (fun σ cls d H => W cls d σ H) s) (ts := fun a cls d D σ H => (cls = .ref C ∧ d = none) ∧ canSE X M E0s i a u D σ H) G.stk G.frm hN hi hln ⟨hn.1, hn.2, .inl Ec.gC⟩ G.tk
    (fun W pn xe tk po => canS_ok (hb W pn xe ⟨G.room, fun σ => passAt tk σ, tk, po, G.stk, G.frm⟩)) (fun a oe cls d pn hz hf => ⟨fun pins sh σ H D I ⟨⟨e1, e2⟩, q⟩ => ?_⟩), fun σ H ρ er D w => ?_⟩
  · subst e1 e2
    exact (canSE_ok (fun F => hs a oe pn F hz hf)).run pins sh σ H D I q
  refine ⟨F, ρ, er, ?_⟩
  unfold sTryAs at w
  cases q : s ρ with
  | ex c' ρ' =>
    rw [q] at w
    have w2 : WS X M F E σ H ρ (if c' = c ∧ i < ρ'.length then (match u (ρ'.set i none) with
      | .nx ρ2 => .nx (ρ2.set i none)
      | .bk ρ2 => .bk (ρ2.set i none)
      | .ct ρ2 => .ct (ρ2.set i none)
      | .rt d => .rt d
      | .ex _ _ => .bad
      | .bad => .bad) else .bad) D := w
    clear w
    by_cases hc : c' = c ∧ i < ρ'.length
    · obtain ⟨hc, hl2⟩ := hc
      rw [if_pos ⟨hc, hl2⟩] at w2
      rw [hc]
      refine fun C' σ' H' m er' ev => ⟨true, ?_, fun _ a ha => ?_, fun z => nomatch z⟩
      · rw [Ec.gC] at m
        cases m
        exact Ec.eP
      · rw [Ec.gC] at m
        cases m
        obtain ⟨er2, ev2⟩ := er'.blot mi (some (.ref a))
        refine ⟨⟨rfl, rfl⟩, F, ρ'.set i none, er2, List.getElem?_set_self (by rw [← er'.len]; exact hl2), ?_⟩
        have w1 := ws_evo (ev.trans ev2) w2
        revert w1
        generalize u (ρ'.set i none) = r
        intro w1
        cases r with
        | ex c2 ρ2 => exact w1.elim
        | nx ρ2 => exact fun σ4 H4 er4 ev4 => w1 _ _ (er4.blot mi none).1 (ev4.trans (er4.blot mi none).2)
        | rt d => exact w1
        | bk ρ2 => exact fun σ4 H4 er4 ev4 => w1 _ _ (er4.blot mi none).1 (ev4.trans (er4.blot mi none).2)
        | ct ρ2 => exact fun σ4 H4 er4 ev4 => w1 _ _ (er4.blot mi none).1 (ev4.trans (er4.blot mi none).2)
        | bad => exact w1.elim
    · rw [if_neg hc] at w2
      exact w2.elim
  | nx ρ' =>
    rw [q] at w
    exact w
  | rt d =>
    rw [q] at w
    exact w
  | bk ρ' =>
    rw [q] at w
    exact w
  | ct ρ' =>
    rw [q] at w
    exact w
  | bad =>
    rw [q] at w
    exact w
end
end Pu

set_option Elab.async false
set_option linter.all false
set_option maxRecDepth 100000
set_option maxHeartbeats 2000000
namespace Pu
open PySem PySem.Spec PyProof.Rows L2
variable [TabL]
def rB (gg : List PyData → Option PyData) (gs : Rho → Re (List PyData)) : Rho → Re PyData := fun ρ => (gs ρ).andThen fun ds => liftO (gg ds)
def rIsi (T : String) (f : Rho → Re PyData) : Rho → Re PyData := fun ρ => (f ρ).andThen fun d => liftO ((isD d T).map PyData.bool)
def iR1 (gs : Rho → Re (List PyData)) : Rho → Re (List PyData) := fun ρ => (gs ρ).andThen rg1
def iR2 (gs : Rho → Re (List PyData)) : Rho → Re (List PyData) := fun ρ => (gs ρ).andThen rg2
def sErr (c : Str) : Rho → Sr := fun ρ => .ex c ρ
def sRetN : Rho → Sr := fun _ => .rt .none
def sBrk : Rho → Sr := fun ρ => .bk ρ
def sCnt : Rho → Sr := fun ρ => .ct ρ
theorem ru {k : Nat} {A : Around} (r : Room k A) : A.units + 64 < cLine := by
  have := r.un
  omega
section
variable {X : Cx} {M : Nat → Bool} {F : Fx} {E : L2.St → XK} {la fa fr : Bool} {a b : Expr} {pos : Pos} {f : Rho → Re PyData}
theorem db {id : String} {r : List V → Hp → VK → Prop} {gg : List PyData → Option PyData} {x : Str} {es : List Expr} {gs : Rho → Re (List PyData)} {p : Pos} (hc : CallR X (.builtin id) r) (hS : SemL X.K r fr gg) (hm : X.mg x = none) (hv : bootBuiltins x = some (.builtin id))
    (ha : DA X M F E la (a :: es) gs) (hg : Gl X x := by rfl) (hn : x ≠ "__name__" := by decide) (hdb : (x == ("__debug__" : Str)) = false := by decide)
    (he : starEach (a :: es) X.env = (false, eval a X.env) :: starEach es X.env := by rfl) (hpl : (backTo pos (starEach es X.env)).any (·.1) = false := by rfl) : DE X M F E la fr (.Call (.Name x p) (a :: es) [] pos) (rB gg gs) := de_callB hc hS hg hm hv ha hn hdb he hpl
theorem dt {id : String} {r : List V → Hp → VK → Prop} {gg : List PyData → Option PyData} {x : Str} {es : List Expr} {gs : Rho → Re (List PyData)} {p : Pos} (hc : CallR X (.type id) r) (hS : SemL X.K r fr gg) (hm : X.mg x = none) (hv : bootBuiltins x = some (.type id))
    (ha : DA X M F E la (a :: es) gs) (hg : Gl X x := by rfl) (hn : x ≠ "__name__" := by decide) (hdb : (x == ("__debug__" : Str)) = false := by decide)
    (he : starEach (a :: es) X.env = (false, eval a X.env) :: starEach es X.env := by rfl) (hpl : (backTo pos (starEach es X.env)).any (·.1) = false := by rfl) : DE X M F E la fr (.Call (.Name x p) (a :: es) [] pos) (rB gg gs) := de_callTy hc hS hg hm hv ha hn hdb he hpl
end
end Pu

set_option Elab.async false
set_option linter.all false
set_option maxRecDepth 100000
set_option maxHeartbeats 2000000
/-! reckoning with the readings -/
namespace Pu
open PySem PySem.Spec PyProof.Rows L2
variable [TabL]
section
variable {α β : Type} {ρ : Rho}
@[simp] theorem re_ok (a : α) (g : α → Re β) : (Re.ok a).andThen g = g a := (rfl)
@[simp] theorem re_ex (c : Str) (g : α → Re β) : (Re.ex c : Re α).andThen g = .ex c := (rfl)
@[simp] theorem re_bad (g : α → Re β) : (Re.bad : Re α).andThen g = .bad := (rfl)
@[simp] theorem st_ok (d : PyData) (k : PyData → Sr) : (Re.ok d).st ρ k = k d := (rfl)
@[simp] theorem st_ex (c : Str) (k : PyData → Sr) : (Re.ex c).st ρ k = .ex c ρ := (rfl)
@[simp] theorem st_bad (k : PyData → Sr) : (Re.bad).st ρ k = .bad := (rfl)
@[simp] theorem stT_ok (d : Bool) (k : Bool → Sr) : (Re.ok d).stT ρ k = k d := (rfl)
@[simp] theorem stT_ex (c : Str) (k : Bool → Sr) : (Re.ex c).stT ρ k = .ex c ρ := (rfl)
@[simp] theorem stT_bad (k : Bool → Sr) : (Re.bad).stT ρ k = .bad := (rfl)
@[simp] theorem stL_ok (d : List PyData) (k : List PyData → Sr) : (Re.ok d).stL ρ k = k d := (rfl)
@[simp] theorem stL_ex (c : Str) (k : List PyData → Sr) : (Re.ex c).stL ρ k = .ex c ρ := (rfl)
@[simp] theorem stL_bad (k : List PyData → Sr) : (Re.bad).stL ρ k = .bad := (rfl)
@[simp] theorem lift_some (a : α) : liftO (some a) = Re.ok a := (rfl)
@[simp] theorem lift_none : liftO (none : Option α) = Re.bad := (rfl)
def vOf : Option (Option PyData) → Re PyData
  | some (some d) => .ok d
  | _ => .bad
@[simp] theorem vOf_some (d : PyData) : vOf (some (some d)) = .ok d := (rfl)
@[simp] theorem ap_var (i : Nat) : rVar i ρ = vOf ρ[i]? := by
  unfold rVar vOf
  rfl
@[simp] theorem ap_c (d : PyData) : rC d ρ = .ok d := (rfl)
@[simp] theorem ap_2 (g : PyData → PyData → Option PyData) (f h : Rho → Re PyData) : r2 g f h ρ = (f ρ).andThen fun x => (h ρ).andThen fun y => liftO (g x y) := (rfl)
@[simp] theorem ap_1 (g : PyData → Option PyData) (f : Rho → Re PyData) : r1 g f ρ = (f ρ).andThen fun x => liftO (g x) := (rfl)
def bOf : PyData → Re Bool
  | .bool b => .ok b
  | _ => .bad
@[simp] theorem bOf_bool (b : Bool) : bOf (.bool b) = .ok b := (rfl)
@[simp] theorem ap_asB (f : Rho → Re PyData) : asB f ρ = (f ρ).andThen bOf := by
  unfold asB
  congr 1
@[simp] theorem ap_tAnd (f g : Rho → Re Bool) : tAndR f g ρ = (f ρ).andThen fun c => if c = true then g ρ else .ok false := (rfl)
@[simp] theorem ap_tOr (f g : Rho → Re Bool) : tOrR f g ρ = (f ρ).andThen fun c => if c = true then .ok true else g ρ := (rfl)
@[simp] theorem ap_tNot (f : Rho → Re Bool) : tNotR f ρ = (f ρ).andThen fun c => .ok (!c) := (rfl)
@[simp] theorem ap_if (p : Rho → Re Bool) (f g : Rho → Re PyData) : rIf p f g ρ = (p ρ).andThen fun c => if c = true then f ρ else g ρ := (rfl)
def andB (d : PyData) (r : Re PyData) : Re PyData := match d with | .bool true => r | .bool false => .ok (.bool false) | _ => .bad
def orB (d : PyData) (r : Re PyData) : Re PyData := match d with | .bool false => r | .bool true => .ok (.bool true) | _ => .bad
@[simp] theorem andB_b (b : Bool) (r : Re PyData) : andB (.bool b) r = if b = true then r else .ok (.bool false) := by cases b <;> rfl
@[simp] theorem orB_b (b : Bool) (r : Re PyData) : orB (.bool b) r = if b = true then .ok (.bool true) else r := by cases b <;> rfl
@[simp] theorem ap_and (f g : Rho → Re PyData) : rAnd f g ρ = (f ρ).andThen fun d => andB d (g ρ) := (rfl)
@[simp] theorem ap_or (f g : Rho → Re PyData) : rOr f g ρ = (f ρ).andThen fun d => orB d (g ρ) := (rfl)
def notB : PyData → Re PyData
  | .bool b => .ok (.bool (!b))
  | _ => .bad
@[simp] theorem notB_b (b : Bool) : notB (.bool b) = .ok (.bool (!b)) := (rfl)
@[simp] theorem ap_not (f : Rho → Re PyData) : rNot f ρ = (f ρ).andThen notB := by
  unfold rNot
  congr 1
@[simp] theorem ap_nil : aNil ρ = .ok [] := (rfl)
@[simp] theorem ap_cons (f : Rho → Re PyData) (g : Rho → Re (List PyData)) : aCons f g ρ = (f ρ).andThen fun d => (g ρ).andThen fun ds => .ok (d :: ds) := (rfl)
@[simp] theorem ap_tup (g : Rho → Re (List PyData)) : rTup g ρ = (g ρ).andThen mkT := (rfl)
@[simp] theorem ap_lst (g : Rho → Re (List PyData)) : rLst g ρ = (g ρ).andThen mkL := (rfl)
@[simp] theorem ap_call (ff : List PyData → Re PyData) (g : Rho → Re (List PyData)) : rCall ff g ρ = (g ρ).andThen ff := (rfl)
@[simp] theorem ap_B (gg : List PyData → Option PyData) (g : Rho → Re (List PyData)) : rB gg g ρ = (g ρ).andThen fun ds => liftO (gg ds) := (rfl)
@[simp] theorem ap_iR1 (g : Rho → Re (List PyData)) : iR1 g ρ = (g ρ).andThen rg1 := (rfl)
@[simp] theorem ap_iR2 (g : Rho → Re (List PyData)) : iR2 g ρ = (g ρ).andThen rg2 := (rfl)
@[simp] theorem ap_iOf (h : PyData → Re (List PyData)) (f : Rho → Re PyData) : iOf h f ρ = (f ρ).andThen h := (rfl)
@[simp] theorem ap_cut (f : Rho → Re PyData) (lo hi : Rho → Re (Option Int)) : rCut f lo hi ρ = (f ρ).andThen fun d => (lo ρ).andThen fun l => (hi ρ).andThen fun h => oCut d l h := (rfl)
@[simp] theorem ap_noI : noI ρ = .ok none := (rfl)
def iV : PyData → Re (Option Int)
  | .int i => .ok (some i)
  | _ => .bad
@[simp] theorem iV_int (i : Int) : iV (.int i) = .ok (some i) := (rfl)
@[simp] theorem ap_asI (f : Rho → Re PyData) : asI f ρ = (f ρ).andThen iV := by
  unfold asI
  congr 1
def tupRg : PyData → PyData → Option PyData := fun d e => match d, e with | .int i, .int j => if rgOk i j = true then some (.tuple (upFrom i (j - i).toNat)) else none | _, _ => none
@[simp] theorem ap_tupRg (f g : Rho → Re PyData) : rTupRg f g ρ = (f ρ).andThen fun x => (g ρ).andThen fun y => liftO (tupRg x y) := (rfl)
@[simp] theorem ap_yes : yesR ρ = .ok true := (rfl)
@[simp] theorem ap_sNil : sNil ρ = .nx ρ := (rfl)
def sqS (r : Sr) (u : Rho → Sr) : Sr := match r with | .nx ρ' => u ρ' | r => r
@[simp] theorem sqS_nx (ρ' : Rho) (u : Rho → Sr) : sqS (.nx ρ') u = u ρ' := (rfl)
@[simp] theorem sqS_rt (d : PyData) (u : Rho → Sr) : sqS (.rt d) u = .rt d := (rfl)
@[simp] theorem sqS_bk (ρ' : Rho) (u : Rho → Sr) : sqS (.bk ρ') u = .bk ρ' := (rfl)
@[simp] theorem sqS_ct (ρ' : Rho) (u : Rho → Sr) : sqS (.ct ρ') u = .ct ρ' := (rfl)
@[simp] theorem sqS_ex (c : Str) (ρ' : Rho) (u : Rho → Sr) : sqS (.ex c ρ') u = .ex c ρ' := (rfl)
@[simp] theorem sqS_bad (u : Rho → Sr) : sqS .bad u = .bad := (rfl)
@[simp] theorem ap_sSeq (s u : Rho → Sr) : sSeq s u ρ = sqS (s ρ) u := by
  unfold sSeq sqS
  rfl
@[simp] theorem sqS_ite (c : Prop) [Decidable c] (a b : Sr) (u : Rho → Sr) : sqS (if c then a else b) u = if c then sqS a u else sqS b u := by
  by_cases h : c
  · rw [if_pos h, if_pos h]
  · rw [if_neg h, if_neg h]
@[simp] theorem ap_sIf (p : Rho → Re Bool) (s u : Rho → Sr) : sIf p s u ρ = (p ρ).stT ρ fun b => if b = true then s ρ else u ρ := (rfl)
@[simp] theorem ap_sRet (f : Rho → Re PyData) : sRet f ρ = (f ρ).st ρ fun d => .rt d := (rfl)
@[simp] theorem ap_sDrop (f : Rho → Re PyData) : sDrop f ρ = (f ρ).st ρ fun _ => .nx ρ := (rfl)
@[simp] theorem ap_sSet (i : Nat) (f : Rho → Re PyData) : sSet i false f ρ = (f ρ).st ρ fun d => .nx (ρ.set i (some d)) := by
  unfold sSet
  congr 1
@[simp] theorem ap_sSetO (i : Nat) (f : Rho → Re PyData) : sSetO i false f ρ = (f ρ).st ρ fun d => if i < ρ.length then .nx (ρ.set i (some d)) else .bad := by
  unfold sSetO
  congr 1
  funext d
  simp
@[simp] theorem ap_sErr (c : Str) : sErr c ρ = .ex c ρ := (rfl)
@[simp] theorem ap_sRetN : sRetN ρ = .rt .none := (rfl)
@[simp] theorem ap_sBrk : sBrk ρ = .bk ρ := (rfl)
@[simp] theorem ap_sCnt : sCnt ρ = .ct ρ := (rfl)
@[simp] theorem ap_sFor (it : Rho → Re (List PyData)) (g : PyData → Rho → Option Rho) (b : Rho → Sr) : sFor it g b ρ = (it ρ).stL ρ fun ds => sLoop g b ds ρ := (rfl)
/-- the end of a def -/
def outR : Sr → Re PyData
  | .nx _ => .ok .none
  | .rt d => .ok d
  | .ex c _ => .ex c
  | _ => .bad
@[simp] theorem outR_nx : outR (.nx ρ) = .ok .none := (rfl)
@[simp] theorem outR_rt (d : PyData) : outR (.rt d) = .ok d := (rfl)
@[simp] theorem outR_ex (c : Str) : outR (.ex c ρ) = .ex c := (rfl)
@[simp] theorem outR_ite (c : Prop) [Decidable c] (a b : Sr) : outR (if c then a else b) = if c then outR a else outR b := by
  by_cases h : c
  · rw [if_pos h, if_pos h]
  · rw [if_neg h, if_neg h]
theorem run_eq {n m : Nat} {s : Rho → Sr} {ds : List PyData} (h : ds.length = n) : runF n m s ds = outR (s (ds.map some ++ List.replicate (m - n) none)) := by
  unfold runF outR
  exact (if_pos h).trans (by rfl)
theorem run1 {m : Nat} {s : Rho → Sr} {a : PyData} : runF 1 m s [a] = outR (s (some a :: List.replicate (m - 1) none)) := run_eq rfl
theorem run2 {m : Nat} {s : Rho → Sr} {a b : PyData} : runF 2 m s [a, b] = outR (s (some a :: some b :: List.replicate (m - 2) none)) := run_eq rfl
theorem run3 {m : Nat} {s : Rho → Sr} {a b c : PyData} : runF 3 m s [a, b, c] = outR (s (some a :: some b :: some c :: List.replicate (m - 3) none)) := run_eq rfl
/-! operators -/
variable {i j : Int}
@[simp] theorem oSub_i : oSub (.int i) (.int j) = some (.int (i - j)) := (rfl)
@[simp] theorem oAdd_i : oAdd (.int i) (.int j) = some (.int (i + j)) := (rfl)
@[simp] theorem oLt_i : oLt (.int i) (.int j) = some (.bool (decide (i < j))) := (rfl)
@[simp] theorem oLe_i : oLe (.int i) (.int j) = some (.bool (decide (i ≤ j))) := (rfl)
@[simp] theorem oGt_i : oGt (.int i) (.int j) = some (.bool (decide (j < i))) := (rfl)
@[simp] theorem oGe_i : oGe (.int i) (.int j) = some (.bool (decide (j ≤ i))) := (rfl)
@[simp] theorem oNeg_i : oNeg (.int i) = some (.int (-i)) := (rfl)
theorem oMul_r (h : j.natAbs < 2 ^ 63) : oMul (.int i) (.int j) = some (.int (i * j)) := by
  show (if mulOk i j = true then some (PyData.int (i * j)) else none) = _
  rw [if_pos]
  unfold mulOk
  rw [decide_eq_true h]
  rfl
theorem oMul_l (h : i.natAbs < 2 ^ 63) : oMul (.int i) (.int j) = some (.int (i * j)) := by
  show (if mulOk i j = true then some (PyData.int (i * j)) else none) = _
  rw [if_pos]
  unfold mulOk
  rw [decide_eq_true h]
  simp
theorem oDiv_p (h : 0 < j) (h2 : j < 2 ^ 240) : oDiv (.int i) (.int j) = some (.int (i / j)) := by
  show (if divOk j = true then some (PyData.int (i / j)) else none) = _
  rw [if_pos]
  unfold divOk
  rw [decide_eq_true h, decide_eq_true h2]
  rfl
theorem oMod_p (h : 0 < j) : oMod (.int i) (.int j) = some (.int (i % j)) := by
  show (if 0 < j then some (PyData.int (i % j)) else none) = _
  rw [if_pos h]
theorem shaped_i : SeqAt.shaped (.int i) = true := rfl
theorem shaped_b {b : Bool} : SeqAt.shaped (.bool b) = true := rfl
@[simp] theorem oEq_i : oEq (.int i) (.int j) = some (.bool (decide (i = j))) := by
  unfold oEq
  rw [if_pos ⟨rfl, rfl⟩]
  unfold PyData.eqv
  rfl
@[simp] theorem oNe_i : oNe (.int i) (.int j) = some (.bool (decide (i ≠ j))) := by
  unfold oNe
  rw [if_pos ⟨rfl, rfl⟩]
  unfold PyData.eqv
  rw [show (i == j) = decide (i = j) from rfl]
  simp
@[simp] theorem oEq_b {a b : Bool} : oEq (.bool a) (.bool b) = some (.bool (a == b)) := by
  unfold oEq
  rw [if_pos ⟨rfl, rfl⟩]
  unfold PyData.eqv
  rfl
@[simp] theorem oNe_b {a b : Bool} : oNe (.bool a) (.bool b) = some (.bool (a != b)) := by
  unfold oNe
  rw [if_pos ⟨rfl, rfl⟩]
  unfold PyData.eqv
  rfl
@[simp] theorem bInt_i : bInt [.int i] = some (.int i) := (rfl)
@[simp] theorem bInt_b {b : Bool} : bInt [.bool b] = some (.int (if b = true then 1 else 0)) := by cases b <;> rfl
/-! rows of numbers as data -/
def tI (ns : List Int) : PyData := .tuple (ns.map PyData.int)
def lI (ns : List Int) : PyData := .list (ns.map PyData.int)
theorem eqvAll_i : ∀ a b : List Int, PyData.eqvAll (a.map PyData.int) (b.map PyData.int) = decide (a = b)
  | [], [] => by
    unfold PyData.eqvAll
    rfl
  | [], _ :: _ => by
    simp [PyData.eqvAll]
  | _ :: _, [] => by
    simp [PyData.eqvAll]
  | x :: a, y :: b => by
    rw [List.map_cons, List.map_cons]
    unfold PyData.eqvAll
    rw [eqvAll_i a b]
    unfold PyData.eqv
    rw [show (x == y) = decide (x = y) from rfl]
    simp
theorem canLay_i : ∀ a : List Int, PyData.canLayAll0 (a.map PyData.int) = true
  | [] => by
    unfold PyData.canLayAll0
    rfl
  | x :: a => by
    rw [List.map_cons]
    unfold PyData.canLayAll0
    rw [canLay_i a]
    rfl
theorem shaped_t (a : List Int) : SeqAt.shaped (tI a) = true := by
  have h1 : PyData.canLay0 (tI a) = true := by
    unfold tI
    unfold PyData.canLay0
    exact canLay_i a
  have h2 : (tI a).depth ≤ 64 := by
    unfold tI
    unfold PyData.depth
    have := depth_ints a
    omega
  unfold SeqAt.shaped
  rw [h1, decide_eq_true h2]
  rfl
theorem shaped_l (a : List Int) : SeqAt.shaped (lI a) = true := by
  have h1 : PyData.canLay0 (lI a) = true := by
    unfold lI
    unfold PyData.canLay0
    exact canLay_i a
  have h2 : (lI a).depth ≤ 64 := by
    unfold lI
    unfold PyData.depth
    have := depth_ints a
    omega
  unfold SeqAt.shaped
  rw [h1, decide_eq_true h2]
  rfl
@[simp] theorem oEq_t {a b : List Int} : oEq (tI a) (tI b) = some (.bool (decide (a = b))) := by
  unfold oEq
  rw [if_pos ⟨shaped_t a, shaped_t b⟩]
  unfold tI PyData.eqv
  rw [eqvAll_i]
@[simp] theorem oNe_t {a b : List Int} : oNe (tI a) (tI b) = some (.bool (decide (a ≠ b))) := by
  unfold oNe
  rw [if_pos ⟨shaped_t a, shaped_t b⟩]
  unfold tI PyData.eqv
  rw [eqvAll_i]
  simp
@[simp] theorem oEq_l {a b : List Int} : oEq (lI a) (lI b) = some (.bool (decide (a = b))) := by
  unfold oEq
  rw [if_pos ⟨shaped_l a, shaped_l b⟩]
  unfold lI PyData.eqv
  rw [eqvAll_i]
@[simp] theorem oNe_l {a b : List Int} : oNe (lI a) (lI b) = some (.bool (decide (a ≠ b))) := by
  unfold oNe
  rw [if_pos ⟨shaped_l a, shaped_l b⟩]
  unfold lI PyData.eqv
  rw [eqvAll_i]
  simp
@[simp] theorem bLen_t {a : List Int} : bLen [tI a] = some (.int a.length) := by simp [bLen, tI]
@[simp] theorem bLen_l {a : List Int} : bLen [lI a] = some (.int a.length) := by simp [bLen, lI]
@[simp] theorem bLen_s {a : List Int} : bLen [scrD a] = some (.int a.length) := by simp [bLen, scrD]
@[simp] theorem bSorted_t {a : List Int} : bSorted [tI a] = some (lI (srtZ a)) := by
  show (asInts (a.map PyData.int)).map _ = _
  rw [asInts_map]
  rfl
@[simp] theorem bSorted_l {a : List Int} : bSorted [lI a] = some (lI (srtZ a)) := by
  show (asInts (a.map PyData.int)).map _ = _
  rw [asInts_map]
  rfl
@[simp] theorem bTuple_t {a : List Int} : bTuple [tI a] = some (tI a) := (rfl)
@[simp] theorem bTuple_l {a : List Int} : bTuple [lI a] = some (tI a) := (rfl)
theorem oAdd_t {a b : List Int} (h : a.length + b.length ≤ 10000) : oAdd (tI a) (tI b) = some (tI (a ++ b)) := by
  show (if okLen ((a.map PyData.int).length + (b.map PyData.int).length) = true then some (PyData.tuple (a.map PyData.int ++ b.map PyData.int)) else none) = _
  rw [if_pos (by rw [List.length_map, List.length_map]; exact decide_eq_true h), ← List.map_append]
  rfl
/-- x[i] of numbers -/
def atZ (ns : List Int) (i : Int) : Option Int := (ixN ns.length i).bind fun j => ns[j]?
theorem atD_i (ns : List Int) (i : Int) : atD (ns.map PyData.int) i = (atZ ns i).map PyData.int := by
  unfold atD atZ
  rw [List.length_map]
  cases ixN ns.length i with
  | none => rfl
  | some j => simp
@[simp] theorem oIx_t {ns : List Int} : oIx (tI ns) (.int i) = (atZ ns i).map PyData.int := atD_i ns i
@[simp] theorem oIx_l {ns : List Int} : oIx (lI ns) (.int i) = (atZ ns i).map PyData.int := atD_i ns i
@[simp] theorem oIx_s {ns : List Int} : oIx (scrD ns) (.int i) = (atZ ns i).map PyData.int := atD_i ns i
theorem atZ_nat {ns : List Int} {k : Nat} (h : k < ns.length) : atZ ns (k : Int) = ns[k]? := by
  unfold atZ ixN
  rw [if_pos (Int.natCast_nonneg k), if_pos (by omega)]
  rfl
theorem atZ_p {ns : List Int} {i : Int} (h0 : 0 ≤ i) (h : i < ns.length) : ∃ x, atZ ns i = some x ∧ ns[i.toNat]? = some x := by
  unfold atZ ixN
  rw [if_pos h0, if_pos h]
  have : i.toNat < ns.length := by omega
  exact ⟨ns[i.toNat], List.getElem?_eq_getElem this, List.getElem?_eq_getElem this⟩
theorem mkT_i {ns : List Int} (h : ns.length ≤ 10000) : mkT (ns.map PyData.int) = .ok (tI ns) := by
  unfold mkT
  rw [if_pos (by rw [List.length_map]; exact decide_eq_true h)]
  rfl
theorem mkL_i {ns : List Int} (h : ns.length ≤ 10000) : mkL (ns.map PyData.int) = .ok (lI ns) := by
  unfold mkL
  rw [if_pos (by rw [List.length_map]; exact decide_eq_true h)]
  rfl
/-- a, a + 1, .. -/
def upI (a : Int) (n : Nat) : List Int := (List.range n).map fun (k : Nat) => a + (k : Int)
theorem upI_length (a : Int) (n : Nat) : (upI a n).length = n := by simp [upI]
theorem upFrom_i (a : Int) (n : Nat) : upFrom a n = (upI a n).map PyData.int := by
  unfold upFrom upI
  rw [List.map_map]
  rfl
theorem tupRg_i (h : rgOk i j = true) : tupRg (.int i) (.int j) = some (tI (upI i (j - i).toNat)) := by
  show (if rgOk i j = true then some (PyData.tuple (upFrom i (j - i).toNat)) else none) = _
  rw [if_pos h, upFrom_i]
  rfl
theorem rg1_n {n : Nat} (h : n < 2 ^ 62) : rg1 [.int (n : Int)] = .ok ((upI 0 n).map PyData.int) := by
  show (if small62 (n : Int) = true then Re.ok (upFrom 0 (n : Int).toNat) else .bad) = _
  rw [if_pos, upFrom_i]
  · rfl
  · unfold small62
    rw [decide_eq_true (by omega), decide_eq_true (by omega)]
    rfl
@[simp] theorem itS_t {ns : List Int} : itS (tI ns) = .ok (ns.map PyData.int) := (rfl)
@[simp] theorem itS_l {ns : List Int} : itS (lI ns) = .ok (ns.map PyData.int) := (rfl)
/-- [e(k) for k in numbers], e(k) a number -/
theorem lc_i {its : Rho → Re (List PyData)} {v : Nat} {f : Rho → Re PyData} {ns : List Int} {h : Int → Int} (hi : its ρ = .ok (ns.map PyData.int)) (hl : ns.length ≤ 10000) (hf : ∀ k ∈ ns, f ((ρ.set v none).set v (some (.int k))) = .ok (.int (h k))) :
    rLc its [v] (gSlot v) yesR f ρ = .ok (lI (ns.map h)) := by
  unfold rLc
  rw [hi, re_ok, if_pos (by rw [List.length_map]; exact decide_eq_true hl)]
  have key : ∀ ms : List Int, (∀ k ∈ ms, k ∈ ns) → lcGo (gSlot v) yesR f (ρ.set v none) (ms.map PyData.int) = some ((ms.map h).map PyData.int) := by
    intro ms
    induction ms with
    | nil => intro _; rfl
    | cons k ms ih =>
      intro hk
      have e := hf k (hk k List.mem_cons_self)
      show (match f ((ρ.set v none).set v (some (.int k))) with | .ok x => (match lcGo (gSlot v) yesR f (ρ.set v none) (ms.map PyData.int) with | some xs => some (x :: xs) | none => none) | _ => none) = _
      rw [e, ih fun k' hk' => hk k' (List.mem_cons_of_mem _ hk')]
      rfl
  show (match lcGo (gSlot v) yesR f (ρ.set v none) (ns.map PyData.int) with | some xs => Re.ok (PyData.list xs) | none => .bad) = _
  rw [key ns fun _ h => h]
  rfl
/-- a loop with an invariant: Inv k ρ ahead of the k-th turn -/
theorem loop_inv {g : PyData → Rho → Option Rho} {body : Rho → Sr} (I : Nat → Rho → Prop) : ∀ (ds : List PyData) (k0 : Nat) (ρ : Rho), I k0 ρ → (∀ k d ρ, ds[k]? = some d → I (k0 + k) ρ → ∃ ρ1, g d ρ = some ρ1 ∧ ∃ ρ2, body ρ1 = .nx ρ2 ∧ I (k0 + k + 1) ρ2) → ∃ ρ', sLoop g body ds ρ = .nx ρ' ∧ I (k0 + ds.length) ρ'
  | [], k0, ρ, h, _ => ⟨ρ, rfl, h⟩
  | d :: ds, k0, ρ, h, st => by
    obtain ⟨ρ1, e1, ρ2, e2, h2⟩ := st 0 d ρ rfl h
    obtain ⟨ρ', e3, h3⟩ := loop_inv I ds (k0 + 1) ρ2 h2 fun k d' ρ'' hk hI => by
      have := st (k + 1) d' ρ'' (by simpa using hk) (by rw [show k0 + (k + 1) = k0 + 1 + k by omega]; exact hI)
      rw [show k0 + (k + 1) + 1 = k0 + 1 + k + 1 by omega] at this
      exact this
    refine ⟨ρ', ?_, ?_⟩
    · unfold sLoop
      rw [e1]
      show (match body ρ1 with | .nx ρ2 => sLoop g body ds ρ2 | .ct ρ2 => sLoop g body ds ρ2 | .bk ρ2 => .nx ρ2 | .rt d => .rt d | .ex c ρ2 => .ex c ρ2 | .bad => .bad) = _
      rw [e2]
      exact e3
    · rw [List.length_cons, show k0 + (ds.length + 1) = k0 + 1 + ds.length by omega]
      exact h3
/-! own lists -/
def lOf : Option (Option PyData) → Option (List PyData)
  | some (some (.list ds)) => some ds
  | _ => none
@[simp] theorem lOf_l {ns : List Int} : lOf (some (some (lI ns))) = some (ns.map PyData.int) := (rfl)
@[simp] theorem lOf_d {ds : List PyData} : lOf (some (some (.list ds))) = some ds := (rfl)
theorem getL_eq (i : Nat) : getL ρ i = lOf ρ[i]? := by
  unfold getL lOf
  rfl
def appR (ρ : Rho) (i : Nat) : Option (List PyData) → Re PyData → Sr
  | some ds, r => r.st ρ fun d => if okLen (ds.length + 1) = true then .nx (ρ.set i (some (.list (ds ++ [d])))) else .bad
  | none, _ => .bad
@[simp] theorem ap_sApp (i : Nat) (f : Rho → Re PyData) : sApp i false f ρ = appR ρ i (lOf ρ[i]?) (f ρ) := by
  unfold sApp appR
  rw [getL_eq]
  cases lOf ρ[i]? with
  | none => rfl
  | some ds =>
    show (f ρ).st ρ _ = (f ρ).st ρ _
    congr 1
    funext d
    simp
theorem snoc_i (ns : List Int) (x : Int) : PyData.list (ns.map PyData.int ++ [.int x]) = lI (ns ++ [x]) := by
  unfold lI
  rw [List.map_append]
  rfl
theorem appR_i {i : Nat} {ns : List Int} {x : Int} (h : ns.length < 10000) : appR ρ i (some (ns.map PyData.int)) (.ok (.int x)) = .nx (ρ.set i (some (lI (ns ++ [x])))) := by
  show (if okLen ((ns.map PyData.int).length + 1) = true then Sr.nx (ρ.set i (some (PyData.list (ns.map PyData.int ++ [.int x])))) else .bad) = _
  rw [if_pos (by rw [List.length_map]; exact decide_eq_true h), snoc_i]
theorem ixN_p {n : Nat} {i : Int} (h : 0 ≤ i) (h2 : i < n) : ixN n i = some i.toNat := by
  unfold ixN
  rw [if_pos h, if_pos h2]
theorem erase_map {f : α → β} : ∀ (l : List α) (i : Nat), (l.map f).eraseIdx i = (l.eraseIdx i).map f
  | [], _ => rfl
  | _ :: _, 0 => rfl
  | x :: l, i + 1 => by
    rw [List.map_cons, List.eraseIdx_cons_succ, List.eraseIdx_cons_succ, List.map_cons, erase_map l i]
theorem appPop_i {i j : Nat} {f : Rho → Re PyData} {ns ms : List Int} {x z : Int} (hij : i ≠ j) (hi : ρ[i]? = some (some (lI ns))) (hj : ρ[j]? = some (some (lI ms))) (hf : f ρ = .ok (.int z)) (h0 : 0 ≤ z) (hz : z < ms.length) (hx : ms[z.toNat]? = some x) (h1 : ns.length < 10000) (h2 : ms.length ≤ 10000) :
    sAppPop i j f ρ = .nx ((ρ.set j (some (lI (ms.eraseIdx z.toNat)))).set i (some (lI (ns ++ [x])))) := by
  have e1 : getL ρ i = some (ns.map PyData.int) := by rw [getL_eq, hi]; rfl
  have e2 : getL ρ j = some (ms.map PyData.int) := by rw [getL_eq, hj]; rfl
  have e3 : popAt ρ j (.int z) = some (.int x, (ms.map PyData.int).eraseIdx z.toNat) := by
    unfold popAt
    rw [e2]
    show (if okLen (ms.map PyData.int).length = true then (match ixN (ms.map PyData.int).length z with
      | some k => (match (ms.map PyData.int)[k]? with | some y => some (y, (ms.map PyData.int).eraseIdx k) | none => none)
      | none => none) else none) = _
    rw [if_pos (by rw [List.length_map]; exact decide_eq_true h2), List.length_map, ixN_p h0 hz]
    show (match (ms.map PyData.int)[z.toNat]? with | some y => some (y, (ms.map PyData.int).eraseIdx z.toNat) | none => none) = _
    rw [List.getElem?_map, hx]
    rfl
  unfold sAppPop
  rw [e1, e2, hf]
  show (match popAt ρ j (.int z) with
    | some (y, es') => if okLen ((ns.map PyData.int).length + 1) = true ∧ i ≠ j then Sr.nx ((ρ.set j (some (PyData.list es'))).set i (some (PyData.list (ns.map PyData.int ++ [y])))) else .bad
    | none => .bad) = _
  rw [e3]
  show (if okLen ((ns.map PyData.int).length + 1) = true ∧ i ≠ j then Sr.nx ((ρ.set j (some (PyData.list ((ms.map PyData.int).eraseIdx z.toNat)))).set i (some (PyData.list (ns.map PyData.int ++ [.int x])))) else .bad) = _
  rw [if_pos ⟨by rw [List.length_map]; exact decide_eq_true h1, hij⟩, snoc_i]
  rw [erase_map]
  rfl
/-! tries -/
@[simp] theorem try_rt {c : Str} {s u : Rho → Sr} {d : PyData} (h : s ρ = .rt d) : sTry c s u ρ = .rt d := by
  unfold sTry
  rw [h]
theorem try_nx {c : Str} {s u : Rho → Sr} {ρ' : Rho} (h : s ρ = .nx ρ') : sTry c s u ρ = .nx ρ' := by
  unfold sTry
  rw [h]
def nox : Sr → Sr
  | .ex _ _ => .bad
  | r => r
@[simp] theorem nox_nx (ρ' : Rho) : nox (.nx ρ') = .nx ρ' := (rfl)
@[simp] theorem nox_rt (d : PyData) : nox (.rt d) = .rt d := (rfl)
theorem try_ex {c : Str} {s u : Rho → Sr} {ρ' : Rho} (h : s ρ = .ex c ρ') : sTry c s u ρ = nox (u ρ') := by
  unfold sTry
  rw [h]
  show (if c = c then (match u ρ' with | .ex _ _ => Sr.bad | r => r) else .bad) = _
  rw [if_pos rfl]
  unfold nox
  rfl
theorem tryAs_rt {c : Str} {i : Nat} {s u : Rho → Sr} {d : PyData} (h : s ρ = .rt d) : sTryAs c i s u ρ = .rt d := by
  unfold sTryAs
  rw [h]
theorem tryAs_nx {c : Str} {i : Nat} {s u : Rho → Sr} {ρ' : Rho} (h : s ρ = .nx ρ') : sTryAs c i s u ρ = .nx ρ' := by
  unfold sTryAs
  rw [h]
theorem tryAs_ex_rt {c : Str} {i : Nat} {s u : Rho → Sr} {ρ' : Rho} {d : PyData} (h : s ρ = .ex c ρ') (hi : i < ρ'.length) (hu : u (ρ'.set i none) = .rt d) : sTryAs c i s u ρ = .rt d := by
  unfold sTryAs
  rw [h]
  show (if c = c ∧ i < ρ'.length then _ else _) = _
  rw [if_pos ⟨rfl, hi⟩, hu]
theorem tryAs_ex_nx {c : Str} {i : Nat} {s u : Rho → Sr} {ρ' ρ2 : Rho} (h : s ρ = .ex c ρ') (hi : i < ρ'.length) (hu : u (ρ'.set i none) = .nx ρ2) : sTryAs c i s u ρ = .nx (ρ2.set i none) := by
  unfold sTryAs
  rw [h]
  show (if c = c ∧ i < ρ'.length then _ else _) = _
  rw [if_pos ⟨rfl, hi⟩, hu]
/-! steps -/
theorem go {s u : Rho → Sr} {ρ' : Rho} {R : Re PyData} (h : s ρ = .nx ρ') (k : outR (u ρ') = R) : outR (sSeq s u ρ) = R := by
  rw [ap_sSeq, h, sqS_nx]
  exact k
theorem go_rt {s u : Rho → Sr} {d : PyData} (h : s ρ = .rt d) : outR (sSeq s u ρ) = .ok d := by
  rw [ap_sSeq, h, sqS_rt]
  rfl
theorem go_ex {s u : Rho → Sr} {ρ' : Rho} {c : Str} (h : s ρ = .ex c ρ') : outR (sSeq s u ρ) = .ex c := by
  rw [ap_sSeq, h, sqS_ex]
  rfl
def mtT (o : PyData → List PyData → Option PyData) (d : PyData) (r : Re (List PyData)) : Re PyData := match d with | .tuple _ => r.andThen fun es => liftO (o d es) | _ => .bad
@[simp] theorem ap_meth (o : PyData → List PyData → Option PyData) (f : Rho → Re PyData) (g : Rho → Re (List PyData)) : rMeth o f g ρ = (f ρ).andThen fun d => mtT o d (g ρ) := by
  unfold rMeth
  congr 1
@[simp] theorem mtT_t (o : PyData → List PyData → Option PyData) {ns : List Int} {r : Re (List PyData)} : mtT o (tI ns) r = r.andThen fun es => liftO (o (tI ns) es) := (rfl)
theorem oIdx_i {ns : List Int} {z : Int} : oIdx (tI ns) [.int z] = (idxZ z ns).map fun (j : Nat) => PyData.int (j : Int) := by
  show ((asInts (ns.map PyData.int)).bind fun ns => (idxZ z ns).map fun (j : Nat) => PyData.int (j : Int)) = _
  rw [asInts_map]
  rfl
theorem idxZ_mem {z : Int} : ∀ {ns : List Int}, z ∈ ns → ∃ j, idxZ z ns = some j
  | n :: ns, h => by
    unfold idxZ
    by_cases e : n = z
    · rw [if_pos e]
      exact ⟨_, rfl⟩
    · rw [if_neg e]
      obtain ⟨j, hj⟩ := idxZ_mem ((List.mem_cons.mp h).resolve_left fun q => e q.symm)
      rw [hj]
      exact ⟨_, rfl⟩
@[simp] theorem mkT1 {a : Int} : mkT [.int a] = .ok (tI [a]) := mkT_i (ns := [a]) (by simp)
@[simp] theorem mkT2 {a b : Int} : mkT [.int a, .int b] = .ok (tI [a, b]) := mkT_i (ns := [a, b]) (by simp)
@[simp] theorem mkT3 {a b c : Int} : mkT [.int a, .int b, .int c] = .ok (tI [a, b, c]) := mkT_i (ns := [a, b, c]) (by simp)
@[simp] theorem mkT0 : mkT [] = .ok (tI []) := mkT_i (ns := []) (by simp)
@[simp] theorem mkL0 : mkL [] = .ok (lI []) := mkL_i (ns := []) (by simp)
@[simp] theorem mkL1 {a : Int} : mkL [.int a] = .ok (lI [a]) := mkL_i (ns := [a]) (by simp)
@[simp] theorem mkL2 {a b : Int} : mkL [.int a, .int b] = .ok (lI [a, b]) := mkL_i (ns := [a, b]) (by simp)
@[simp] theorem mkL3 {a b c : Int} : mkL [.int a, .int b, .int c] = .ok (lI [a, b, c]) := mkL_i (ns := [a, b, c]) (by simp)
@[simp] theorem mkL4 {a b c d : Int} : mkL [.int a, .int b, .int c, .int d] = .ok (lI [a, b, c, d]) := mkL_i (ns := [a, b, c, d]) (by simp)
@[simp] theorem mkL5 {a b c d e : Int} : mkL [.int a, .int b, .int c, .int d, .int e] = .ok (lI [a, b, c, d, e]) := mkL_i (ns := [a, b, c, d, e]) (by simp)
@[simp] theorem mkL6 {a b c d e f : Int} : mkL [.int a, .int b, .int c, .int d, .int e, .int f] = .ok (lI [a, b, c, d, e, f]) := mkL_i (ns := [a, b, c, d, e, f]) (by simp)
@[simp] theorem mkL7 {a b c d e f g : Int} : mkL [.int a, .int b, .int c, .int d, .int e, .int f, .int g] = .ok (lI [a, b, c, d, e, f, g]) := mkL_i (ns := [a, b, c, d, e, f, g]) (by simp)
@[simp] theorem mkL8 {a b c d e f g h : Int} : mkL [.int a, .int b, .int c, .int d, .int e, .int f, .int g, .int h] = .ok (lI [a, b, c, d, e, f, g, h]) := mkL_i (ns := [a, b, c, d, e, f, g, h]) (by simp)
/-- cuts of numbers -/
def cutZ (ns : List Int) (lo hi : Option Int) : List Int := (ns.drop (HT.sIx ns.length 0 lo)).take (HT.sIx ns.length ns.length hi - HT.sIx ns.length 0 lo)
@[simp] theorem oCut_t {ns : List Int} {lo hi : Option Int} : oCut (tI ns) lo hi = .ok (tI (cutZ ns lo hi)) := by
  show Re.ok (PyData.tuple (cutD (ns.map PyData.int) lo hi)) = _
  unfold cutD cutZ tI
  rw [List.length_map, List.map_take, List.map_drop]
@[simp] theorem oCut_l {ns : List Int} {lo hi : Option Int} : oCut (lI ns) lo hi = .ok (lI (cutZ ns lo hi)) := by
  show Re.ok (PyData.list (cutD (ns.map PyData.int) lo hi)) = _
  unfold cutD cutZ lI
  rw [List.length_map, List.map_take, List.map_drop]
theorem cutZ_to {ns : List Int} {k : Nat} (h : k ≤ ns.length) : cutZ ns none (some (k : Int)) = ns.take k := by
  unfold cutZ
  rw [HT.sIx_none, HT.sIx_nat]
  simp [Nat.min_eq_left h]
theorem cutZ_from {ns : List Int} {k : Nat} : cutZ ns (some (k : Int)) none = ns.drop k := by
  unfold cutZ
  rw [HT.sIx_none, HT.sIx_nat]
  by_cases h : k ≤ ns.length
  · rw [Nat.min_eq_left h, ← List.length_drop, List.take_length]
  · rw [Nat.min_eq_right (by omega), List.drop_length, List.take_nil, List.drop_eq_nil_of_le (by omega)]
theorem erase_perm : ∀ (l : List α) (i : Nat) (h : i < l.length), (l[i] :: l.eraseIdx i).Perm l
  | x :: l, 0, _ => .refl _
  | x :: l, i + 1, h => by
    have h' : i < l.length := by simpa using h
    rw [List.eraseIdx_cons_succ, List.getElem_cons_succ]
    exact (List.Perm.swap _ _ _).trans ((erase_perm l i h').cons x)
theorem up_succ (n : Nat) : (upI 0 n).map (· + 1) = upI 1 n := by
  unfold upI
  rw [List.map_map]
  refine List.map_congr_left fun k _ => ?_
  simp
  omega
end
end Pu

set_option Elab.async false
set_option linter.all false
set_option maxRecDepth 100000
set_option maxHeartbeats 2000000
/-! t[::-1] of a tuple -/
namespace HT
open PySem PySem.Spec PyProof.Rows
theorem rev_adjust (n : Nat) : Builtin.Slice.sliceAdjust none none (-1) (n : Int) = ((n : Int) - 1, -1) := by
  unfold Builtin.Slice.sliceAdjust
  simp
theorem rev_places (n : Nat) : Builtin.Slice.slicePlaces ((n : Int) - 1) (-1) (-1) = n := by
  unfold Builtin.Slice.slicePlaces
  simp
  split
  · omega
  · omega
theorem rev_pick (l : List Value) : ((List.range l.length).filterMap fun (m : Nat) => l.toArray[((l.length : Int) - 1 + (m : Int) * (-1)).toNat]?).toArray = l.reverse.toArray := by
  congr 1
  have e : ∀ k, k ≤ l.length → (List.range k).filterMap (fun (m : Nat) => l.toArray[((l.length : Int) - 1 + (m : Int) * (-1)).toNat]?) = l.reverse.take k := by
    intro k
    induction k with
    | zero => intro _; rfl
    | succ k ih =>
      intro hk
      rw [List.range_succ, List.filterMap_append, ih (by omega)]
      have h1 : ((l.length : Int) - 1 + (k : Int) * (-1)).toNat = l.length - 1 - k := by omega
      have h2 : l.toArray[((l.length : Int) - 1 + (k : Int) * (-1)).toNat]? = some l[l.length - 1 - k] := by
        rw [h1, List.getElem?_toArray, List.getElem?_eq_getElem (by omega)]
      have h3 : l.reverse[k]? = some l[l.length - 1 - k] := by
        rw [List.getElem?_reverse (by omega), List.getElem?_eq_getElem (by omega)]
      rw [List.take_add_one, h3]
      congr 1
      rw [List.filterMap_cons, h2]
      rfl
  rw [e _ (Nat.le_refl _)]
  rw [← List.length_reverse, List.take_length]
section
variable {prog : Program} {w : World} {A : Around} {E : Value → Shared → Prop} {s : Shared}
theorem rev_applied {sl : Addr} {n : Nat} {tk : Tok} {Q : Int × Int × Nat → Shared → Prop} (hs : s.heap.IsSliceOf sl .none .none (.int (-1) tk)) (h : Q ((n : Int) - 1, -1, n) s) :
    wpAny (model prog w) A (Builtin.Slice.sliceApplied (.ref sl) (pure (n : Int))) Q E s := by
  obtain ⟨ob, ho, hc, hd⟩ := id hs
  unfold Builtin.Slice.sliceApplied Builtin.Slice.sliceFields
  refine wpAny_bind (wpAny_bind (wpAny_field ho hd (x := .none) rfl (wpAny_bind (wpAny_field ho hd (x := .none) rfl (wpAny_bind (wpAny_field ho hd (x := .int (-1) tk) rfl (wpAny_pure ?_)))))))
  refine wpAny_bind (slicePart_int ?_)
  show wpAny _ _ (if ((-1 : Int) == 0) = true then _ else _) _ _ s
  rw [if_neg (by decide)]
  refine wpAny_bind (slicePart_none (wpAny_bind (slicePart_none (wpAny_bind (wpAny_pure ?_)))))
  show wpAny _ _ (match Builtin.Slice.sliceAdjust none none (-1) (n : Int) with | (lo, hi) => pure (lo, (-1 : Int), Builtin.Slice.slicePlaces lo hi (-1))) _ _ s
  rw [rev_adjust n]
  show wpAny _ _ (pure ((n : Int) - 1, (-1 : Int), Builtin.Slice.slicePlaces ((n : Int) - 1) (-1) (-1))) _ _ s
  rw [rev_places]
  exact wpAny_pure h
theorem rev_getItem {t sl : Addr} {its : List Value} {tk : Tok} {Q : Value → Shared → Prop} (ht : IsTup s.heap t its.toArray) (hs : s.heap.IsSliceOf sl .none .none (.int (-1) tk))
    (h : Q (.ref s.heap.objs.size) { s with heap := s.heap.push { cls := .type "tuple", data := .seq its.reverse.toArray } }) (hz : its.length ≤ sizeLine) : wpAny (model prog w) A (getItem (.ref t) (.ref sl)) Q E s := by
  have hok : sizeOk (.seq its.reverse.toArray) := by
    show its.reverse.toArray.size ≤ sizeLine
    rw [List.size_toArray, List.length_reverse]
    exact hz
  obtain ⟨ob, ho, hc, hd⟩ := id hs
  have ty : s.TypeIs (.ref sl) "slice" := ⟨ob, ho, hc⟩
  unfold getItem
  try with_reducible refine wpAny_holding ?_
  first | refine wpAny_bind (wpAny_pure ?_) | skip
  refine wpAny_bind (wpAny_sequenceKey ht.typeIs (by decide) ?_)
  refine wpAny_bind (wpAny_callSpecial?_slot (name := Str.ofString "__getitem__") ht.typeIs PyProof.Rows.slot_tuple_getitem (wpAny_call_entry PyProof.Rows.slot_tuple_getitem ht.typeIs entry_tuple_getitem ?_ (args_tuple_getitem _ _)))
  show wpAny _ _ (Builtin.Tuple.tupleItemsOf (.ref t) >>= _) _ _ s
  refine wpAny_bind (tupleItemsOf_ ht (wpAny_bind (wpAny_typeOf ty ?_)))
  rw [if_pos (by decide)]
  refine wpAny_bind ?_
  rw [List.size_toArray]
  refine rev_applied hs ?_
  have hno : ¬ ((((its.length : Int) - 1 == 0) && ((-1 : Int) == 1) && (its.length == its.toArray.size)) = true) := by simp
  show wpAny _ _ (if (((its.length : Int) - 1 == 0) && ((-1 : Int) == 1) && (its.length == its.toArray.size)) = true then _ else _) _ _ s
  rw [if_neg hno, rev_pick]
  first
    | exact wpAny_bind (m := Builtin.Tuple.tupleExact _) (wpAny_newObj_type (wpAny_pure ⟨_, rfl, wpAny_pure h⟩) hok)
    | exact wpAny_bind (m := Builtin.Tuple.tupleExact _) (wpAny_newObj_type (wpAny_bind (wpAny_pure (wpAny_pure ⟨_, rfl, wpAny_pure h⟩))) hok)
    | exact wpAny_bind (wpAny_bind (m := Builtin.Tuple.tupleExact _) (wpAny_newObj_type (wpAny_pure (wpAny_pure ⟨_, rfl, wpAny_pure h⟩)) hok))
    | exact wpAny_bind (wpAny_bind (m := Builtin.Tuple.tupleExact _) (wpAny_newObj_type (wpAny_pure ⟨_, rfl, wpAny_pure h⟩) hok))
end
end HT
namespace Pu
open PySem PySem.Spec PyProof.Rows L2
variable [TabL]
section
variable {X : Cx} {M : Nat → Bool} {F : Fx} {E : L2.St → XK} {la fa lb fb : Bool} {a b : Expr} {pos : Pos} {f g : Rho → Re PyData}
def tRev (K : PySem.W.Frag) (te ts : TE) : TE := fun σ H Q => te σ H fun x H1 => ts σ H1 fun y H2 => ∃ p xs, x = .ref p ∧ y = .int (-1) ∧ SqT K H2 p xs ∧ NewT Q H2 xs.reverse
theorem vals_rev : ∀ {xs : List V} {us : List Value}, Vals xs us → Vals xs.reverse us.reverse
  | _, _, .nil => .nil
  | _, _, .cons h r => by
    rw [List.reverse_cons, List.reverse_cons]
    exact (vals_rev r).append (.cons h .nil)
theorem pe_rev {te ts : TE} {p2 : Pos} (he : PE X a te) (hs : PE X b ts) : PE X (.Subscript a (.Slice none none (some b) p2) pos) (tRev X.K te ts) := by
  refine ⟨fun pins s σ H Q I h => ?_⟩
  refine Subscript_ (thn (he.run pins s σ H _ I h) fun v s1 ⟨x, H1, I1, r1, q1⟩ => ?_)
  refine wpAny_Slice ?_
  rw [evalPart_none]
  refine wpAny_pure (wpAny_pure ?_)
  rw [evalPart_some]
  refine thn (hs.run pins s1 σ H1 _ I1 q1) fun vu s3 ⟨y, H3, I3, ry, q3⟩ => ?_
  obtain ⟨p, xs, rfl, rfl, hq, q⟩ := q3
  cases r1
  obtain ⟨tk, rfl⟩ := ry
  have I4 : Inv X pins σ H3 { s3 with heap := s3.heap.push { cls := .type "slice", data := .fields #[.none, .none, .int (-1) tk] } } := I3.kept (t' := s3.toks) fun b ob q => Heap.get?_push_of_some _ q
  obtain ⟨its, r, ht, hz⟩ := I4.tuple hq
  show wpAny (model X.prog X.w) X.A (subscriptTail a (.Slice none none (some b) p2) (.ref p) (.ref s3.heap.objs.size)) (EP X pins σ Q) X.xe _
  refine tail_any (ops := [.ref p, .ref s3.heap.objs.size]) ht.typeIs PyProof.Rows.slot_tuple_getitem.lookup ?_ (by with_unfolding_all rfl)
  refine HT.rev_getItem ht (Heap.IsSliceOf.new ..) ?_ (by rw [← r.length]; exact hz)
  exact Inv.tupNew (tk := s3.toks) I4 (vals_rev r) (by rw [List.length_reverse]; exact hz) q
def oRev : PyData → PyData → Option PyData := fun d e => match d, e with | .tuple ds, .int i => if i = -1 then some (.tuple ds.reverse) else none | _, _ => none
theorem rpA_rev {K : PySem.W.Frag} {H : Hp} {S : Addr → Prop} : ∀ {vs : List V} {ds : List PyData}, RpA K H S vs ds → RpA K H S vs.reverse ds.reverse
  | _, _, .nil => .nil
  | _, _, .cons h r => by
    rw [List.reverse_cons, List.reverse_cons]
    exact (rpA_rev r).append (.cons h .nil)
theorem de_rev {p2 : Pos} (ha : DE X M F E la fa a f) (hb : DE X M F E lb fb b g) : DE X M F E (la || lb) false (.Subscript a (.Slice none none (some b) p2) pos) (r2 oRev f g) := by
  obtain ⟨ta, pa, ha⟩ := ha
  obtain ⟨tb, pb, hb⟩ := hb
  refine ⟨_, pe_rev pa pb, fun σ H ρ er Q z => ?_⟩
  refine ha σ H ρ er _ (we_step z fun d v H1 e1 s1 r1 _ z1 => ?_)
  refine hb σ H1 ρ (er.same s1) _ (we_step (lk' := lb) (fr' := fb) z1 fun e u H2 e2 s2 r2 _ z2 => ?_)
  have r1' := r1.same s2
  cases r1' with
  | tup h1 rr =>
    cases r2 with
    | int i =>
      have z2 : WE X M F E (la || lb) false σ ρ H2 (liftO (if i = -1 then some (.tuple _) else none)) Q := z2
      by_cases hi : i = -1
      · rw [if_pos hi] at z2
        subst hi
        refine ⟨_, _, rfl, rfl, h1.sq, fun p o hp hd => z2 _ _ (same_new hp) ?_ fun z => nomatch z⟩
        exact .tup (.inl ⟨o, upd_same, hd⟩) ((rpA_rev (rr.same (same_new hp))).wide fun a h => rs_or1 a h)
      · rw [if_neg hi] at z2
        exact z2.elim
    | bl _ => exact z2.elim
    | non => exact z2.elim
    | str _ => exact z2.elim
    | tup _ _ => exact z2.elim
    | lst _ _ _ => exact z2.elim
    | scr _ _ => exact z2.elim
    | dic _ _ _ _ => exact z2.elim
    | dit _ _ _ _ => exact z2.elim
    | dif _ _ _ => exact z2.elim
    | rng _ => exact z2.elim
    | dct _ _ _ _ => exact z2.elim
  | bl _ => exact z2.elim
  | non => exact z2.elim
  | int _ => exact z2.elim
  | str _ => exact z2.elim
  | lst _ _ _ => exact z2.elim
  | scr _ _ => exact z2.elim
  | dic _ _ _ _ => exact z2.elim
  | dit _ _ _ _ => exact z2.elim
  | dif _ _ _ => exact z2.elim
  | rng _ => exact z2.elim
  | dct _ _ _ _ => exact z2.elim
@[simp] theorem oRev_t {ns : List Int} : oRev (tI ns) (.int (-1)) = some (tI ns.reverse) := by
  show some (PyData.tuple (ns.map PyData.int).reverse) = _
  rw [← List.map_reverse]
  rfl
end
end Pu

set_option Elab.async false
set_option linter.all false
set_option maxRecDepth 100000
set_option maxHeartbeats 2000000
namespace Pu
open PySem PySem.Spec PyProof.Rows L2
variable [TabL]
section
variable {α β : Type} {ρ : Rho} {i j : Int}
def lnkT : Option PyData → Re Bool → Re Bool
  | some (.bool true), r => r
  | some (.bool false), _ => .ok false
  | _, _ => .bad
@[simp] theorem lnkT_b (b : Bool) (r : Re Bool) : lnkT (some (.bool b)) r = if b = true then r else .ok false := by cases b <;> rfl
@[simp] theorem asR_b (b : Bool) : asR (some (.bool b)) = .ok b := (rfl)
@[simp] theorem ap_chT (f : Rho → Re PyData) (g : PyData → Rho → Re Bool) : rChT f g ρ = (f ρ).andThen fun d => g d ρ := (rfl)
@[simp] theorem ap_linkT (gg : PyData → PyData → Option PyData) (g : Rho → Re PyData) (k : PyData → Rho → Re Bool) (d : PyData) : cLinkT gg g k d ρ = (g ρ).andThen fun e => lnkT (gg d e) (k e ρ) := by
  unfold cLinkT
  congr 1
  funext e
  rcases gg d e with _ | v
  · rfl
  · cases v with
    | bool b => cases b <;> rfl
    | _ => rfl
@[simp] theorem ap_lastT (gg : PyData → PyData → Option PyData) (g : Rho → Re PyData) (d : PyData) : cLastT gg g d ρ = (g ρ).andThen fun e => asR (gg d e) := (rfl)
@[simp] theorem ap_ch (f : Rho → Re PyData) (g : PyData → Rho → Re PyData) : rCh f g ρ = (f ρ).andThen fun d => g d ρ := (rfl)
@[simp] theorem ap_last (gg : PyData → PyData → Option PyData) (g : Rho → Re PyData) (d : PyData) : cLast gg g d ρ = (g ρ).andThen fun e => liftO (gg d e) := (rfl)
def asgR : Option Rho → Sr
  | some ρ => .nx ρ
  | none => .bad
@[simp] theorem asgR_some : asgR (some ρ) = .nx ρ := (rfl)
@[simp] theorem ap_sAsg (g : PyData → Rho → Option Rho) (f : Rho → Re PyData) : sAsg false g f ρ = (f ρ).st ρ fun d => asgR (g d ρ) := by
  unfold sAsg
  congr 1
@[simp] theorem gSeq3 (g : List PyData → Rho → Option Rho) (a b c : PyData) : gSeqD 3 g (.tuple [a, b, c]) ρ = g [a, b, c] ρ := (rfl)
@[simp] theorem gSeq2 (g : List PyData → Rho → Option Rho) (a b : PyData) : gSeqD 2 g (.tuple [a, b]) ρ = g [a, b] ρ := (rfl)
@[simp] theorem gMore_c (g : PyData → Rho → Option Rho) (h : List PyData → Rho → Option Rho) (d : PyData) (ds : List PyData) : gMore g h (d :: ds) ρ = (g d ρ).bind (h ds) := (rfl)
@[simp] theorem gNone_n : gNone [] ρ = some ρ := (rfl)
@[simp] theorem gSlot_n (k : Nat) (d : PyData) : gSlot k d ρ = some (ρ.set k (some d)) := (rfl)
@[simp] theorem bLen_d (ds : List PyData) : bLen [.tuple ds] = some (.int ds.length) := (rfl)
@[simp] theorem bLen_dl (ds : List PyData) : bLen [.list ds] = some (.int ds.length) := (rfl)
@[simp] theorem bTuple_dl (ds : List PyData) : bTuple [.list ds] = some (.tuple ds) := (rfl)
@[simp] theorem bTuple_d (ds : List PyData) : bTuple [.tuple ds] = some (.tuple ds) := (rfl)
@[simp] theorem bList_t {ns : List Int} : bList [tI ns] = some (lI ns) := (rfl)
@[simp] theorem bList_l {ns : List Int} : bList [lI ns] = some (lI ns) := (rfl)
@[simp] theorem itS_d (ds : List PyData) : itS (.tuple ds) = .ok ds := (rfl)
@[simp] theorem itS_dl (ds : List PyData) : itS (.list ds) = .ok ds := (rfl)
@[simp] theorem oIx_d (ds : List PyData) : oIx (.tuple ds) (.int i) = atD ds i := (rfl)
@[simp] theorem oIx_dl (ds : List PyData) : oIx (.list ds) (.int i) = atD ds i := (rfl)
theorem atD_nat {ds : List PyData} {k : Nat} (h : k < ds.length) : atD ds (k : Int) = ds[k]? := by
  unfold atD ixN
  rw [if_pos (Int.natCast_nonneg k), if_pos (by omega)]
  rfl
@[simp] theorem atD_0 (a : PyData) (ds : List PyData) : atD (a :: ds) 0 = some a := atD_nat (k := 0) (by simp)
@[simp] theorem atD_1 (a b : PyData) (ds : List PyData) : atD (a :: b :: ds) 1 = some b := (atD_nat (k := 1) (by simp)).trans (by simp)
@[simp] theorem atD_2 (a b c : PyData) (ds : List PyData) : atD (a :: b :: c :: ds) 2 = some c := (atD_nat (k := 2) (by simp)).trans (by simp)
@[simp] theorem atZ_0 (a : Int) (ds : List Int) : atZ (a :: ds) 0 = some a := atZ_nat (k := 0) (by simp)
@[simp] theorem atZ_1 (a b : Int) (ds : List Int) : atZ (a :: b :: ds) 1 = some b := (atZ_nat (k := 1) (by simp)).trans (by simp)
@[simp] theorem atZ_2 (a b c : Int) (ds : List Int) : atZ (a :: b :: c :: ds) 2 = some c := (atZ_nat (k := 2) (by simp)).trans (by simp)
@[simp] theorem atZ_3 (a b c d : Int) (ds : List Int) : atZ (a :: b :: c :: d :: ds) 3 = some d := (atZ_nat (k := 3) (by simp)).trans (by simp)
@[simp] theorem atZ_4 (a b c d e : Int) (ds : List Int) : atZ (a :: b :: c :: d :: e :: ds) 4 = some e := (atZ_nat (k := 4) (by simp)).trans (by simp)
@[simp] theorem atZ_5 (a b c d e f : Int) (ds : List Int) : atZ (a :: b :: c :: d :: e :: f :: ds) 5 = some f := (atZ_nat (k := 5) (by simp)).trans (by simp)
@[simp] theorem bAbs_i : bAbs [.int i] = some (.int (if i < 0 then -i else i)) := (rfl)
@[simp] theorem bMin2_i : bMin2 [.int i, .int j] = some (.int (if j < i then j else i)) := (rfl)
@[simp] theorem bMax2_i : bMax2 [.int i, .int j] = some (.int (if j > i then j else i)) := (rfl)
@[simp] theorem isN_t {ns : List Int} : oIsN (tI ns) .none = some (.bool false) := (rfl)
@[simp] theorem isN_n : oIsN .none .none = some (.bool true) := (rfl)
@[simp] theorem notN_t {ns : List Int} : oNotN (tI ns) .none = some (.bool true) := (rfl)
@[simp] theorem notN_n : oNotN .none .none = some (.bool false) := (rfl)
@[simp] theorem oNe_nn : oNe .none .none = some (.bool false) := by
  unfold oNe
  rw [if_pos ⟨rfl, rfl⟩]
  unfold PyData.eqv
  rfl
@[simp] theorem oEq_nn : oEq .none .none = some (.bool true) := by
  unfold oEq
  rw [if_pos ⟨rfl, rfl⟩]
  unfold PyData.eqv
  rfl
theorem oNe_s {a b : Str} (ha : SeqAt.shaped (.str a) = true) (hb : SeqAt.shaped (.str b) = true) : oNe (.str a) (.str b) = some (.bool (a != b)) := by
  unfold oNe
  rw [if_pos ⟨ha, hb⟩]
  unfold PyData.eqv
  rfl
theorem oEq_s {a b : Str} (ha : SeqAt.shaped (.str a) = true) (hb : SeqAt.shaped (.str b) = true) : oEq (.str a) (.str b) = some (.bool (a == b)) := by
  unfold oEq
  rw [if_pos ⟨ha, hb⟩]
  unfold PyData.eqv
  rfl
theorem oAdd_d {a b : List PyData} (h : a.length + b.length ≤ 10000) : oAdd (.tuple a) (.tuple b) = some (.tuple (a ++ b)) := by
  show (if okLen (a.length + b.length) = true then some (PyData.tuple (a ++ b)) else none) = _
  rw [if_pos (show okLen _ = true from decide_eq_true h)]
theorem oAdd_dl {a b : List PyData} (h : a.length + b.length ≤ 10000) : oAdd (.list a) (.list b) = some (.list (a ++ b)) := by
  show (if okLen (a.length + b.length) = true then some (PyData.list (a ++ b)) else none) = _
  rw [if_pos (show okLen _ = true from decide_eq_true h)]
theorem mkT_d {ds : List PyData} (h : ds.length ≤ 10000) : mkT ds = .ok (.tuple ds) := by
  unfold mkT
  rw [if_pos (show okLen _ = true from decide_eq_true h)]
theorem mkL_d {ds : List PyData} (h : ds.length ≤ 10000) : mkL ds = .ok (.list ds) := by
  unfold mkL
  rw [if_pos (show okLen _ = true from decide_eq_true h)]
theorem appR_d {k : Nat} {ds : List PyData} {d : PyData} (h : ds.length < 10000) : appR ρ k (some ds) (.ok d) = .nx (ρ.set k (some (.list (ds ++ [d])))) := by
  show (if okLen (ds.length + 1) = true then Sr.nx (ρ.set k (some (PyData.list (ds ++ [d])))) else .bad) = _
  rw [if_pos (show okLen _ = true from decide_eq_true h)]
theorem small_ok (h1 : -1000000 ≤ i) (h2 : i ≤ 1000000) : small62 i = true := by
  unfold small62
  rw [decide_eq_true (by omega), decide_eq_true (by omega)]
  rfl
theorem rg2_i (h1 : -1000000 ≤ i) (h2 : i ≤ 1000000) (h3 : -1000000 ≤ j) (h4 : j ≤ 1000000) : rg2 [.int i, .int j] = .ok ((upI i (j - i).toNat).map PyData.int) := by
  show (if small62 i = true ∧ small62 j = true then Re.ok (upFrom i (j - i).toNat) else .bad) = _
  rw [if_pos ⟨small_ok h1 h2, small_ok h3 h4⟩, upFrom_i]
/-- x[e] = v of an own list of numbers -/
theorem put_i {k : Nat} {f g : Rho → Re PyData} {ns : List Int} {x z : Int} (hk : ρ[k]? = some (some (lI ns))) (hf : f ρ = .ok (.int x)) (hg : g ρ = .ok (.int z)) (h0 : 0 ≤ z) (h1 : z < ns.length) : sPut k false f g ρ = .nx (ρ.set k (some (lI (ns.set z.toNat x)))) := by
  have e1 : getL ρ k = some (ns.map PyData.int) := by rw [getL_eq, hk]; rfl
  unfold sPut
  rw [hf, st_ok, e1]
  show (g ρ).st ρ _ = _
  rw [hg, st_ok]
  show (match ixN (ns.map PyData.int).length z with
    | some m => if (false = true → imm (.int x) = true) then Sr.nx (ρ.set k (some (.list ((ns.map PyData.int).set m (.int x))))) else .bad
    | none => .bad) = _
  rw [List.length_map, ixN_p h0 h1]
  show (if (false = true → imm (.int x) = true) then Sr.nx (ρ.set k (some (PyData.list ((ns.map PyData.int).set z.toNat (.int x))))) else .bad) = _
  rw [if_pos (fun z => nomatch z), ← List.map_set]
  rfl
theorem up_get {a : Int} {n k : Nat} {y : Int} (h : (upI a n)[k]? = some y) : y = a + k ∧ k < n := by
  have hk : k < n := by
    have := getSome h
    rwa [upI_length] at this
  unfold upI at h
  rw [List.getElem?_map, List.getElem?_range hk] at h
  have q : a + (k : Int) = y := Option.some.inj h
  exact ⟨q.symm, hk⟩
theorem loop_nx {g : PyData → Rho → Option Rho} {b : Rho → Sr} {d : PyData} {ds : List PyData} {ρ1 ρ2 : Rho} (h : g d ρ = some ρ1) (h2 : b ρ1 = .nx ρ2) : sLoop g b (d :: ds) ρ = sLoop g b ds ρ2 := by
  show (match g d ρ with
    | none => Sr.bad
    | some ρ1 => match b ρ1 with
      | .nx ρ2 => sLoop g b ds ρ2
      | .ct ρ2 => sLoop g b ds ρ2
      | .bk ρ2 => .nx ρ2
      | .rt d => .rt d
      | .ex c ρ2 => .ex c ρ2
      | .bad => .bad) = _
  rw [h]
  show (match b ρ1 with
    | .nx ρ2 => sLoop g b ds ρ2
    | .ct ρ2 => sLoop g b ds ρ2
    | .bk ρ2 => .nx ρ2
    | .rt d => .rt d
    | .ex c ρ2 => .ex c ρ2
    | .bad => .bad) = _
  rw [h2]
theorem loop_ex {g : PyData → Rho → Option Rho} {b : Rho → Sr} {d : PyData} {ds : List PyData} {ρ1 ρ2 : Rho} {c : Str} (h : g d ρ = some ρ1) (h2 : b ρ1 = .ex c ρ2) : sLoop g b (d :: ds) ρ = .ex c ρ2 := by
  show (match g d ρ with
    | none => Sr.bad
    | some ρ1 => match b ρ1 with
      | .nx ρ2 => sLoop g b ds ρ2
      | .ct ρ2 => sLoop g b ds ρ2
      | .bk ρ2 => .nx ρ2
      | .rt d => .rt d
      | .ex c ρ2 => .ex c ρ2
      | .bad => .bad) = _
  rw [h]
  show (match b ρ1 with
    | .nx ρ2 => sLoop g b ds ρ2
    | .ct ρ2 => sLoop g b ds ρ2
    | .bk ρ2 => .nx ρ2
    | .rt d => .rt d
    | .ex c ρ2 => .ex c ρ2
    | .bad => .bad) = _
  rw [h2]
@[simp] theorem loop_nil {g : PyData → Rho → Option Rho} {b : Rho → Sr} : sLoop g b [] ρ = .nx ρ := (rfl)
end
end Pu

set_option Elab.async false
set_option linter.all false
set_option maxRecDepth 100000
set_option maxHeartbeats 2000000
/-! dicts whose keys are whole numbers -/
namespace Pu
open PySem PySem.Spec PyProof.Rows L2
variable [TabL]
def keyI (i : Int) : PyData → Bool
  | .int j => decide (j = i)
  | _ => false
def lookI (kvs : List (PyData × PyData)) (i : Int) : Option PyData := (kvs.find? fun p => keyI i p.1).map (·.2)
def dicD (kvs : List (PyData × PyData)) : PyData := .dict ((.bool true, .none) :: kvs)
def kvsOf : PyData → Option (List (PyData × PyData))
  | .dict ((.bool true, .none) :: kvs) => some kvs
  | _ => none
theorem key_kD (i : Int) (k : Key) : keyI i (kD k) = decide (k = .inl i) := by
  cases k with
  | inl j =>
    show decide (j = i) = decide ((Sum.inl j : Key) = .inl i)
    by_cases h : j = i
    · rw [decide_eq_true h, decide_eq_true (by rw [h])]
    · rw [decide_eq_false h, decide_eq_false fun e => h (Sum.inl.inj e)]
  | inr s => rfl
theorem look_of {K : PySem.W.Frag} {H : Hp} {S : Addr → Prop} (i : Int) : ∀ {ks : List Key} {xs : List V} {ds : List PyData}, ks.length = xs.length → RpA K H S xs ds →
    match lookI ((ks.map kD).zip ds) i with
    | some z => ∃ v, valV (ks.zip xs) (.inl i) = some v ∧ Rp K H S v z
    | none => valV (ks.zip xs) (.inl i) = none
  | [], _, _, _, _ => by
    simp [lookI, valV]
  | k :: ks, [], _, h, _ => by simp at h
  | k :: ks, x :: xs, _, h, .cons (d := d) (ds := ds) r rr => by
    have ih := look_of i (ks := ks) (xs := xs) (by simpa using h) rr
    rw [List.map_cons, List.zip_cons_cons, List.zip_cons_cons]
    by_cases e : k = .inl i
    · have h1 : lookI ((kD k, d) :: (ks.map kD).zip ds) i = some d := by
        unfold lookI
        rw [List.find?_cons, key_kD, decide_eq_true e]
        rfl
      rw [h1]
      exact ⟨x, valV_pos e, r⟩
    · have h1 : lookI ((kD k, d) :: (ks.map kD).zip ds) i = lookI ((ks.map kD).zip ds) i := by
        unfold lookI
        rw [List.find?_cons, key_kD, decide_eq_false e]
      rw [h1, valV_neg e]
      exact ih
section
variable {X : Cx} {M : Nat → Bool} {F : Fx} {E : L2.St → XK} {σ : L2.St} {ρ : Rho} {H H' H1 : Hp} {D : Ends} {la fa lb fb : Bool} {a b : Expr} {pos : Pos} {f g : Rho → Re PyData}
/-! ### d[k] -/
def oDGet : PyData → PyData → Option PyData := fun d e => match kvsOf d, e with | some kvs, .int i => lookI kvs i | _, _ => none
theorem oDGet_some {d e z : PyData} (h : oDGet d e = some z) : ∃ kvs i, d = dicD kvs ∧ e = .int i ∧ lookI kvs i = some z := by
  unfold oDGet kvsOf at h
  split at h
  · rename_i kvs i q
    split at q
    · cases q
      exact ⟨_, _, rfl, rfl, h⟩
    · cases q
  · cases h
theorem kv_i (i : Int) : V.int i = kV (Sum.inl i) := rfl
theorem de_dget (hu : X.A.units + 64 < cLine) (ha : DE X M F E la fa a f) (hb : DE X M F E lb fb b g) (hs : NoSl b := by intro _ _; rfl) : DE X M F E (la || lb) false (.Subscript a b pos) (r2 oDGet f g) := by
  obtain ⟨ta, pa, ha⟩ := ha
  obtain ⟨tb, pb, hb⟩ := hb
  refine ⟨_, pe_dget (by omega) pa pb hs, fun σ H ρ er Q z => ?_⟩
  refine ha σ H ρ er _ (we_step z fun d v H1 e1 s1 r1 _ z1 => ?_)
  refine hb σ H1 ρ (er.same s1) _ (we_step (lk' := lb) (fr' := fb) z1 fun e u H2 e2 s2 r2 _ z2 => ?_)
  have z3 : WE X M F E (la || lb) false σ ρ H2 (liftO (oDGet d e)) Q := z2
  clear z2
  cases q : oDGet d e with
  | none =>
    rw [q] at z3
    exact z3.elim
  | some z =>
    rw [q] at z3
    obtain ⟨kvs, i, rfl, rfl, hl⟩ := oDGet_some q
    have r1' := r1.same s2
    cases r2
    generalize hd : dicD kvs = dd at r1'
    cases r1' with
    | dic h1 h2 h3 h4 =>
      unfold dicD at hd
      cases hd
      have lo := look_of i h3 h4
      rw [hl] at lo
      obtain ⟨v', hv, rv⟩ := lo
      refine ⟨_, v', rfl, ?_, z3 _ H2 (Same.refl _) (rv.wide fun a h => rs_or1 a h) fun z => nomatch z⟩
      have g := DGet.k (k := Sum.inl i) h1
      rw [hv] at g
      exact g
    | scr _ _ => cases hd
    | rng _ => cases hd
    | dct _ _ _ _ => cases hd
    | dit _ _ _ _ => cases hd
    | dif h1 h3 h4 =>
      unfold dicD at hd
      cases hd
      have lo := look_of i h3 h4
      rw [hl] at lo
      obtain ⟨v', hv, rv⟩ := lo
      refine ⟨_, v', rfl, ?_, z3 _ H2 (Same.refl _) (rv.wide fun a h => rs_or1 a h) fun z => nomatch z⟩
      exact .inl ⟨_, Sum.inl i, .inr ⟨_, h1⟩, rfl, hv.symm⟩
    | bl _ => cases hd
    | non => cases hd
    | int _ => cases hd
    | str _ => cases hd
    | tup _ _ => cases hd
    | lst _ _ _ => cases hd
/-! ### {} of the frame's own -/
theorem de_dnew : DE X M F E false true (.Dict [] [] pos) (rC (dicD [])) := by
  refine ⟨_, pe_dnewK, fun σ H ρ er Q z => ?_⟩
  intro p hp
  refine z (.ref p) _ (same_new hp) (.dic (ks := []) (xs := []) (ds := []) upd_same ?_ rfl .nil) fun _ => ⟨p, rfl, hp, .dic (ks := []) (xs := []) (ds := []) upd_same rfl .nil⟩
  exact er.freshS p hp
/-! ### d[k] = v, k new -/
def sPutD (i : Nat) (lk : Bool) (f g : Rho → Re PyData) : Rho → Sr := fun ρ => (f ρ).st ρ fun d => (match ρ[i]? with
  | some (some dd) => (g ρ).st ρ fun e => (match kvsOf dd, e with
    | some kvs, .int n => if okLen (kvs.length + 1) = true ∧ lookI kvs n = none ∧ (lk = true → imm d = true) then .nx (ρ.set i (some (dicD (kvs ++ [(.int n, d)])))) else .bad
    | _, _ => .bad)
  | _ => .bad)
theorem ER.dicO (er : ER X.K M F σ H ρ) {i : Nat} {dd : PyData} {kvs : List (PyData × PyData)} (m : M i = true) (h : ρ[i]? = some (some dd)) (hk : kvsOf dd = some kvs) : ∃ (pp : Addr) (ks : List Key) (xs : List V) (ds : List PyData), σ[i]? = some (some (.ref pp)) ∧ H pp = some (.dK (ks.zip xs)) ∧ ks.length = xs.length ∧ RpA X.K H (RS M F σ ρ false) xs ds ∧ kvs = (ks.map kD).zip ds := by
  obtain ⟨pp, hs, _, w⟩ := er.ow i _ h m
  cases w with
  | lst e r => cases hk
  | dic e l r =>
    cases hk
    exact ⟨pp, _, _, _, hs, e, l, r, rfl⟩
  | dit e l r => cases hk
  | dct e l r => cases hk
theorem zip_len {ks : List Key} {xs : List V} {ds : List PyData} (l : ks.length = xs.length) (r : xs.length = ds.length) : ((ks.map kD).zip ds).length = (ks.zip xs).length := by
  rw [List.length_zip, List.length_zip, List.length_map]
  omega
theorem ds_dput {i : Nat} {x : Str} {p1 p2 : Pos} (hu : X.A.units + 64 < cLine) (m : M i = true) (h : DE X M F E la fa a f) (hg : DE X M F E lb fb b g) (hN : X.N[i]? = some x := by rfl) (hv : Vis X.env.scope x := by first | exact Or.inl rfl | exact Or.inr (Or.inl rfl) | exact Or.inr (Or.inr rfl)) (hd : (x == ("__debug__" : Str)) = false := by decide)
    (hcd : (x == ("__classdict__" : Str)) = false := by decide) (hs : swapsWith a (some (.Subscript (.Name x p1) b p2)) pos.line X.env = pure false := by rfl) :
    DS X M F E (.Assign [.Subscript (.Name x p1) b p2] a pos) (sPutD i la f g) := by
  obtain ⟨ta, pa, h⟩ := h
  obtain ⟨tb, pb, hg⟩ := hg
  refine ⟨_, ps_dput (by omega) (pe_var hN hv hd hcd) pb pa hs, fun σ H ρ er D w => ?_⟩
  refine h σ H ρ er _ (ws_step er w fun d v H1 e1 s1 r1 _ w1 => ?_)
  have er1 := er.same s1
  cases q : ρ[i]? with
  | none =>
    rw [q] at w1
    exact w1.elim
  | some o =>
    cases o with
    | none =>
      rw [q] at w1
      exact w1.elim
    | some dd =>
      rw [q] at w1
      obtain ⟨pp, sp, _, w0⟩ := er1.ow i dd q m
      refine ⟨.ref pp, sp, ?_⟩
      refine hg σ H1 ρ er1 _ (ws_step (lk := lb) (fr := fb) er1 w1 fun e u H2 e2 s2 r2 _ w2 => ?_)
      have er2 := er1.same s2
      cases qk : kvsOf dd with
      | none =>
        rw [qk] at w2
        exact w2.elim
      | some kvs =>
        rw [qk] at w2
        cases r2 with
        | int n =>
          have w2 : WS X M F E σ H2 ρ (if okLen (kvs.length + 1) = true ∧ lookI kvs n = none ∧ (la = true → imm d = true) then .nx (ρ.set i (some (dicD (kvs ++ [(.int n, d)])))) else .bad) D := w2
          by_cases c : okLen (kvs.length + 1) = true ∧ lookI kvs n = none ∧ (la = true → imm d = true)
          · rw [if_pos c] at w2
            obtain ⟨c1, c2, c3⟩ := c
            obtain ⟨pp', ks, xs, ds, sp', hx, l, rr, ek⟩ := er2.dicO m q qk
            rw [sp] at sp'
            cases sp'
            have lo := look_of n l rr
            rw [← ek, c2] at lo
            have hlen : (ks.zip xs).length < sizeLine := by
              have := of_decide_eq_true c1
              rw [ek, zip_len l rr.length] at this
              exact Nat.lt_of_lt_of_le (Nat.lt_of_succ_le this) (by decide)
            have ez : putK (ks.zip xs) (.inl n) v = (ks ++ [(Sum.inl n : Key)]).zip (xs ++ [v]) := by
              rw [putK_new v lo, List.zip_append l]
              rfl
            have ed : dicD (kvs ++ [(.int n, d)]) = .dict ((.bool true, .none) :: ((ks ++ [(.inl n : Key)]).map kD).zip (ds ++ [d])) := by
              rw [ek, List.map_append, List.zip_append (by rw [List.length_map, l, rr.length])]
              rfl
            have rA := rr.append (.cons (rp_lk (r1.same s2) c3) .nil)
            obtain ⟨er3, ev3⟩ := er2.put (o := .dK ((ks ++ [(Sum.inl n : Key)]).zip (xs ++ [v]))) (d' := dicD (kvs ++ [(.int n, d)])) m q sp (by
              rw [ed]
              refine .dic upd_same (by rw [List.length_append, List.length_append, l]; rfl) (rA.keep ⟨fun a u qa xa _ => ?_⟩ fun _ _ x _ _ => x)
              rw [upd_ne]
              · exact qa
              · intro za
                subst za
                rcases xa with xa | xa
                · exact xa.2 rfl ⟨i, dd, m, q, sp⟩
                · rw [hx] at qa
                  cases qa
                  exact xa trivial)
            refine ⟨_, _, rfl, DPut.k (k := Sum.inl n) hx hlen, ?_⟩
            rw [ez]
            exact w2 σ _ er3 ev3
          · rw [if_neg c] at w2
            exact w2.elim
        | bl _ => exact w2.elim
        | non => exact w2.elim
        | str _ => exact w2.elim
        | tup _ _ => exact w2.elim
        | lst _ _ _ => exact w2.elim
        | scr _ _ => exact w2.elim
        | dic _ _ _ _ => exact w2.elim
        | dit _ _ _ _ => exact w2.elim
        | dif _ _ _ => exact w2.elim
        | rng _ => exact w2.elim
        | dct _ _ _ _ => exact w2.elim
end
end Pu

set_option Elab.async false
set_option linter.all false
set_option maxRecDepth 100000
set_option maxHeartbeats 2000000
namespace Pu
open PySem PySem.Spec PyProof.Rows L2
variable [TabL]
section
variable {X : Cx} {M : Nat → Bool} {F : Fx} {E : L2.St → XK} {σ σ1 : L2.St} {ρ ρ1 : Rho} {H H' H1 : Hp} {D : Ends} {K : PySem.W.Frag}
/-! ### sorted(d), list(d) -/
theorem ints_keys : ∀ {ks : List Key} {ns : List Int}, ks.map kD = ns.map PyData.int → ks = ns.map Sum.inl
  | [], [], _ => rfl
  | [], _ :: _, h => by cases h
  | _ :: _, [], h => by cases h
  | k :: ks, n :: ns, h => by
    rw [List.map_cons, List.map_cons] at h
    obtain ⟨h1, h2⟩ := List.cons.inj h
    rw [List.map_cons, ints_keys h2]
    cases k with
    | inl j =>
      have e : PyData.int j = .int n := h1
      cases e
      rfl
    | inr s => cases h1
def keysOf (kvs : List (PyData × PyData)) : Option (List Int) := asInts (kvs.map (·.1))
def bSortD : List PyData → Option PyData := fun ds => match ds with
  | [d] => (kvsOf d).bind fun kvs => (keysOf kvs).bind fun ns => if ns.length < 64 then some (.list ((srtZ ns).map PyData.int)) else none
  | _ => none
def bListD : List PyData → Option PyData := fun ds => match ds with
  | [d] => (kvsOf d).bind fun kvs => (keysOf kvs).bind fun ns => some (.list (ns.map PyData.int))
  | _ => none
theorem zip_fst : ∀ {α β : Type} (ks : List α) (ds : List β), ks.length = ds.length → (ks.zip ds).map (·.1) = ks
  | _, _, [], [], _ => rfl
  | _, _, _ :: ks, _ :: ds, h => by
    rw [List.zip_cons_cons, List.map_cons, zip_fst ks ds (by simpa using h)]
  | _, _, [], _ :: _, h => by simp at h
  | _, _, _ :: _, [], h => by simp at h
theorem dic_in {S : Addr → Prop} {v : V} {d : PyData} {kvs : List (PyData × PyData)} {ns : List Int} (r : Rp K H S v d) (hk : kvsOf d = some kvs) (hn : keysOf kvs = some ns) : ∃ (a : Addr) (ks : List Key) (xs : List V), v = .ref a ∧ Rd H a (.dK (ks.zip xs)) ∧ (ks.zip xs).map (·.1) = ns.map Sum.inl := by
  cases r with
  | dic h1 h2 h3 h4 =>
    cases hk
    unfold keysOf at hn
    have e := asInts_eq hn
    rw [zip_fst _ _ (by rw [List.length_map, h3, h4.length])] at e
    exact ⟨_, _, _, rfl, .inl h1, by rw [zip_fst _ _ h3, ints_keys e]⟩
  | scr _ _ => cases hk
  | rng _ => cases hk
  | dct _ _ _ _ => cases hk
  | dit _ _ _ _ => cases hk
  | dif h1 h3 h4 =>
    cases hk
    unfold keysOf at hn
    have e := asInts_eq hn
    rw [zip_fst _ _ (by rw [List.length_map, h3, h4.length])] at e
    exact ⟨_, _, _, rfl, .inr ⟨_, h1⟩, by rw [zip_fst _ _ h3, ints_keys e]⟩
  | bl _ => cases hk
  | non => cases hk
  | int _ => cases hk
  | str _ => cases hk
  | tup _ _ => cases hk
  | lst _ _ _ => cases hk
theorem s_sortD : SemL K (fun xs H Q => ∃ (a : Addr) (kvs : List (Key × V)) (ks : List Int), xs = [.ref a] ∧ Rd H a (.dK kvs) ∧ kvs.map (·.1) = ks.map Sum.inl ∧ ks.length < 64 ∧
    ∀ (ys : List Int) (p : Addr), ys.Perm ks → ys.Pairwise (· ≤ ·) → H p = none → Q (.ref p) (upd H p (.lst (ys.map V.int)))) true bSortD := fun S H xs ds z Q new r q k => by
  unfold bSortD at q
  split at q
  · obtain ⟨kvs, e1, q⟩ := Option.bind_eq_some_iff.mp q
    obtain ⟨ns, e2, q⟩ := Option.bind_eq_some_iff.mp q
    by_cases c : ns.length < 64
    · rw [if_pos c] at q
      cases q
      cases r with
      | cons r1 r2 =>
        cases r2
        obtain ⟨a, ks, xs, rfl, hx, hm⟩ := dic_in r1 e1 e2
        refine ⟨a, _, ns, rfl, hx, hm, c, fun ys p hp hs hn => ?_⟩
        rw [srtZ_uniq hp hs]
        exact k _ _ (same_new hn) (.lst upd_same (new p hn) (RpA.ints _)) fun _ => frs_lst hn (RpA.ints _)
    · rw [if_neg c] at q
      cases q
  · cases q
theorem kV_ints : ∀ ns : List Int, (ns.map (Sum.inl (β := Str))).map kV = ns.map V.int
  | [] => rfl
  | n :: ns => by
    rw [List.map_cons, List.map_cons, kV_ints ns]
    rfl
theorem s_listD : SemL K (fun xs H Q => ∃ (a : Addr) (kvs : List (Key × V)), xs = [.ref a] ∧ Rd H a (.dK kvs) ∧ ∀ p, H p = none → Q (.ref p) (upd H p (.lst (kvs.map fun kv => kV kv.1)))) true bListD := fun S H xs ds z Q new r q k => by
  unfold bListD at q
  split at q
  · obtain ⟨kvs, e1, q⟩ := Option.bind_eq_some_iff.mp q
    obtain ⟨ns, e2, q⟩ := Option.bind_eq_some_iff.mp q
    cases q
    cases r with
    | cons r1 r2 =>
      cases r2
      obtain ⟨a, ks, xs, rfl, hx, hm⟩ := dic_in r1 e1 e2
      refine ⟨a, _, rfl, hx, fun p hn => ?_⟩
      have e : (ks.zip xs).map (fun kv => kV kv.1) = ns.map V.int := by
        rw [← kV_ints, ← hm, List.map_map]
        rfl
      rw [e]
      exact k _ _ (same_new hn) (.lst upd_same (new p hn) (RpA.ints _)) fun _ => frs_lst hn (RpA.ints _)
  · cases q
/-! ### {k: v for ..} -/
def dcGo (g : PyData → Rho → Option Rho) (t : Rho → Re Bool) (fk f : Rho → Re PyData) (ρ : Rho) : List PyData → List (PyData × PyData) → Option (List (PyData × PyData))
  | [], acc => some acc
  | d :: ds, acc => match g d ρ with
    | none => none
    | some ρ1 => match t ρ1 with
      | .ok true => (match fk ρ1 with | .ok (.int n) => (match f ρ1 with | .ok z => if okLen (acc.length + 1) = true ∧ lookI acc n = none then dcGo g t fk f ρ ds (acc ++ [(.int n, z)]) else none | _ => none) | _ => none)
      | .ok false => dcGo g t fk f ρ ds acc
      | _ => none
def rDc (its : Rho → Re (List PyData)) (vs : List Nat) (g : PyData → Rho → Option Rho) (t : Rho → Re Bool) (fk f : Rho → Re PyData) : Rho → Re PyData := fun ρ => (its ρ).andThen fun ds => if okLen ds.length = true then (match dcGo g t fk f (wipeR ρ vs) ds [] with | some kvs => .ok (dicD kvs) | none => .bad) else .bad
theorem dc_run {ts vs : List Nat} {wi : TI} {its : Rho → Re (List PyData)} {gg : PyData → Rho → Option Rho} {tt : Rho → Re Bool} {fk f : Rho → Re PyData} {lk fr lk1 fr1 : Bool} (hi : ∀ σ H ρ, ER X.K M F σ H ρ → ∀ R, WI X M F E σ ρ H (its ρ) R → wi σ H R)
    (hv : ∀ i ∈ vs, M i = false) (hts : ∀ i ∈ ts, i ∈ vs) (er : ER X.K M F σ H ρ) {Q : VK} (w : WE X M F E lk true σ ρ H (rDc its vs gg tt fk f ρ) Q) : tDc wi (canG X M ts gg) (canT X M E0s tt) (canE X M E0s lk1 fr1 fk) (canE X M E0s lk fr f) vs σ H Q := by
  refine hi σ H ρ er _ ?_
  unfold rDc at w
  cases q : its ρ with
  | ex c =>
    rw [q] at w
    exact w
  | bad =>
    rw [q] at w
    exact w
  | ok ds =>
    rw [q] at w
    have w : WE X M F E lk true σ ρ H (if okLen ds.length = true then (match dcGo gg tt fk f (wipeR ρ vs) ds [] with | some kvs => .ok (dicD kvs) | none => .bad) else .bad) Q := w
    by_cases hz : okLen ds.length = true
    · rw [if_pos hz] at w
      cases q2 : dcGo gg tt fk f (wipeR ρ vs) ds [] with
      | none =>
        rw [q2] at w
        exact w.elim
      | some tot =>
        rw [q2] at w
        refine fun J H1 sm wk Dd hD => ?_
        have er1 := er.same sm
        refine ⟨fun i m H2 => m = ds.length - i ∧ i ≤ ds.length ∧ Same H1 H2 ∧ ∃ (ks : List Key) (xs : List V) (accd : List PyData), H2 Dd = some (.dK (ks.zip xs)) ∧ ks.length = xs.length ∧ RpA X.K H2 (fun a => RS M F σ ρ lk a ∧ a ≠ Dd) xs accd ∧ xs.length ≤ i ∧ dcGo gg tt fk f (wipeR ρ vs) (ds.drop i) ((ks.map kD).zip accd) = some tot,
          ⟨ds.length, by simp, Nat.zero_le _, same_new hD, [], [], [], upd_same, rfl, .nil, Nat.le_refl _, q2⟩, ?_⟩
        rintro i m H2 ⟨rfl, hi', sm2, ks, xs, accd, e1, lz, r1, l1, g1⟩
        have kp : Kp (fun a => RS M F σ ρ false a ∧ Nn H1 a) H1 H2 := kp_same sm2
        by_cases hlt : i < ds.length
        · obtain ⟨go, yl⟩ := (wk H2 kp i).1 _ (List.getElem?_eq_getElem hlt)
          refine .inr ⟨go, fun H3 => ds.length - (i + 1) = ds.length - (i + 1) ∧ i + 1 ≤ ds.length ∧ Same H1 H3 ∧ ∃ (ks : List Key) (xs : List V) (accd : List PyData), H3 Dd = some (.dK (ks.zip xs)) ∧ ks.length = xs.length ∧ RpA X.K H3 (fun a => RS M F σ ρ lk a ∧ a ≠ Dd) xs accd ∧ xs.length ≤ i + 1 ∧ dcGo gg tt fk f (wipeR ρ vs) (ds.drop (i + 1)) ((ks.map kD).zip accd) = some tot, fun H3 x => ⟨ds.length - (i + 1), by omega, x⟩, fun x H3 y => ?_⟩
          obtain ⟨s3, rx⟩ := yl x H3 y
          rw [drop_get (List.getElem?_eq_getElem hlt)] at g1
          have g1 : (match gg ds[i] (wipeR ρ vs) with
            | none => none
            | some ρ1 => match tt ρ1 with
              | .ok true => (match fk ρ1 with | .ok (.int n) => (match f ρ1 with | .ok z => if okLen (((ks.map kD).zip accd).length + 1) = true ∧ lookI ((ks.map kD).zip accd) n = none then dcGo gg tt fk f (wipeR ρ vs) (ds.drop (i + 1)) (((ks.map kD).zip accd) ++ [(.int n, z)]) else none | _ => none) | _ => none)
              | .ok false => dcGo gg tt fk f (wipeR ρ vs) (ds.drop (i + 1)) ((ks.map kD).zip accd)
              | _ => none) = some tot := g1
          cases q3 : gg ds[i] (wipeR ρ vs) with
          | none =>
            rw [q3] at g1
            cases g1
          | some ρ1 =>
            rw [q3] at g1
            have g1 : (match tt ρ1 with
              | .ok true => (match fk ρ1 with | .ok (.int n) => (match f ρ1 with | .ok z => if okLen (((ks.map kD).zip accd).length + 1) = true ∧ lookI ((ks.map kD).zip accd) n = none then dcGo gg tt fk f (wipeR ρ vs) (ds.drop (i + 1)) (((ks.map kD).zip accd) ++ [(.int n, z)]) else none | _ => none) | _ => none)
              | .ok false => dcGo gg tt fk f (wipeR ρ vs) (ds.drop (i + 1)) ((ks.map kD).zip accd)
              | _ => none) = some tot := g1
            obtain ⟨erw, rsw⟩ := er1.wipe (vs := vs) hv
            have s13 : Same H1 H3 := sm2.trans s3
            have e3 : H3 Dd = some (.dK (ks.zip xs)) := s3 _ _ e1
            have erb := erw.blk hD s13 e3
            have rx' : Rp X.K H3 (RS M (inBlk F Dd) (wipe σ vs) (wipeR ρ vs) false) x ds[i] := rx.wide fun a z => by
              have := rsw false
              refine ⟨⟨z.1.1, fun zz => ?_⟩, ?_⟩
              · rw [zz] at z
                exact z.2.not hD
              · have z1 : RS M F (wipe σ vs) (wipeR ρ vs) false a := by
                  rw [this]
                  exact z.1
                exact z1.2
            refine ⟨inBlk F Dd, wipeR ρ vs, ds[i], ρ1, erb, rx', q3, fun σ4 er4 ev4 wp4 ow4 => ⟨?_, ?_⟩⟩
            · rw [wp4 vs hts]
              exact (show wipe (wipe σ vs) vs = wipe σ vs from by
                have : ∀ (l : List Nat) (τ : L2.St), (∀ i ∈ l, i < τ.length → τ[i]? = some none) → wipe τ l = τ := by
                  intro l
                  induction l with
                  | nil => intro τ _; rfl
                  | cons v l ih =>
                    intro τ h
                    show (wipe τ l).set v none = τ
                    rw [ih τ fun i hi => h i (List.mem_cons_of_mem _ hi)]
                    by_cases hv : v < τ.length
                    · have := h v List.mem_cons_self hv
                      obtain ⟨h1, h2⟩ := List.getElem?_eq_some_iff.mp this
                      rw [← h2, List.set_getElem_self]
                    · rw [List.set_eq_of_length_le (by omega)]
                refine this vs _ fun i hi hl => ?_
                have mem : ∀ (l : List Nat) (i : Nat), i ∈ l → i < (wipe σ l).length → (wipe σ l)[i]? = some none := by
                  intro l
                  induction l with
                  | nil => intro i h; cases h
                  | cons v l ih =>
                    intro i h hl
                    show ((wipe σ l).set v none)[i]? = some none
                    have hl' : i < (wipe σ l).length := by
                      have hl2 : i < ((wipe σ l).set v none).length := hl
                      rwa [List.length_set] at hl2
                    by_cases e : v = i
                    · subst e
                      rw [List.getElem?_set_self hl']
                    · rw [List.getElem?_set_ne e]
                      exact ih i ((List.mem_cons.mp h).resolve_left fun z => e z.symm) hl'
                exact mem vs i hi hl)
            · refine ⟨inBlk F Dd, ρ1, er4, ?_⟩
              cases q4 : tt ρ1 with
              | ex c =>
                rw [q4] at g1
                cases g1
              | bad =>
                rw [q4] at g1
                cases g1
              | ok bb =>
                rw [q4] at g1
                cases bb with
                | false =>
                  refine fun H5 s5 => ?_
                  show (if false = true then _ else _)
                  rw [if_neg Bool.false_ne_true]
                  exact ⟨rfl, hlt, s13.trans s5, ks, xs, accd, s5 _ _ e3, lz, r1.same (s3.trans s5), by omega, g1⟩
                | true =>
                  refine fun H5 s5 => ?_
                  show (if true = true then _ else _)
                  rw [if_pos rfl]
                  have g1 : (match fk ρ1 with | .ok (.int n) => (match f ρ1 with | .ok z => if okLen (((ks.map kD).zip accd).length + 1) = true ∧ lookI ((ks.map kD).zip accd) n = none then dcGo gg tt fk f (wipeR ρ vs) (ds.drop (i + 1)) (((ks.map kD).zip accd) ++ [(.int n, z)]) else none | _ => none) | _ => none) = some tot := g1
                  cases qk : fk ρ1 with
                  | ex c =>
                    rw [qk] at g1
                    cases g1
                  | bad =>
                    rw [qk] at g1
                    cases g1
                  | ok kd =>
                    rw [qk] at g1
                    have kint : ∃ n, kd = .int n := by
                      cases kd with
                      | int n => exact ⟨n, rfl⟩
                      | _ => cases g1
                    obtain ⟨n, rfl⟩ := kint
                    have g1 : (match f ρ1 with | .ok z => if okLen (((ks.map kD).zip accd).length + 1) = true ∧ lookI ((ks.map kD).zip accd) n = none then dcGo gg tt fk f (wipeR ρ vs) (ds.drop (i + 1)) ((ks.map kD).zip accd ++ [(.int n, z)]) else none | _ => none) = some tot := g1
                    refine ⟨inBlk F Dd, ρ1, er4.same s5, ?_⟩
                    rw [qk]
                    refine fun kv H5' s5' rk _ => ?_
                    cases rk with
                    | int _ =>
                      cases q5 : f ρ1 with
                      | ex c =>
                        rw [q5] at g1
                        cases g1
                      | bad =>
                        rw [q5] at g1
                        cases g1
                      | ok xd =>
                        rw [q5] at g1
                        have g1 : (if okLen (((ks.map kD).zip accd).length + 1) = true ∧ lookI ((ks.map kD).zip accd) n = none then dcGo gg tt fk f (wipeR ρ vs) (ds.drop (i + 1)) ((ks.map kD).zip accd ++ [(.int n, xd)]) else none) = some tot := g1
                        by_cases cc : okLen (((ks.map kD).zip accd).length + 1) = true ∧ lookI ((ks.map kD).zip accd) n = none
                        · rw [if_pos cc] at g1
                          refine ⟨inBlk F Dd, ρ1, (er4.same s5).same s5', ?_⟩
                          rw [q5]
                          refine fun v H6 s6 r6 _ => ?_
                          have e6 : H6 Dd = some (.dK (ks.zip xs)) := s6 _ _ (s5' _ _ (s5 _ _ e3))
                          have lo := look_of n lz r1
                          rw [cc.2] at lo
                          have acl : (ks.zip xs).length < sizeLine := by
                            have := of_decide_eq_true cc.1
                            rw [zip_len lz r1.length] at this
                            exact Nat.lt_of_lt_of_le (Nat.lt_of_succ_le this) (by decide)
                          have ez : putK (ks.zip xs) (Sum.inl n : Key) v = (ks ++ [(Sum.inl n : Key)]).zip (xs ++ [v]) := by
                            rw [putK_new v lo, List.zip_append lz]
                            rfl
                          have ed : (ks.map kD).zip accd ++ [(PyData.int n, xd)] = ((ks ++ [(Sum.inl n : Key)]).map kD).zip (accd ++ [xd]) := by
                            rw [List.map_append, List.zip_append (by rw [List.length_map, lz, r1.length])]
                            rfl
                          rw [ed] at g1
                          refine ⟨ks.zip xs, Sum.inl n, rfl, e6, acl, rfl, hlt, (((s13.trans s5).trans s5').trans s6).put hD e6 plain_dK, ks ++ [(Sum.inl n : Key)], xs ++ [v], accd ++ [xd], ?_, ?_, ?_, ?_, g1⟩
                          · rw [ez]
                            exact upd_same
                          · rw [List.length_append, List.length_append, lz]
                            rfl
                          · rw [ez]
                            have kpD : Kp (fun a => RS M F σ ρ lk a ∧ a ≠ Dd) H6 (upd H6 Dd (.dK ((ks ++ [(Sum.inl n : Key)]).zip (xs ++ [v])))) := by
                              refine ⟨fun a u qa xa _ => ?_⟩
                              rw [upd_ne]
                              · exact qa
                              · intro za
                                subst za
                                rcases xa with xa | xa
                                · exact xa.2 rfl
                                · rw [e6] at qa
                                  cases qa
                                  exact xa trivial
                            have rA : RpA X.K H6 (fun a => RS M F σ ρ lk a ∧ a ≠ Dd) xs accd := r1.same (((s3.trans s5).trans s5').trans s6)
                            have rV : Rp X.K H6 (fun a => RS M F σ ρ lk a ∧ a ≠ Dd) v xd := r6.wide fun a za => by
                              refine ⟨⟨za.1.1, fun zl => fun o => ?_⟩, za.1.2⟩
                              have rw0 := rsw false
                              obtain ⟨hh0, hs0, uu, hu⟩ := er1.own o
                              have nb : ¬ OwnA M (wipe σ vs) (wipeR ρ vs) a → False := fun nn => by
                                have : RS M F (wipe σ vs) (wipeR ρ vs) false a := ⟨hs0, fun _ => nn⟩
                                rw [rw0] at this
                                exact this.2 rfl o
                              refine za.2 zl ?_
                              by_cases ob : OwnA M (wipe σ vs) (wipeR ρ vs) a
                              · exact ow4 a ob
                              · exact (nb ob).elim
                            exact (rA.append (.cons rV .nil)).keep kpD fun _ _ x _ _ => x
                          · rw [List.length_append]
                            show xs.length + 1 ≤ i + 1
                            omega
                        · rw [if_neg cc] at g1
                          cases g1
        · have ei : i = ds.length := by omega
          subst ei
          rw [List.drop_length] at g1
          have g1 : some ((ks.map kD).zip accd) = some tot := g1
          cases g1
          refine .inl ⟨(wk H2 kp _).2 rfl, w (.ref Dd) H2 (sm.trans sm2) (.dic e1 ?_ lz (r1.wide fun a x => x.1)) fun _ => ⟨Dd, rfl, sm.free hD, .dic e1 lz r1⟩⟩
          exact er1.freshS _ hD
    · rw [if_neg hz] at w
      exact w.elim
theorem de_dc {kx vx tg iter : Expr} {ifs : List Expr} {scope : Scope} {own : List (Str × Nat)} {ts : List Nat} {pos : Pos} (vs : List Nat) {its : Rho → Re (List PyData)} {gg : PyData → Rho → Option Rho} {tt : Rho → Re Bool} {fk f : Rho → Re PyData} {lk fr lk1 fr1 : Bool}
    (hc : X.calm = true) (hN : X.N.Nodup) (hi : DI X M F E tg iter its) (ok : BlkOk X.N X.env.scope scope own) (hv : ∀ i ∈ vs, M i = false)
    (hg : ∀ (s : Shared) (H : Hp) (C : Addr) (cl : List (Str × Addr)) (fp : List Addr) (F : Fx), DG (X.blk s H scope (compEnvC scope cl C X.env) fp) M F tg ts gg)
    (ht : ∀ (s : Shared) (H : Hp) (C : Addr) (cl : List (Str × Addr)) (fp : List Addr), DTs (X.blk s H scope (compEnvC scope cl C X.env) fp) M E0s ifs tt)
    (hk : ∀ (s : Shared) (H : Hp) (C : Addr) (cl : List (Str × Addr)) (fp : List Addr) (F : Fx), DE (X.blk s H scope (compEnvC scope cl C X.env) fp) M F E0s lk1 fr1 kx fk)
    (he : ∀ (s : Shared) (H : Hp) (C : Addr) (cl : List (Str × Addr)) (fp : List Addr) (F : Fx), DE (X.blk s H scope (compEnvC scope cl C X.env) fp) M F E0s lk fr vx f)
    (hvs : own.map (·.2) = vs := by rfl) (hts : ∀ i ∈ ts, i ∈ vs := by decide) (hs : ∀ x, foldedSetIterable iter X.env x = pure x := by intro _; rfl) :
    DE X M F E lk true (.DictComp kx vx [⟨tg, iter, ifs, 0⟩] scope pos) (rDc its vs gg tt fk f) := by
  subst hvs
  obtain ⟨wi, pw, hi⟩ := hi
  exact ⟨_, pe_dc (g := canG X M ts gg) (tt := canT X M E0s tt) (tk := canE X M E0s lk1 fr1 fk) (tv := canE X M E0s lk fr f) hc hN pw ok (fun s H C cl fp => canG_ok (hg s H C cl fp)) (fun s H C cl fp => ht s H C cl fp) (fun s H C cl fp => canE_ok (hk s H C cl fp)) (fun s H C cl fp => canE_ok (he s H C cl fp)) hs, fun σ H ρ er Q w => dc_run hi hv hts er w⟩
end
end Pu

set_option Elab.async false
set_option linter.all false
set_option maxRecDepth 100000
set_option maxHeartbeats 2000000
namespace Pu
open PySem PySem.Spec PyProof.Rows L2
variable [TabL]
section
variable {α β : Type} {ρ : Rho} {i j : Int}
@[simp] theorem imm_i : imm (.int i) = true := by
  unfold imm
  rfl
def appRT (ρ : Rho) (i : Nat) : Option (List PyData) → Re PyData → Sr
  | some ds, r => r.st ρ fun d => if okLen (ds.length + 1) = true ∧ imm d = true then .nx (ρ.set i (some (.list (ds ++ [d])))) else .bad
  | none, _ => .bad
@[simp] theorem ap_sAppT (i : Nat) (f : Rho → Re PyData) : sApp i true f ρ = appRT ρ i (lOf ρ[i]?) (f ρ) := by
  unfold sApp appRT
  rw [getL_eq]
  cases lOf ρ[i]? with
  | none => rfl
  | some ds =>
    show (f ρ).st ρ _ = (f ρ).st ρ _
    congr 1
    funext d
    simp
theorem appRT_i {k : Nat} {ns : List Int} {x : Int} (h : ns.length < 10000) : appRT ρ k (some (ns.map PyData.int)) (.ok (.int x)) = .nx (ρ.set k (some (lI (ns ++ [x])))) := by
  show (if okLen ((ns.map PyData.int).length + 1) = true ∧ imm (.int x) = true then Sr.nx (ρ.set k (some (PyData.list (ns.map PyData.int ++ [.int x])))) else .bad) = _
  rw [if_pos ⟨by rw [List.length_map]; exact decide_eq_true h, imm_i⟩, snoc_i]
@[simp] theorem ap_sSetT (k : Nat) (f : Rho → Re PyData) : sSet k true f ρ = (f ρ).st ρ fun d => if imm d = true then .nx (ρ.set k (some d)) else .bad := by
  unfold sSet
  congr 1
  funext d
  simp
/-! dicts: the keys ks, k ↦ h k -/
def fD (ks : List Int) (h : Int → Int) : PyData := dicD (ks.map fun k => (PyData.int k, PyData.int (h k)))
theorem look_f {ks : List Int} {h : Int → Int} : ∀ {ks : List Int}, i ∈ ks → lookI (ks.map fun k => (PyData.int k, PyData.int (h k))) i = some (.int (h i))
  | k :: ks, m => by
    rw [List.map_cons]
    unfold lookI
    rw [List.find?_cons]
    by_cases e : k = i
    · subst e
      show Option.map _ (match decide (k = k) with | true => some _ | false => _) = _
      rw [decide_eq_true rfl]
      rfl
    · show Option.map _ (match decide (k = i) with | true => some _ | false => _) = _
      rw [decide_eq_false e]
      exact look_f (h := h) (ks := []) ((List.mem_cons.mp m).resolve_left fun q => e q.symm)
theorem look_no {h : Int → Int} : ∀ {ks : List Int}, i ∉ ks → lookI (ks.map fun k => (PyData.int k, PyData.int (h k))) i = none
  | [], _ => rfl
  | k :: ks, m => by
    rw [List.map_cons]
    unfold lookI
    rw [List.find?_cons]
    have e : ¬ k = i := fun e => m (by rw [e]; exact List.mem_cons_self)
    show Option.map _ (match decide (k = i) with | true => some _ | false => _) = _
    rw [decide_eq_false e]
    exact look_no fun q => m (List.mem_cons_of_mem _ q)
theorem dget_f {ks : List Int} {h : Int → Int} (m : i ∈ ks) : oDGet (fD ks h) (.int i) = some (.int (h i)) := by
  show lookI (ks.map fun k => (PyData.int k, PyData.int (h k))) i = _
  exact look_f (ks := []) m
theorem keys_f {ks : List Int} {h : Int → Int} : keysOf (ks.map fun k => (PyData.int k, PyData.int (h k))) = some ks := by
  unfold keysOf
  rw [List.map_map]
  exact asInts_map ks
theorem sortD_f {ks : List Int} {h : Int → Int} (hl : ks.length < 64) : bSortD [fD ks h] = some (lI (srtZ ks)) := by
  show (keysOf (ks.map fun k => (PyData.int k, PyData.int (h k)))).bind _ = _
  rw [keys_f, Option.bind_some, if_pos hl]
  rfl
theorem listD_f {ks : List Int} {h : Int → Int} : bListD [fD ks h] = some (lI ks) := by
  show (keysOf (ks.map fun k => (PyData.int k, PyData.int (h k)))).bind _ = _
  rw [keys_f]
  rfl
/-- {k: h(k) for k in ks} -/
theorem dc_i {its : Rho → Re (List PyData)} {v : Nat} {fk f : Rho → Re PyData} {ks : List Int} {h : Int → Int} (hi : its ρ = .ok (ks.map PyData.int)) (hl : ks.length < 10000) (nd : ks.Nodup) (hk : ∀ k ∈ ks, fk ((ρ.set v none).set v (some (.int k))) = .ok (.int k)) (hf : ∀ k ∈ ks, f ((ρ.set v none).set v (some (.int k))) = .ok (.int (h k))) :
    rDc its [v] (gSlot v) yesR fk f ρ = .ok (fD ks h) := by
  unfold rDc
  rw [hi, re_ok, if_pos (by rw [List.length_map]; exact decide_eq_true (Nat.le_of_lt hl))]
  have key : ∀ ms as : List Int, as ++ ms = ks → dcGo (gSlot v) yesR fk f (ρ.set v none) (ms.map PyData.int) (as.map fun k => (PyData.int k, PyData.int (h k))) = some (ks.map fun k => (PyData.int k, PyData.int (h k))) := by
    intro ms
    induction ms with
    | nil =>
      intro as e
      rw [List.append_nil] at e
      rw [e]
      rfl
    | cons k ms ih =>
      intro as e
      have mk : k ∈ ks := by rw [← e]; simp
      have nk : k ∉ as := by
        rw [← e] at nd
        intro q
        exact (List.nodup_append.mp nd).2.2 k q k List.mem_cons_self rfl
      have la : as.length < 10000 := by
        have := congrArg List.length e
        rw [List.length_append] at this
        omega
      show (match fk ((ρ.set v none).set v (some (.int k))) with | .ok (.int n) => (match f ((ρ.set v none).set v (some (.int k))) with | .ok z => if okLen ((as.map fun k => (PyData.int k, PyData.int (h k))).length + 1) = true ∧ lookI (as.map fun k => (PyData.int k, PyData.int (h k))) n = none then dcGo (gSlot v) yesR fk f (ρ.set v none) (ms.map PyData.int) ((as.map fun k => (PyData.int k, PyData.int (h k))) ++ [(PyData.int n, z)]) else none | _ => none) | _ => none) = _
      rw [hk k mk, hf k mk]
      show (if okLen ((as.map fun k => (PyData.int k, PyData.int (h k))).length + 1) = true ∧ lookI (as.map fun k => (PyData.int k, PyData.int (h k))) k = none then dcGo (gSlot v) yesR fk f (ρ.set v none) (ms.map PyData.int) ((as.map fun k => (PyData.int k, PyData.int (h k))) ++ [(PyData.int k, PyData.int (h k))]) else none) = _
      rw [if_pos ⟨by rw [List.length_map]; exact decide_eq_true la, look_no nk⟩]
      have := ih (as ++ [k]) (by rw [List.append_assoc]; exact e)
      rw [List.map_append] at this
      exact this
  show (match dcGo (gSlot v) yesR fk f (ρ.set v none) (ks.map PyData.int) [] with | some kvs => Re.ok (dicD kvs) | none => .bad) = _
  rw [show ([] : List (PyData × PyData)) = ([] : List Int).map fun k => (PyData.int k, PyData.int (h k)) from rfl, key ks [] rfl]
  rfl
/-- d[k] = v of an own dict -/
theorem putD_i {k : Nat} {lk : Bool} {f g : Rho → Re PyData} {ks : List Int} {h : Int → Int} {n : Int} (hk : ρ[k]? = some (some (fD ks h))) (hf : f ρ = .ok (.int (h n))) (hg : g ρ = .ok (.int n)) (hn : n ∉ ks) (hl : ks.length < 10000) : sPutD k lk f g ρ = .nx (ρ.set k (some (fD (ks ++ [n]) h))) := by
  unfold sPutD
  rw [hf, st_ok, hk]
  show (g ρ).st ρ _ = _
  rw [hg, st_ok]
  show (if okLen ((ks.map fun k => (PyData.int k, PyData.int (h k))).length + 1) = true ∧ lookI (ks.map fun k => (PyData.int k, PyData.int (h k))) n = none ∧ (lk = true → imm (.int (h n)) = true) then Sr.nx (ρ.set k (some (dicD ((ks.map fun k => (PyData.int k, PyData.int (h k))) ++ [(PyData.int n, PyData.int (h n))])))) else .bad) = _
  rw [if_pos ⟨by rw [List.length_map]; exact decide_eq_true hl, look_no hn, fun _ => imm_i⟩]
  unfold fD
  rw [List.map_append]
  rfl
/-! while -/
theorem while_go {p : Rho → Re Bool} {b : Rho → Sr} {n : Nat} {ρ2 : Rho} (h : p ρ = .ok true) (h2 : b ρ = .nx ρ2) : sWhile p b (n + 1) ρ = sWhile p b n ρ2 := by
  show ((p ρ).stT ρ fun c => if c = true then (match b ρ with
      | .nx ρ2 => sWhile p b n ρ2
      | .ct ρ2 => sWhile p b n ρ2
      | .bk ρ2 => .nx ρ2
      | .rt d => .rt d
      | .ex c ρ2 => .ex c ρ2
      | .bad => .bad) else .nx ρ) = _
  rw [h, stT_ok, if_pos rfl, h2]
theorem while_end {p : Rho → Re Bool} {b : Rho → Sr} {n : Nat} (h : p ρ = .ok false) : sWhile p b (n + 1) ρ = .nx ρ := by
  show ((p ρ).stT ρ fun c => if c = true then _ else Sr.nx ρ) = _
  rw [h, stT_ok, if_neg Bool.false_ne_true]
end
end Pu

set_option Elab.async false
set_option linter.all false
set_option maxRecDepth 100000
set_option maxHeartbeats 2000000
/-! rings of a permutation -/
namespace Pu
open PySem PySem.Spec PyProof.Rows L2
variable [TabL]
def itZ (f : Int → Int) : Nat → Int → Int
  | 0, s => s
  | n + 1, s => f (itZ f n s)
theorem itZ_add (f : Int → Int) (m n : Nat) (s : Int) : itZ f (m + n) s = itZ f m (itZ f n s) := by
  induction m with
  | zero => rw [Nat.zero_add]; rfl
  | succ m ih =>
    rw [show m + 1 + n = (m + n) + 1 by omega]
    show f (itZ f (m + n) s) = f (itZ f m (itZ f n s))
    rw [ih]
structure Pm (f : Int → Int) (ks : List Int) : Prop where
  nd : ks.Nodup
  to : ∀ k ∈ ks, f k ∈ ks
  inj : ∀ k ∈ ks, ∀ l ∈ ks, f k = f l → k = l
section
variable {f : Int → Int} {ks : List Int}
theorem Pm.it (P : Pm f ks) (n : Nat) {s : Int} (h : s ∈ ks) : itZ f n s ∈ ks := by
  induction n with
  | zero => exact h
  | succ n ih => exact P.to _ ih
theorem Pm.itInj (P : Pm f ks) (n : Nat) {s t : Int} (h : s ∈ ks) (h2 : t ∈ ks) (e : itZ f n s = itZ f n t) : s = t := by
  induction n with
  | zero => exact e
  | succ n ih => exact ih (P.inj _ (P.it n h) _ (P.it n h2) e)
theorem php : ∀ (l ks : List Int), l.Nodup → (∀ x ∈ l, x ∈ ks) → l.length ≤ ks.length
  | [], _, _, _ => Nat.zero_le _
  | x :: l, ks, nd, h => by
    obtain ⟨n1, n2⟩ := List.nodup_cons.mp nd
    have hx := h x List.mem_cons_self
    have := php l (ks.erase x) n2 fun y hy => (List.mem_erase_of_ne (fun e => n1 (by rw [← e]; exact hy))).mpr (h y (List.mem_cons_of_mem _ hy))
    rw [List.length_erase_of_mem hx] at this
    have : 0 < ks.length := List.length_pos_of_mem hx
    rw [List.length_cons]
    omega
theorem least {P : Nat → Prop} (n : Nat) (h : P n) : ∃ m, m ≤ n ∧ P m ∧ ∀ k, k < m → ¬ P k := by
  induction n using Nat.strongRecOn with
  | _ n ih =>
    by_cases c : ∃ k, k < n ∧ P k
    · obtain ⟨k, hk, pk⟩ := c
      obtain ⟨m, h1, h2, h3⟩ := ih k hk pk
      exact ⟨m, by omega, h2, h3⟩
    · exact ⟨n, Nat.le_refl _, h, fun k hk pk => c ⟨k, hk, pk⟩⟩
/-- m is the number of turns that lead s back -/
def IsPer (f : Int → Int) (s : Int) (m : Nat) : Prop := 0 < m ∧ itZ f m s = s ∧ ∀ k, 0 < k → k < m → itZ f k s ≠ s
theorem Pm.per (P : Pm f ks) {s : Int} (h : s ∈ ks) : ∃ m, m ≤ ks.length ∧ IsPer f s m := by
  have key : ∃ i j, i < j ∧ j ≤ ks.length ∧ itZ f i s = itZ f j s := by
    by_cases c : ∃ i j, i < j ∧ j ≤ ks.length ∧ itZ f i s = itZ f j s
    · exact c
    · have nd : ((List.range (ks.length + 1)).map fun k => itZ f k s).Nodup := by
        refine List.pairwise_iff_getElem.mpr fun i j hi hj hij e => c ⟨i, j, hij, ?_, ?_⟩
        · rw [List.length_map, List.length_range] at hj
          omega
        · rw [List.getElem_map, List.getElem_map, List.getElem_range, List.getElem_range] at e
          exact e
      have := php _ ks nd fun x hx => by
        obtain ⟨k, _, rfl⟩ := List.mem_map.mp hx
        exact P.it k h
      rw [List.length_map, List.length_range] at this
      omega
  obtain ⟨i, j, hij, hj, e⟩ := key
  have e2 : itZ f (j - i) s = s := by
    refine P.itInj i (P.it _ h) h ?_
    rw [← itZ_add, show i + (j - i) = j by omega]
    exact e.symm
  obtain ⟨m, h1, ⟨h2, h3⟩, h4⟩ := least (P := fun m => 0 < m ∧ itZ f m s = s) (j - i) ⟨by omega, e2⟩
  exact ⟨m, by omega, h2, h3, fun k k0 km e => h4 k km ⟨k0, e⟩⟩
open Classical in
/-- .. -/
noncomputable def pd (f : Int → Int) (s : Int) : Nat := if h : ∃ m, IsPer f s m then h.choose else 0
theorem Pm.isPer (P : Pm f ks) {s : Int} (h : s ∈ ks) : IsPer f s (pd f s) ∧ pd f s ≤ ks.length := by
  obtain ⟨m, hm, hp⟩ := P.per h
  have ex : ∃ m, IsPer f s m := ⟨m, hp⟩
  have e : IsPer f s (pd f s) := by
    unfold pd
    rw [dif_pos ex]
    exact ex.choose_spec
  refine ⟨e, ?_⟩
  by_cases c : pd f s ≤ m
  · omega
  · exact absurd hp.2.1 (e.2.2 m hp.1 (by omega))
/-- s and its followers -/
def orb (f : Int → Int) (s : Int) (m : Nat) : List Int := (List.range m).map fun k => itZ f k s
theorem orb_length (s : Int) (m : Nat) : (orb f s m).length = m := by simp [orb]
theorem orb_get {s : Int} {m k : Nat} (h : k < m) : (orb f s m)[k]? = some (itZ f k s) := by
  unfold orb
  rw [List.getElem?_map, List.getElem?_range h]
  rfl
theorem orb_succ (s : Int) (m : Nat) : orb f s (m + 1) = orb f s m ++ [itZ f m s] := by
  unfold orb
  rw [List.range_succ, List.map_append]
  rfl
noncomputable def ringZ (f : Int → Int) (s : Int) : List Int := orb f s (pd f s)
theorem it_mod {s : Int} {m : Nat} (h : itZ f m s = s) (q r : Nat) : itZ f (m * q + r) s = itZ f r s := by
  induction q with
  | zero => rw [Nat.mul_zero, Nat.zero_add]
  | succ q ih =>
    rw [show m * (q + 1) + r = (m * q + r) + m by rw [Nat.mul_succ]; omega, itZ_add, h]
    exact ih
theorem Pm.mem_ring (P : Pm f ks) {s x : Int} (h : s ∈ ks) : x ∈ ringZ f s ↔ ∃ n, x = itZ f n s := by
  obtain ⟨⟨p0, p1, p2⟩, _⟩ := P.isPer h
  unfold ringZ orb
  constructor
  · intro hx
    obtain ⟨k, _, rfl⟩ := List.mem_map.mp hx
    exact ⟨k, rfl⟩
  · rintro ⟨n, rfl⟩
    refine List.mem_map.mpr ⟨n % pd f s, List.mem_range.mpr (Nat.mod_lt _ p0), ?_⟩
    have := it_mod p1 (n / pd f s) (n % pd f s)
    rw [Nat.div_add_mod] at this
    exact this.symm
theorem Pm.ring_in (P : Pm f ks) {s x : Int} (h : s ∈ ks) (hx : x ∈ ringZ f s) : x ∈ ks := by
  obtain ⟨n, rfl⟩ := (P.mem_ring h).mp hx
  exact P.it n h
theorem Pm.ring_self (P : Pm f ks) {s : Int} (h : s ∈ ks) : s ∈ ringZ f s := (P.mem_ring h).mpr ⟨0, rfl⟩
theorem Pm.ring_back (P : Pm f ks) {s x : Int} (h : s ∈ ks) (hx : x ∈ ringZ f s) : s ∈ ringZ f x := by
  obtain ⟨⟨p0, p1, p2⟩, _⟩ := P.isPer h
  have hk := P.ring_in h hx
  obtain ⟨n, rfl⟩ := (P.mem_ring h).mp hx
  refine (P.mem_ring hk).mpr ⟨pd f s * n - n, ?_⟩
  rw [← itZ_add, Nat.sub_add_cancel (Nat.le_mul_of_pos_left n p0)]
  have := it_mod p1 n 0
  rw [Nat.add_zero] at this
  exact this.symm
theorem Pm.ring_trans (P : Pm f ks) {s x y : Int} (h : s ∈ ks) (hx : x ∈ ringZ f s) (hy : y ∈ ringZ f x) : y ∈ ringZ f s := by
  obtain ⟨n, rfl⟩ := (P.mem_ring h).mp hx
  obtain ⟨m, rfl⟩ := (P.mem_ring (P.it n h)).mp hy
  exact (P.mem_ring h).mpr ⟨m + n, by rw [itZ_add]⟩
theorem Pm.ring_nd (P : Pm f ks) {s : Int} (h : s ∈ ks) : (ringZ f s).Nodup := by
  obtain ⟨⟨p0, p1, p2⟩, _⟩ := P.isPer h
  unfold ringZ orb
  refine List.pairwise_iff_getElem.mpr fun i j hi hj hij e => ?_
  rw [List.length_map, List.length_range] at hi hj
  rw [List.getElem_map, List.getElem_map, List.getElem_range, List.getElem_range] at e
  refine p2 (j - i) (by omega) (by omega) (P.itInj i (P.it _ h) h ?_)
  rw [← itZ_add, show i + (j - i) = j by omega]
  exact e.symm
/-- the least of a list -/
def mnZ : List Int → Int
  | [] => 0
  | x :: xs => minZ x xs
theorem mnZ_in {l : List Int} (h : l ≠ []) : mnZ l ∈ l ∧ ∀ y ∈ l, mnZ l ≤ y := by
  cases l with
  | nil => exact absurd rfl h
  | cons x xs => exact minZ_mem xs x
theorem mn_eq {l m : List Int} (hl : l ≠ []) (hm : m ≠ []) (h : ∀ x, x ∈ l ↔ x ∈ m) : mnZ l = mnZ m := by
  obtain ⟨a1, a2⟩ := mnZ_in hl
  obtain ⟨b1, b2⟩ := mnZ_in hm
  have h1 := a2 _ ((h _).mpr b1)
  have h2 := b2 _ ((h _).mp a1)
  omega
theorem Pm.ring_ne (P : Pm f ks) {s : Int} (h : s ∈ ks) : ringZ f s ≠ [] := fun e => by
  have := P.ring_self h
  rw [e] at this
  cases this
theorem Pm.ring_same (P : Pm f ks) {s x : Int} (h : s ∈ ks) (hx : x ∈ ringZ f s) (y : Int) : y ∈ ringZ f s ↔ y ∈ ringZ f x :=
  ⟨fun hy => P.ring_trans (P.ring_in h hx) (P.ring_back h hx) hy, fun hy => P.ring_trans h hx hy⟩
/-- the first ones of the rings -/
noncomputable def heads (f : Int → Int) (ks : List Int) : List Int := ks.filter fun s => decide (mnZ (ringZ f s) = s)
theorem mem_heads {s : Int} : s ∈ heads f ks ↔ s ∈ ks ∧ mnZ (ringZ f s) = s := by
  unfold heads
  rw [List.mem_filter, decide_eq_true_eq]
theorem Pm.rings_perm (P : Pm f ks) : ((heads f ks).flatMap (ringZ f)).Perm ks := by
  refine (List.perm_ext_iff_of_nodup ?_ P.nd).mpr fun x => ?_
  · refine List.pairwise_flatMap.mpr ⟨fun s hs => P.ring_nd (mem_heads.mp hs).1, ?_⟩
    refine List.Pairwise.imp_of_mem ?_ (List.Pairwise.filter _ P.nd)
    intro s t hs ht ne x hx y hy e
    obtain ⟨s1, s2⟩ := mem_heads.mp hs
    obtain ⟨t1, t2⟩ := mem_heads.mp ht
    subst e
    have e1 := mn_eq (P.ring_ne s1) (P.ring_ne (P.ring_in s1 hx)) (P.ring_same s1 hx)
    have e2 := mn_eq (P.ring_ne t1) (P.ring_ne (P.ring_in t1 hy)) (P.ring_same t1 hy)
    exact ne (by rw [← s2, ← t2, e1, e2])
  · rw [List.mem_flatMap]
    constructor
    · rintro ⟨s, hs, hx⟩
      exact P.ring_in (mem_heads.mp hs).1 hx
    · intro hx
      obtain ⟨m1, m2⟩ := mnZ_in (P.ring_ne hx)
      have hs := P.ring_in hx m1
      refine ⟨mnZ (ringZ f x), mem_heads.mpr ⟨hs, ?_⟩, P.ring_back hx m1⟩
      exact (mn_eq (P.ring_ne hx) (P.ring_ne hs) (P.ring_same hx m1)).symm
theorem bMin_t {l : List Int} (h : l ≠ []) : bMinA [tI l] = some (.int (mnZ l)) := by
  cases l with
  | nil => exact absurd rfl h
  | cons x xs =>
    show (match asInts ((x :: xs).map PyData.int) with | some (n :: ns) => some (PyData.int (minZ n ns)) | _ => none) = _
    rw [asInts_map]
    rfl
end
end Pu

set_option Elab.async false
set_option linter.all false
set_option maxRecDepth 100000
set_option maxHeartbeats 2000000
namespace Pu
open PySem PySem.Spec PyProof.Rows L2
variable [TabL]
section
variable {X : Cx} {M : Nat → Bool} {F : Fx} {E : L2.St → XK} {σ : L2.St} {ρ : Rho} {H H' H1 : Hp} {D : Ends} {la fa lb fb : Bool} {a b : Expr} {pos : Pos} {f g : Rho → Re PyData}
/-- x.insert(e, v) -/
def sIns (i : Nat) (lk : Bool) (f g : Rho → Re PyData) : Rho → Sr := fun ρ => match getL ρ i with
  | some ds => (f ρ).st ρ fun d => (g ρ).st ρ fun e => (match d with
    | .int n => if okLen (ds.length + 1) = true ∧ 0 ≤ n ∧ n < 2 ^ 63 ∧ (lk = true → imm e = true) then .nx (ρ.set i (some (.list (ds.take n.toNat ++ [e] ++ ds.drop n.toNat)))) else .bad
    | _ => .bad)
  | none => .bad
theorem ds_ins {i : Nat} {x : Str} {p1 p2 p3 : Pos} (m : M i = true) (h : DE X M F E la fa a f) (k : DE X M F E lb fb b g) (hN : X.N[i]? = some x := by rfl) (hv : Vis X.env.scope x := by first | exact Or.inl rfl | exact Or.inr (Or.inl rfl) | exact Or.inr (Or.inr rfl)) (hd : (x == ("__debug__" : Str)) = false := by decide)
    (hcd : (x == ("__classdict__" : Str)) = false := by decide)
    (hs : swapsWith (.Call (.Attribute (.Name x p1) "insert" p2) [a, b] [] p3) none pos.line X.env = pure false := by rfl) (hbase : attributeBase (.Name x p1) "insert" X.env (eval (.Name x p1) X.env) = eval (.Name x p1) X.env := by rfl)
    (hfew : ((backTo p3 (starEach (a :: [b]) X.env)).all (fun x => !x.1) && (backToKw p3 (keywordEach [] X.env)).all (fun x => x.1.isSome) && decide ((a :: ([b] : List Expr)).length + ([] : List Keyword).length + (if ([] : List Keyword).isEmpty then 0 else 1) < 30)) = true := by rfl)
    (hline : (p2.endLine == p3.line) = true := by rfl) (hst : starEach (a :: [b]) X.env = (false, eval a X.env) :: starEach [b] X.env := by rfl) (hst2 : starEach (b :: []) X.env = (false, eval b X.env) :: starEach [] X.env := by rfl) (hplain : (backTo p3 (starEach [b] X.env)).any (·.1) = false := by rfl) :
    DS X M F E (.Expr (.Call (.Attribute (.Name x p1) "insert" p2) [a, b] [] p3) pos) (sIns i lb f g) := by
  obtain ⟨t, pa, h⟩ := h
  obtain ⟨u, pb, k⟩ := k
  refine ⟨_, ps_expr (pe_bm PySem.F.plainAttrs_list PySem.F.slot_list_insert PySem.F.type_list_insert mt_insert (pe_var hN hv hd hcd) (pa_cons pa (pa_cons pb pa_nil hst2) hst) hbase hfew hline hst hplain) hs, fun σ H ρ er D w => ?_⟩
  unfold sIns at w
  cases hl : getL ρ i with
  | none =>
    rw [hl] at w
    exact w.elim
  | some ds =>
    rw [hl] at w
    obtain ⟨pp, xs, hs', hx, rx⟩ := er.lst m hl
    refine ⟨.ref pp, hs', sq_l hx, h σ H ρ er _ (ws_step er w fun d v H1 e1 s1 r1 _ w1 => ?_)⟩
    have er1 := er.same s1
    refine k σ H1 ρ er1 _ (ws_step er1 w1 fun e y H2 e2 s2 r2 _ w2 => ?_)
    have er2 := er1.same s2
    cases r1 with
    | int n =>
      have w2 : WS X M F E σ H2 ρ (if okLen (ds.length + 1) = true ∧ 0 ≤ n ∧ n < 2 ^ 63 ∧ (lb = true → imm e = true) then .nx (ρ.set i (some (.list (ds.take n.toNat ++ [e] ++ ds.drop n.toNat)))) else .bad) D := w2
      by_cases c : okLen (ds.length + 1) = true ∧ 0 ≤ n ∧ n < 2 ^ 63 ∧ (lb = true → imm e = true)
      · rw [if_pos c] at w2
        obtain ⟨c1, c2, c3, c4⟩ := c
        have hx2 := s2 _ _ (s1 _ _ hx)
        have hz : xs.length < sizeLine := by
          have := of_decide_eq_true c1
          rw [rx.length]
          exact Nat.lt_of_lt_of_le (Nat.lt_of_succ_le this) (by decide)
        have rx2 := (rx.same s1).same s2
        obtain ⟨er3, ev3⟩ := er2.putL m hl hs' hx2 (((rx2.take n.toNat).append (.cons (rp_lk r2 c4) .nil)).append (rx2.drop n.toNat))
        exact ⟨pp, xs, n, y, rfl, rfl, hx2, hz, c2, c3, w2 σ _ er3 ev3⟩
      · rw [if_neg c] at w2
        exact w2.elim
    | bl _ => exact w2.elim
    | non => exact w2.elim
    | str _ => exact w2.elim
    | tup _ _ => exact w2.elim
    | lst _ _ _ => exact w2.elim
    | scr _ _ => exact w2.elim
    | dic _ _ _ _ => exact w2.elim
    | dit _ _ _ _ => exact w2.elim
    | dif _ _ _ => exact w2.elim
    | rng _ => exact w2.elim
    | dct _ _ _ _ => exact w2.elim
end
end Pu

set_option Elab.async false
set_option linter.all false
set_option maxRecDepth 100000
set_option maxHeartbeats 2000000
/-! rings, when two places are exchanged; the way back -/
namespace Pu
open PySem PySem.Spec PyProof.Rows L2
variable [TabL]
section
variable {f f' : Int → Int} {ks : List Int}
theorem heads_nd (P : Pm f ks) : (heads f ks).Nodup := List.Pairwise.filter _ P.nd
theorem Pm.mn_ring (P : Pm f ks) {s x : Int} (h : s ∈ ks) (hx : x ∈ ringZ f s) : mnZ (ringZ f s) = mnZ (ringZ f x) := mn_eq (P.ring_ne h) (P.ring_ne (P.ring_in h hx)) (P.ring_same h hx)
theorem heads_swap (P : Pm f ks) (P' : Pm f' ks) {i j : Int} (hi : i ∈ ks) (h : ∀ x ∈ ks, f x ≠ i → f x ≠ j → f' x = f x) : (heads f ks).length ≤ (heads f' ks).length + 1 := by
  have same : ∀ s ∈ ks, i ∉ ringZ f s → j ∉ ringZ f s → ∀ n, itZ f' n s = itZ f n s := fun s hs h1 h2 n => by
    induction n with
    | zero => rfl
    | succ n ih =>
      show f' (itZ f' n s) = f (itZ f n s)
      rw [ih]
      have m : f (itZ f n s) ∈ ringZ f s := (P.mem_ring hs).mpr ⟨n + 1, rfl⟩
      exact h _ (P.it n hs) (fun e => h1 (e ▸ m)) fun e => h2 (e ▸ m)
  have mem : ∀ s ∈ ks, i ∉ ringZ f s → j ∉ ringZ f s → ∀ x, x ∈ ringZ f' s ↔ x ∈ ringZ f s := fun s hs h1 h2 x => by
    rw [P.mem_ring hs, P'.mem_ring hs]
    constructor
    · rintro ⟨n, rfl⟩
      exact ⟨n, same s hs h1 h2 n⟩
    · rintro ⟨n, rfl⟩
      exact ⟨n, (same s hs h1 h2 n).symm⟩
  let A := (heads f ks).filter fun s => decide (i ∉ ringZ f s ∧ j ∉ ringZ f s)
  have mA : ∀ s, s ∈ A ↔ s ∈ heads f ks ∧ i ∉ ringZ f s ∧ j ∉ ringZ f s := fun s => by
    show s ∈ (heads f ks).filter _ ↔ _
    rw [List.mem_filter, decide_eq_true_eq]
  have nA : A.Nodup := List.Pairwise.filter _ (heads_nd P)
  obtain ⟨m1, m2⟩ := mnZ_in (P'.ring_ne hi)
  have hh := P'.ring_in hi m1
  have ih : i ∈ ringZ f' (mnZ (ringZ f' i)) := P'.ring_back hi m1
  have hhd : mnZ (ringZ f' i) ∈ heads f' ks := mem_heads.mpr ⟨hh, (P'.mn_ring hi m1).symm⟩
  have l1 : A.length + 1 ≤ (heads f' ks).length := by
    have := php (mnZ (ringZ f' i) :: A) (heads f' ks) (List.nodup_cons.mpr ⟨fun q => ?_, nA⟩) fun x hx => ?_
    · rwa [List.length_cons] at this
    · obtain ⟨q1, q2, q3⟩ := (mA _).mp q
      exact q2 ((mem _ (mem_heads.mp q1).1 q2 q3 i).mp ih)
    · rcases List.mem_cons.mp hx with rfl | hx
      · exact hhd
      · obtain ⟨q1, q2, q3⟩ := (mA _).mp hx
        obtain ⟨q4, q5⟩ := mem_heads.mp q1
        refine mem_heads.mpr ⟨q4, ?_⟩
        rw [mn_eq (P'.ring_ne q4) (P.ring_ne q4) (mem x q4 q2 q3)]
        exact q5
  have l2 : (heads f ks).length ≤ A.length + 2 := by
    have := php (heads f ks) (A ++ [mnZ (ringZ f i), mnZ (ringZ f j)]) (heads_nd P) fun x hx => ?_
    · rw [List.length_append] at this
      exact this
    · obtain ⟨q4, q5⟩ := mem_heads.mp hx
      rw [List.mem_append]
      by_cases c : i ∈ ringZ f x
      · refine .inr ?_
        rw [← q5, P.mn_ring q4 c]
        exact List.mem_cons_self
      · by_cases c2 : j ∈ ringZ f x
        · refine .inr (List.mem_cons_of_mem _ ?_)
          rw [← q5, P.mn_ring q4 c2]
          exact List.mem_cons_self
        · exact .inl ((mA x).mpr ⟨hx, c, c2⟩)
  omega
/-- the way back has the same rings -/
theorem heads_inv (P : Pm f ks) (P' : Pm f' ks) (h : ∀ x ∈ ks, f' (f x) = x) : heads f' ks = heads f ks := by
  have itb : ∀ n s, s ∈ ks → itZ f' n (itZ f n s) = s := fun n => by
    induction n with
    | zero => exact fun s _ => rfl
    | succ n ih =>
      intro s hs
      have e : itZ f (n + 1) s = itZ f n (f s) := itZ_add f n 1 s
      rw [e]
      show f' (itZ f' n (itZ f n (f s))) = s
      rw [ih (f s) (P.to s hs)]
      exact h s hs
  have mem : ∀ s ∈ ks, ∀ x, x ∈ ringZ f s → x ∈ ringZ f' s := fun s hs x hx => by
    have hk := P.ring_in hs hx
    obtain ⟨n, rfl⟩ := (P.mem_ring hs).mp hx
    refine P'.ring_back hk ((P'.mem_ring hk).mpr ⟨n, ?_⟩)
    exact (itb n s hs).symm
  have mem2 : ∀ s ∈ ks, ∀ x, x ∈ ringZ f' s → x ∈ ringZ f s := fun s hs x hx => by
    have hk := P'.ring_in hs hx
    obtain ⟨n, rfl⟩ := (P'.mem_ring hs).mp hx
    have it2 : ∀ n s, s ∈ ks → itZ f n (itZ f' n s) = s := fun n => by
      induction n with
      | zero => exact fun s _ => rfl
      | succ n ih =>
        intro s hs
        have e : itZ f' (n + 1) s = itZ f' n (f' s) := itZ_add f' n 1 s
        rw [e]
        show f (itZ f n (itZ f' n (f' s))) = s
        rw [ih (f' s) (P'.to s hs)]
        refine P'.inj _ (P.to _ (P'.to s hs)) _ hs ?_
        exact h _ (P'.to s hs)
    refine P.ring_back hk ((P.mem_ring hk).mpr ⟨n, ?_⟩)
    exact (it2 n s hs).symm
  unfold heads
  refine List.filter_congr fun s hs => ?_
  rw [mn_eq (P'.ring_ne hs) (P.ring_ne hs) fun x => ⟨mem2 s hs x, mem s hs x⟩]
theorem heads_id (P : Pm f ks) (h : ∀ x ∈ ks, f x = x) : heads f ks = ks := by
  unfold heads
  refine List.filter_eq_self.mpr fun s hs => decide_eq_true ?_
  have it : ∀ n, itZ f n s = s := fun n => by
    induction n with
    | zero => rfl
    | succ n ih =>
      show f (itZ f n s) = s
      rw [ih]
      exact h s hs
  obtain ⟨m1, _⟩ := mnZ_in (P.ring_ne hs)
  obtain ⟨n, e⟩ := (P.mem_ring hs).mp m1
  rw [e, it]
end
end Pu

set_option Elab.async false
set_option linter.all false
set_option maxRecDepth 100000
set_option maxHeartbeats 2000000
/-! two plain rows: where a piece of the first stands in the second -/
namespace Pu
open PySem PySem.Spec PyProof.Rows L2
variable [TabL]
theorem up_nodup (a : Int) (n : Nat) : (upI a n).Nodup := by
  unfold upI
  refine List.pairwise_map.mpr (List.pairwise_lt_range.imp fun h => ?_)
  omega
theorem up_mem {a x : Int} {n : Nat} : x ∈ upI a n ↔ a ≤ x ∧ x < a + n := by
  unfold upI
  rw [List.mem_map]
  constructor
  · rintro ⟨k, hk, rfl⟩
    have := List.mem_range.mp hk
    omega
  · intro h
    exact ⟨(x - a).toNat, List.mem_range.mpr (by omega), by omega⟩
/-- two plain rows of n pieces -/
structure Two (n : Nat) (a b : List Int) : Prop where
  pa : a.Perm (upI 1 n)
  pb : b.Perm (upI 1 n)
section
variable {n : Nat} {a b : List Int}
theorem Two.la (T : Two n a b) : a.length = n := by rw [T.pa.length_eq, upI_length]
theorem Two.lb (T : Two n a b) : b.length = n := by rw [T.pb.length_eq, upI_length]
theorem Two.nb (T : Two n a b) : b.Nodup := T.pb.symm.nodup (up_nodup 1 n)
theorem Two.na (T : Two n a b) : a.Nodup := T.pa.symm.nodup (up_nodup 1 n)
theorem Two.back (T : Two n a b) : Two n b a := ⟨T.pb, T.pa⟩
/-- the place in b of the piece at p of a -/
def gZ (a b : List Int) (p : Int) : Int := ((idxZ ((atZ a p).getD 0) b).getD 0 : Nat)
theorem Two.at (T : Two n a b) {p : Int} (hp : p ∈ upI 0 n) : ∃ x, atZ a p = some x ∧ a[p.toNat]? = some x ∧ gZ a b p ∈ upI 0 n ∧ atZ b (gZ a b p) = some x := by
  have la := T.la
  obtain ⟨h1, h2⟩ := up_mem.mp hp
  obtain ⟨x, e1, e2⟩ := atZ_p (ns := a) h1 (by omega)
  have hx : x ∈ b := T.pb.mem_iff.mpr (T.pa.mem_iff.mp (List.mem_of_getElem? e2))
  obtain ⟨j, ej⟩ := idxZ_mem hx
  have gj := (idxZ_some ej).1
  have hj := getSome gj
  have lb := T.lb
  have eg : gZ a b p = (j : Int) := by
    unfold gZ
    rw [e1]
    show (((idxZ x b).getD 0 : Nat) : Int) = j
    rw [ej]
    rfl
  refine ⟨x, e1, e2, ?_, ?_⟩
  · rw [eg]
    exact up_mem.mpr (by omega)
  · rw [eg, atZ_nat hj]
    exact gj
theorem atZ_inj {l : List Int} (nd : l.Nodup) {p q x : Int} (hp : p ∈ upI 0 l.length) (hq : q ∈ upI 0 l.length) (e1 : atZ l p = some x) (e2 : atZ l q = some x) : p = q := by
  obtain ⟨h1, h2⟩ := up_mem.mp hp
  obtain ⟨h3, h4⟩ := up_mem.mp hq
  obtain ⟨y, a1, a2⟩ := atZ_p (ns := l) h1 (by omega)
  obtain ⟨z, b1, b2⟩ := atZ_p (ns := l) h3 (by omega)
  rw [e1] at a1
  rw [e2] at b1
  cases a1
  cases b1
  obtain ⟨i1, j1⟩ := List.getElem?_eq_some_iff.mp a2
  obtain ⟨i2, j2⟩ := List.getElem?_eq_some_iff.mp b2
  have := (List.getElem_inj (h₀ := i1) (h₁ := i2) nd).mp (j1.trans j2.symm)
  omega
theorem Two.g_eq (T : Two n a b) {p q x : Int} (hp : p ∈ upI 0 n) (hq : q ∈ upI 0 n) (e1 : atZ a p = some x) (e2 : atZ b q = some x) : gZ a b p = q := by
  obtain ⟨y, a1, _, a3, a4⟩ := T.at hp
  rw [e1] at a1
  cases a1
  have lb := T.lb
  exact atZ_inj T.nb (by rw [lb]; exact a3) (by rw [lb]; exact hq) a4 e2
theorem Two.pm (T : Two n a b) : Pm (gZ a b) (upI 0 n) := by
  refine ⟨up_nodup 0 n, fun p hp => (T.at hp).choose_spec.2.2.1, fun p hp q hq e => ?_⟩
  obtain ⟨x, a1, _, a3, a4⟩ := T.at hp
  obtain ⟨y, b1, _, b3, b4⟩ := T.at hq
  rw [e] at a4
  rw [a4] at b4
  cases b4
  have la := T.la
  exact atZ_inj T.na (by rw [la]; exact hp) (by rw [la]; exact hq) a1 b1
theorem Two.inv (T : Two n a b) : ∀ p ∈ upI 0 n, gZ b a (gZ a b p) = p := fun p hp => by
  obtain ⟨x, a1, _, a3, a4⟩ := T.at hp
  exact T.back.g_eq a3 hp a4 a1
/-- places i and j exchanged -/
def swZ (r : List Int) (i j : Int) : List Int := (r.set i.toNat ((atZ r j).getD 0)).set j.toNat ((atZ r i).getD 0)
theorem swZ_len (r : List Int) (i j : Int) : (swZ r i j).length = r.length := by
  unfold swZ
  rw [List.length_set, List.length_set]
theorem swZ_at {r : List Int} {i j p : Int} (hi : i ∈ upI 0 r.length) (hj : j ∈ upI 0 r.length) (hp : p ∈ upI 0 r.length) (hij : i ≠ j) : atZ (swZ r i j) p = if p = j then atZ r i else if p = i then atZ r j else atZ r p := by
  obtain ⟨h1, h2⟩ := up_mem.mp hi
  obtain ⟨h3, h4⟩ := up_mem.mp hj
  obtain ⟨h5, h6⟩ := up_mem.mp hp
  obtain ⟨x, e1, e2⟩ := atZ_p (ns := r) h1 (by omega)
  obtain ⟨y, e3, e4⟩ := atZ_p (ns := r) h3 (by omega)
  obtain ⟨z, e5, e6⟩ := atZ_p (ns := r) h5 (by omega)
  have hl := swZ_len r i j
  have get : ∀ (l : List Int) (q : Int), 0 ≤ q → q < l.length → atZ l q = l[q.toNat]? := fun l q a b => by
    obtain ⟨w, f1, f2⟩ := atZ_p (ns := l) a b
    rw [f1, f2]
  rw [get (swZ r i j) p h5 (by omega)]
  unfold swZ
  by_cases c : p = j
  · rw [if_pos c]
    subst c
    rw [List.getElem?_set_self (by rw [List.length_set]; omega), e1]
    rfl
  · rw [if_neg c, List.getElem?_set_ne (by omega)]
    by_cases c2 : p = i
    · rw [if_pos c2]
      subst c2
      rw [List.getElem?_set_self (by omega), e3]
      rfl
    · rw [if_neg c2, List.getElem?_set_ne (by omega), e5, e6]
theorem ext_at {l m : List Int} (h : l.length = m.length) (e : ∀ p ∈ upI 0 l.length, atZ l p = atZ m p) : l = m := List.ext_getElem? fun k => by
  by_cases c : k < l.length
  · have := e (k : Int) (up_mem.mpr (by omega))
    rwa [atZ_nat c, atZ_nat (by omega)] at this
  · rw [List.getElem?_eq_none (by omega), List.getElem?_eq_none (by omega)]
theorem atZ_mem {r : List Int} {p x : Int} (hp : p ∈ upI 0 r.length) (e : atZ r p = some x) : x ∈ r := by
  obtain ⟨h1, h2⟩ := up_mem.mp hp
  obtain ⟨y, e1, e2⟩ := atZ_p (ns := r) h1 (by omega)
  rw [e] at e1
  cases e1
  exact List.mem_of_getElem? e2
theorem mem_atZ {r : List Int} {x : Int} (h : x ∈ r) : ∃ p, p ∈ upI 0 r.length ∧ atZ r p = some x := by
  obtain ⟨k, hk, e⟩ := List.mem_iff_getElem.mp h
  refine ⟨(k : Int), up_mem.mpr (by omega), ?_⟩
  rw [atZ_nat hk, List.getElem?_eq_getElem hk, e]
theorem swZ_perm {r : List Int} (nd : r.Nodup) {i j : Int} (hi : i ∈ upI 0 r.length) (hj : j ∈ upI 0 r.length) (hij : i ≠ j) : (swZ r i j).Perm r := by
  have hl := swZ_len r i j
  have key : ∀ x, x ∈ swZ r i j ↔ x ∈ r := fun x => by
    constructor
    · intro h
      obtain ⟨p, hp, e⟩ := mem_atZ h
      rw [hl] at hp
      rw [swZ_at hi hj hp hij] at e
      split at e
      · exact atZ_mem hi e
      · split at e
        · exact atZ_mem hj e
        · exact atZ_mem hp e
    · intro h
      obtain ⟨p, hp, e⟩ := mem_atZ h
      by_cases c : p = j
      · subst c
        refine atZ_mem (p := i) (by rw [hl]; exact hi) ?_
        rw [swZ_at hi hj hi hij, if_neg hij, if_pos rfl]
        exact e
      · by_cases c2 : p = i
        · subst c2
          refine atZ_mem (p := j) (by rw [hl]; exact hj) ?_
          rw [swZ_at hi hj hj hij, if_pos rfl]
          exact e
        · refine atZ_mem (p := p) (by rw [hl]; exact hp) ?_
          rw [swZ_at hi hj hp hij, if_neg c, if_neg c2]
          exact e
  have nd2 : (swZ r i j).Nodup := by
    refine List.pairwise_iff_getElem.mpr fun k m hk hm hkm e => ?_
    have ek : atZ (swZ r i j) (k : Int) = some (swZ r i j)[k] := by rw [atZ_nat hk, List.getElem?_eq_getElem hk]
    have em : atZ (swZ r i j) (m : Int) = some (swZ r i j)[m] := by rw [atZ_nat hm, List.getElem?_eq_getElem hm]
    rw [e] at ek
    have mk : (k : Int) ∈ upI 0 r.length := up_mem.mpr (by omega)
    have mm : (m : Int) ∈ upI 0 r.length := up_mem.mpr (by omega)
    rw [swZ_at hi hj mk hij] at ek
    rw [swZ_at hi hj mm hij] at em
    have inj := fun {p q x : Int} hp hq e1 e2 => atZ_inj (x := x) (p := p) (q := q) nd hp hq e1 e2
    split at ek <;> split at em <;> (try split at ek) <;> (try split at em) <;> first
      | (have := inj hi hi ek em; omega) | (have := inj hi hj ek em; omega) | (have := inj hi mm ek em; omega) | (have := inj hj hi ek em; omega) | (have := inj hj hj ek em; omega) | (have := inj hj mm ek em; omega)
      | (have := inj mk hi ek em; omega) | (have := inj mk hj ek em; omega) | (have := inj mk mm ek em; omega)
  exact (List.perm_ext_iff_of_nodup nd2 nd).mpr key
/-- the least number of swaps -/
noncomputable def lsZ (n : Nat) (a b : List Int) : Nat := n - (heads (gZ a b) (upI 0 n)).length
theorem heads_le (f : Int → Int) (n : Nat) : (heads f (upI 0 n)).length ≤ n := by
  have := List.length_filter_le (fun s => decide (mnZ (ringZ f s) = s)) (upI 0 n)
  rw [upI_length] at this
  exact this
theorem Two.ls_back (T : Two n a b) : lsZ n b a = lsZ n a b := by
  unfold lsZ
  rw [heads_inv T.pm T.back.pm T.inv]
theorem ls_self {r : List Int} (h : r.Perm (upI 1 n)) : lsZ n r r = 0 := by
  have T : Two n r r := ⟨h, h⟩
  unfold lsZ
  rw [heads_id T.pm fun p hp => ?_]
  · rw [upI_length]
    omega
  · obtain ⟨x, a1, _, _, _⟩ := T.at hp
    exact T.g_eq hp hp a1 a1
theorem Two.swap (T : Two n a b) {i j : Int} (hi : i ∈ upI 0 n) (hj : j ∈ upI 0 n) (hij : i ≠ j) : Two n a (swZ b i j) ∧ lsZ n a (swZ b i j) ≤ lsZ n a b + 1 := by
  have lb := T.lb
  have hi' : i ∈ upI 0 b.length := by rw [lb]; exact hi
  have hj' : j ∈ upI 0 b.length := by rw [lb]; exact hj
  have T' : Two n a (swZ b i j) := ⟨T.pa, (swZ_perm T.nb hi' hj' hij).trans T.pb⟩
  refine ⟨T', ?_⟩
  have := heads_swap T.pm T'.pm hi (j := j) fun p hp h1 h2 => by
    obtain ⟨x, a1, _, a3, a4⟩ := T.at hp
    refine T'.g_eq hp a3 a1 ?_
    rw [swZ_at hi' hj' (by rw [lb]; exact a3) hij, if_neg h2, if_neg h1]
    exact a4
  have h2 := heads_le (gZ a b) n
  unfold lsZ
  omega
end
end Pu

set_option Elab.async false
set_option linter.all false
set_option maxRecDepth 100000
set_option maxHeartbeats 2000000
/-! x, *ys = t of a tuple -/
namespace HT
open PySem PySem.Spec PyProof.Rows
section
variable {prog : Program} {w : World} {A : Around} {E : Value → Shared → Prop} {s : Shared}
theorem walk_from (hh : A.handled = none) (I ax : Addr) (hne : ax ≠ I) (its : Array Value) (k : Nat) (hk : k ≤ its.size) :
    Walks prog w A I [I, ax] [I] (its.size - k) (fun i v => its[k + i]? = some v) (fun i h => h.IsTupleIter I ax (k + i) ∧ h.IsTuple ax its) where
  sub := fun b hb => by
    rw [List.mem_singleton.mp hb]
    exact List.mem_cons_self
  frame := fun _ _ _ st q => ⟨st.1.at fun o e => q I List.mem_cons_self o e, st.2.at fun o e => q ax (List.mem_cons_of_mem _ List.mem_cons_self) o e⟩
  item := fun i s Q E hi st hQ => by
    have hlt : k + i < its.size := by omega
    refine wpAny_pyNext_tuple_item st.1 st.2 (x := its[k + i]) (by simp [hlt]) fun h' it' sb => ?_
    exact hQ _ h' s.toks (by simp [hlt]) ⟨it', st.2.extBut sb.extBut hne⟩ fun b o hb e => sb.extBut b o (fun z => hb (List.mem_singleton.mpr z)) e
  done := fun s Q E st hQ => wpAny_pyNext_tuple_end hh st.1 st.2 (by simp; omega) fun h' ex => hQ h' s.toks fun b o hb e => ex b o (fun z => hb (List.mem_singleton.mpr z)) e
  self := fun _ _ _ _ st hQ => wpAny_pyIter_tupleiter st.1 hQ
theorem star_items {t : Addr} {x : Value} {its : List Value} {Q : List Value → Shared → Prop} (hh : A.handled = none) (ht : IsTup s.heap t (x :: its).toArray) (hz : its.length ≤ sizeLine)
    (hQ : ∀ (h' : Heap) (tk : Nat), (∀ b o, s.heap.get? b = some o → h'.get? b = some o) → Q [x, .ref h'.objs.size] { s with heap := h'.push { cls := .type "list", data := .seq its.toArray }, toks := tk }) :
    wpAny (model prog w) A (unpackItems (.ref t) 2 (some 1)) Q E s := by
  have hlt : t ≠ s.heap.objs.size := by
    obtain ⟨o, ho, _⟩ := ht
    exact Nat.ne_of_lt (Heap.lt_size ho)
  unfold unpackItems
  refine wpAny_bind ?_
  unfold notIterableAtAll
  refine wpAny_bind (wpAny_specialOf ht.typeIs slot_tuple_iter.lookup ?_)
  refine wpAny_pure ?_
  simp only [Bool.false_eq_true, if_false]
  refine wpAny_bind (wpAny_holding (iter_tuple ht ?_))
  refine wpAny_bind (wpAny_holding (draw_tuple hlt 1 0 _ _ ⟨_, Heap.get?_push_size _ rfl, rfl, rfl⟩ (ht.push _) (by simp) fun h1 hit1 sb1 => ?_))
  have hall : List.take 1 (List.drop 0 (x :: its).toArray.toList) = [x] := rfl
  rw [hall]
  rw [if_neg (by simp)]
  have ht1 : IsTup h1 t (x :: its).toArray := (ht.push _).extBut sb1.extBut hlt
  have W := walk_from (prog := prog) (w := w) (A := A.in1) hh s.heap.objs.size t hlt (x :: its).toArray 1 (by simp)
  have hlen : (x :: its).toArray.size - 1 = its.length := by simp
  have hI : s.heap.objs.size < h1.objs.size := by
    obtain ⟨o, ho, _⟩ := hit1
    exact Heap.lt_size ho
  have ht1' : t < h1.objs.size := by
    obtain ⟨o, ho, _⟩ := ht1
    exact Heap.lt_size ho
  refine wpAny_bind (wpAny_holding ?_)
  refine wpAny_collect_iter (T := "tuple_iterator") (.inr (.inr (.inr rfl))) W.toS (fun i s st => by
    obtain ⟨o, e1, e2, _⟩ := st.1
    exact ⟨o, e1, e2⟩) (St := fun i s => _) ⟨hit1, ht1⟩ (fun b hb => ?_) List.mem_cons_self (fun s' acc mv io => ?_) (by rw [hlen]; exact hz)
  · rcases List.mem_cons.mp hb with rfl | hb
    · exact hI
    · rw [List.mem_singleton.mp hb]
      exact ht1'
  · have ea : acc.toList = its := by
      obtain ⟨i1, i2⟩ := io
      rw [hlen] at i1
      refine List.ext_getElem? fun j => ?_
      by_cases c : j < its.length
      · have hj : j < acc.size := by omega
        have e1 : acc[j]? = some acc[j] := by simp [hj]
        have e2 : (x :: its).toArray[1 + j]? = some acc[j] := i2 j _ e1
        have e3 : (x :: its).toArray[1 + j]? = its[j]? := by
          rw [List.getElem?_toArray, Nat.add_comm, List.getElem?_cons_succ]
        rw [e3] at e2
        rw [e2, Array.getElem?_toList, e1]
      · rw [List.getElem?_eq_none (by rw [Array.length_toList]; omega), List.getElem?_eq_none (by omega)]
    rw [ea]
    show wpAny _ _ (if its.length < 0 then _ else _) _ _ s'
    rw [if_neg (Nat.not_lt_zero _)]
    show wpAny _ _ (newList (its.take (its.length - 0)) >>= fun l => pure ([x] ++ [l] ++ its.drop (its.length - 0))) _ _ s'
    rw [Nat.sub_zero, List.take_length, List.drop_length]
    refine wpAny_bind (wpAny_newObj_type ?_ (by show its.toArray.size ≤ sizeLine; rw [List.size_toArray]; exact hz))
    refine wpAny_pure ?_
    obtain ⟨m1, m2, m3, m4, m5⟩ := mv
    obtain ⟨hp, gn, dr, tk, os⟩ := s'
    have m2 : gn = s.gens := m2
    have m3 : dr = s.drawn := m3
    have m4 : os = s.os := m4
    subst m2 m3 m4
    have hk : ∀ b o, s.heap.get? b = some o → hp.get? b = some o := fun b o e => by
      have hb : b ≠ s.heap.objs.size := Nat.ne_of_lt (Heap.lt_size e)
      exact m1 b o (fun z => hb (List.mem_singleton.mp z)) (sb1.extBut b o hb (Heap.get?_push_of_some _ e))
    exact hQ hp tk hk
end
end HT
namespace Pu
open PySem PySem.Spec PyProof.Rows L2
variable [TabL]
section
variable {X : Cx} {M : Nat → Bool} {F : Fx} {E : L2.St → XK} {la fa : Bool} {a : Expr} {pos : Pos} {f : Rho → Re PyData}
def gStar (K : PySem.W.Frag) (t0 t1 : TG) : TG := fun v σ H Q => ∃ p x xs, v = .ref p ∧ SqT K H p (x :: xs) ∧ ∀ l, H l = none → t0 x σ (upd H l (.lst xs)) fun σ1 H1 => t1 (.ref l) σ1 H1 Q
theorem pg_star {e0 e1 : Expr} {k : Nat} {p1 : Pos} {t0 t1 : TG} (hc : X.calm = true) (h0 : PG X e0 t0) (h1 : PG X e1 t1) (he : assignEach [e0, .Starred e1 p1] X.env = [(false, assign e0 X.env), (true, assign e1 X.env)] := by rfl) : PG X (.Tuple [e0, .Starred e1 p1] k pos) (gStar X.K t0 t1) := by
  refine ⟨fun pins s σ H v u Q I r hw => ?_⟩
  obtain ⟨p, x, xs, rfl, hq, hw⟩ := hw
  cases r
  obtain ⟨its, rv, ht, hz⟩ := I.tuple hq
  cases rv with
  | cons rx rxs =>
    rename_i y ys
    rw [PyProof.Rows.assign_Tuple]
    refine wpAny_bind (wpAny_standAt ?_)
    unfold unpack
    rw [he]
    refine wpAny_bind (wpAny_holding (HT.star_items (I.ok.hd hc) ht (by have := rxs.length; rw [List.length_cons] at hz; omega) fun h' tk hk => ?_))
    have I1 : Inv X pins σ H { s with heap := h', toks := tk } := I.kept (t' := tk) hk
    have hf : H h'.objs.size = none := I1.hok.fresh (Nat.le_refl _)
    have I2 : Inv X pins σ (upd H h'.objs.size (.lst xs)) { s with heap := h'.push { cls := .type "list", data := .seq ys.toArray }, toks := tk } := by
      refine I1.laid (t' := tk) (fun b u e => Heap.get?_push_of_some _ e) (Nat.le_refl _) ?_
      exact ⟨by rw [List.length_cons] at hz; omega, ys, 0, rxs, Heap.get?_push_size _ rfl⟩
    refine assignInOrder_cons (thn (h0.run pins _ σ _ x y _ I2 rx (hw _ hf)) ?_)
    rintro _ s1 ⟨σ1, H1, J, q⟩
    refine assignInOrder_cons (thn (h1.run pins s1 σ1 H1 (.ref h'.objs.size) (.ref h'.objs.size) _ J rfl q) ?_)
    rintro _ s2 ⟨σ2, H2, J2, q2⟩
    exact assignInOrder_nil ⟨σ2, H2, J2, q2⟩
/-- x, *ys = e -/
def sStar (i j : Nat) (f : Rho → Re PyData) : Rho → Sr := fun ρ => (f ρ).st ρ fun d => (match d with | .tuple (x :: xs) => .nx ((ρ.set i (some x)).set j (some (.list xs))) | _ => .bad)
theorem ds_star {i j : Nat} {x y : Str} {q0 q1 p1 q2 : Pos} {k : Nat} (mi : M i = false) (mj : M j = false) (hN : X.N.Nodup) (hc : X.calm = true) (h : DE X M F E false fa a f)
    (hi : X.N[i]? = some x := by rfl) (hj : X.N[j]? = some y := by rfl) (hx : Loc X.env.scope x := by first | exact Or.inl rfl | exact Or.inr rfl) (hy : Loc X.env.scope y := by first | exact Or.inl rfl | exact Or.inr rfl)
    (hfx : X.fn x = true ∨ X.env.scope.names.lookup x = some .local := by first | exact .inl rfl | exact .inr rfl) (hfy : X.fn y = true ∨ X.env.scope.names.lookup y = some .local := by first | exact .inl rfl | exact .inr rfl)
    (h1 : (assignEach [.Tuple [.Name x q0, .Starred (.Name y q1) p1] k q2] X.env).map (·.2) = [assign (.Tuple [.Name x q0, .Starred (.Name y q1) p1] k q2) X.env] := by rfl)
    (hs : swapsWithSole [.Tuple [.Name x q0, .Starred (.Name y q1) p1] k q2] a pos.line X.env = pure false := by rfl) (hw : swappedStores [.Tuple [.Name x q0, .Starred (.Name y q1) p1] k q2] a X.env = pure none := by rfl)
    (he : assignEach [.Name x q0, .Starred (.Name y q1) p1] X.env = [(false, assign (.Name x q0) X.env), (true, assign (.Name y q1) X.env)] := by rfl) :
    DS X M F E (.Assign [.Tuple [.Name x q0, .Starred (.Name y q1) p1] k q2] a pos) (sStar i j f) := by
  obtain ⟨t, pa, h⟩ := h
  refine ⟨_, ps_asg pa (pg_star hc (pg_name hN hi hx hfx) (pg_name hN hj hy hfy) he) hs hw (h1 := h1), fun σ H ρ er D w => ?_⟩
  refine h σ H ρ er _ (ws_step er w fun d v H1 e sm r _ w1 => ?_)
  have er1 := er.same sm
  cases r with
  | tup h1 rr =>
    cases rr with
    | nil => exact w1.elim
    | cons r1 r2 =>
      rename_i aa v0 vs0 d0 ds0 ff
      refine ⟨aa, v0, vs0, rfl, h1.sq, fun l hl => ?_⟩
      have s2 : Same H1 (upd H1 l (.lst vs0)) := same_new hl
      have fr : RS M F σ ρ false l := er1.freshS l hl
      have er3 : ER X.K M F (σ.set i (some v0)) (upd H1 l (.lst vs0)) (ρ.set i (some d0)) := (er1.same s2).set mi (r1.same s2)
      have cv : ∀ q, RS M F σ ρ false q → RS M F (σ.set i (some v0)) (ρ.set i (some d0)) false q := fun q z => ⟨z.1, fun _ o => z.2 rfl ((own_set mi).mp o)⟩
      have rl : Rp X.K (upd H1 l (.lst vs0)) (RS M F (σ.set i (some v0)) (ρ.set i (some d0)) false) (.ref l) (.list ds0) := .lst upd_same (cv l fr) ((r2.same s2).wide cv)
      have w2 : WS X M F E σ H1 ρ (.nx ((ρ.set i (some d0)).set j (some (.list ds0)))) D := w1
      refine w2 _ _ (er3.set mj rl) ?_
      exact (Evo.same s2).trans fun b u q n _ => ⟨q, fun o => n ((own_set mi).mp ((own_set mj).mp o))⟩
  | bl _ => exact w1.elim
  | non => exact w1.elim
  | int _ => exact w1.elim
  | str _ => exact w1.elim
  | lst _ _ _ => exact w1.elim
  | scr _ _ => exact w1.elim
  | dic _ _ _ _ => exact w1.elim
  | dit _ _ _ _ => exact w1.elim
  | dif _ _ _ => exact w1.elim
  | rng _ => exact w1.elim
  | dct _ _ _ _ => exact w1.elim
end
end Pu

set_option Elab.async false
set_option linter.all false
set_option maxRecDepth 100000
set_option maxHeartbeats 2000000
/-! x[e1], x[e2] = (v1, v2) on a list of the frame's own, numbers -/
namespace Pu
open PySem PySem.Spec PyProof.Rows L2
variable [TabL]
section
variable {X : Cx} {M : Nat → Bool} {F : Fx} {E : L2.St → XK} {σ : L2.St} {ρ : Rho} {H : Hp} {D : Ends} {la lb lc fb fc : Bool} {b c : Expr} {pos : Pos} {g1 g2 : Rho → Re PyData} {gs : Rho → Re (List PyData)}
theorem ws_stepLA {lk : Bool} {r : Re (List PyData)} {g : List PyData → Sr} {K : List V → Hp → Prop} (er : ER X.K M F σ H ρ) (w : WS X M F E σ H ρ (r.stL ρ g) D)
    (h : ∀ d v H', r = .ok d → Same H H' → RpA X.K H' (RS M F σ ρ lk) v d → WS X M F E σ H' ρ (g d) D → K v H') : WA X M F E lk σ ρ H r K := by
  cases r with
  | ok d => exact fun v H' s r => h d v H' rfl s r (ws_evo (Evo.same s) w)
  | ex c => exact fun C H' m s => w C σ H' m (er.same s) (Evo.same s)
  | bad => exact w
theorem sub_run {i : Nat} {t2 : TE} {fb : Bool} {z : Int} (m : M i = true) (h2 : ∀ σ H ρ, ER X.K M F σ H ρ → ∀ Q, WE X M F E lb fb σ ρ H (g1 ρ) Q → t2 σ H Q) (er : ER X.K M F σ H ρ) (w : WS X M F E σ H ρ (sPut i false (rC (.int z)) g1 ρ) D) :
    gSub (tVar i) t2 rSetL (.int z) σ H D.nx := by
  have w1 : WS X M F E σ H ρ (match getL ρ i with
    | some ds => (g1 ρ).st ρ fun e => (match e with
      | .int n => (match ixN ds.length n with
        | some k => if (false = true → imm (.int z) = true) then .nx (ρ.set i (some (.list (ds.set k (.int z))))) else .bad
        | none => .bad)
      | _ => .bad)
    | none => .bad) D := w
  cases hl : getL ρ i with
  | none =>
    rw [hl] at w1
    exact w1.elim
  | some ds =>
    rw [hl] at w1
    obtain ⟨pp, xs, hs', hx, rx⟩ := er.lst m hl
    refine ⟨.ref pp, hs', h2 σ H ρ er _ (ws_step er w1 fun d2 v2 H2 e2 sm2 r2 _ w2 => ?_)⟩
    cases r2 with
    | int n =>
      have w2 : WS X M F E σ H2 ρ (match ixN ds.length n with
        | some k => if (false = true → imm (.int z) = true) then .nx (ρ.set i (some (.list (ds.set k (.int z))))) else .bad
        | none => .bad) D := w2
      cases hk : ixN ds.length n with
      | none =>
        rw [hk] at w2
        exact w2.elim
      | some k =>
        rw [hk] at w2
        have w2 : WS X M F E σ H2 ρ (if (false = true → imm (.int z) = true) then .nx (ρ.set i (some (.list (ds.set k (.int z))))) else .bad) D := w2
        rw [if_pos fun z => nomatch z] at w2
        have er2 := er.same sm2
        obtain ⟨er3, ev3⟩ := er2.putL m hl hs' (sm2 _ _ hx) (RpA.set (.int z) k (rx.same sm2))
        exact ⟨pp, xs, n, k, rfl, rfl, sm2 _ _ hx, by rw [rx.length]; exact hk, w2 σ _ er3 ev3⟩
    | bl _ => exact w2.elim
    | non => exact w2.elim
    | str _ => exact w2.elim
    | tup _ _ => exact w2.elim
    | lst _ _ _ => exact w2.elim
    | scr _ _ => exact w2.elim
    | dic _ _ _ _ => exact w2.elim
    | dit _ _ _ _ => exact w2.elim
    | dif _ _ _ => exact w2.elim
    | rng _ => exact w2.elim
    | dct _ _ _ _ => exact w2.elim
def sPut2 (i : Nat) (gs : Rho → Re (List PyData)) (g1 g2 : Rho → Re PyData) : Rho → Sr := fun ρ => (gs ρ).stL ρ fun ds => (match ds with
  | [.int y, .int z] => sSeq (sPut i false (rC (.int y)) g1) (sPut i false (rC (.int z)) g2) ρ
  | _ => .bad)
theorem put2_shape {i : Nat} (ds : List PyData) (w : WS X M F E σ H ρ (match ds with
  | [.int y, .int z] => sSeq (sPut i false (rC (.int y)) g1) (sPut i false (rC (.int z)) g2) ρ
  | _ => .bad) D) : ∃ y z, ds = [.int y, .int z] := by
  split at w
  · exact ⟨_, _, rfl⟩
  · exact w.elim
theorem ds_put2 {i : Nat} {x : Str} {q1 q2 p1 p2 p3 p4 : Pos} {k k2 : Nat} {va vb : Expr} (m : M i = true) (hc : X.calm = true) (hv2 : DA X M F E la [va, vb] gs) (hb : DE X M F E lb fb b g1) (hc2 : DE X M F E lc fc c g2) (hN : X.N[i]? = some x := by rfl) (hv : Vis X.env.scope x := by first | exact Or.inl rfl | exact Or.inr (Or.inl rfl) | exact Or.inr (Or.inr rfl)) (hd : (x == ("__debug__" : Str)) = false := by decide)
    (hcd : (x == ("__classdict__" : Str)) = false := by decide)
    (h1 : (assignEach [.Tuple [.Subscript (.Name x p1) b p2, .Subscript (.Name x p3) c p4] k q1] X.env).map (·.2) = [assign (.Tuple [.Subscript (.Name x p1) b p2, .Subscript (.Name x p3) c p4] k q1) X.env] := by rfl)
    (hs : swapsWithSole [.Tuple [.Subscript (.Name x p1) b p2, .Subscript (.Name x p3) c p4] k q1] (.Tuple [va, vb] k2 q2) pos.line X.env = pure false := by rfl) (hw : swappedStores [.Tuple [.Subscript (.Name x p1) b p2, .Subscript (.Name x p3) c p4] k q1] (.Tuple [va, vb] k2 q2) X.env = pure none := by rfl)
    (ha1 : ∀ v, assign (.Subscript (.Name x p1) b p2) X.env v = (do
      let ov ← holding [v] (eval (.Name x p1) X.env); let iv ← holding [v, ov] (eval b X.env); standAt p2; holding [v, ov, iv] (setItem ov iv v); release [v, ov, iv] []) := by intro _; rfl)
    (ha2 : ∀ v, assign (.Subscript (.Name x p3) c p4) X.env v = (do
      let ov ← holding [v] (eval (.Name x p3) X.env); let iv ← holding [v, ov] (eval c X.env); standAt p4; holding [v, ov, iv] (setItem ov iv v); release [v, ov, iv] []) := by intro _; rfl) :
    DS X M F E (.Assign [.Tuple [.Subscript (.Name x p1) b p2, .Subscript (.Name x p3) c p4] k q1] (.Tuple [va, vb] k2 q2) pos) (sPut2 i gs g1 g2) := by
  obtain ⟨ta, pa, hv2⟩ := hv2
  obtain ⟨tb, pb, hb⟩ := hb
  obtain ⟨tc, pc, hc2⟩ := hc2
  refine ⟨_, ps_asg (pe_tupF pa) (pg_tup hc (pgs_cons (pg_sub (pe_var hN hv hd hcd) pb set_list ha1) (pgs_cons (pg_sub (pe_var hN hv hd hcd) pc set_list ha2) pgs_nil))) hs hw (h1 := h1), fun σ H ρ er D w => ?_⟩
  refine hv2 σ H ρ er _ (ws_stepLA (lk := la) er w fun ds vs H1 e sm r w1 => ?_)
  have er1 := er.same sm
  have sh := put2_shape ds w1
  obtain ⟨y, z, rfl⟩ := sh
  have w1 : WS X M F E σ H1 ρ (sSeq (sPut i false (rC (.int y)) g1) (sPut i false (rC (.int z)) g2) ρ) D := w1
  cases r with
  | cons ra rr =>
    cases rr with
    | cons rb rr =>
      cases rr
      cases ra
      cases rb
      refine ⟨by show 2 ≤ sizeLine; decide, fun p o hp hd0 => ?_⟩
      refine ⟨p, _, rfl, .inl (.inr ⟨o, upd_same⟩), rfl, ?_⟩
      have s2 : Same H1 (upd H1 p (.frz o (.tup [.int y, .int z]))) := same_new hp
      have er2 := er1.same s2
      have w2 := ws_evo (Evo.same s2) w1
      refine ⟨_, _, rfl, ?_⟩
      unfold sSeq at w2
      refine sub_run (D := ⟨fun σ' H' => _, D.rt, D.bk, D.ct⟩) m hb er2 ?_
      cases q : sPut i false (rC (.int y)) g1 ρ with
      | nx ρ' =>
        rw [q] at w2
        refine fun σ' H' er' ev => ?_
        refine ⟨_, _, rfl, ?_⟩
        refine sub_run (D := ⟨fun σ' H' => _, D.rt, D.bk, D.ct⟩) m hc2 er' ?_
        have w3 : WS X M F E σ' H' ρ' (sPut i false (rC (.int z)) g2 ρ') D := ws_evo ev w2
        revert w3
        generalize sPut i false (rC (.int z)) g2 ρ' = rr
        intro w3
        cases rr with
        | nx ρ2 => exact fun σ2 H2 er2 ev2 => ⟨rfl, w3 σ2 H2 er2 ev2⟩
        | rt d => exact w3
        | bk ρ2 => exact w3
        | ct ρ2 => exact w3
        | ex c ρ2 => exact w3
        | bad => exact w3
      | rt d =>
        rw [q] at w2
        exact w2
      | bk ρ' =>
        rw [q] at w2
        exact w2
      | ct ρ' =>
        rw [q] at w2
        exact w2
      | ex c ρ' =>
        rw [q] at w2
        exact w2
      | bad =>
        rw [q] at w2
        exact w2
end
end Pu

set_option Elab.async false
set_option linter.all false
set_option maxRecDepth 100000
set_option maxHeartbeats 2000000
/-! reckoning, more: star, exchanges, unpacked lists, words -/
namespace Pu
open PySem PySem.Spec PyProof.Rows L2
variable [TabL]
section
variable {ρ : Rho} {i j : Int}
def starR (ρ : Rho) (k m : Nat) : PyData → Sr
  | .tuple (x :: xs) => .nx ((ρ.set k (some x)).set m (some (.list xs)))
  | _ => .bad
@[simp] theorem starR_t (k m : Nat) (x : PyData) (xs : List PyData) : starR ρ k m (.tuple (x :: xs)) = .nx ((ρ.set k (some x)).set m (some (.list xs))) := (rfl)
@[simp] theorem ap_star (k m : Nat) (f : Rho → Re PyData) : sStar k m f ρ = (f ρ).st ρ (starR ρ k m) := by
  unfold sStar
  congr 1
@[simp] theorem gSeq2l (g : List PyData → Rho → Option Rho) (a b : PyData) : gSeqD 2 g (.list [a, b]) ρ = g [a, b] ρ := (rfl)
@[simp] theorem gSeq4l (g : List PyData → Rho → Option Rho) (a b c d : PyData) : gSeqD 4 g (.list [a, b, c, d]) ρ = g [a, b, c, d] ρ := (rfl)
@[simp] theorem gSeq4 (g : List PyData → Rho → Option Rho) (a b c d : PyData) : gSeqD 4 g (.tuple [a, b, c, d]) ρ = g [a, b, c, d] ρ := (rfl)
@[simp] theorem gSeq2tI (g : List PyData → Rho → Option Rho) (a b : Int) : gSeqD 2 g (tI [a, b]) ρ = g [.int a, .int b] ρ := (rfl)
@[simp] theorem gSeq2lI (g : List PyData → Rho → Option Rho) (a b : Int) : gSeqD 2 g (lI [a, b]) ρ = g [.int a, .int b] ρ := (rfl)
@[simp] theorem gSeq4tI (g : List PyData → Rho → Option Rho) (a b c d : Int) : gSeqD 4 g (tI [a, b, c, d]) ρ = g [.int a, .int b, .int c, .int d] ρ := (rfl)
@[simp] theorem gSeq4lI (g : List PyData → Rho → Option Rho) (a b c d : Int) : gSeqD 4 g (lI [a, b, c, d]) ρ = g [.int a, .int b, .int c, .int d] ρ := (rfl)
theorem lI_eq (ns : List Int) : PyData.list (ns.map PyData.int) = lI ns := rfl
theorem tI_eq (ns : List Int) : PyData.tuple (ns.map PyData.int) = tI ns := rfl
theorem li1 {a : Int} : PyData.list [.int a] = lI [a] := rfl
theorem li2 {a b : Int} : PyData.list [.int a, .int b] = lI [a, b] := rfl
theorem li4 {a b c d : Int} : PyData.list [.int a, .int b, .int c, .int d] = lI [a, b, c, d] := rfl
/-- x[i], x[j] = (y, z) -/
theorem put2_i {k : Nat} {gs : Rho → Re (List PyData)} {g1 g2 : Rho → Re PyData} {ns : List Int} {y z a b : Int} (hk : ρ[k]? = some (some (lI ns))) (hs : gs ρ = .ok [.int y, .int z]) (h1 : g1 ρ = .ok (.int a)) (h2 : g2 (ρ.set k (some (lI (ns.set a.toNat y)))) = .ok (.int b))
    (a0 : 0 ≤ a) (a1 : a < ns.length) (b0 : 0 ≤ b) (b1 : b < ns.length) : sPut2 k gs g1 g2 ρ = .nx (ρ.set k (some (lI ((ns.set a.toNat y).set b.toNat z)))) := by
  unfold sPut2
  rw [hs, stL_ok]
  show sSeq (sPut k false (rC (.int y)) g1) (sPut k false (rC (.int z)) g2) ρ = _
  have hkl : k < ρ.length := by
    rw [List.getElem?_eq_some_iff] at hk
    exact hk.1
  rw [ap_sSeq, put_i hk (ap_c _) h1 a0 a1, sqS_nx, put_i (ρ := ρ.set k (some (lI (ns.set a.toNat y)))) (ns := ns.set a.toNat y) (by rw [List.getElem?_set_self hkl]) (ap_c _) h2 b0 (by rw [List.length_set]; exact b1), List.set_set]
@[simp] theorem nat_nlt (i : Nat) : ((i : Int) < 0) = False := eq_false (by omega)
def lnkE : Option PyData → Re PyData → Re PyData
  | some (.bool true), r => r
  | some (.bool false), _ => .ok (.bool false)
  | _, _ => .bad
@[simp] theorem lnkE_b (b : Bool) (r : Re PyData) : lnkE (some (.bool b)) r = if b = true then r else .ok (.bool false) := by cases b <;> rfl
@[simp] theorem ap_link (gg : PyData → PyData → Option PyData) (g : Rho → Re PyData) (k : PyData → Rho → Re PyData) (d : PyData) : cLink gg g k d ρ = (g ρ).andThen fun e => lnkE (gg d e) (k e ρ) := by
  unfold cLink
  congr 1
  funext e
  rcases gg d e with _ | v
  · rfl
  · cases v with
    | bool b => cases b <;> rfl
    | _ => rfl
theorem run4 {m : Nat} {s : Rho → Sr} {a b c d : PyData} : runF 4 m s [a, b, c, d] = outR (s (some a :: some b :: some c :: some d :: List.replicate (m - 4) none)) := run_eq rfl
theorem run5 {m : Nat} {s : Rho → Sr} {a b c d e : PyData} : runF 5 m s [a, b, c, d, e] = outR (s (some a :: some b :: some c :: some d :: some e :: List.replicate (m - 5) none)) := run_eq rfl
theorem run0 {m : Nat} {s : Rho → Sr} : runF 0 m s [] = outR (s (List.replicate m none)) := run_eq rfl
@[simp] theorem ap_isi {T : String} {f : Rho → Re PyData} : rIsi T f ρ = (f ρ).andThen fun d => liftO ((isD d T).map PyData.bool) := (rfl)
@[simp] theorem isi_tup {ds : List PyData} : isD (.tuple ds) "tuple" = some true := by
  show kitB "tuple" "tuple" = some true
  decide +kernel
@[simp] theorem isi_tI {ns : List Int} : isD (tI ns) "tuple" = some true := isi_tup
@[simp] theorem isi_int {z : Int} : isD (.int z) "int" = some true := by
  show kitB "int" "int" = some true
  decide +kernel
@[simp] theorem isi_intb {z : Int} : isD (.int z) "bool" = some false := by
  show kitB "int" "bool" = some false
  decide +kernel
/-! words -/
theorem shp (x : Str) (h : SeqAt.shaped (.str x) = true := by decide +kernel) : SeqAt.shaped (.str x) = true := h
@[simp] theorem wq_swap_swap : oEq (.str ("swap" : Str)) (.str ("swap" : Str)) = some (.bool true) := by
  rw [oEq_s (shp _) (shp _)]
  simp
@[simp] theorem wn_swap_swap : oNe (.str ("swap" : Str)) (.str ("swap" : Str)) = some (.bool false) := by
  rw [oNe_s (shp _) (shp _)]
  simp
@[simp] theorem wq_swap_next : oEq (.str ("swap" : Str)) (.str ("next" : Str)) = some (.bool false) := by
  rw [oEq_s (shp _) (shp _)]
  congr 1
@[simp] theorem wn_swap_next : oNe (.str ("swap" : Str)) (.str ("next" : Str)) = some (.bool true) := by
  rw [oNe_s (shp _) (shp _)]
  congr 1
@[simp] theorem wq_swap_take : oEq (.str ("swap" : Str)) (.str ("take" : Str)) = some (.bool false) := by
  rw [oEq_s (shp _) (shp _)]
  congr 1
@[simp] theorem wn_swap_take : oNe (.str ("swap" : Str)) (.str ("take" : Str)) = some (.bool true) := by
  rw [oNe_s (shp _) (shp _)]
  congr 1
@[simp] theorem wq_swap_flip : oEq (.str ("swap" : Str)) (.str ("flip" : Str)) = some (.bool false) := by
  rw [oEq_s (shp _) (shp _)]
  congr 1
@[simp] theorem wn_swap_flip : oNe (.str ("swap" : Str)) (.str ("flip" : Str)) = some (.bool true) := by
  rw [oNe_s (shp _) (shp _)]
  congr 1
@[simp] theorem wq_swap_blocks : oEq (.str ("swap" : Str)) (.str ("blocks" : Str)) = some (.bool false) := by
  rw [oEq_s (shp _) (shp _)]
  congr 1
@[simp] theorem wn_swap_blocks : oNe (.str ("swap" : Str)) (.str ("blocks" : Str)) = some (.bool true) := by
  rw [oNe_s (shp _) (shp _)]
  congr 1
@[simp] theorem wq_swap_turn : oEq (.str ("swap" : Str)) (.str ("turn" : Str)) = some (.bool false) := by
  rw [oEq_s (shp _) (shp _)]
  congr 1
@[simp] theorem wn_swap_turn : oNe (.str ("swap" : Str)) (.str ("turn" : Str)) = some (.bool true) := by
  rw [oNe_s (shp _) (shp _)]
  congr 1
@[simp] theorem wq_next_swap : oEq (.str ("next" : Str)) (.str ("swap" : Str)) = some (.bool false) := by
  rw [oEq_s (shp _) (shp _)]
  congr 1
@[simp] theorem wn_next_swap : oNe (.str ("next" : Str)) (.str ("swap" : Str)) = some (.bool true) := by
  rw [oNe_s (shp _) (shp _)]
  congr 1
@[simp] theorem wq_next_next : oEq (.str ("next" : Str)) (.str ("next" : Str)) = some (.bool true) := by
  rw [oEq_s (shp _) (shp _)]
  simp
@[simp] theorem wn_next_next : oNe (.str ("next" : Str)) (.str ("next" : Str)) = some (.bool false) := by
  rw [oNe_s (shp _) (shp _)]
  simp
@[simp] theorem wq_next_take : oEq (.str ("next" : Str)) (.str ("take" : Str)) = some (.bool false) := by
  rw [oEq_s (shp _) (shp _)]
  congr 1
@[simp] theorem wn_next_take : oNe (.str ("next" : Str)) (.str ("take" : Str)) = some (.bool true) := by
  rw [oNe_s (shp _) (shp _)]
  congr 1
@[simp] theorem wq_next_flip : oEq (.str ("next" : Str)) (.str ("flip" : Str)) = some (.bool false) := by
  rw [oEq_s (shp _) (shp _)]
  congr 1
@[simp] theorem wn_next_flip : oNe (.str ("next" : Str)) (.str ("flip" : Str)) = some (.bool true) := by
  rw [oNe_s (shp _) (shp _)]
  congr 1
@[simp] theorem wq_next_blocks : oEq (.str ("next" : Str)) (.str ("blocks" : Str)) = some (.bool false) := by
  rw [oEq_s (shp _) (shp _)]
  congr 1
@[simp] theorem wn_next_blocks : oNe (.str ("next" : Str)) (.str ("blocks" : Str)) = some (.bool true) := by
  rw [oNe_s (shp _) (shp _)]
  congr 1
@[simp] theorem wq_next_turn : oEq (.str ("next" : Str)) (.str ("turn" : Str)) = some (.bool false) := by
  rw [oEq_s (shp _) (shp _)]
  congr 1
@[simp] theorem wn_next_turn : oNe (.str ("next" : Str)) (.str ("turn" : Str)) = some (.bool true) := by
  rw [oNe_s (shp _) (shp _)]
  congr 1
@[simp] theorem wq_take_swap : oEq (.str ("take" : Str)) (.str ("swap" : Str)) = some (.bool false) := by
  rw [oEq_s (shp _) (shp _)]
  congr 1
@[simp] theorem wn_take_swap : oNe (.str ("take" : Str)) (.str ("swap" : Str)) = some (.bool true) := by
  rw [oNe_s (shp _) (shp _)]
  congr 1
@[simp] theorem wq_take_next : oEq (.str ("take" : Str)) (.str ("next" : Str)) = some (.bool false) := by
  rw [oEq_s (shp _) (shp _)]
  congr 1
@[simp] theorem wn_take_next : oNe (.str ("take" : Str)) (.str ("next" : Str)) = some (.bool true) := by
  rw [oNe_s (shp _) (shp _)]
  congr 1
@[simp] theorem wq_take_take : oEq (.str ("take" : Str)) (.str ("take" : Str)) = some (.bool true) := by
  rw [oEq_s (shp _) (shp _)]
  simp
@[simp] theorem wn_take_take : oNe (.str ("take" : Str)) (.str ("take" : Str)) = some (.bool false) := by
  rw [oNe_s (shp _) (shp _)]
  simp
@[simp] theorem wq_take_flip : oEq (.str ("take" : Str)) (.str ("flip" : Str)) = some (.bool false) := by
  rw [oEq_s (shp _) (shp _)]
  congr 1
@[simp] theorem wn_take_flip : oNe (.str ("take" : Str)) (.str ("flip" : Str)) = some (.bool true) := by
  rw [oNe_s (shp _) (shp _)]
  congr 1
@[simp] theorem wq_take_blocks : oEq (.str ("take" : Str)) (.str ("blocks" : Str)) = some (.bool false) := by
  rw [oEq_s (shp _) (shp _)]
  congr 1
@[simp] theorem wn_take_blocks : oNe (.str ("take" : Str)) (.str ("blocks" : Str)) = some (.bool true) := by
  rw [oNe_s (shp _) (shp _)]
  congr 1
@[simp] theorem wq_take_turn : oEq (.str ("take" : Str)) (.str ("turn" : Str)) = some (.bool false) := by
  rw [oEq_s (shp _) (shp _)]
  congr 1
@[simp] theorem wn_take_turn : oNe (.str ("take" : Str)) (.str ("turn" : Str)) = some (.bool true) := by
  rw [oNe_s (shp _) (shp _)]
  congr 1
@[simp] theorem wq_flip_swap : oEq (.str ("flip" : Str)) (.str ("swap" : Str)) = some (.bool false) := by
  rw [oEq_s (shp _) (shp _)]
  congr 1
@[simp] theorem wn_flip_swap : oNe (.str ("flip" : Str)) (.str ("swap" : Str)) = some (.bool true) := by
  rw [oNe_s (shp _) (shp _)]
  congr 1
@[simp] theorem wq_flip_next : oEq (.str ("flip" : Str)) (.str ("next" : Str)) = some (.bool false) := by
  rw [oEq_s (shp _) (shp _)]
  congr 1
@[simp] theorem wn_flip_next : oNe (.str ("flip" : Str)) (.str ("next" : Str)) = some (.bool true) := by
  rw [oNe_s (shp _) (shp _)]
  congr 1
@[simp] theorem wq_flip_take : oEq (.str ("flip" : Str)) (.str ("take" : Str)) = some (.bool false) := by
  rw [oEq_s (shp _) (shp _)]
  congr 1
@[simp] theorem wn_flip_take : oNe (.str ("flip" : Str)) (.str ("take" : Str)) = some (.bool true) := by
  rw [oNe_s (shp _) (shp _)]
  congr 1
@[simp] theorem wq_flip_flip : oEq (.str ("flip" : Str)) (.str ("flip" : Str)) = some (.bool true) := by
  rw [oEq_s (shp _) (shp _)]
  simp
@[simp] theorem wn_flip_flip : oNe (.str ("flip" : Str)) (.str ("flip" : Str)) = some (.bool false) := by
  rw [oNe_s (shp _) (shp _)]
  simp
@[simp] theorem wq_flip_blocks : oEq (.str ("flip" : Str)) (.str ("blocks" : Str)) = some (.bool false) := by
  rw [oEq_s (shp _) (shp _)]
  congr 1
@[simp] theorem wn_flip_blocks : oNe (.str ("flip" : Str)) (.str ("blocks" : Str)) = some (.bool true) := by
  rw [oNe_s (shp _) (shp _)]
  congr 1
@[simp] theorem wq_flip_turn : oEq (.str ("flip" : Str)) (.str ("turn" : Str)) = some (.bool false) := by
  rw [oEq_s (shp _) (shp _)]
  congr 1
@[simp] theorem wn_flip_turn : oNe (.str ("flip" : Str)) (.str ("turn" : Str)) = some (.bool true) := by
  rw [oNe_s (shp _) (shp _)]
  congr 1
@[simp] theorem wq_blocks_swap : oEq (.str ("blocks" : Str)) (.str ("swap" : Str)) = some (.bool false) := by
  rw [oEq_s (shp _) (shp _)]
  congr 1
@[simp] theorem wn_blocks_swap : oNe (.str ("blocks" : Str)) (.str ("swap" : Str)) = some (.bool true) := by
  rw [oNe_s (shp _) (shp _)]
  congr 1
@[simp] theorem wq_blocks_next : oEq (.str ("blocks" : Str)) (.str ("next" : Str)) = some (.bool false) := by
  rw [oEq_s (shp _) (shp _)]
  congr 1
@[simp] theorem wn_blocks_next : oNe (.str ("blocks" : Str)) (.str ("next" : Str)) = some (.bool true) := by
  rw [oNe_s (shp _) (shp _)]
  congr 1
@[simp] theorem wq_blocks_take : oEq (.str ("blocks" : Str)) (.str ("take" : Str)) = some (.bool false) := by
  rw [oEq_s (shp _) (shp _)]
  congr 1
@[simp] theorem wn_blocks_take : oNe (.str ("blocks" : Str)) (.str ("take" : Str)) = some (.bool true) := by
  rw [oNe_s (shp _) (shp _)]
  congr 1
@[simp] theorem wq_blocks_flip : oEq (.str ("blocks" : Str)) (.str ("flip" : Str)) = some (.bool false) := by
  rw [oEq_s (shp _) (shp _)]
  congr 1
@[simp] theorem wn_blocks_flip : oNe (.str ("blocks" : Str)) (.str ("flip" : Str)) = some (.bool true) := by
  rw [oNe_s (shp _) (shp _)]
  congr 1
@[simp] theorem wq_blocks_blocks : oEq (.str ("blocks" : Str)) (.str ("blocks" : Str)) = some (.bool true) := by
  rw [oEq_s (shp _) (shp _)]
  simp
@[simp] theorem wn_blocks_blocks : oNe (.str ("blocks" : Str)) (.str ("blocks" : Str)) = some (.bool false) := by
  rw [oNe_s (shp _) (shp _)]
  simp
@[simp] theorem wq_blocks_turn : oEq (.str ("blocks" : Str)) (.str ("turn" : Str)) = some (.bool false) := by
  rw [oEq_s (shp _) (shp _)]
  congr 1
@[simp] theorem wn_blocks_turn : oNe (.str ("blocks" : Str)) (.str ("turn" : Str)) = some (.bool true) := by
  rw [oNe_s (shp _) (shp _)]
  congr 1
@[simp] theorem wq_turn_swap : oEq (.str ("turn" : Str)) (.str ("swap" : Str)) = some (.bool false) := by
  rw [oEq_s (shp _) (shp _)]
  congr 1
@[simp] theorem wn_turn_swap : oNe (.str ("turn" : Str)) (.str ("swap" : Str)) = some (.bool true) := by
  rw [oNe_s (shp _) (shp _)]
  congr 1
@[simp] theorem wq_turn_next : oEq (.str ("turn" : Str)) (.str ("next" : Str)) = some (.bool false) := by
  rw [oEq_s (shp _) (shp _)]
  congr 1
@[simp] theorem wn_turn_next : oNe (.str ("turn" : Str)) (.str ("next" : Str)) = some (.bool true) := by
  rw [oNe_s (shp _) (shp _)]
  congr 1
@[simp] theorem wq_turn_take : oEq (.str ("turn" : Str)) (.str ("take" : Str)) = some (.bool false) := by
  rw [oEq_s (shp _) (shp _)]
  congr 1
@[simp] theorem wn_turn_take : oNe (.str ("turn" : Str)) (.str ("take" : Str)) = some (.bool true) := by
  rw [oNe_s (shp _) (shp _)]
  congr 1
@[simp] theorem wq_turn_flip : oEq (.str ("turn" : Str)) (.str ("flip" : Str)) = some (.bool false) := by
  rw [oEq_s (shp _) (shp _)]
  congr 1
@[simp] theorem wn_turn_flip : oNe (.str ("turn" : Str)) (.str ("flip" : Str)) = some (.bool true) := by
  rw [oNe_s (shp _) (shp _)]
  congr 1
@[simp] theorem wq_turn_blocks : oEq (.str ("turn" : Str)) (.str ("blocks" : Str)) = some (.bool false) := by
  rw [oEq_s (shp _) (shp _)]
  congr 1
@[simp] theorem wn_turn_blocks : oNe (.str ("turn" : Str)) (.str ("blocks" : Str)) = some (.bool true) := by
  rw [oNe_s (shp _) (shp _)]
  congr 1
@[simp] theorem wq_turn_turn : oEq (.str ("turn" : Str)) (.str ("turn" : Str)) = some (.bool true) := by
  rw [oEq_s (shp _) (shp _)]
  simp
@[simp] theorem wn_turn_turn : oNe (.str ("turn" : Str)) (.str ("turn" : Str)) = some (.bool false) := by
  rw [oNe_s (shp _) (shp _)]
  simp
@[simp] theorem wq_no_swap : oEq (.str ("" : Str)) (.str ("swap" : Str)) = some (.bool false) := by
  rw [oEq_s (shp _) (shp _)]
  congr 1
@[simp] theorem wn_no_swap : oNe (.str ("" : Str)) (.str ("swap" : Str)) = some (.bool true) := by
  rw [oNe_s (shp _) (shp _)]
  congr 1
@[simp] theorem wq_no_next : oEq (.str ("" : Str)) (.str ("next" : Str)) = some (.bool false) := by
  rw [oEq_s (shp _) (shp _)]
  congr 1
@[simp] theorem wn_no_next : oNe (.str ("" : Str)) (.str ("next" : Str)) = some (.bool true) := by
  rw [oNe_s (shp _) (shp _)]
  congr 1
@[simp] theorem wq_no_take : oEq (.str ("" : Str)) (.str ("take" : Str)) = some (.bool false) := by
  rw [oEq_s (shp _) (shp _)]
  congr 1
@[simp] theorem wn_no_take : oNe (.str ("" : Str)) (.str ("take" : Str)) = some (.bool true) := by
  rw [oNe_s (shp _) (shp _)]
  congr 1
@[simp] theorem wq_no_flip : oEq (.str ("" : Str)) (.str ("flip" : Str)) = some (.bool false) := by
  rw [oEq_s (shp _) (shp _)]
  congr 1
@[simp] theorem wn_no_flip : oNe (.str ("" : Str)) (.str ("flip" : Str)) = some (.bool true) := by
  rw [oNe_s (shp _) (shp _)]
  congr 1
@[simp] theorem wq_no_blocks : oEq (.str ("" : Str)) (.str ("blocks" : Str)) = some (.bool false) := by
  rw [oEq_s (shp _) (shp _)]
  congr 1
@[simp] theorem wn_no_blocks : oNe (.str ("" : Str)) (.str ("blocks" : Str)) = some (.bool true) := by
  rw [oNe_s (shp _) (shp _)]
  congr 1
@[simp] theorem wq_no_turn : oEq (.str ("" : Str)) (.str ("turn" : Str)) = some (.bool false) := by
  rw [oEq_s (shp _) (shp _)]
  congr 1
@[simp] theorem wn_no_turn : oNe (.str ("" : Str)) (.str ("turn" : Str)) = some (.bool true) := by
  rw [oNe_s (shp _) (shp _)]
  congr 1
theorem bMinA_l1 {a : Int} : bMinA [lI [a]] = some (.int a) := rfl
theorem bMaxA_l1 {a : Int} : bMaxA [lI [a]] = some (.int a) := rfl
end
end Pu

set_option Elab.async false
set_option linter.all false
set_option maxRecDepth 100000
set_option maxHeartbeats 2000000
/-! the five kinds of moves of plain rows -/
namespace Pu
open PySem PySem.Spec PyProof.Rows L2
variable [TabL]
inductive Mv where
  | swap (i j : Nat)
  | next (i : Nat)
  | take (i j : Nat)
  | flip (i j : Nat)
  | blocks (i j k l : Nat)
def Mv.ok (n : Nat) : Mv → Prop
  | .swap i j => i < j ∧ j < n
  | .next i => i + 1 < n
  | .take i j => i < n ∧ j < n ∧ i ≠ j
  | .flip i j => i < j ∧ j < n
  | .blocks i j k l => i < j ∧ j ≤ k ∧ k < l ∧ l ≤ n
def Mv.D : Mv → PyData
  | .swap i j => .tuple [.str "swap", .int i, .int j]
  | .next i => .tuple [.str "next", .int i]
  | .take i j => .tuple [.str "take", .int i, .int j]
  | .flip i j => .tuple [.str "flip", .int i, .int j]
  | .blocks i j k l => .tuple [.str "blocks", .int i, .int j, .int k, .int l]
def Mv.kind : Mv → Str
  | .swap _ _ => "swap"
  | .next _ => "next"
  | .take _ _ => "take"
  | .flip _ _ => "flip"
  | .blocks _ _ _ _ => "blocks"
def takeZ (r : List Int) (i j : Nat) : List Int := (r.take i ++ r.drop (i + 1)).take j ++ (r.drop i).take 1 ++ (r.take i ++ r.drop (i + 1)).drop j
def flipZ (r : List Int) (i j : Nat) : List Int := r.take i ++ ((r.take (j + 1)).drop i).reverse ++ r.drop (j + 1)
def blkZ (r : List Int) (i j k l : Nat) : List Int := r.take i ++ (r.take l).drop k ++ (r.take k).drop j ++ (r.take j).drop i ++ r.drop l
def Mv.F (r : List Int) : Mv → List Int
  | .swap i j => swZ r i j
  | .next i => swZ r i ((i : Int) + 1)
  | .take i j => takeZ r i j
  | .flip i j => flipZ r i j
  | .blocks i j k l => blkZ r i j k l
theorem cut2 {r : List Int} {i j : Nat} (h : i ≤ j) : r.take i ++ (r.take j).drop i = r.take j := by
  have e : r.take i = (r.take j).take i := by rw [List.take_take, Nat.min_eq_left h]
  rw [e, List.take_append_drop]
theorem cut1 {r : List Int} {i : Nat} {x : Int} (h : r[i]? = some x) : (r.drop i).take 1 = [x] := by
  have hi : i < r.length := by
    obtain ⟨h1, _⟩ := List.getElem?_eq_some_iff.mp h
    exact h1
  rw [List.drop_eq_getElem_cons hi]
  obtain ⟨h1, h2⟩ := List.getElem?_eq_some_iff.mp h
  rw [h2]
  rfl
theorem take_perm {r : List Int} {i j : Nat} (h : i < r.length) : (takeZ r i j).Perm r := by
  obtain ⟨x, hx⟩ : ∃ x, r[i]? = some x := ⟨r[i], List.getElem?_eq_getElem h⟩
  unfold takeZ
  rw [cut1 hx]
  have e : r = r.take i ++ [x] ++ r.drop (i + 1) := by
    obtain ⟨h1, h2⟩ := List.getElem?_eq_some_iff.mp hx
    rw [List.append_assoc, List.singleton_append, ← h2, ← List.drop_eq_getElem_cons h1, List.take_append_drop]
  generalize hq : r.take i ++ r.drop (i + 1) = q
  have p1 : (q.take j ++ [x] ++ q.drop j).Perm (x :: q) := by
    rw [List.append_assoc, List.singleton_append]
    refine List.perm_middle.trans ?_
    rw [List.take_append_drop]
  refine p1.trans ?_
  rw [← hq]
  refine List.perm_middle.symm.trans ?_
  rw [← List.singleton_append, ← List.append_assoc, ← e]
theorem flip_perm {r : List Int} {i j : Nat} (h : i ≤ j) : (flipZ r i j).Perm r := by
  unfold flipZ
  refine (((List.reverse_perm _).append_left _).append_right _).trans ?_
  rw [cut2 (by omega), List.take_append_drop]
theorem blk_perm {r : List Int} {i j k l : Nat} (h1 : i ≤ j) (h2 : j ≤ k) (h3 : k ≤ l) : (blkZ r i j k l).Perm r := by
  unfold blkZ
  have e : r = r.take i ++ ((r.take j).drop i ++ (r.take k).drop j ++ (r.take l).drop k) ++ r.drop l := by
    rw [← List.append_assoc, ← List.append_assoc, cut2 h1, cut2 h2, cut2 h3, List.take_append_drop]
  refine List.Perm.trans ?_ (List.Perm.of_eq e.symm)
  refine List.Perm.append_right _ ?_
  rw [List.append_assoc, List.append_assoc]
  refine List.Perm.append_left _ ?_
  rw [← List.append_assoc]
  generalize (r.take j).drop i = a
  generalize (r.take k).drop j = b
  generalize (r.take l).drop k = c
  refine List.perm_append_comm.trans ?_
  rw [List.append_assoc]
  exact List.Perm.append_left _ List.perm_append_comm
theorem Mv.perm {n : Nat} {m : Mv} {r : List Int} (h : m.ok n) (hr : r.length = n) (nd : r.Nodup) : (m.F r).Perm r := by
  cases m with
  | swap i j =>
    obtain ⟨h1, h2⟩ := h
    exact swZ_perm nd (up_mem.mpr (by omega)) (up_mem.mpr (by omega)) (by omega)
  | next i =>
    have h : i + 1 < n := h
    exact swZ_perm nd (up_mem.mpr (by omega)) (up_mem.mpr (by omega)) (by omega)
  | take i j => exact take_perm (by rw [hr]; exact h.1)
  | flip i j => exact flip_perm (by have := h.1; omega)
  | blocks i j k l =>
    obtain ⟨h1, h2, h3, h4⟩ := h
    exact blk_perm (by omega) h2 (by omega)
theorem atZ_map (f : Int → Int) (r : List Int) (i : Int) : atZ (r.map f) i = (atZ r i).map f := by
  unfold atZ
  rw [List.length_map]
  cases ixN r.length i with
  | none => rfl
  | some j => simp
theorem swZ_map (f : Int → Int) {r : List Int} {i j : Int} (hi : i ∈ upI 0 r.length) (hj : j ∈ upI 0 r.length) : swZ (r.map f) i j = (swZ r i j).map f := by
  obtain ⟨h1, h2⟩ := up_mem.mp hi
  obtain ⟨h3, h4⟩ := up_mem.mp hj
  obtain ⟨x, e1, _⟩ := atZ_p (ns := r) h1 (by omega)
  obtain ⟨y, e2, _⟩ := atZ_p (ns := r) h3 (by omega)
  unfold swZ
  rw [atZ_map, atZ_map, e1, e2, List.map_set, List.map_set]
  rfl
theorem Mv.map {n : Nat} {m : Mv} {r : List Int} (f : Int → Int) (h : m.ok n) (hr : r.length = n) : m.F (r.map f) = (m.F r).map f := by
  cases m with
  | swap i j =>
    obtain ⟨h1, h2⟩ := h
    exact swZ_map f (up_mem.mpr (by omega)) (up_mem.mpr (by omega))
  | next i =>
    have h : i + 1 < n := h
    exact swZ_map f (up_mem.mpr (by omega)) (up_mem.mpr (by omega))
  | take i j => simp [Mv.F, takeZ, List.map_take, List.map_drop]
  | flip i j => simp [Mv.F, flipZ, List.map_take, List.map_drop]
  | blocks i j k l => simp [Mv.F, blkZ, List.map_take, List.map_drop]
theorem Mv.len {n : Nat} {m : Mv} {r : List Int} (h : m.ok n) (hr : r.length = n) (nd : r.Nodup) : (m.F r).length = n := by
  rw [(m.perm h hr nd).length_eq, hr]
theorem srt4 (x y z w : Int) {N : Int} (b0 : 0 ≤ x ∧ x < N) (b1 : 0 ≤ y ∧ y < N) (b2 : 0 ≤ z ∧ z < N) (b3 : 0 ≤ w ∧ w < N) : ∃ a b c d : Nat, srtZ [x, y, z, w] = [(a : Int), (b : Int), (c : Int), (d : Int)] ∧ a ≤ b ∧ b ≤ c ∧ c ≤ d ∧ (d : Int) < N := by
  have hp := srtZ_perm [x, y, z, w]
  have hs := srtZ_sorted [x, y, z, w]
  have hl := hp.length_eq
  have hm : ∀ v ∈ srtZ [x, y, z, w], 0 ≤ v ∧ v < N := fun v hv => by
    have := hp.mem_iff.mp hv
    simp at this
    rcases this with rfl | rfl | rfl | rfl
    · exact b0
    · exact b1
    · exact b2
    · exact b3
  generalize srtZ [x, y, z, w] = l at *
  match l, hl with
  | [p, q, r, s], _ =>
    have m1 := hm p (by simp)
    have m2 := hm q (by simp)
    have m3 := hm r (by simp)
    have m4 := hm s (by simp)
    simp at hs
    refine ⟨p.toNat, q.toNat, r.toNat, s.toNat, ?_, by omega, by omega, by omega, by omega⟩
    rw [Int.toNat_of_nonneg m1.1, Int.toNat_of_nonneg m2.1, Int.toNat_of_nonneg m3.1, Int.toNat_of_nonneg m4.1]
theorem cutZ_mid {r : List Int} {i j : Nat} : cutZ r (some (i : Int)) (some (j : Int)) = (r.take j).drop i := by
  unfold cutZ
  rw [HT.sIx_nat, HT.sIx_nat, List.drop_take]
  by_cases hi : i ≤ r.length
  · rw [Nat.min_eq_left hi]
    by_cases hj : j ≤ r.length
    · rw [Nat.min_eq_left hj]
    · rw [show min j r.length = r.length by omega, List.take_of_length_le (by rw [List.length_drop]; omega), List.take_of_length_le (by rw [List.length_drop]; omega)]
  · rw [show min i r.length = r.length by omega, List.drop_length, List.take_nil, List.drop_eq_nil_of_le (by omega), List.take_nil]
theorem cutZ_mid1 {r : List Int} {i j : Nat} : cutZ r (some (i : Int)) (some ((j : Int) + 1)) = (r.take (j + 1)).drop i := cutZ_mid (j := j + 1)
theorem cutZ_to1 {r : List Int} {k : Nat} (h : k + 1 ≤ r.length) : cutZ r none (some ((k : Int) + 1)) = r.take (k + 1) := cutZ_to (k := k + 1) h
theorem cutZ_from1 {r : List Int} {k : Nat} : cutZ r (some ((k : Int) + 1)) none = r.drop (k + 1) := cutZ_from (k := k + 1)
end Pu

set_option Elab.async false
set_option linter.all false
set_option maxRecDepth 100000
set_option maxHeartbeats 2000000
/-! the relative row of two plain rows -/
namespace Pu
open PySem PySem.Spec PyProof.Rows L2
variable [TabL]
def relZ (a b : List Int) : List Int := a.map fun x => (((idxZ x b).getD 0 : Nat) : Int) + 1
theorem idx_self {b : List Int} (nd : b.Nodup) {k : Nat} (h : k < b.length) : idxZ b[k] b = some k := by
  obtain ⟨j, ej⟩ := idxZ_mem (List.getElem_mem h)
  have gj := (idxZ_some ej).1
  obtain ⟨i1, j1⟩ := List.getElem?_eq_some_iff.mp gj
  have := (List.getElem_inj (h₀ := i1) (h₁ := h) nd).mp j1
  rw [ej, this]
theorem rel_self {n : Nat} {b : List Int} (nd : b.Nodup) (lb : b.length = n) : relZ b b = upI 1 n := by
  refine List.ext_getElem? fun k => ?_
  unfold relZ upI
  rw [List.getElem?_map, List.getElem?_map]
  by_cases c : k < n
  · rw [List.getElem?_eq_getElem (by omega), List.getElem?_range c, Option.map_some, Option.map_some, idx_self nd (by omega)]
    show some (((k : Nat) : Int) + 1) = some (1 + (k : Int))
    rw [Int.add_comm]
  · rw [List.getElem?_eq_none (by omega), List.getElem?_eq_none (by rw [List.length_range]; omega)]
    rfl
section
variable {n : Nat} {a b : List Int}
theorem rel_perm (T : Two n a b) : (relZ a b).Perm (upI 1 n) := by
  rw [← rel_self T.nb T.lb]
  exact (T.pa.trans T.pb.symm).map _
theorem rel_len (T : Two n a b) : (relZ a b).length = n := by
  unfold relZ
  rw [List.length_map, T.la]
theorem rel_at (T : Two n a b) {k : Nat} (h : k < n) : ∃ (x : Int) (j : Nat), a[k]? = some x ∧ b[j]? = some x ∧ j < n ∧ (relZ a b)[k]? = some ((j : Int) + 1) := by
  have la := T.la
  have lb := T.lb
  have hx : a[k] ∈ b := T.pb.mem_iff.mpr (T.pa.mem_iff.mp (List.getElem_mem _))
  obtain ⟨j, ej⟩ := idxZ_mem hx
  have gj := (idxZ_some ej).1
  refine ⟨a[k], j, List.getElem?_eq_getElem _, gj, by rw [← lb]; exact getSome gj, ?_⟩
  unfold relZ
  rw [List.getElem?_map, List.getElem?_eq_getElem (by omega : k < a.length), Option.map_some, ej]
  rfl
theorem rel_sorted (T : Two n a b) : relZ a b = upI 1 n ↔ a = b := by
  have la := T.la
  have lb := T.lb
  constructor
  · intro h
    refine List.ext_getElem? fun k => ?_
    by_cases c : k < n
    · obtain ⟨x, j, e1, e2, e3, e4⟩ := rel_at T c
      rw [h] at e4
      unfold upI at e4
      rw [List.getElem?_map, List.getElem?_range c] at e4
      have q : (1 : Int) + (k : Int) = (j : Int) + 1 := Option.some.inj e4
      have : j = k := by omega
      subst this
      rw [e1, e2]
    · rw [List.getElem?_eq_none (by omega), List.getElem?_eq_none (by omega)]
  · rintro rfl
    exact rel_self T.nb lb
end
theorem flipZ_get {r : List Int} {i j : Nat} (h1 : i ≤ j) (h2 : j < r.length) (m : Nat) : (flipZ r i j)[m]? = if i ≤ m ∧ m < j + 1 then r[i + j - m]? else r[m]? := by
  unfold flipZ
  have l1 : (r.take i).length = i := by rw [List.length_take]; omega
  have l2 : ((r.take (j + 1)).drop i).reverse.length = j + 1 - i := by
    rw [List.length_reverse, List.length_drop, List.length_take]
    omega
  by_cases a : m < i
  · rw [if_neg (by omega), List.append_assoc, List.getElem?_append_left (by omega), List.getElem?_take, if_pos a]
  · by_cases b : m < j + 1
    · rw [if_pos ⟨by omega, b⟩, List.append_assoc, List.getElem?_append_right (by omega), l1, List.getElem?_append_left (by omega)]
      rw [List.getElem?_reverse (by rw [List.length_drop, List.length_take]; omega), List.getElem?_drop, List.length_drop, List.length_take, Nat.min_eq_left (by omega), List.getElem?_take, if_pos (by omega)]
      rw [show i + (j + 1 - i - 1 - (m - i)) = i + j - m by omega]
    · rw [if_neg (by omega), List.getElem?_append_right (by rw [List.length_append]; omega), List.length_append, l1, l2, List.getElem?_drop]
      congr 1
      omega
section
variable {ρ : Rho}
theorem pop_i {k : Nat} {f : Rho → Re PyData} {ns : List Int} {z : Int} (hk : ρ[k]? = some (some (lI ns))) (hf : f ρ = .ok (.int z)) (h0 : 0 ≤ z) (h1 : z < ns.length) (h2 : ns.length ≤ 10000) : sPop k f ρ = .nx (ρ.set k (some (lI (ns.eraseIdx z.toNat)))) := by
  have e1 : getL ρ k = some (ns.map PyData.int) := by rw [getL_eq, hk]; rfl
  have hz : z.toNat < ns.length := by omega
  have e3 : popAt ρ k (.int z) = some (.int ns[z.toNat], (ns.map PyData.int).eraseIdx z.toNat) := by
    unfold popAt
    rw [e1]
    show (if okLen (ns.map PyData.int).length = true then (match ixN (ns.map PyData.int).length z with
      | some k => (match (ns.map PyData.int)[k]? with | some y => some (y, (ns.map PyData.int).eraseIdx k) | none => none)
      | none => none) else none) = _
    rw [if_pos (by rw [List.length_map]; exact decide_eq_true h2), List.length_map, ixN_p h0 h1]
    show (match (ns.map PyData.int)[z.toNat]? with | some y => some (y, (ns.map PyData.int).eraseIdx z.toNat) | none => none) = _
    rw [List.getElem?_map, List.getElem?_eq_getElem hz]
    rfl
  unfold sPop
  rw [e1, hf]
  show (match popAt ρ k (.int z) with
    | some (_, es') => Sr.nx (ρ.set k (some (.list es')))
    | none => .bad) = _
  rw [e3, erase_map]
  rfl
theorem ins_i {k : Nat} {f g : Rho → Re PyData} {ns : List Int} {z x : Int} (hk : ρ[k]? = some (some (lI ns))) (hf : f ρ = .ok (.int z)) (hg : g ρ = .ok (.int x)) (h0 : 0 ≤ z) (h1 : z < 1000000) (h2 : ns.length < 10000) : sIns k false f g ρ = .nx (ρ.set k (some (lI (ns.take z.toNat ++ [x] ++ ns.drop z.toNat)))) := by
  have e1 : getL ρ k = some (ns.map PyData.int) := by rw [getL_eq, hk]; rfl
  unfold sIns
  rw [e1, hf]
  show (g ρ).st ρ _ = _
  rw [hg]
  show (if okLen ((ns.map PyData.int).length + 1) = true ∧ 0 ≤ z ∧ z < 2 ^ 63 ∧ (false = true → imm (.int x) = true) then Sr.nx (ρ.set k (some (.list ((ns.map PyData.int).take z.toNat ++ [.int x] ++ (ns.map PyData.int).drop z.toNat)))) else .bad) = _
  rw [if_pos ⟨by rw [List.length_map]; exact decide_eq_true h2, h0, by omega, fun z => nomatch z⟩]
  unfold lI
  simp [List.map_take, List.map_drop]
end
end Pu

set_option Elab.async false
set_option linter.all false
set_option maxRecDepth 100000
set_option maxHeartbeats 2000000
namespace Pu
open PySem PySem.Spec PyProof.Rows L2
variable [TabL]
/-- a word and numbers -/
def mvR (w : Str) (ns : List Int) : PyData := .tuple (.str w :: ns.map PyData.int)
def words5 : List Str := ["swap", "next", "take", "flip", "blocks"]
def words7 : List Str := ["swap", "next", "take", "flip", "blocks", "turn", ""]
/-- a loop with an invariant, which may be left by break -/
theorem loop_brk {g : PyData → Rho → Option Rho} {body : Rho → Sr} (I : Nat → Rho → Prop) : ∀ (ds : List PyData) (k0 : Nat) (ρ : Rho), I k0 ρ → (∀ k d ρ, ds[k]? = some d → I (k0 + k) ρ → ∃ ρ1, g d ρ = some ρ1 ∧ ∃ ρ2, (body ρ1 = .nx ρ2 ∨ body ρ1 = .bk ρ2) ∧ I (k0 + k + 1) ρ2) →
    ∃ ρ' k', sLoop g body ds ρ = .nx ρ' ∧ k' ≤ k0 + ds.length ∧ I k' ρ'
  | [], k0, ρ, h, _ => ⟨ρ, k0, rfl, Nat.le_refl _, h⟩
  | d :: ds, k0, ρ, h, st => by
    obtain ⟨ρ1, e1, ρ2, e2, h2⟩ := st 0 d ρ rfl h
    rcases e2 with e2 | e2
    · obtain ⟨ρ', k', e3, h4, h3⟩ := loop_brk I ds (k0 + 1) ρ2 h2 fun k d' ρ'' hk hI => by
        have := st (k + 1) d' ρ'' (by simpa using hk) (by rw [show k0 + (k + 1) = k0 + 1 + k by omega]; exact hI)
        rw [show k0 + (k + 1) + 1 = k0 + 1 + k + 1 by omega] at this
        exact this
      exact ⟨ρ', k', (loop_nx e1 e2).trans e3, by rw [List.length_cons]; omega, h3⟩
    · refine ⟨ρ2, k0 + 1, ?_, by rw [List.length_cons]; omega, h2⟩
      show (match g d ρ with
        | none => Sr.bad
        | some ρ1 => match body ρ1 with
          | .nx ρ2 => sLoop g body ds ρ2
          | .ct ρ2 => sLoop g body ds ρ2
          | .bk ρ2 => .nx ρ2
          | .rt d => .rt d
          | .ex c ρ2 => .ex c ρ2
          | .bad => .bad) = _
      rw [e1]
      show (match body ρ1 with
        | .nx ρ2 => sLoop g body ds ρ2
        | .ct ρ2 => sLoop g body ds ρ2
        | .bk ρ2 => .nx ρ2
        | .rt d => .rt d
        | .ex c ρ2 => .ex c ρ2
        | .bad => .bad) = _
      rw [e2]
section
variable {ρ : Rho}
theorem seq_nx {s u : Rho → Sr} {ρ' : Rho} {R : Sr} (h : s ρ = .nx ρ') (k : u ρ' = R) : sSeq s u ρ = R := by
  rw [ap_sSeq, h, sqS_nx]
  exact k
theorem cutD_to {ds : List PyData} {k : Nat} (h : k ≤ ds.length) : cutD ds none (some (k : Int)) = ds.take k := by
  unfold cutD
  rw [HT.sIx_none, HT.sIx_nat]
  simp [Nat.min_eq_left h]
theorem cutD_from {ds : List PyData} {k : Nat} : cutD ds (some (k : Int)) none = ds.drop k := by
  unfold cutD
  rw [HT.sIx_none, HT.sIx_nat]
  by_cases h : k ≤ ds.length
  · rw [Nat.min_eq_left h, ← List.length_drop, List.take_length]
  · rw [Nat.min_eq_right (by omega), List.drop_length, List.take_nil, List.drop_eq_nil_of_le (by omega)]
@[simp] theorem oCut_d {ds : List PyData} {lo hi : Option Int} : oCut (.tuple ds) lo hi = .ok (.tuple (cutD ds lo hi)) := (rfl)
@[simp] theorem oCut_dl {ds : List PyData} {lo hi : Option Int} : oCut (.list ds) lo hi = .ok (.list (cutD ds lo hi)) := (rfl)
@[simp] theorem bList_d (ds : List PyData) : bList [.tuple ds] = some (.list ds) := (rfl)
@[simp] theorem bList_dl (ds : List PyData) : bList [.list ds] = some (.list ds) := (rfl)
@[simp] theorem cut1_d (a : PyData) (ds : List PyData) : cutD (a :: ds) (some 1) none = ds := (cutD_from (k := 1)).trans (by simp)
end
end Pu

set_option Elab.async false
set_option linter.all false
set_option maxRecDepth 100000
set_option maxHeartbeats 2000000
/-! list comprehensions of two clauses -/
namespace Pu
open PySem PySem.Spec PyProof.Rows L2
variable [TabL]
section
variable {X : Cx} {M : Nat → Bool} {F : Fx} {E : L2.St → XK} {σ σ1 : L2.St} {ρ ρ1 : Rho} {H H' H1 : Hp}
def canI (X : Cx) (M : Nat → Bool) (E : L2.St → XK) (f : Rho → Re (List PyData)) : TI := fun σ H R => ∃ (F : Fx) (ρ : Rho), ER X.K M F σ H ρ ∧ WI X M F E σ ρ H (f ρ) R
theorem canI_ok {tg it : Expr} {f : Rho → Re (List PyData)} (h : ∀ F, DI X M F E tg it f) : PI X tg it (canI X M E f) := ⟨fun pins s σ H R I ⟨F, ρ, er, w⟩ => by
  obtain ⟨t, pt, h⟩ := h F
  exact pt.run pins s σ H R I (h σ H ρ er R w)⟩
theorem own_set1 {i : Nat} (m : M i = false) (a : Addr) : OwnA M (σ.set i none) (ρ.set i none) a ↔ OwnA M σ ρ a := by
  constructor
  · rintro ⟨j, x, mj, r, s⟩
    have hj : i ≠ j := fun z => by
      subst z
      rw [m] at mj
      cases mj
    rw [List.getElem?_set_ne hj] at r s
    exact ⟨j, x, mj, r, s⟩
  · rintro ⟨j, x, mj, r, s⟩
    have hj : i ≠ j := fun z => by
      subst z
      rw [m] at mj
      cases mj
    exact ⟨j, x, mj, by rw [List.getElem?_set_ne hj]; exact r, by rw [List.getElem?_set_ne hj]; exact s⟩
theorem own_wipe : ∀ {vs : List Nat}, (∀ i ∈ vs, M i = false) → ∀ a, OwnA M (wipe σ vs) (wipeR ρ vs) a ↔ OwnA M σ ρ a
  | [], _, _ => Iff.rfl
  | v :: vs, h, a => (own_set1 (σ := wipe σ vs) (ρ := wipeR ρ vs) (h v List.mem_cons_self) a).trans (own_wipe (fun i hi => h i (List.mem_cons_of_mem _ hi)) a)
theorem wipe_same : ∀ (l : List Nat) (τ : L2.St), (∀ i ∈ l, i < τ.length → τ[i]? = some none) → wipe τ l = τ
  | [], _, _ => rfl
  | v :: l, τ, h => by
    show (wipe τ l).set v none = τ
    rw [wipe_same l τ fun i hi => h i (List.mem_cons_of_mem _ hi)]
    by_cases hv : v < τ.length
    · have := h v List.mem_cons_self hv
      obtain ⟨h1, h2⟩ := List.getElem?_eq_some_iff.mp this
      rw [← h2, List.set_getElem_self]
    · rw [List.set_eq_of_length_le (by omega)]
theorem wipe_get (σ : L2.St) : ∀ (l : List Nat) (i : Nat), i ∈ l → i < (wipe σ l).length → (wipe σ l)[i]? = some none
  | [], i, h, _ => nomatch h
  | v :: l, i, h, hl => by
    show ((wipe σ l).set v none)[i]? = some none
    have hl' : i < (wipe σ l).length := by
      have hl2 : i < ((wipe σ l).set v none).length := hl
      rwa [List.length_set] at hl2
    by_cases e : v = i
    · subst e
      rw [List.getElem?_set_self hl']
    · rw [List.getElem?_set_ne e]
      exact wipe_get σ l i ((List.mem_cons.mp h).resolve_left fun z => e z.symm) hl'
theorem wipe_wipe (σ : L2.St) (vs : List Nat) : wipe (wipe σ vs) vs = wipe σ vs := wipe_same vs _ fun i hi hl => wipe_get σ vs i hi hl
theorem ER.blk2 {Dd : Addr} (e : ER X.K M (inBlk F Dd) σ H ρ) {acc : List V} (hD : H Dd = some (.lst acc)) (sm : SameX Dd H H') (hD' : H' Dd ≠ none) : ER X.K M (inBlk F Dd) σ H' ρ := by
  have kp : Kp (RS M (inBlk F Dd) σ ρ false) H H' := ⟨fun a u q x n => sm.k a u (by
    rintro rfl
    rcases x with x | x
    · exact x.1.2 rfl
    · rw [hD] at q
      cases q
      exact x trivial) q n⟩
  refine ⟨e.len, .nil (sm.tab e.tab), fun a q => ?_, sm.tab e.tab, fun i d r m => ?_, fun i d r m => ?_, e.ap⟩
  · have na : a ≠ Dd := fun z => hD' (z ▸ q)
    exact e.new a (sm.free na q)
  · obtain ⟨v, s, rp⟩ := e.im i d r m
    exact ⟨v, s, rp.keep kp fun _ _ x _ _ => x⟩
  · obtain ⟨p, s, z, w⟩ := e.ow i d r m
    exact ⟨p, s, z, w.keep kp (fun _ _ x _ _ => x) fun u q n => sm.k p u z.2.2 q n⟩
def lcGo2 (g : PyData → Rho → Option Rho) (t : Rho → Re Bool) (its1 : Rho → Re (List PyData)) (vs1 : List Nat) (g1 : PyData → Rho → Option Rho) (t1 : Rho → Re Bool) (f : Rho → Re PyData) (ρ : Rho) : List PyData → Option (List PyData)
  | [] => some []
  | d :: ds => match g d ρ with
    | none => none
    | some ρ1 => match t ρ1 with
      | .ok true => (match its1 ρ1 with
        | .ok es => (match lcGo g1 t1 f (wipeR ρ1 vs1) es with
          | some xs => (match lcGo2 g t its1 vs1 g1 t1 f ρ ds with | some ys => some (xs ++ ys) | none => none)
          | none => none)
        | _ => none)
      | .ok false => lcGo2 g t its1 vs1 g1 t1 f ρ ds
      | _ => none
def rLc2 (its : Rho → Re (List PyData)) (vs : List Nat) (g : PyData → Rho → Option Rho) (t : Rho → Re Bool) (its1 : Rho → Re (List PyData)) (vs1 : List Nat) (g1 : PyData → Rho → Option Rho) (t1 : Rho → Re Bool) (f : Rho → Re PyData) : Rho → Re PyData := fun ρ => (its ρ).andThen fun ds => match lcGo2 g t its1 vs1 g1 t1 f (wipeR ρ vs) ds with | some xs => if okLen xs.length = true then .ok (.list xs) else .bad | none => .bad
theorem lc2_run {ts vs ts1 vs1 : List Nat} {wi : TI} {its its1 : Rho → Re (List PyData)} {gg gg1 : PyData → Rho → Option Rho} {tt tt1 : Rho → Re Bool} {f : Rho → Re PyData} {lk fr : Bool} (hi : ∀ σ H ρ, ER X.K M F σ H ρ → ∀ R, WI X M F E σ ρ H (its ρ) R → wi σ H R)
    (hv : ∀ i ∈ vs, M i = false) (hv1 : ∀ i ∈ vs1, M i = false) (hts : ∀ i ∈ ts, i ∈ vs) (hts1 : ∀ i ∈ ts1, i ∈ vs1) (er : ER X.K M F σ H ρ) {Q : VK} (w : WE X M F E lk true σ ρ H (rLc2 its vs gg tt its1 vs1 gg1 tt1 f ρ) Q) :
    tLc2 wi (canG X M ts gg) (canT X M E0s tt) (canI X M E0s its1) (canG X M ts1 gg1) (canT X M E0s tt1) (canE X M E0s lk fr f) vs vs1 σ H Q := by
  refine hi σ H ρ er _ ?_
  unfold rLc2 at w
  cases q : its ρ with
  | ex c =>
    rw [q] at w
    exact w
  | bad =>
    rw [q] at w
    exact w
  | ok ds =>
    rw [q] at w
    have w : WE X M F E lk true σ ρ H (match lcGo2 gg tt its1 vs1 gg1 tt1 f (wipeR ρ vs) ds with | some xs => if okLen xs.length = true then Re.ok (.list xs) else .bad | none => .bad) Q := w
    cases q2 : lcGo2 gg tt its1 vs1 gg1 tt1 f (wipeR ρ vs) ds with
    | none =>
      rw [q2] at w
      exact w.elim
    | some tot =>
      rw [q2] at w
      have w : WE X M F E lk true σ ρ H (if okLen tot.length = true then Re.ok (.list tot) else .bad) Q := w
      by_cases hz : okLen tot.length = true
      · rw [if_pos hz] at w
        refine fun J H1 sm wk Dd hD => ?_
        have er1 := er.same sm
        refine ⟨fun i m H2 => m = ds.length - i ∧ i ≤ ds.length ∧ Same H1 H2 ∧ ∃ acc accd rst, H2 Dd = some (.lst acc) ∧ RpA X.K H2 (fun a => RS M F σ ρ lk a ∧ a ≠ Dd) acc accd ∧ lcGo2 gg tt its1 vs1 gg1 tt1 f (wipeR ρ vs) (ds.drop i) = some rst ∧ tot = accd ++ rst,
          ⟨ds.length, by simp, Nat.zero_le _, same_new hD, [], [], tot, upd_same, .nil, q2, rfl⟩, ?_⟩
        rintro i m H2 ⟨rfl, hi', sm2, acc, accd, rst, e1, r1, g1, t1⟩
        have kp : Kp (fun a => RS M F σ ρ false a ∧ Nn H1 a) H1 H2 := kp_same sm2
        by_cases hlt : i < ds.length
        · obtain ⟨go, yl⟩ := (wk H2 kp i).1 _ (List.getElem?_eq_getElem hlt)
          refine .inr ⟨go, fun H3 => Same H1 H3 ∧ ∃ acc accd rst, H3 Dd = some (.lst acc) ∧ RpA X.K H3 (fun a => RS M F σ ρ lk a ∧ a ≠ Dd) acc accd ∧ lcGo2 gg tt its1 vs1 gg1 tt1 f (wipeR ρ vs) (ds.drop (i + 1)) = some rst ∧ tot = accd ++ rst, fun H3 x => ⟨ds.length - (i + 1), by omega, rfl, by omega, x⟩, fun x H3 y => ?_⟩
          obtain ⟨s3, rx⟩ := yl x H3 y
          rw [drop_get (List.getElem?_eq_getElem hlt)] at g1
          have g1 : (match gg ds[i] (wipeR ρ vs) with
            | none => none
            | some ρ1 => match tt ρ1 with
              | .ok true => (match its1 ρ1 with
                | .ok es => (match lcGo gg1 tt1 f (wipeR ρ1 vs1) es with
                  | some xs => (match lcGo2 gg tt its1 vs1 gg1 tt1 f (wipeR ρ vs) (ds.drop (i + 1)) with | some ys => some (xs ++ ys) | none => none)
                  | none => none)
                | _ => none)
              | .ok false => lcGo2 gg tt its1 vs1 gg1 tt1 f (wipeR ρ vs) (ds.drop (i + 1))
              | _ => none) = some rst := g1
          cases q3 : gg ds[i] (wipeR ρ vs) with
          | none =>
            rw [q3] at g1
            cases g1
          | some ρ1 =>
            rw [q3] at g1
            have g1 : (match tt ρ1 with
              | .ok true => (match its1 ρ1 with
                | .ok es => (match lcGo gg1 tt1 f (wipeR ρ1 vs1) es with
                  | some xs => (match lcGo2 gg tt its1 vs1 gg1 tt1 f (wipeR ρ vs) (ds.drop (i + 1)) with | some ys => some (xs ++ ys) | none => none)
                  | none => none)
                | _ => none)
              | .ok false => lcGo2 gg tt its1 vs1 gg1 tt1 f (wipeR ρ vs) (ds.drop (i + 1))
              | _ => none) = some rst := g1
            obtain ⟨erw, rsw⟩ := er1.wipe (vs := vs) hv
            have s13 : Same H1 H3 := sm2.trans s3
            have e3 : H3 Dd = some (.lst acc) := s3 _ _ e1
            have erb := erw.blk hD s13 e3
            have rx' : Rp X.K H3 (RS M (inBlk F Dd) (wipe σ vs) (wipeR ρ vs) false) x ds[i] := rx.wide fun a z => by
              have := rsw false
              refine ⟨⟨z.1.1, fun zz => ?_⟩, ?_⟩
              · rw [zz] at z
                exact z.2.not hD
              · have z1 : RS M F (wipe σ vs) (wipeR ρ vs) false a := by
                  rw [this]
                  exact z.1
                exact z1.2
            refine ⟨inBlk F Dd, wipeR ρ vs, ds[i], ρ1, erb, rx', q3, fun σ4 er4 ev4 wp4 ow4 => ⟨?_, ?_⟩⟩
            · rw [wp4 vs hts]
              exact wipe_wipe σ vs
            · refine ⟨inBlk F Dd, ρ1, er4, ?_⟩
              cases q4 : tt ρ1 with
              | ex c =>
                rw [q4] at g1
                cases g1
              | bad =>
                rw [q4] at g1
                cases g1
              | ok bb =>
                rw [q4] at g1
                cases bb with
                | false =>
                  refine fun H5 s5 => ?_
                  show (if false = true then _ else _)
                  rw [if_neg Bool.false_ne_true]
                  exact ⟨s13.trans s5, acc, accd, rst, s5 _ _ e3, r1.same (s3.trans s5), g1, t1⟩
                | true =>
                  refine fun H5 s5 => ?_
                  show (if true = true then _ else _)
                  rw [if_pos rfl]
                  have g1 : (match its1 ρ1 with
                    | .ok es => (match lcGo gg1 tt1 f (wipeR ρ1 vs1) es with
                      | some xs => (match lcGo2 gg tt its1 vs1 gg1 tt1 f (wipeR ρ vs) (ds.drop (i + 1)) with | some ys => some (xs ++ ys) | none => none)
                      | none => none)
                    | _ => none) = some rst := g1
                  cases q5 : its1 ρ1 with
                  | ex c =>
                    rw [q5] at g1
                    cases g1
                  | bad =>
                    rw [q5] at g1
                    cases g1
                  | ok es =>
                    rw [q5] at g1
                    have g1 : (match lcGo gg1 tt1 f (wipeR ρ1 vs1) es with
                      | some xs => (match lcGo2 gg tt its1 vs1 gg1 tt1 f (wipeR ρ vs) (ds.drop (i + 1)) with | some ys => some (xs ++ ys) | none => none)
                      | none => none) = some rst := g1
                    cases q6 : lcGo gg1 tt1 f (wipeR ρ1 vs1) es with
                    | none =>
                      rw [q6] at g1
                      cases g1
                    | some xs =>
                      rw [q6] at g1
                      have g1 : (match lcGo2 gg tt its1 vs1 gg1 tt1 f (wipeR ρ vs) (ds.drop (i + 1)) with | some ys => some (xs ++ ys) | none => none) = some rst := g1
                      cases q7 : lcGo2 gg tt its1 vs1 gg1 tt1 f (wipeR ρ vs) (ds.drop (i + 1)) with
                      | none =>
                        rw [q7] at g1
                        cases g1
                      | some ys =>
                        rw [q7] at g1
                        have g1 : some (xs ++ ys) = some rst := g1
                        cases g1
                        refine ⟨inBlk F Dd, ρ1, er4.same s5, ?_⟩
                        rw [q5]
                        refine fun J1 H6 s6 wk1 => ?_
                        have e6 : H6 Dd = some (.lst acc) := s6 _ _ (s5 _ _ e3)
                        have er6 := (er4.same s5).same s6
                        refine ⟨fun j k H' => k = es.length - j ∧ j ≤ es.length ∧ Same H1 H' ∧ SameX Dd H6 H' ∧ ∃ acc accd rst, H' Dd = some (.lst acc) ∧ RpA X.K H' (fun a => RS M F σ ρ lk a ∧ a ≠ Dd) acc accd ∧ lcGo gg1 tt1 f (wipeR ρ1 vs1) (es.drop j) = some rst ∧ tot = accd ++ (rst ++ ys),
                          ⟨es.length, by simp, Nat.zero_le _, s13.trans (s5.trans s6), .refl, acc, accd, xs, e6, r1.same (s3.trans (s5.trans s6)), q6, t1⟩, ?_⟩
                        rintro j k H7 ⟨rfl, hj', sm7, sb7, acc7, accd7, rst7, e7, r7, g7, t7⟩
                        have kp7 : Kp (fun a => RS M (inBlk F Dd) σ4 ρ1 false a ∧ Nn H6 a) H6 H7 := ⟨fun a u qa xa n => sb7.k a u (by
                          rintro rfl
                          rcases xa with xa | xa
                          · exact xa.1.1.2 rfl
                          · rw [e6] at qa
                            cases qa
                            exact xa trivial) qa n⟩
                        by_cases hlt7 : j < es.length
                        · obtain ⟨go7, yl7⟩ := (wk1 H7 kp7 j).1 _ (List.getElem?_eq_getElem hlt7)
                          refine .inr ⟨go7, fun H8 => Same H1 H8 ∧ SameX Dd H6 H8 ∧ ∃ acc accd rst, H8 Dd = some (.lst acc) ∧ RpA X.K H8 (fun a => RS M F σ ρ lk a ∧ a ≠ Dd) acc accd ∧ lcGo gg1 tt1 f (wipeR ρ1 vs1) (es.drop (j + 1)) = some rst ∧ tot = accd ++ (rst ++ ys), fun H8 x => ⟨es.length - (j + 1), by omega, rfl, by omega, x⟩, fun x8 H8 y8 => ?_⟩
                          obtain ⟨s8, rx8⟩ := yl7 x8 H8 y8
                          have er7 : ER X.K M (inBlk F Dd) σ4 H7 ρ1 := er6.blk2 e6 sb7 (by rw [e7]; exact nofun)
                          have er8 := er7.same s8
                          obtain ⟨erw8, rsw8⟩ := er8.wipe (vs := vs1) hv1
                          have rx8' : Rp X.K H8 (RS M (inBlk F Dd) (wipe σ4 vs1) (wipeR ρ1 vs1) false) x8 es[j] := rx8.wide fun a z => by
                            rw [rsw8 false]
                            exact z.1
                          rw [drop_get (List.getElem?_eq_getElem hlt7)] at g7
                          have g7 : (match gg1 es[j] (wipeR ρ1 vs1) with
                            | none => none
                            | some ρ2 => match tt1 ρ2 with
                              | .ok true => (match f ρ2 with | .ok x => (match lcGo gg1 tt1 f (wipeR ρ1 vs1) (es.drop (j + 1)) with | some xs => some (x :: xs) | none => none) | _ => none)
                              | .ok false => lcGo gg1 tt1 f (wipeR ρ1 vs1) (es.drop (j + 1))
                              | _ => none) = some rst7 := g7
                          cases q8 : gg1 es[j] (wipeR ρ1 vs1) with
                          | none =>
                            rw [q8] at g7
                            cases g7
                          | some ρ2 =>
                            rw [q8] at g7
                            have g7 : (match tt1 ρ2 with
                              | .ok true => (match f ρ2 with | .ok x => (match lcGo gg1 tt1 f (wipeR ρ1 vs1) (es.drop (j + 1)) with | some xs => some (x :: xs) | none => none) | _ => none)
                              | .ok false => lcGo gg1 tt1 f (wipeR ρ1 vs1) (es.drop (j + 1))
                              | _ => none) = some rst7 := g7
                            refine ⟨inBlk F Dd, wipeR ρ1 vs1, es[j], ρ2, erw8, rx8', q8, fun σ5 er5 ev5 wp5 ow5 => ⟨?_, ?_⟩⟩
                            · rw [wp5 vs1 hts1]
                              exact wipe_wipe σ4 vs1
                            · refine ⟨inBlk F Dd, ρ2, er5, ?_⟩
                              cases q9 : tt1 ρ2 with
                              | ex c =>
                                rw [q9] at g7
                                cases g7
                              | bad =>
                                rw [q9] at g7
                                cases g7
                              | ok bb =>
                                rw [q9] at g7
                                cases bb with
                                | false =>
                                  refine fun H9 s9 => ?_
                                  show (if false = true then _ else _)
                                  rw [if_neg Bool.false_ne_true]
                                  exact ⟨sm7.trans (s8.trans s9), sb7.trans (.of (s8.trans s9)), acc7, accd7, rst7, s9 _ _ (s8 _ _ e7), r7.same (s8.trans s9), g7, t7⟩
                                | true =>
                                  refine fun H9 s9 => ?_
                                  show (if true = true then _ else _)
                                  rw [if_pos rfl]
                                  have g7 : (match f ρ2 with | .ok x => (match lcGo gg1 tt1 f (wipeR ρ1 vs1) (es.drop (j + 1)) with | some xs => some (x :: xs) | none => none) | _ => none) = some rst7 := g7
                                  cases q10 : f ρ2 with
                                  | ex c =>
                                    rw [q10] at g7
                                    cases g7
                                  | bad =>
                                    rw [q10] at g7
                                    cases g7
                                  | ok xd =>
                                    rw [q10] at g7
                                    have g7 : (match lcGo gg1 tt1 f (wipeR ρ1 vs1) (es.drop (j + 1)) with | some xs => some (xd :: xs) | none => none) = some rst7 := g7
                                    cases q11 : lcGo gg1 tt1 f (wipeR ρ1 vs1) (es.drop (j + 1)) with
                                    | none =>
                                      rw [q11] at g7
                                      cases g7
                                    | some zs =>
                                      rw [q11] at g7
                                      have g7 : some (xd :: zs) = some rst7 := g7
                                      cases g7
                                      refine ⟨inBlk F Dd, ρ2, er5.same s9, ?_⟩
                                      rw [q10]
                                      refine fun v H10 s10 r10 _ => ?_
                                      have e9 : H9 Dd = some (.lst acc7) := s9 _ _ (s8 _ _ e7)
                                      have e10 : H10 Dd = some (.lst acc7) := s10 _ _ e9
                                      have acl : acc7.length < sizeLine := by
                                        have h1 := of_decide_eq_true hz
                                        have h2 := r7.length
                                        rw [t7, List.length_append, List.length_append, List.length_cons] at h1
                                        exact Nat.lt_of_lt_of_le (show acc7.length < 10001 by omega) (by decide)
                                      have s7t : Same H7 H10 := s8.trans (s9.trans s10)
                                      refine ⟨acc7, e10, acl, (sm7.trans s7t).put hD e10 plain_lst, (sb7.trans (.of s7t)).put e10 plain_lst, acc7 ++ [v], accd7 ++ [xd], zs, upd_same, ?_, rfl, ?_⟩
                                      · have kpD : Kp (fun a => RS M F σ ρ lk a ∧ a ≠ Dd) H10 (upd H10 Dd (.lst (acc7 ++ [v]))) := by
                                          refine ⟨fun a u qa xa _ => ?_⟩
                                          rw [upd_ne]
                                          · exact qa
                                          · intro za
                                            subst za
                                            rcases xa with xa | xa
                                            · exact xa.2 rfl
                                            · rw [e10] at qa
                                              cases qa
                                              exact xa trivial
                                        have rA : RpA X.K H10 (fun a => RS M F σ ρ lk a ∧ a ≠ Dd) acc7 accd7 := r7.same s7t
                                        have rV : Rp X.K H10 (fun a => RS M F σ ρ lk a ∧ a ≠ Dd) v xd := r10.wide fun a za => by
                                          refine ⟨⟨za.1.1, fun zl => fun o => ?_⟩, za.1.2⟩
                                          exact za.2 zl (ow5 a ((own_wipe hv1 a).mpr (ow4 a ((own_wipe hv a).mpr o))))
                                        exact (rA.append (.cons rV .nil)).keep kpD fun _ _ x _ _ => x
                                      · rw [t7, List.append_assoc]
                                        rfl
                        · have ej : j = es.length := by omega
                          subst ej
                          rw [List.drop_length] at g7
                          have g7 : some ([] : List PyData) = some rst7 := g7
                          cases g7
                          exact .inl ⟨(wk1 H7 kp7 _).2 rfl, sm7, acc7, accd7, ys, e7, r7, rfl, t7⟩
        · have ei : i = ds.length := by omega
          subst ei
          rw [List.drop_length] at g1
          have g1 : some ([] : List PyData) = some rst := g1
          cases g1
          rw [List.append_nil] at t1
          subst t1
          refine .inl ⟨(wk H2 kp _).2 rfl, w (.ref Dd) H2 (sm.trans sm2) (.lst e1 ?_ (r1.wide fun a x => x.1)) fun _ => ⟨Dd, rfl, sm.free hD, .lst e1 r1⟩⟩
          exact er1.freshS _ hD
      · rw [if_neg hz] at w
        exact w.elim
variable {elt tg iter tg1 iter1 : Expr} {ifs ifs1 : List Expr} {scope : Scope} {own : List (Str × Nat)} {ts ts1 vs1 : List Nat} {pos : Pos} {its its1 : Rho → Re (List PyData)} {gg gg1 : PyData → Rho → Option Rho} {tt tt1 : Rho → Re Bool} {f : Rho → Re PyData} {lk fr : Bool}
theorem de_lc2 (vs : List Nat) (hc : X.calm = true) (hN : X.N.Nodup) (hi : DI X M F E tg iter its) (ok : BlkOk X.N X.env.scope scope own) (hv : ∀ i ∈ vs, M i = false) (hvv : ∀ i ∈ vs1, i ∈ vs)
    (hg : ∀ (s : Shared) (H : Hp) (C : Addr) (cl : List (Str × Addr)) (fp : List Addr) (F : Fx), DG (X.blk s H scope (compEnvC scope cl C X.env) fp) M F tg ts gg)
    (ht : ∀ (s : Shared) (H : Hp) (C : Addr) (cl : List (Str × Addr)) (fp : List Addr), DTs (X.blk s H scope (compEnvC scope cl C X.env) fp) M E0s ifs tt)
    (hi1 : ∀ (s : Shared) (H : Hp) (C : Addr) (cl : List (Str × Addr)) (fp : List Addr) (F : Fx), DI (X.blk s H scope (compEnvC scope cl C X.env) fp) M F E0s tg1 iter1 its1)
    (hg1 : ∀ (s : Shared) (H : Hp) (C : Addr) (cl : List (Str × Addr)) (fp : List Addr) (F : Fx), DG (X.blk s H scope (compEnvC scope cl C X.env) fp) M F tg1 ts1 gg1)
    (ht1 : ∀ (s : Shared) (H : Hp) (C : Addr) (cl : List (Str × Addr)) (fp : List Addr), DTs (X.blk s H scope (compEnvC scope cl C X.env) fp) M E0s ifs1 tt1)
    (he : ∀ (s : Shared) (H : Hp) (C : Addr) (cl : List (Str × Addr)) (fp : List Addr) (F : Fx), DE (X.blk s H scope (compEnvC scope cl C X.env) fp) M F E0s lk fr elt f)
    (hvs : own.map (·.2) = vs := by rfl) (hts : ∀ i ∈ ts, i ∈ vs := by decide) (hts1 : ∀ i ∈ ts1, i ∈ vs1 := by decide) (hs : ∀ x, foldedSetIterable iter X.env x = pure x := by intro _; rfl) (hs1 : ∀ env x, foldedSetIterable iter1 env x = pure x := by intro _ _; rfl) :
    DE X M F E lk true (.ListComp elt [⟨tg, iter, ifs, 0⟩, ⟨tg1, iter1, ifs1, 0⟩] scope pos) (rLc2 its vs gg tt its1 vs1 gg1 tt1 f) := by
  subst hvs
  obtain ⟨wi, pw, hi⟩ := hi
  exact ⟨_, pe_lc2 (g := canG X M ts gg) (tt := canT X M E0s tt) (wi1 := canI X M E0s its1) (g1 := canG X M ts1 gg1) (tt1 := canT X M E0s tt1) (te := canE X M E0s lk fr f) hc hN pw ok hvv (fun s H C cl fp => canG_ok (hg s H C cl fp)) (fun s H C cl fp => ht s H C cl fp)
    (fun s H C cl fp => canI_ok (hi1 s H C cl fp)) (fun s H C cl fp => canG_ok (hg1 s H C cl fp)) (fun s H C cl fp => ht1 s H C cl fp) (fun s H C cl fp => canE_ok (he s H C cl fp)) hs hs1, fun σ H ρ er Q w => lc2_run hi hv (fun i h => hv i (hvv i h)) hts hts1 er w⟩
end
end Pu

set_option Elab.async false
set_option linter.all false
set_option maxRecDepth 100000
set_option maxHeartbeats 2000000
/-! x += e, x -= e of whole numbers -/
namespace Pu
open PySem PySem.Spec PyProof.Rows L2
variable [TabL]
section
variable {X : Cx} {M : Nat → Bool} {F : Fx} {E : L2.St → XK} {σ σ1 : L2.St} {ρ : Rho} {H H' H1 : Hp} {la fa : Bool} {a : Expr} {f : Rho → Re PyData} {pos : Pos}
def augR (op : Int → Int → Int) (ρ : Rho) (i : Nat) : Option (Option PyData) → Re PyData → Sr
  | some (some (.int x)), r => r.st ρ fun d => (match d with | .int y => .nx (ρ.set i (some (.int (op x y)))) | _ => .bad)
  | _, _ => .bad
def sAug (i : Nat) (op : Int → Int → Int) (f : Rho → Re PyData) : Rho → Sr := fun ρ => augR op ρ i ρ[i]? (f ρ)
theorem ds_aug {i : Nat} {x : Str} {pos' : Pos} {o : Operator} {op : Int → Int → Int} (ho : PIp X o (ipI op)) (m : M i = false) (hN : X.N.Nodup) (h : DE X M F E la fa a f) (hi : X.N[i]? = some x := by rfl) (hx : Loc X.env.scope x := by first | exact Or.inl rfl | exact Or.inr rfl)
    (hf : X.fn x = true ∨ X.env.scope.names.lookup x = some .local := by first | exact .inl rfl | exact .inr rfl) :
    DS X M F E (.AugAssign (.Name x pos') o a pos) (sAug i op f) := by
  obtain ⟨t, p, h⟩ := h
  refine ⟨_, ps_aug hN hi hx p ho hf, fun σ H ρ er D w => ?_⟩
  have w0 : WS X M F E σ H ρ (augR op ρ i ρ[i]? (f ρ)) D := w
  cases q : ρ[i]? with
  | none =>
    rw [q] at w0
    exact w0.elim
  | some r =>
    rw [q] at w0
    cases r with
    | none => exact w0.elim
    | some d =>
      cases d with
      | int z =>
        obtain ⟨v, hv, rv⟩ := er.im i _ q m
        cases rv
        have w0 : WS X M F E σ H ρ ((f ρ).st ρ fun d => (match d with | .int y => .nx (ρ.set i (some (.int (op z y)))) | _ => .bad)) D := w0
        refine ⟨_, hv, h σ H ρ er _ (ws_step er w0 fun d v H1 e sm r _ w1 => ?_)⟩
        cases r with
        | int y => exact ⟨z, y, rfl, rfl, w1 _ H1 ((er.same sm).set m (.int _)) fun a u q n _ => ⟨q, fun o => n ((own_set m).mp o)⟩⟩
        | bl _ => exact w1.elim
        | non => exact w1.elim
        | str _ => exact w1.elim
        | tup _ _ => exact w1.elim
        | lst _ _ _ => exact w1.elim
        | scr _ _ => exact w1.elim
        | dic _ _ _ _ => exact w1.elim
        | dit _ _ _ _ => exact w1.elim
        | dif _ _ _ => exact w1.elim
        | rng _ => exact w1.elim
        | dct _ _ _ _ => exact w1.elim
      | _ => exact w0.elim
@[simp] theorem augR_i (op : Int → Int → Int) (i : Nat) (x y : Int) : augR op ρ i (some (some (.int x))) (.ok (.int y)) = .nx (ρ.set i (some (.int (op x y)))) := (rfl)
@[simp] theorem ap_sAug (i : Nat) (op : Int → Int → Int) (f : Rho → Re PyData) : sAug i op f ρ = augR op ρ i ρ[i]? (f ρ) := (rfl)
end
end Pu

set_option Elab.async false
set_option linter.all false
set_option maxRecDepth 100000
set_option maxHeartbeats 2000000
/-! pairs of places in the wrong order -/
namespace Pu
open PySem PySem.Spec PyProof.Rows L2
variable [TabL]
theorem phpA {α : Type} [DecidableEq α] : ∀ (l ks : List α), l.Nodup → (∀ x ∈ l, x ∈ ks) → l.length ≤ ks.length
  | [], _, _, _ => Nat.zero_le _
  | x :: l, ks, nd, h => by
    obtain ⟨n1, n2⟩ := List.nodup_cons.mp nd
    have hx := h x List.mem_cons_self
    have := phpA l (ks.erase x) n2 fun y hy => (List.mem_erase_of_ne (fun e => n1 (by rw [← e]; exact hy))).mpr (h y (List.mem_cons_of_mem _ hy))
    rw [List.length_erase_of_mem hx] at this
    have : 0 < ks.length := List.length_pos_of_mem hx
    rw [List.length_cons]
    omega
theorem injLe {α β : Type} [DecidableEq β] {l : List α} {k : List β} (φ : α → β) (nd : l.Nodup) (h : ∀ x ∈ l, φ x ∈ k) (inj : ∀ x ∈ l, ∀ y ∈ l, φ x = φ y → x = y) : l.length ≤ k.length := by
  have := phpA (l.map φ) k (by
    refine List.pairwise_map.mpr ?_
    exact nd.imp_of_mem fun {a b} ha hb hne e => hne (inj a ha b hb e)) fun y hy => by
      obtain ⟨x, hx, rfl⟩ := List.mem_map.mp hy
      exact h x hx
  rwa [List.length_map] at this
/-- the pairs p < q below n with f q < f p -/
def ivs (f : Int → Int) (n : Nat) : List (Int × Int) := (upI 0 n).flatMap fun p => ((upI (p + 1) ((n : Int) - (p + 1)).toNat).filter fun q => decide (f q < f p)).map fun q => (p, q)
def iv (f : Int → Int) (n : Nat) : Nat := (ivs f n).length
section
variable {f g : Int → Int} {n : Nat}
theorem mem_ivs {z : Int × Int} : z ∈ ivs f n ↔ 0 ≤ z.1 ∧ z.1 < z.2 ∧ z.2 < n ∧ f z.2 < f z.1 := by
  unfold ivs
  rw [List.mem_flatMap]
  constructor
  · rintro ⟨p, hp, h⟩
    obtain ⟨q, hq, rfl⟩ := List.mem_map.mp h
    obtain ⟨h1, h2⟩ := List.mem_filter.mp hq
    have a := up_mem.mp hp
    have b := up_mem.mp h1
    have c := of_decide_eq_true h2
    exact ⟨a.1, by omega, by omega, c⟩
  · rintro ⟨h1, h2, h3, h4⟩
    refine ⟨z.1, up_mem.mpr (by omega), List.mem_map.mpr ⟨z.2, List.mem_filter.mpr ⟨up_mem.mpr (by omega), decide_eq_true h4⟩, rfl⟩⟩
theorem ivs_nd : (ivs f n).Nodup := by
  unfold ivs
  refine List.pairwise_flatMap.mpr ⟨fun p _ => ?_, ?_⟩
  · refine List.pairwise_map.mpr ?_
    refine ((up_nodup _ _).filter _).imp fun h e => h ?_
    exact congrArg Prod.snd e
  · refine (up_nodup 0 n).imp fun {a b} h x hx y hy e => h ?_
    obtain ⟨q, _, rfl⟩ := List.mem_map.mp hx
    obtain ⟨q', _, rfl⟩ := List.mem_map.mp hy
    exact congrArg Prod.fst e
theorem iv_congr (h : ∀ p : Int, 0 ≤ p → p < n → f p = g p) : iv f n = iv g n := by
  have key : ∀ {f g : Int → Int}, (∀ p : Int, 0 ≤ p → p < n → f p = g p) → iv f n ≤ iv g n := fun {f g} h => phpA _ _ ivs_nd fun z hz => by
    obtain ⟨h1, h2, h3, h4⟩ := mem_ivs.mp hz
    refine mem_ivs.mpr ⟨h1, h2, h3, ?_⟩
    rw [← h _ (by omega) h3, ← h _ h1 (by omega)]
    exact h4
  exact Nat.le_antisymm (key h) (key fun p a b => (h p a b).symm)
/-- places i and i + 1 exchanged -/
def tau (i p : Int) : Int := if p = i then i + 1 else if p = i + 1 then i else p
theorem tau_tau (i p : Int) : tau i (tau i p) = p := by
  unfold tau
  by_cases h : p = i
  · rw [if_pos h, if_neg (by omega), if_pos rfl, h]
  · by_cases h2 : p = i + 1
    · rw [if_neg h, if_pos h2, if_pos rfl, h2]
    · rw [if_neg h, if_neg h2, if_neg h, if_neg h2]
theorem tau_b {i p : Int} (hi : 0 ≤ i) (hn : i + 1 < n) (h0 : 0 ≤ p) (h1 : p < n) : 0 ≤ tau i p ∧ tau i p < n := by
  unfold tau
  split
  · omega
  · split <;> omega
theorem tau_lt {i p q : Int} (h : p < q) (hn : ¬ (p = i ∧ q = i + 1)) : tau i p < tau i q := by
  unfold tau
  by_cases a : p = i
  · by_cases b : q = i + 1
    · exact absurd ⟨a, b⟩ hn
    · rw [if_pos a, if_neg (by omega), if_neg b]
      omega
  · by_cases c : p = i + 1
    · rw [if_neg a, if_pos c, if_neg (by omega), if_neg (by omega)]
      omega
    · rw [if_neg a, if_neg c]
      by_cases d : q = i
      · rw [if_pos d]
        omega
      · by_cases e : q = i + 1
        · rw [if_neg d, if_pos e]
          omega
        · rw [if_neg d, if_neg e]
          exact h
theorem iv_tau {i : Int} (hi : 0 ≤ i) (hn : i + 1 < n) (h : ∀ p : Int, 0 ≤ p → p < n → g p = f (tau i p)) : ((ivs g n).erase (i, i + 1)).length ≤ ((ivs f n).erase (i, i + 1)).length := by
  refine injLe (fun z => (tau i z.1, tau i z.2)) (ivs_nd.erase _) (fun z hz => ?_) fun x hx y hy e => ?_
  · have nd : (ivs g n).Nodup := ivs_nd
    obtain ⟨ne, hz⟩ := (List.Nodup.mem_erase_iff nd).mp hz
    obtain ⟨h1, h2, h3, h4⟩ := mem_ivs.mp hz
    have nn : ¬ (z.1 = i ∧ z.2 = i + 1) := fun q => ne (Prod.ext q.1 q.2)
    have b1 := tau_b hi hn h1 (show z.1 < n by omega)
    have b2 := tau_b hi hn (show 0 ≤ z.2 by omega) h3
    have lt := tau_lt h2 nn
    refine (List.Nodup.mem_erase_iff ivs_nd).mpr ⟨fun q => ?_, mem_ivs.mpr ⟨b1.1, lt, b2.2, ?_⟩⟩
    · have q1 : tau i z.1 = i := congrArg Prod.fst q
      have q2 : tau i z.2 = i + 1 := congrArg Prod.snd q
      have r1 := congrArg (tau i) q1
      have r2 := congrArg (tau i) q2
      rw [tau_tau] at r1 r2
      have e1 : tau i i = i + 1 := by unfold tau; rw [if_pos rfl]
      have e2 : tau i (i + 1) = i := by unfold tau; rw [if_neg (by omega), if_pos rfl]
      omega
    · show f (tau i z.2) < f (tau i z.1)
      rw [← h _ h1 (by omega), ← h _ (by omega) h3]
      exact h4
  · have e1 : tau i x.1 = tau i y.1 := congrArg Prod.fst e
    have e2 : tau i x.2 = tau i y.2 := congrArg Prod.snd e
    have r1 := congrArg (tau i) e1
    have r2 := congrArg (tau i) e2
    rw [tau_tau, tau_tau] at r1 r2
    exact Prod.ext r1 r2
theorem iv_step {i : Int} (hi : 0 ≤ i) (hn : i + 1 < n) (h : ∀ p : Int, 0 ≤ p → p < n → g p = f (tau i p)) : iv g n ≤ iv f n + 1 := by
  have k := iv_tau hi hn h
  rw [List.length_erase] at k
  have l := List.length_erase (a := (i, i + 1)) (l := ivs f n)
  unfold iv
  split at k <;> split at l <;> omega
theorem iv_down {i : Int} (hi : 0 ≤ i) (hn : i + 1 < n) (h : ∀ p : Int, 0 ≤ p → p < n → g p = f (tau i p)) (hd : f (i + 1) < f i) : iv f n = iv g n + 1 := by
  have h' : ∀ p : Int, 0 ≤ p → p < n → f p = g (tau i p) := fun p a b => by
    have := tau_b hi hn a b
    rw [h _ this.1 this.2, tau_tau]
  have k1 := iv_tau hi hn h
  have k2 := iv_tau hi hn h'
  have m : (i, i + 1) ∈ ivs f n := mem_ivs.mpr ⟨hi, by simp; omega, hn, hd⟩
  have nm : (i, i + 1) ∉ ivs g n := fun q => by
    obtain ⟨_, _, _, h4⟩ := mem_ivs.mp q
    have e1 : tau i i = i + 1 := by unfold tau; rw [if_pos rfl]
    have e2 : tau i (i + 1) = i := by unfold tau; rw [if_neg (by omega), if_pos rfl]
    have h4 : g (i + 1) < g i := h4
    rw [h _ (by omega) hn, h _ hi (by omega), e1, e2] at h4
    omega
  have p := List.length_pos_of_mem m
  rw [List.length_erase_of_mem m, List.erase_of_not_mem nm] at k1 k2
  unfold iv
  omega
theorem iv_mono (h : ∀ p q : Int, 0 ≤ p → p < q → q < n → f p ≤ f q) : iv f n = 0 := by
  unfold iv
  rw [List.length_eq_zero_iff]
  refine List.eq_nil_iff_forall_not_mem.mpr fun z hz => ?_
  obtain ⟨h1, h2, h3, h4⟩ := mem_ivs.mp hz
  have := h _ _ h1 h2 h3
  omega
theorem iv_inv (hf : ∀ p : Int, 0 ≤ p → p < n → 0 ≤ f p ∧ f p < n ∧ g (f p) = p) (hg : ∀ p : Int, 0 ≤ p → p < n → 0 ≤ g p ∧ g p < n ∧ f (g p) = p) : iv f n = iv g n := by
  have key : ∀ {f g : Int → Int}, (∀ p : Int, 0 ≤ p → p < n → 0 ≤ f p ∧ f p < n ∧ g (f p) = p) → (∀ p : Int, 0 ≤ p → p < n → 0 ≤ g p ∧ g p < n ∧ f (g p) = p) → iv f n ≤ iv g n := fun {f g} hf hg => by
    refine injLe (fun z => (f z.2, f z.1)) ivs_nd (fun z hz => ?_) fun x hx y hy e => ?_
    · obtain ⟨h1, h2, h3, h4⟩ := mem_ivs.mp hz
      have a1 := hf z.1 h1 (by omega)
      have a2 := hf z.2 (by omega) h3
      refine mem_ivs.mpr ⟨a2.1, h4, a1.2.1, ?_⟩
      show g (f z.1) < g (f z.2)
      omega
    · obtain ⟨x1, x2, x3, _⟩ := mem_ivs.mp hx
      obtain ⟨y1, y2, y3, _⟩ := mem_ivs.mp hy
      have e1 : f x.2 = f y.2 := congrArg Prod.fst e
      have e2 : f x.1 = f y.1 := congrArg Prod.snd e
      have a1 := (hf x.1 x1 (by omega)).2.2
      have a2 := (hf x.2 (by omega) x3).2.2
      have b1 := (hf y.1 y1 (by omega)).2.2
      have b2 := (hf y.2 (by omega) y3).2.2
      rw [e1] at a2
      rw [e2] at a1
      exact Prod.ext (by omega) (by omega)
  exact Nat.le_antisymm (key hf hg) (key hg hf)
theorem iv_le : iv f n ≤ n * n := by
  have : (ivs f n).length ≤ ((upI 0 n).flatMap fun p => (upI 0 n).map fun q => (p, q)).length := phpA _ _ ivs_nd fun z hz => by
    obtain ⟨h1, h2, h3, _⟩ := mem_ivs.mp hz
    exact List.mem_flatMap.mpr ⟨z.1, up_mem.mpr (by omega), List.mem_map.mpr ⟨z.2, up_mem.mpr (by omega), rfl⟩⟩
  rw [List.length_flatMap] at this
  simp only [List.length_map, upI_length] at this
  have e : ((upI 0 n).map fun _ => n).sum = n * n := by
    rw [List.map_const', List.sum_replicate_nat, upI_length]
  rw [e] at this
  exact this
end
end Pu

set_option Elab.async false
set_option linter.all false
set_option maxRecDepth 100000
set_option maxHeartbeats 2000000
/-! comprehensions of numbers with a test; scripts of moves -/
namespace Pu
open PySem PySem.Spec PyProof.Rows L2
variable [TabL]
section
variable {ρ : Rho}
theorem lcGo_f {v : Nat} {t : Rho → Re Bool} {f : Rho → Re PyData} {P : Int → Bool} {e : Int → PyData} : ∀ ms : List Int, (∀ q ∈ ms, t (ρ.set v (some (.int q))) = .ok (P q)) → (∀ q ∈ ms, P q = true → f (ρ.set v (some (.int q))) = .ok (e q)) →
    lcGo (gSlot v) t f ρ (ms.map PyData.int) = some ((ms.filter P).map e)
  | [], _, _ => rfl
  | q :: ms, ht, hf => by
    have ih := lcGo_f ms (fun x hx => ht x (List.mem_cons_of_mem _ hx)) fun x hx => hf x (List.mem_cons_of_mem _ hx)
    have h1 := ht q List.mem_cons_self
    show (match t (ρ.set v (some (.int q))) with
      | .ok true => (match f (ρ.set v (some (.int q))) with | .ok x => (match lcGo (gSlot v) t f ρ (ms.map PyData.int) with | some xs => some (x :: xs) | none => none) | _ => none)
      | .ok false => lcGo (gSlot v) t f ρ (ms.map PyData.int)
      | _ => none) = _
    rw [h1, ih, List.filter_cons]
    cases hp : P q with
    | true =>
      rw [hf q List.mem_cons_self hp]
      rfl
    | false => rfl
/-- [e(q) for q in numbers if P(q)] -/
theorem lc_f {its : Rho → Re (List PyData)} {v : Nat} {t : Rho → Re Bool} {f : Rho → Re PyData} {ms : List Int} {P : Int → Bool} {e : Int → PyData} (hi : its ρ = .ok (ms.map PyData.int)) (hl : ms.length ≤ 10000)
    (ht : ∀ q ∈ ms, t ((ρ.set v none).set v (some (.int q))) = .ok (P q)) (hf : ∀ q ∈ ms, P q = true → f ((ρ.set v none).set v (some (.int q))) = .ok (e q)) : rLc its [v] (gSlot v) t f ρ = .ok (.list ((ms.filter P).map e)) := by
  unfold rLc
  rw [hi, re_ok, if_pos (by rw [List.length_map]; exact decide_eq_true hl)]
  show (match lcGo (gSlot v) t f (ρ.set v none) (ms.map PyData.int) with | some xs => Re.ok (PyData.list xs) | none => .bad) = _
  rw [lcGo_f ms ht hf]
theorem lcGo2_f {u v : Nat} {t : Rho → Re Bool} {f : Rho → Re PyData} {its1 : Rho → Re (List PyData)} {P : Int → Int → Bool} {e : Int → Int → PyData} {ms : Int → List Int} : ∀ ns : List Int, (∀ p ∈ ns, its1 (ρ.set u (some (.int p))) = .ok ((ms p).map PyData.int)) →
    (∀ p ∈ ns, ∀ q ∈ ms p, t (((ρ.set u (some (.int p))).set v none).set v (some (.int q))) = .ok (P p q)) → (∀ p ∈ ns, ∀ q ∈ ms p, P p q = true → f (((ρ.set u (some (.int p))).set v none).set v (some (.int q))) = .ok (e p q)) →
    lcGo2 (gSlot u) yesR its1 [v] (gSlot v) t f ρ (ns.map PyData.int) = some (ns.flatMap fun p => ((ms p).filter (P p)).map (e p))
  | [], _, _, _ => rfl
  | p :: ns, hi, ht, hf => by
    have ih := lcGo2_f ns (fun x hx => hi x (List.mem_cons_of_mem _ hx)) (fun x hx => ht x (List.mem_cons_of_mem _ hx)) fun x hx => hf x (List.mem_cons_of_mem _ hx)
    show (match its1 (ρ.set u (some (.int p))) with
      | .ok es => (match lcGo (gSlot v) t f ((ρ.set u (some (.int p))).set v none) es with
        | some xs => (match lcGo2 (gSlot u) yesR its1 [v] (gSlot v) t f ρ (ns.map PyData.int) with | some ys => some (xs ++ ys) | none => none)
        | none => none)
      | _ => none) = _
    rw [hi p List.mem_cons_self]
    show (match lcGo (gSlot v) t f ((ρ.set u (some (.int p))).set v none) ((ms p).map PyData.int) with
        | some xs => (match lcGo2 (gSlot u) yesR its1 [v] (gSlot v) t f ρ (ns.map PyData.int) with | some ys => some (xs ++ ys) | none => none)
        | none => none) = _
    rw [lcGo_f (ms p) (ht p List.mem_cons_self) (hf p List.mem_cons_self), ih]
    rfl
end
/-! scripts -/
def runM (r : List Int) (ms : List Mv) : List Int := ms.foldl (fun r m => m.F r) r
section
variable {n : Nat} {a b r : List Int} {ms : List Mv}
theorem runM_app (r : List Int) (ms ks : List Mv) : runM r (ms ++ ks) = runM (runM r ms) ks := by
  unfold runM
  rw [List.foldl_append]
theorem mv_perm {m : Mv} (h : r.Perm (upI 1 n)) (ok : m.ok n) : (m.F r).Perm (upI 1 n) := by
  have hl : r.length = n := by rw [h.length_eq, upI_length]
  exact (m.perm ok hl (h.symm.nodup (up_nodup 1 n))).trans h
theorem runM_perm : ∀ {ms : List Mv} {r : List Int}, r.Perm (upI 1 n) → (∀ m ∈ ms, m.ok n) → (runM r ms).Perm (upI 1 n)
  | [], _, h, _ => h
  | m :: ms, r, h, ok => runM_perm (ms := ms) (mv_perm h (ok m List.mem_cons_self)) fun q hq => ok q (List.mem_cons_of_mem _ hq)
theorem Mv.lenF {m : Mv} {r : List Int} (h : m.ok n) (hr : r.length = n) : (m.F r).length = n := by
  cases m with
  | swap i j => exact (swZ_len _ _ _).trans hr
  | next i => exact (swZ_len _ _ _).trans hr
  | take i j => exact ((take_perm (by rw [hr]; exact h.1)).length_eq).trans hr
  | flip i j => exact ((flip_perm (by have := h.1; omega)).length_eq).trans hr
  | blocks i j k l =>
    obtain ⟨h1, h2, h3, h4⟩ := h
    exact ((blk_perm (by omega) h2 (by omega)).length_eq).trans hr
theorem runM_map (f : Int → Int) : ∀ {ms : List Mv} {r : List Int}, r.length = n → (∀ m ∈ ms, m.ok n) → runM (r.map f) ms = (runM r ms).map f
  | [], _, _, _ => rfl
  | m :: ms, r, h, ok => by
    have o := ok m List.mem_cons_self
    show runM (m.F (r.map f)) ms = (runM (m.F r) ms).map f
    rw [m.map f o h]
    exact runM_map f (ms := ms) (m.lenF o h) fun q hq => ok q (List.mem_cons_of_mem _ hq)
/-- what sorts the relative row leads from the first row to the second -/
theorem runM_sorts (T : Two n a b) (ok : ∀ m ∈ ms, m.ok n) (h : runM (relZ a b) ms = upI 1 n) : runM a ms = b := by
  have T' : Two n (runM a ms) b := ⟨runM_perm T.pa ok, T.pb⟩
  refine (rel_sorted T').mp ?_
  rw [← h]
  unfold relZ
  rw [runM_map _ T.la ok]
theorem mv_places {m : Mv} (h : m.ok n) : ∃ ps : List Int, m.D = mvR m.kind ps ∧ 1 ≤ ps.length ∧ ps.length ≤ 4 ∧ ∀ q ∈ ps, 0 ≤ q ∧ q ≤ n := by
  cases m with
  | swap i j =>
    obtain ⟨h1, h2⟩ := h
    exact ⟨[i, j], rfl, by simp, by simp, fun q hq => by
      simp at hq
      rcases hq with rfl | rfl <;> omega⟩
  | next i =>
    have h : i + 1 < n := h
    exact ⟨[i], rfl, by simp, by simp, fun q hq => by
      simp at hq
      subst hq
      omega⟩
  | take i j =>
    obtain ⟨h1, h2, _⟩ := h
    exact ⟨[i, j], rfl, by simp, by simp, fun q hq => by
      simp at hq
      rcases hq with rfl | rfl <;> omega⟩
  | flip i j =>
    obtain ⟨h1, h2⟩ := h
    exact ⟨[i, j], rfl, by simp, by simp, fun q hq => by
      simp at hq
      rcases hq with rfl | rfl <;> omega⟩
  | blocks i j k l =>
    obtain ⟨h1, h2, h3, h4⟩ := h
    exact ⟨[i, j, k, l], rfl, by simp, by simp, fun q hq => by
      simp at hq
      rcases hq with rfl | rfl | rfl | rfl <;> omega⟩
end
end Pu

set_option Elab.async false
set_option linter.all false
set_option maxRecDepth 100000
set_option maxHeartbeats 2000000
/-! neighbors exchanged, by the values of a row -/
namespace Pu
open PySem PySem.Spec PyProof.Rows L2
variable [TabL]
def valZ (r : List Int) (p : Int) : Int := (atZ r p).getD 0
section
variable {n : Nat} {a b r : List Int}
theorem val_at {p : Int} (hp : p ∈ upI 0 r.length) : atZ r p = some (valZ r p) := by
  obtain ⟨h1, h2⟩ := up_mem.mp hp
  obtain ⟨x, e1, _⟩ := atZ_p (ns := r) h1 (by omega)
  unfold valZ
  rw [e1]
  rfl
theorem at_tau {i p : Int} (hi : 0 ≤ i) (hn : i + 1 < r.length) (h0 : 0 ≤ p) (h1 : p < r.length) : atZ (swZ r i (i + 1)) p = atZ r (tau i p) := by
  rw [swZ_at (up_mem.mpr (by omega)) (up_mem.mpr (by omega)) (up_mem.mpr (by omega)) (by omega)]
  unfold tau
  by_cases c : p = i + 1
  · rw [if_pos c, if_neg (by omega), if_pos c]
  · rw [if_neg c]
    by_cases d : p = i
    · rw [if_pos d, if_pos d]
    · rw [if_neg d, if_neg d, if_neg c]
theorem val_tau {i p : Int} (hi : 0 ≤ i) (hn : i + 1 < r.length) (h0 : 0 ≤ p) (h1 : p < r.length) : valZ (swZ r i (i + 1)) p = valZ r (tau i p) := by
  unfold valZ
  rw [at_tau hi hn h0 h1]
theorem g_tau {i p : Int} (hi : 0 ≤ i) (hn : i + 1 < r.length) (h0 : 0 ≤ p) (h1 : p < r.length) : gZ (swZ r i (i + 1)) a p = gZ r a (tau i p) := by
  unfold gZ
  rw [at_tau hi hn h0 h1]
theorem rel_val (T : Two n a b) {p : Int} (h0 : 0 ≤ p) (h1 : p < n) : valZ (relZ a b) p = gZ a b p + 1 := by
  have la := T.la
  obtain ⟨x, e1, e2⟩ := atZ_p (ns := a) h0 (by omega)
  unfold valZ gZ relZ
  rw [atZ_map, e1]
  rfl
theorem iv_shift {f g : Int → Int} (h : ∀ p : Int, 0 ≤ p → p < n → f p = g p + 1) : iv f n = iv g n := by
  have e : iv f n = iv (fun p => g p + 1) n := iv_congr h
  rw [e]
  unfold iv ivs
  congr 2
  funext p
  congr 2
  funext q
  show decide (g q + 1 < g p + 1) = decide (g q < g p)
  exact decide_eq_decide.mpr ⟨fun h => by omega, fun h => by omega⟩
theorem iv_rel (T : Two n a b) : iv (valZ (relZ a b)) n = iv (gZ a b) n := iv_shift fun p h0 h1 => rel_val T h0 h1
theorem iv_back (T : Two n a b) : iv (gZ b a) n = iv (gZ a b) n := by
  have k : ∀ {a b : List Int}, Two n a b → ∀ p : Int, 0 ≤ p → p < n → 0 ≤ gZ a b p ∧ gZ a b p < n ∧ gZ b a (gZ a b p) = p := fun T p h0 h1 => by
    obtain ⟨x, _, _, h3, _⟩ := T.at (p := p) (up_mem.mpr (by omega))
    have := up_mem.mp h3
    exact ⟨by omega, by omega, T.inv p (up_mem.mpr (by omega))⟩
  exact iv_inv (k T.back) (k T)
theorem iv_self (h : r.Perm (upI 1 n)) : iv (gZ r r) n = 0 := by
  have T : Two n r r := ⟨h, h⟩
  refine iv_mono fun p q h0 h1 h2 => ?_
  have e : ∀ p : Int, 0 ≤ p → p < n → gZ r r p = p := fun p h0 h1 => by
    obtain ⟨x, a1, _, _, _⟩ := T.at (p := p) (up_mem.mpr (by omega))
    exact T.g_eq (up_mem.mpr (by omega)) (up_mem.mpr (by omega)) a1 a1
  rw [e p h0 (by omega), e q (by omega) h2]
  omega
theorem next_step (T : Two n a b) {i : Nat} (h : i + 1 < n) : Two n a ((Mv.next i).F b) ∧ iv (gZ a ((Mv.next i).F b)) n ≤ iv (gZ a b) n + 1 := by
  have T' : Two n a ((Mv.next i).F b) := ⟨T.pa, mv_perm T.pb h⟩
  refine ⟨T', ?_⟩
  rw [← iv_back T', ← iv_back T]
  have lb := T.lb
  exact iv_step (i := i) (by omega) (by omega) fun p h0 h1 => g_tau (by omega) (by omega) h0 (by omega)
/-- the first e numbers ascend -/
def asc (r : List Int) (e : Int) : Prop := ∀ i j : Int, 0 ≤ i → i < j → j < e → valZ r i < valZ r j
/-- .. but for that at p, which is less than those behind it -/
def hole (r : List Int) (p e : Int) : Prop := (∀ i j : Int, 0 ≤ i → i < j → j ≤ e → i ≠ p → j ≠ p → valZ r i < valZ r j) ∧ ∀ j : Int, p < j → j ≤ e → valZ r p < valZ r j
theorem hole_start {e : Int} (h : asc r e) : hole r e e := ⟨fun i j h0 h1 h2 _ h4 => h i j h0 h1 (by omega), fun j h1 h2 => by omega⟩
theorem hole_end {p e : Int} (hp : 0 ≤ p) (h : hole r p e) (hd : p = 0 ∨ valZ r (p - 1) < valZ r p) : asc r (e + 1) := fun i j h0 h1 h2 => by
  obtain ⟨k1, k2⟩ := h
  by_cases ei : i = p
  · subst ei
    exact k2 j h1 (by omega)
  · by_cases ej : j = p
    · subst ej
      rcases hd with hd | hd
      · omega
      · by_cases c : i = j - 1
        · subst c
          exact hd
        · have := k1 i (j - 1) h0 (by omega) (by omega) (by omega) (by omega)
          omega
    · exact k1 i j h0 h1 (by omega) ei ej
theorem hole_step {p e : Int} (hp : 0 < p) (he : p ≤ e) (hl : e < r.length) (h : hole r p e) (hd : valZ r p < valZ r (p - 1)) : hole (swZ r (p - 1) p) (p - 1) e := by
  obtain ⟨k1, k2⟩ := h
  have v : ∀ x : Int, 0 ≤ x → x < r.length → valZ (swZ r (p - 1) p) x = valZ r (tau (p - 1) x) := fun x h0 h1 => by
    have := val_tau (r := r) (i := p - 1) (p := x) (by omega) (by omega) h0 h1
    rwa [show p - 1 + 1 = p by omega] at this
  have t0 : tau (p - 1) (p - 1) = p := by
    unfold tau
    rw [if_pos rfl]
    omega
  have t1 : tau (p - 1) p = p - 1 := by
    unfold tau
    rw [if_neg (by omega), if_pos (by omega)]
  have t2 : ∀ x : Int, x ≠ p - 1 → x ≠ p → tau (p - 1) x = x := fun x a b => by
    unfold tau
    rw [if_neg a, if_neg (by omega)]
  refine ⟨fun i j h0 h1 h2 h3 h4 => ?_, fun j h1 h2 => ?_⟩
  · rw [v i h0 (by omega), v j (by omega) (by omega)]
    by_cases ei : i = p
    · subst ei
      rw [t1, t2 j (by omega) (by omega)]
      exact k1 _ _ (by omega) (by omega) h2 (by omega) (by omega)
    · rw [t2 i h3 ei]
      by_cases ej : j = p
      · subst ej
        rw [t1]
        exact k1 _ _ h0 (by omega) (by omega) (by omega) (by omega)
      · rw [t2 j h4 ej]
        exact k1 _ _ h0 h1 h2 ei ej
  · rw [v (p - 1) (by omega) (by omega), v j (by omega) (by omega), t0]
    by_cases ej : j = p
    · subst ej
      rw [t1]
      exact hd
    · rw [t2 j (by omega) ej]
      exact k2 j (by omega) h2
theorem asc_sorted (h : r.Perm (upI 1 n)) (ha : asc r n) : r = upI 1 n ∧ iv (valZ r) n = 0 := by
  have hl : r.length = n := by rw [h.length_eq, upI_length]
  constructor
  · have e1 := srtZ_uniq h (List.pairwise_iff_getElem.mpr fun i j hi hj hij => by
      have := ha (i : Int) (j : Int) (by omega) (by omega) (by omega)
      unfold valZ at this
      rw [atZ_nat hi, atZ_nat hj, List.getElem?_eq_getElem hi, List.getElem?_eq_getElem hj] at this
      exact Int.le_of_lt this)
    have e2 := srtZ_uniq (.refl (upI 1 n)) (by
      unfold upI
      refine List.pairwise_map.mpr ?_
      exact List.pairwise_lt_range.imp fun h => by omega)
    rw [e1, ← e2]
  · exact iv_mono fun p q h0 h1 h2 => Int.le_of_lt (ha p q h0 h1 h2)
end
theorem kind_swap {m : Mv} (h : m.kind = "swap") : ∃ i j : Nat, m = .swap i j := by
  cases m with
  | swap i j => exact ⟨i, j, rfl⟩
  | next i => exact absurd h (show ¬ (("next" : Str) = "swap") by decide)
  | take i j => exact absurd h (show ¬ (("take" : Str) = "swap") by decide)
  | flip i j => exact absurd h (show ¬ (("flip" : Str) = "swap") by decide)
  | blocks i j k l => exact absurd h (show ¬ (("blocks" : Str) = "swap") by decide)
theorem kind_next {m : Mv} (h : m.kind = "next") : ∃ i : Nat, m = .next i := by
  cases m with
  | swap i j => exact absurd h (show ¬ (("swap" : Str) = "next") by decide)
  | next i => exact ⟨i, rfl⟩
  | take i j => exact absurd h (show ¬ (("take" : Str) = "next") by decide)
  | flip i j => exact absurd h (show ¬ (("flip" : Str) = "next") by decide)
  | blocks i j k l => exact absurd h (show ¬ (("blocks" : Str) = "next") by decide)
theorem kind_take {m : Mv} (h : m.kind = "take") : ∃ i j : Nat, m = .take i j := by
  cases m with
  | swap i j => exact absurd h (show ¬ (("swap" : Str) = "take") by decide)
  | next i => exact absurd h (show ¬ (("next" : Str) = "take") by decide)
  | take i j => exact ⟨i, j, rfl⟩
  | flip i j => exact absurd h (show ¬ (("flip" : Str) = "take") by decide)
  | blocks i j k l => exact absurd h (show ¬ (("blocks" : Str) = "take") by decide)
theorem kind_flip {m : Mv} (h : m.kind = "flip") : ∃ i j : Nat, m = .flip i j := by
  cases m with
  | swap i j => exact absurd h (show ¬ (("swap" : Str) = "flip") by decide)
  | next i => exact absurd h (show ¬ (("next" : Str) = "flip") by decide)
  | take i j => exact absurd h (show ¬ (("take" : Str) = "flip") by decide)
  | flip i j => exact ⟨i, j, rfl⟩
  | blocks i j k l => exact absurd h (show ¬ (("blocks" : Str) = "flip") by decide)
theorem kind_blocks {m : Mv} (h : m.kind = "blocks") : ∃ i j k l : Nat, m = .blocks i j k l := by
  cases m with
  | swap i j => exact absurd h (show ¬ (("swap" : Str) = "blocks") by decide)
  | next i => exact absurd h (show ¬ (("next" : Str) = "blocks") by decide)
  | take i j => exact absurd h (show ¬ (("take" : Str) = "blocks") by decide)
  | flip i j => exact absurd h (show ¬ (("flip" : Str) = "blocks") by decide)
  | blocks i j k l => exact ⟨i, j, k, l, rfl⟩
theorem val_ne {n : Nat} {r : List Int} (h : r.Perm (upI 1 n)) {p q : Int} (hp : p ∈ upI 0 n) (hq : q ∈ upI 0 n) (ne : p ≠ q) : valZ r p ≠ valZ r q := fun e => by
  have hl : r.length = n := by rw [h.length_eq, upI_length]
  have e1 := val_at (r := r) (p := p) (by rw [hl]; exact hp)
  have e2 := val_at (r := r) (p := q) (by rw [hl]; exact hq)
  rw [e] at e1
  exact ne (atZ_inj (h.symm.nodup (up_nodup 1 n)) (by rw [hl]; exact hp) (by rw [hl]; exact hq) e1 e2)
end Pu

set_option Elab.async false
set_option linter.all false
set_option maxRecDepth 100000
set_option maxHeartbeats 2000000
/-! block rings: by pieces; the way back; an exchange of blocks changes their number by two at most -/
namespace Pu
open PySem PySem.Spec PyProof.Rows L2
variable [TabL]
/-! rings of functions that are alike -/
section
variable {f f' : Int → Int} {ks ks' : List Int}
theorem conj_it {φ : Int → Int} (P : Pm f ks) (h : ∀ x ∈ ks, φ (f x) = f' (φ x)) {s : Int} (hs : s ∈ ks) : ∀ m, φ (itZ f m s) = itZ f' m (φ s)
  | 0 => rfl
  | m + 1 => by
    show φ (f (itZ f m s)) = f' (itZ f' m (φ s))
    rw [h _ (P.it m hs), conj_it P h hs m]
theorem heads_conj_le {φ : Int → Int} (P : Pm f ks) (P' : Pm f' ks') (hm : ∀ x ∈ ks, φ x ∈ ks') (inj : ∀ x ∈ ks, ∀ y ∈ ks, φ x = φ y → x = y) (h : ∀ x ∈ ks, φ (f x) = f' (φ x)) : (heads f ks).length ≤ (heads f' ks').length := by
  refine injLe (fun s => mnZ (ringZ f' (φ s))) (heads_nd P) (fun s hs => ?_) fun s hs t ht e => ?_
  · have hk := hm s (mem_heads.mp hs).1
    obtain ⟨m1, _⟩ := mnZ_in (P'.ring_ne hk)
    exact mem_heads.mpr ⟨P'.ring_in hk m1, (P'.mn_ring hk m1).symm⟩
  · obtain ⟨s1, s2⟩ := mem_heads.mp hs
    obtain ⟨t1, t2⟩ := mem_heads.mp ht
    have hks := hm s s1
    have hkt := hm t t1
    obtain ⟨a1, _⟩ := mnZ_in (P'.ring_ne hks)
    obtain ⟨b1, _⟩ := mnZ_in (P'.ring_ne hkt)
    have e : mnZ (ringZ f' (φ s)) = mnZ (ringZ f' (φ t)) := e
    rw [← e] at b1
    have c1 := P'.ring_trans hks a1 (P'.ring_back hkt b1)
    obtain ⟨m, em⟩ := (P'.mem_ring hks).mp c1
    rw [← conj_it P h s1 m] at em
    have et := inj t t1 _ (P.it m s1) em
    have hr : t ∈ ringZ f s := (P.mem_ring s1).mpr ⟨m, et⟩
    rw [← s2, P.mn_ring s1 hr, t2]
theorem heads_conj {φ ψ : Int → Int} (P : Pm f ks) (P' : Pm f' ks') (hm : ∀ x ∈ ks, φ x ∈ ks') (hm' : ∀ y ∈ ks', ψ y ∈ ks) (i1 : ∀ x ∈ ks, ψ (φ x) = x) (i2 : ∀ y ∈ ks', φ (ψ y) = y) (h : ∀ x ∈ ks, φ (f x) = f' (φ x)) : (heads f ks).length = (heads f' ks').length := by
  refine Nat.le_antisymm (heads_conj_le P P' hm (fun x hx y hy e => ?_) h) (heads_conj_le (φ := ψ) P' P hm' (fun x hx y hy e => ?_) fun y hy => ?_)
  · rw [← i1 x hx, ← i1 y hy, e]
  · rw [← i2 x hx, ← i2 y hy, e]
  · have := h (ψ y) (hm' y hy)
    rw [i2 y hy] at this
    rw [← this, i1 _ (P.to _ (hm' y hy))]
/-- u and v exchanged -/
def sw2 (u v x : Int) : Int := if x = u then v else if x = v then u else x
theorem sw2_sw2 (u v x : Int) : sw2 u v (sw2 u v x) = x := by
  unfold sw2
  by_cases a : x = u
  · rw [if_pos a]
    by_cases b : v = u
    · rw [if_pos b, b, a]
    · rw [if_neg b, if_pos rfl, a]
  · rw [if_neg a]
    by_cases b : x = v
    · rw [if_pos b, if_pos rfl, b]
    · rw [if_neg b, if_neg a, if_neg b]
theorem sw2_mem {u v x : Int} (hu : u ∈ ks) (hv : v ∈ ks) (hx : x ∈ ks) : sw2 u v x ∈ ks := by
  unfold sw2
  split
  · exact hv
  · split
    · exact hu
    · exact hx
theorem Pm.sw (P : Pm f ks) {u v : Int} (hu : u ∈ ks) (hv : v ∈ ks) : Pm (fun x => sw2 u v (f x)) ks := by
  refine ⟨P.nd, fun x hx => sw2_mem hu hv (P.to x hx), fun x hx y hy e => ?_⟩
  have e' : sw2 u v (f x) = sw2 u v (f y) := e
  have := congrArg (sw2 u v) e'
  rw [sw2_sw2, sw2_sw2] at this
  exact P.inj x hx y hy this
theorem heads_sw (P : Pm f ks) {u v : Int} (hu : u ∈ ks) (hv : v ∈ ks) : (heads f ks).length ≤ (heads (fun x => sw2 u v (f x)) ks).length + 1 :=
  heads_swap P (P.sw hu hv) hu (j := v) fun x _ h1 h2 => by
    show sw2 u v (f x) = f x
    unfold sw2
    rw [if_neg h1, if_neg h2]
theorem heads_congr (P : Pm f ks) (P' : Pm f' ks) (h : ∀ x ∈ ks, f x = f' x) : (heads f ks).length = (heads f' ks).length :=
  heads_conj (φ := id) (ψ := id) P P' (fun _ h => h) (fun _ h => h) (fun _ _ => rfl) (fun _ _ => rfl) h
/-- x is taken out of its ring -/
theorem heads_split (P : Pm f ks) {x : Int} (hx : x ∈ ks) (ne : f x ≠ x) : (heads f ks).length + 1 ≤ (heads (fun y => sw2 (f x) x (f y)) ks).length := by
  have hfx := P.to x hx
  have P' := P.sw hfx hx
  have fix : (fun y => sw2 (f x) x (f y)) x = x := by
    show sw2 (f x) x (f x) = x
    unfold sw2
    rw [if_pos rfl]
  have near : ∀ z ∈ ks, sw2 (f x) x (f z) ∈ ringZ f z := fun z hz => by
    unfold sw2
    by_cases c : f z = f x
    · rw [if_pos c]
      have := P.inj z hz x hx c
      subst this
      exact P.ring_self hz
    · rw [if_neg c]
      by_cases d : f z = x
      · rw [if_pos d]
        refine (P.mem_ring hz).mpr ⟨2, ?_⟩
        show f x = f (f z)
        rw [d]
      · rw [if_neg d]
        exact (P.mem_ring hz).mpr ⟨1, rfl⟩
  have sub : ∀ z ∈ ks, ∀ w, w ∈ ringZ (fun y => sw2 (f x) x (f y)) z → w ∈ ringZ f z := fun z hz w hw => by
    obtain ⟨m, rfl⟩ := (P'.mem_ring hz).mp hw
    clear hw
    induction m with
    | zero => exact P.ring_self hz
    | succ m ih => exact P.ring_trans hz ih (near _ (P'.it m hz))
  have fixit : ∀ m, itZ (fun y => sw2 (f x) x (f y)) m x = x := fun m => by
    induction m with
    | zero => rfl
    | succ m ih =>
      show (fun y => sw2 (f x) x (f y)) (itZ (fun y => sw2 (f x) x (f y)) m x) = x
      rw [ih]
      exact fix
  have alone : ∀ w, w ∈ ringZ (fun y => sw2 (f x) x (f y)) x → w = x := fun w hw => by
    obtain ⟨m, rfl⟩ := (P'.mem_ring hx).mp hw
    exact fixit m
  have out : ∀ z ∈ ks, z ≠ x → x ∉ ringZ (fun y => sw2 (f x) x (f y)) z := fun z hz hne hm => hne (alone z (P'.ring_back hz hm))
  have hxh : x ∈ heads (fun y => sw2 (f x) x (f y)) ks := by
    obtain ⟨m1, _⟩ := mnZ_in (P'.ring_ne hx)
    exact mem_heads.mpr ⟨hx, alone _ m1⟩
  let e : Int → Int := fun s => if s = x then f x else s
  have he : ∀ s ∈ ks, e s ∈ ks ∧ e s ≠ x ∧ e s ∈ ringZ f s := fun s hs => by
    show (if s = x then f x else s) ∈ ks ∧ (if s = x then f x else s) ≠ x ∧ (if s = x then f x else s) ∈ ringZ f s
    by_cases c : s = x
    · rw [if_pos c]
      subst c
      exact ⟨hfx, ne, (P.mem_ring hs).mpr ⟨1, rfl⟩⟩
    · rw [if_neg c]
      exact ⟨hs, c, P.ring_self hs⟩
  have main : ((heads f ks).map fun s => mnZ (ringZ (fun y => sw2 (f x) x (f y)) (e s))).length ≤ ((heads (fun y => sw2 (f x) x (f y)) ks).erase x).length := by
    refine phpA _ _ ?_ fun w hw => ?_
    · refine List.pairwise_map.mpr ((heads_nd P).imp_of_mem fun {s t} hs ht hne q => hne ?_)
      obtain ⟨s1, s2⟩ := mem_heads.mp hs
      obtain ⟨t1, t2⟩ := mem_heads.mp ht
      obtain ⟨a1, a2, a3⟩ := he s s1
      obtain ⟨b1, b2, b3⟩ := he t t1
      obtain ⟨m1, _⟩ := mnZ_in (P'.ring_ne a1)
      obtain ⟨m2, _⟩ := mnZ_in (P'.ring_ne b1)
      have c1 := P.ring_trans s1 a3 (sub _ a1 _ m1)
      have c2 := P.ring_trans t1 b3 (sub _ b1 _ m2)
      rw [← q] at c2
      have c3 := P.ring_trans s1 c1 (P.ring_back t1 c2)
      rw [← s2, P.mn_ring s1 c3, t2]
    · obtain ⟨s, hs, rfl⟩ := List.mem_map.mp hw
      obtain ⟨s1, s2⟩ := mem_heads.mp hs
      obtain ⟨a1, a2, a3⟩ := he s s1
      obtain ⟨m1, _⟩ := mnZ_in (P'.ring_ne a1)
      refine (List.Nodup.mem_erase_iff (heads_nd P')).mpr ⟨fun q => out _ a1 a2 (by
        have m1' := m1
        rw [q] at m1'
        exact m1'), mem_heads.mpr ⟨P'.ring_in a1 m1, (P'.mn_ring a1 m1).symm⟩⟩
  rw [List.length_map, List.length_erase_of_mem hxh] at main
  have := List.length_pos_of_mem hxh
  omega
end
/-! rows with 0 ahead and n + 1 behind -/
def posZ (l : List Int) (y : Int) : Int := ((idxZ y l).getD 0 : Nat)
structure Fu (n : Nat) (l : List Int) : Prop where
  pm : l.Perm (upI 0 (n + 2))
  h0 : valZ l 0 = 0
  hN : valZ l ((n : Int) + 1) = (n : Int) + 1
section
variable {n : Nat} {l l' : List Int}
theorem Fu.len (h : Fu n l) : l.length = n + 2 := by rw [h.pm.length_eq, upI_length]
theorem Fu.nd (h : Fu n l) : l.Nodup := h.pm.symm.nodup (up_nodup 0 _)
theorem Fu.at (h : Fu n l) {p : Int} (h0 : 0 ≤ p) (h1 : p < n + 2) : atZ l p = some (valZ l p) := val_at (up_mem.mpr (by have := h.len; omega))
theorem Fu.val (h : Fu n l) {p : Int} (h0 : 0 ≤ p) (h1 : p < n + 2) : 0 ≤ valZ l p ∧ valZ l p < n + 2 := by
  have hl := h.len
  have e := h.at h0 h1
  have := up_mem.mp (h.pm.mem_iff.mp (atZ_mem (up_mem.mpr (by omega)) e))
  omega
theorem Fu.inj (h : Fu n l) {p q : Int} (h0 : 0 ≤ p) (h1 : p < n + 2) (h2 : 0 ≤ q) (h3 : q < n + 2) (e : valZ l p = valZ l q) : p = q := by
  have hl := h.len
  have e1 := h.at h0 h1
  have e2 := h.at h2 h3
  rw [e] at e1
  exact atZ_inj h.nd (up_mem.mpr (by omega)) (up_mem.mpr (by omega)) e1 e2
theorem Fu.pos (h : Fu n l) {y : Int} (h0 : 0 ≤ y) (h1 : y < n + 2) : 0 ≤ posZ l y ∧ posZ l y < n + 2 ∧ valZ l (posZ l y) = y := by
  have hl := h.len
  have hm : y ∈ l := h.pm.mem_iff.mpr (up_mem.mpr (by omega))
  obtain ⟨j, ej⟩ := idxZ_mem hm
  have gj := (idxZ_some ej).1
  have hj := getSome gj
  have e : posZ l y = (j : Int) := by
    unfold posZ
    rw [ej]
    rfl
  rw [e]
  refine ⟨by omega, by omega, ?_⟩
  unfold valZ
  rw [atZ_nat hj, gj]
  rfl
theorem Fu.pos_val (h : Fu n l) {p : Int} (h0 : 0 ≤ p) (h1 : p < n + 2) : posZ l (valZ l p) = p := by
  have v := h.val h0 h1
  obtain ⟨a, b, c⟩ := h.pos v.1 v.2
  exact h.inj a b h0 h1 c
theorem Fu.pos_of (h : Fu n l) {p y : Int} (h0 : 0 ≤ p) (h1 : p < n + 2) (e : valZ l p = y) : posZ l y = p := by
  rw [← e]
  exact h.pos_val h0 h1
/-- the piece left of the piece x + 1 -/
def hP (l : List Int) (x : Int) : Int := valZ l (posZ l (x + 1) - 1)
/-- .. by places -/
def hI (l : List Int) (k : Int) : Int := posZ l (valZ l (k - 1) + 1)
theorem Fu.pos1 (h : Fu n l) {x : Int} (h0 : 0 ≤ x) (h1 : x ≤ n) : 1 ≤ posZ l (x + 1) ∧ posZ l (x + 1) ≤ n + 1 ∧ valZ l (posZ l (x + 1)) = x + 1 := by
  obtain ⟨a, b, c⟩ := h.pos (y := x + 1) (by omega) (by omega)
  refine ⟨?_, by omega, c⟩
  by_cases z : posZ l (x + 1) = 0
  · rw [z, h.h0] at c
    omega
  · omega
theorem Fu.val1 (h : Fu n l) {p : Int} (h0 : 0 ≤ p) (h1 : p ≤ n) : 0 ≤ valZ l p ∧ valZ l p ≤ n := by
  have v := h.val h0 (show p < n + 2 by omega)
  refine ⟨v.1, ?_⟩
  by_cases z : valZ l p = (n : Int) + 1
  · have := h.inj h0 (show p < n + 2 by omega) (show 0 ≤ (n : Int) + 1 by omega) (by omega) (z.trans h.hN.symm)
    omega
  · omega
theorem Fu.pmP (h : Fu n l) : Pm (hP l) (upI 0 (n + 1)) := by
  refine ⟨up_nodup 0 _, fun x hx => ?_, fun x hx y hy e => ?_⟩
  · have hx := up_mem.mp hx
    obtain ⟨a, b, c⟩ := h.pos1 (x := x) (by omega) (by omega)
    have v := h.val1 (p := posZ l (x + 1) - 1) (by omega) (by omega)
    exact up_mem.mpr (by unfold hP; omega)
  · have hx := up_mem.mp hx
    have hy := up_mem.mp hy
    obtain ⟨a, b, c⟩ := h.pos1 (x := x) (by omega) (by omega)
    obtain ⟨a', b', c'⟩ := h.pos1 (x := y) (by omega) (by omega)
    have := h.inj (p := posZ l (x + 1) - 1) (q := posZ l (y + 1) - 1) (by omega) (by omega) (by omega) (by omega) e
    have e2 : posZ l (x + 1) = posZ l (y + 1) := by omega
    rw [e2] at c
    omega
theorem Fu.pmI (h : Fu n l) : Pm (hI l) (upI 1 (n + 1)) := by
  refine ⟨up_nodup 1 _, fun k hk => ?_, fun x hx y hy e => ?_⟩
  · have hk := up_mem.mp hk
    have v := h.val1 (p := k - 1) (by omega) (by omega)
    obtain ⟨a, b, c⟩ := h.pos1 (x := valZ l (k - 1)) v.1 v.2
    exact up_mem.mpr (by unfold hI; omega)
  · have hx := up_mem.mp hx
    have hy := up_mem.mp hy
    have v := h.val1 (p := x - 1) (by omega) (by omega)
    have w := h.val1 (p := y - 1) (by omega) (by omega)
    obtain ⟨_, _, c⟩ := h.pos1 (x := valZ l (x - 1)) v.1 v.2
    obtain ⟨_, _, c'⟩ := h.pos1 (x := valZ l (y - 1)) w.1 w.2
    have e : posZ l (valZ l (x - 1) + 1) = posZ l (valZ l (y - 1) + 1) := e
    rw [e] at c
    have := h.inj (p := x - 1) (q := y - 1) (by omega) (by omega) (by omega) (by omega) (by omega)
    omega
/-- how many block rings -/
noncomputable def cB (n : Nat) (l : List Int) : Nat := (heads (hP l) (upI 0 (n + 1))).length
theorem Fu.cI (h : Fu n l) : (heads (hI l) (upI 1 (n + 1))).length = cB n l := by
  refine heads_conj (φ := fun k => valZ l (k - 1)) (ψ := fun x => posZ l x + 1) h.pmI h.pmP (fun k hk => ?_) (fun x hx => ?_) (fun k hk => ?_) (fun x hx => ?_) fun k hk => ?_
  · have hk := up_mem.mp hk
    have v := h.val1 (p := k - 1) (by omega) (by omega)
    exact up_mem.mpr (by omega)
  · have hx := up_mem.mp hx
    obtain ⟨a, b, c⟩ := h.pos (y := x) (by omega) (by omega)
    have : posZ l x ≠ (n : Int) + 1 := fun z => by
      rw [z, h.hN] at c
      omega
    exact up_mem.mpr (by omega)
  · have hk := up_mem.mp hk
    have := h.pos_val (p := k - 1) (by omega) (by omega)
    show posZ l (valZ l (k - 1)) + 1 = k
    omega
  · have hx := up_mem.mp hx
    obtain ⟨a, b, c⟩ := h.pos (y := x) (by omega) (by omega)
    show valZ l (posZ l x + 1 - 1) = x
    rw [show posZ l x + 1 - 1 = posZ l x by omega]
    exact c
  · rfl
theorem cB_le (n : Nat) (l : List Int) : cB n l ≤ n + 1 := heads_le (hP l) (n + 1)
/-- the way back -/
theorem cB_back (h : Fu n l) (h' : Fu n l') (e : ∀ p : Int, 0 ≤ p → p < n + 2 → valZ l' p = posZ l p) : cB n l' = cB n l := by
  have e2 : ∀ y : Int, 0 ≤ y → y < n + 2 → posZ l' y = valZ l y := fun y h0 h1 => by
    have v := h.val h0 h1
    refine h'.pos_of v.1 v.2 ?_
    rw [e _ v.1 v.2, h.pos_val h0 h1]
  let k : Int → Int := fun x => valZ l (posZ l x + 1) - 1
  have pk : ∀ x ∈ upI 0 (n + 1), 0 ≤ posZ l x ∧ posZ l x ≤ n ∧ valZ l (posZ l x) = x := fun x hx => by
    have hx := up_mem.mp hx
    obtain ⟨a, b, c⟩ := h.pos (y := x) (by omega) (by omega)
    have : posZ l x ≠ (n : Int) + 1 := fun z => by
      rw [z, h.hN] at c
      omega
    exact ⟨a, by omega, c⟩
  have kv : ∀ x ∈ upI 0 (n + 1), 0 ≤ k x ∧ k x ≤ n := fun x hx => by
    obtain ⟨a, b, c⟩ := pk x hx
    have v := h.val (p := posZ l x + 1) (by omega) (by omega)
    have : valZ l (posZ l x + 1) ≠ 0 := fun z => by
      have := h.inj (p := posZ l x + 1) (q := 0) (by omega) (by omega) (by omega) (by omega) (z.trans h.h0.symm)
      omega
    show 0 ≤ valZ l (posZ l x + 1) - 1 ∧ valZ l (posZ l x + 1) - 1 ≤ n
    omega
  have Pk : Pm k (upI 0 (n + 1)) := by
    refine ⟨up_nodup 0 _, fun x hx => up_mem.mpr (by have := kv x hx; omega), fun x hx y hy q => ?_⟩
    obtain ⟨a, b, c⟩ := pk x hx
    obtain ⟨a', b', c'⟩ := pk y hy
    have q : valZ l (posZ l x + 1) - 1 = valZ l (posZ l y + 1) - 1 := q
    have := h.inj (p := posZ l x + 1) (q := posZ l y + 1) (by omega) (by omega) (by omega) (by omega) (by omega)
    have e3 : posZ l x = posZ l y := by omega
    rw [← c, ← c', e3]
  have inv : ∀ x ∈ upI 0 (n + 1), k (hP l x) = x := fun x hx => by
    have hx := up_mem.mp hx
    obtain ⟨a, b, c⟩ := h.pos1 (x := x) (by omega) (by omega)
    show valZ l (posZ l (valZ l (posZ l (x + 1) - 1)) + 1) - 1 = x
    rw [h.pos_val (by omega) (by omega), show posZ l (x + 1) - 1 + 1 = posZ l (x + 1) by omega, c]
    omega
  have h1 := heads_inv h.pmP Pk inv
  have h2 : (heads k (upI 0 (n + 1))).length = (heads (hP l') (upI 0 (n + 1))).length := by
    refine heads_conj (φ := posZ l) (ψ := valZ l) Pk h'.pmP (fun x hx => ?_) (fun x hx => ?_) (fun x hx => (pk x hx).2.2) (fun x hx => ?_) fun x hx => ?_
    · obtain ⟨a, b, _⟩ := pk x hx
      exact up_mem.mpr (by omega)
    · have hx := up_mem.mp hx
      have v := h.val1 (p := x) (by omega) (by omega)
      exact up_mem.mpr (by omega)
    · have hx := up_mem.mp hx
      exact h.pos_val (by omega) (by omega)
    · obtain ⟨a, b, c⟩ := pk x hx
      have kx := kv x hx
      show posZ l (k x) = valZ l' (posZ l' (posZ l x + 1) - 1)
      rw [e2 _ (by omega) (by omega), e _ (by show 0 ≤ k x; omega) (by show k x < (n : Int) + 2; omega)]
  unfold cB
  rw [← h2, h1]
theorem cB_sorted (h : Fu n (upI 0 (n + 2))) : cB n (upI 0 (n + 2)) = n + 1 := by
  have v : ∀ p : Int, 0 ≤ p → p < n + 2 → valZ (upI 0 (n + 2)) p = p := fun p h0 h1 => by
    obtain ⟨x, e1, e2⟩ := atZ_p (ns := upI 0 (n + 2)) h0 (by rw [upI_length]; omega)
    have := up_get e2
    unfold valZ
    rw [e1]
    show x = p
    omega
  unfold cB
  rw [heads_id h.pmP fun x hx => ?_, upI_length]
  have hx := up_mem.mp hx
  have p1 := h.pos_of (p := x + 1) (by omega) (by omega) (v _ (by omega) (by omega))
  unfold hP
  rw [p1, v _ (by omega) (by omega)]
  omega
end
end Pu

set_option Elab.async false
set_option linter.all false
set_option maxRecDepth 100000
set_option maxHeartbeats 2000000
/-! exchanges of blocks and the block rings -/
namespace Pu
open PySem PySem.Spec PyProof.Rows L2
variable [TabL]
def fullZ (r : List Int) : List Int := [0] ++ r ++ [(r.length : Int) + 1]
section
variable {n : Nat} {r a b l l' : List Int}
theorem full_len (r : List Int) : (fullZ r).length = r.length + 2 := by simp [fullZ]
theorem full_up (n : Nat) : upI 0 (n + 2) = [0] ++ upI 1 n ++ [(n : Int) + 1] := by
  refine List.ext_getElem? fun m => ?_
  by_cases c : m < n + 2
  · rw [show (upI 0 (n + 2))[m]? = some (m : Int) by unfold upI; rw [List.getElem?_map, List.getElem?_range c]; simp]
    cases m with
    | zero => rfl
    | succ m =>
      rw [List.append_assoc]
      show _ = (upI 1 n ++ [(n : Int) + 1])[m]?
      by_cases c2 : m < n
      · rw [List.getElem?_append_left (by rw [upI_length]; exact c2)]
        unfold upI
        rw [List.getElem?_map, List.getElem?_range c2]
        simp
        omega
      · have : m = n := by omega
        subst this
        rw [List.getElem?_append_right (by rw [upI_length]; exact Nat.le_refl _), upI_length, Nat.sub_self]
        simp
  · rw [List.getElem?_eq_none (by rw [upI_length]; omega), List.getElem?_eq_none (by rw [List.length_append, List.length_append, upI_length]; simp; omega)]
theorem full_val {p : Int} (h0 : 0 ≤ p) (h1 : p < r.length) : valZ (fullZ r) (p + 1) = valZ r p := by
  obtain ⟨k, rfl⟩ := Int.eq_ofNat_of_zero_le h0
  have hk : k < r.length := by omega
  unfold valZ
  rw [show ((k : Int) + 1) = ((k + 1 : Nat) : Int) by omega, atZ_nat (by rw [full_len]; omega), atZ_nat hk]
  unfold fullZ
  rw [List.append_assoc, List.singleton_append, List.getElem?_cons_succ, List.getElem?_append_left hk]
theorem full_fu (h : r.Perm (upI 1 n)) : Fu n (fullZ r) := by
  have hl : r.length = n := by rw [h.length_eq, upI_length]
  refine ⟨?_, by simp [valZ, fullZ], ?_⟩
  · rw [full_up]
    unfold fullZ
    rw [hl]
    exact (h.append_left [0]).append_right _
  · unfold valZ
    rw [show ((n : Int) + 1) = ((n + 1 : Nat) : Int) by omega, atZ_nat (by rw [full_len]; omega)]
    unfold fullZ
    rw [List.getElem?_append_right (by simp; omega)]
    simp [hl]
theorem full_sorted (n : Nat) : fullZ (upI 1 n) = upI 0 (n + 2) := by
  rw [full_up]
  unfold fullZ
  rw [upI_length]
/-- where a place of the new row came from -/
def piB (I J K L m : Int) : Int := if m < I then m else if m < I + (L - K) then m - I + K else if m < I + (L - J) then m - (I + (L - K)) + J else if m < L then m - (I + (L - J)) + I else m
theorem blk_val {i j k m' : Nat} (h1 : i ≤ j) (h2 : j ≤ k) (h3 : k ≤ m') (h4 : m' ≤ r.length) {m : Int} (h0 : 0 ≤ m) (hm : m < r.length) : valZ (blkZ r i j k m') m = valZ r (piB i j k m' m) := by
  obtain ⟨x, rfl⟩ := Int.eq_ofNat_of_zero_le h0
  have hx : x < r.length := by omega
  have hlen : (blkZ r i j k m').length = r.length := (blk_perm h1 h2 h3).length_eq
  have key : (blkZ r i j k m')[x]? = r[(piB i j k m' x).toNat]? ∧ 0 ≤ piB i j k m' x ∧ piB i j k m' x < r.length := by
    have la : (r.take i).length = i := by rw [List.length_take]; omega
    have lb : ((r.take m').drop k).length = m' - k := by rw [List.length_drop, List.length_take]; omega
    have lc : ((r.take k).drop j).length = k - j := by rw [List.length_drop, List.length_take]; omega
    have ld : ((r.take j).drop i).length = j - i := by rw [List.length_drop, List.length_take]; omega
    unfold blkZ piB
    by_cases c1 : x < i
    · rw [if_pos (by omega), List.append_assoc, List.append_assoc, List.append_assoc, List.getElem?_append_left (by omega), List.getElem?_take, if_pos c1]
      exact ⟨by congr 1, by omega, by omega⟩
    · rw [if_neg (by omega)]
      by_cases c2 : x < i + (m' - k)
      · rw [if_pos (by omega), List.append_assoc, List.append_assoc, List.append_assoc, List.getElem?_append_right (by omega), la, List.getElem?_append_left (by omega), List.getElem?_drop, List.getElem?_take, if_pos (by omega)]
        exact ⟨by congr 1; omega, by omega, by omega⟩
      · rw [if_neg (by omega)]
        by_cases c3 : x < i + (m' - j)
        · rw [if_pos (by omega), List.append_assoc, List.append_assoc, List.append_assoc, List.getElem?_append_right (by omega), la, List.getElem?_append_right (by omega), lb, List.getElem?_append_left (by omega), List.getElem?_drop, List.getElem?_take, if_pos (by omega)]
          exact ⟨by congr 1; omega, by omega, by omega⟩
        · rw [if_neg (by omega)]
          by_cases c4 : x < m'
          · rw [if_pos (by omega), List.append_assoc, List.append_assoc, List.append_assoc, List.getElem?_append_right (by omega), la, List.getElem?_append_right (by omega), lb, List.getElem?_append_right (by omega), lc, List.getElem?_append_left (by omega), List.getElem?_drop, List.getElem?_take, if_pos (by omega)]
            exact ⟨by congr 1; omega, by omega, by omega⟩
          · rw [if_neg (by omega), List.append_assoc, List.append_assoc, List.append_assoc, List.getElem?_append_right (by omega), la, List.getElem?_append_right (by omega), lb, List.getElem?_append_right (by omega), lc, List.getElem?_append_right (by omega), ld, List.getElem?_drop]
            exact ⟨by congr 1; omega, by omega, by omega⟩
  obtain ⟨e, p0, p1⟩ := key
  obtain ⟨y, hy⟩ := Int.eq_ofNat_of_zero_le p0
  have hy2 : y < r.length := by omega
  unfold valZ
  rw [atZ_nat (show x < (blkZ r i j k m').length by omega), e, hy, atZ_nat hy2]
  rfl
theorem full_blk {i j k m' : Nat} (h1 : i ≤ j) (h2 : j ≤ k) (h3 : k ≤ m') (h4 : m' ≤ r.length) : fullZ (blkZ r i j k m') = blkZ (fullZ r) (i + 1) (j + 1) (k + 1) (m' + 1) := by
  have hl : (blkZ r i j k m').length = r.length := (blk_perm h1 h2 h3).length_eq
  have t : ∀ x : Nat, x ≤ r.length → (fullZ r).take (x + 1) = 0 :: r.take x := fun x hx => by
    unfold fullZ
    rw [List.append_assoc, List.singleton_append, List.take_succ_cons, List.take_append_of_le_length hx]
  have d : (fullZ r).drop (m' + 1) = r.drop m' ++ [(r.length : Int) + 1] := by
    unfold fullZ
    rw [List.append_assoc, List.singleton_append, List.drop_succ_cons, List.drop_append_of_le_length h4]
  have e : fullZ (blkZ r i j k m') = [0] ++ blkZ r i j k m' ++ [(r.length : Int) + 1] := by
    unfold fullZ
    rw [hl]
  rw [e]
  unfold blkZ
  rw [t i (by omega), t j (by omega), t k (by omega), t m' h4, d]
  simp
theorem sw2_l (u v : Int) : sw2 u v u = v := if_pos rfl
theorem sw2_r (u v : Int) : sw2 u v v = u := by
  unfold sw2
  by_cases c : v = u
  · rw [if_pos c, c]
  · rw [if_neg c, if_pos rfl]
theorem sw2_n {u v x : Int} (h1 : x ≠ u) (h2 : x ≠ v) : sw2 u v x = x := by
  unfold sw2
  rw [if_neg h1, if_neg h2]
theorem sw2_comm (u v x : Int) : sw2 u v x = sw2 v u x := by
  by_cases a : x = u
  · subst a
    rw [sw2_l, sw2_r]
  · by_cases b : x = v
    · subst b
      rw [sw2_l, sw2_r]
    · rw [sw2_n a b, sw2_n b a]
/-- what the exchange does to the left neighbors -/
theorem hP_blk (h : Fu n l) (h' : Fu n l') {I J K L : Int} (i1 : 1 ≤ I) (ij : I < J) (jk : J ≤ K) (kl : K < L) (ln : L ≤ n + 1) (e : ∀ m : Int, 0 ≤ m → m < n + 2 → valZ l' m = valZ l (piB I J K L m)) {x : Int} (x0 : 0 ≤ x) (xn : x ≤ n) :
    hP l' x = sw2 (valZ l (J - 1)) (valZ l (L - 1)) (sw2 (valZ l (I - 1)) (valZ l (K - 1)) (hP l x)) := by
  obtain ⟨m1, m2, m3⟩ := h'.pos1 x0 xn
  unfold hP
  generalize posZ l' (x + 1) = m at m1 m2 m3
  have ne : ∀ p q : Int, 0 ≤ p → p < n + 2 → 0 ≤ q → q < n + 2 → p ≠ q → valZ l p ≠ valZ l q := fun p q a b c d ne e => ne (h.inj a b c d e)
  have em := e m (by omega) (by omega)
  have em1 := e (m - 1) (by omega) (by omega)
  have pb : 0 ≤ piB I J K L m ∧ piB I J K L m < n + 2 := by
    unfold piB
    split
    · omega
    · split
      · omega
      · split
        · omega
        · split <;> omega
  have ep : posZ l (x + 1) = piB I J K L m := h.pos_of pb.1 pb.2 (em.symm.trans m3)
  rw [em1, ep]
  by_cases c1 : m = I
  · have p1 : piB I J K L m = K := by
      unfold piB
      rw [if_neg (by omega), if_pos (by omega)]
      omega
    have p2 : piB I J K L (m - 1) = I - 1 := by
      unfold piB
      rw [if_pos (by omega)]
      omega
    rw [p1, p2, sw2_r, sw2_n (ne _ _ (by omega) (by omega) (by omega) (by omega) (by omega)) (ne _ _ (by omega) (by omega) (by omega) (by omega) (by omega))]
  · by_cases c2 : m = I + (L - J)
    · have p1 : piB I J K L m = I := by
        unfold piB
        rw [if_neg (by omega), if_neg (by omega), if_neg (by omega), if_pos (by omega)]
        omega
      rw [p1, sw2_l]
      by_cases jk2 : J = K
      · have p2 : piB I J K L (m - 1) = L - 1 := by
          unfold piB
          rw [if_neg (by omega), if_pos (by omega)]
          omega
        rw [p2, ← jk2, sw2_l]
      · have p2 : piB I J K L (m - 1) = K - 1 := by
          unfold piB
          rw [if_neg (by omega), if_neg (by omega), if_pos (by omega)]
          omega
        rw [p2, sw2_n (ne _ _ (by omega) (by omega) (by omega) (by omega) (by omega)) (ne _ _ (by omega) (by omega) (by omega) (by omega) (by omega))]
    · by_cases c3 : m = I + (L - K)
      · have p1 : piB I J K L m = J := by
          unfold piB
          rw [if_neg (by omega), if_neg (by omega), if_pos (by omega)]
          omega
        have p2 : piB I J K L (m - 1) = L - 1 := by
          unfold piB
          rw [if_neg (by omega), if_pos (by omega)]
          omega
        rw [p1, p2, sw2_n (u := valZ l (I - 1)) (ne _ _ (by omega) (by omega) (by omega) (by omega) (by omega)) (ne _ _ (by omega) (by omega) (by omega) (by omega) (by omega)), sw2_l]
      · by_cases c4 : m = L
        · have p1 : piB I J K L m = L := by
            unfold piB
            rw [if_neg (by omega), if_neg (by omega), if_neg (by omega), if_neg (by omega)]
            omega
          have p2 : piB I J K L (m - 1) = J - 1 := by
            unfold piB
            rw [if_neg (by omega), if_neg (by omega), if_neg (by omega), if_pos (by omega)]
            omega
          rw [p1, p2, sw2_n (u := valZ l (I - 1)) (ne _ _ (by omega) (by omega) (by omega) (by omega) (by omega)) (ne _ _ (by omega) (by omega) (by omega) (by omega) (by omega)), sw2_r]
        · have p1 : piB I J K L (m - 1) = piB I J K L m - 1 ∧ piB I J K L m ≠ I ∧ piB I J K L m ≠ J ∧ piB I J K L m ≠ K ∧ piB I J K L m ≠ L ∧ 1 ≤ piB I J K L m := by
            unfold piB
            by_cases d1 : m < I
            · rw [if_pos (show m - 1 < I by omega), if_pos d1]
              omega
            · rw [if_neg (show ¬ m - 1 < I by omega), if_neg d1]
              by_cases d2 : m < I + (L - K)
              · rw [if_pos (show m - 1 < I + (L - K) by omega), if_pos d2]
                omega
              · rw [if_neg (show ¬ m - 1 < I + (L - K) by omega), if_neg d2]
                by_cases d3 : m < I + (L - J)
                · rw [if_pos (show m - 1 < I + (L - J) by omega), if_pos d3]
                  omega
                · rw [if_neg (show ¬ m - 1 < I + (L - J) by omega), if_neg d3]
                  by_cases d4 : m < L
                  · rw [if_pos (show m - 1 < L by omega), if_pos d4]
                    omega
                  · rw [if_neg (show ¬ m - 1 < L by omega), if_neg d4]
                    omega
          obtain ⟨p1, n1, n2, n3, n4, n5⟩ := p1
          rw [p1, sw2_n (u := valZ l (I - 1)) (ne _ _ (by omega) (by omega) (by omega) (by omega) (by omega)) (ne _ _ (by omega) (by omega) (by omega) (by omega) (by omega)),
            sw2_n (ne _ _ (by omega) (by omega) (by omega) (by omega) (by omega)) (ne _ _ (by omega) (by omega) (by omega) (by omega) (by omega))]
theorem Fu.vm (h : Fu n l) {p : Int} (h0 : 0 ≤ p) (h1 : p ≤ n) : valZ l p ∈ upI 0 (n + 1) := by
  have := h.val1 h0 h1
  exact up_mem.mpr (by omega)
/-- an exchange of blocks takes two rings at most -/
theorem cB_blk (h : Fu n l) (h' : Fu n l') {I J K L : Int} (i1 : 1 ≤ I) (ij : I < J) (jk : J ≤ K) (kl : K < L) (ln : L ≤ n + 1) (e : ∀ m : Int, 0 ≤ m → m < n + 2 → valZ l' m = valZ l (piB I J K L m)) : cB n l ≤ cB n l' + 2 := by
  have P1 := h.pmP.sw (h.vm (p := I - 1) (by omega) (by omega)) (h.vm (p := K - 1) (by omega) (by omega))
  have c1 := heads_sw h.pmP (h.vm (p := I - 1) (by omega) (by omega)) (h.vm (p := K - 1) (by omega) (by omega))
  have c2 := heads_sw P1 (h.vm (p := J - 1) (by omega) (by omega)) (h.vm (p := L - 1) (by omega) (by omega))
  have c3 := heads_congr h'.pmP (P1.sw (h.vm (p := J - 1) (by omega) (by omega)) (h.vm (p := L - 1) (by omega) (by omega))) fun x hx => by
    have := up_mem.mp hx
    exact hP_blk h h' i1 ij jk kl ln e (by omega) (by omega)
  unfold cB
  omega
theorem heads_sw' {f : Int → Int} {ks : List Int} (P : Pm f ks) {u v : Int} (hu : u ∈ ks) (hv : v ∈ ks) : (heads (fun x => sw2 u v (f x)) ks).length ≤ (heads f ks).length + 1 := by
  have c1 := heads_sw (P.sw hu hv) hu hv
  have c2 := heads_congr ((P.sw hu hv).sw hu hv) P fun x _ => sw2_sw2 u v (f x)
  omega
/-- .. or gives two at most -/
theorem cB_up (h : Fu n l) (h' : Fu n l') {I J K L : Int} (i1 : 1 ≤ I) (ij : I < J) (jk : J ≤ K) (kl : K < L) (ln : L ≤ n + 1) (e : ∀ m : Int, 0 ≤ m → m < n + 2 → valZ l' m = valZ l (piB I J K L m)) : cB n l' ≤ cB n l + 2 := by
  have P1 := h.pmP.sw (h.vm (p := I - 1) (by omega) (by omega)) (h.vm (p := K - 1) (by omega) (by omega))
  have c1 := heads_sw' h.pmP (h.vm (p := I - 1) (by omega) (by omega)) (h.vm (p := K - 1) (by omega) (by omega))
  have c2 := heads_sw' P1 (h.vm (p := J - 1) (by omega) (by omega)) (h.vm (p := L - 1) (by omega) (by omega))
  have c3 := heads_congr h'.pmP (P1.sw (h.vm (p := J - 1) (by omega) (by omega)) (h.vm (p := L - 1) (by omega) (by omega))) fun x hx => by
    have := up_mem.mp hx
    exact hP_blk h h' i1 ij jk kl ln e (by omega) (by omega)
  unfold cB
  omega
/-- .. or gives two, the piece behind I - 1 and that behind J - 1 being brought to them -/
theorem cB_best (h : Fu n l) (h' : Fu n l') {I J K L : Int} (i1 : 1 ≤ I) (ij : I < J) (jk : J ≤ K) (kl : K < L) (ln : L ≤ n + 1) (e : ∀ m : Int, 0 ≤ m → m < n + 2 → valZ l' m = valZ l (piB I J K L m))
    (eK : valZ l K = valZ l (I - 1) + 1) (eL : valZ l L = valZ l (J - 1) + 1) : cB n l + 2 ≤ cB n l' := by
  have ne : ∀ p q : Int, 0 ≤ p → p < n + 2 → 0 ≤ q → q < n + 2 → p ≠ q → valZ l p ≠ valZ l q := fun p q a b c d ne e => ne (h.inj a b c d e)
  have mi := h.vm (p := I - 1) (by omega) (by omega)
  have mj := h.vm (p := J - 1) (by omega) (by omega)
  have mk := h.vm (p := K - 1) (by omega) (by omega)
  have ml := h.vm (p := L - 1) (by omega) (by omega)
  have f0 : hP l (valZ l (I - 1)) = valZ l (K - 1) := by
    unfold hP
    rw [← eK, h.pos_val (by omega) (by omega)]
  have g0 : hP l (valZ l (J - 1)) = valZ l (L - 1) := by
    unfold hP
    rw [← eL, h.pos_val (by omega) (by omega)]
  have s1 := heads_split h.pmP mi (by rw [f0]; exact ne _ _ (by omega) (by omega) (by omega) (by omega) (by omega))
  rw [f0] at s1
  have P1 := h.pmP.sw mk mi
  have f1 : sw2 (valZ l (K - 1)) (valZ l (I - 1)) (hP l (valZ l (J - 1))) = valZ l (L - 1) := by
    rw [g0, sw2_n (ne _ _ (by omega) (by omega) (by omega) (by omega) (by omega)) (ne _ _ (by omega) (by omega) (by omega) (by omega) (by omega))]
  have s2 : (heads (fun y => sw2 (valZ l (K - 1)) (valZ l (I - 1)) (hP l y)) (upI 0 (n + 1))).length + 1 ≤ (heads (fun y => sw2 (valZ l (L - 1)) (valZ l (J - 1)) (sw2 (valZ l (K - 1)) (valZ l (I - 1)) (hP l y))) (upI 0 (n + 1))).length := by
    have q := heads_split P1 mj (by
      show sw2 (valZ l (K - 1)) (valZ l (I - 1)) (hP l (valZ l (J - 1))) ≠ valZ l (J - 1)
      rw [f1]
      exact ne _ _ (by omega) (by omega) (by omega) (by omega) (by omega))
    simp only [f1] at q
    exact q
  have c3 := heads_congr h'.pmP (P1.sw ml mj) fun x hx => by
    have := up_mem.mp hx
    show hP l' x = sw2 (valZ l (L - 1)) (valZ l (J - 1)) (sw2 (valZ l (K - 1)) (valZ l (I - 1)) (hP l x))
    rw [hP_blk h h' i1 ij jk kl ln e (by omega) (by omega), sw2_comm (valZ l (J - 1)), sw2_comm (valZ l (I - 1))]
  unfold cB
  omega
/-! rows -/
theorem blk_row (h : r.Perm (upI 1 n)) {i j k m' : Nat} (o : (Mv.blocks i j k m').ok n) : ∀ m : Int, 0 ≤ m → m < n + 2 → valZ (fullZ ((Mv.blocks i j k m').F r)) m = valZ (fullZ r) (piB ((i : Int) + 1) ((j : Int) + 1) ((k : Int) + 1) ((m' : Int) + 1) m) := fun m h0 h1 => by
  have hl : r.length = n := by rw [h.length_eq, upI_length]
  obtain ⟨o1, o2, o3, o4⟩ := o
  have e : fullZ ((Mv.blocks i j k m').F r) = blkZ (fullZ r) (i + 1) (j + 1) (k + 1) (m' + 1) := full_blk (by omega) o2 (by omega) (by omega)
  rw [e]
  exact blk_val (r := fullZ r) (i := i + 1) (j := j + 1) (k := k + 1) (m' := m' + 1) (by omega) (by omega) (by omega) (by rw [full_len]; omega) h0 (by rw [full_len]; omega)
theorem cB_row (h : r.Perm (upI 1 n)) {i j k m' : Nat} (o : (Mv.blocks i j k m').ok n) : cB n (fullZ r) ≤ cB n (fullZ ((Mv.blocks i j k m').F r)) + 2 := by
  have e := blk_row h o
  obtain ⟨o1, o2, o3, o4⟩ := o
  exact cB_blk (full_fu h) (full_fu (mv_perm h ⟨o1, o2, o3, o4⟩)) (I := (i : Int) + 1) (by omega) (by omega) (by omega) (by omega) (by omega) e
theorem cB_rel (T : Two n a b) : cB n (fullZ (relZ b a)) = cB n (fullZ (relZ a b)) := by
  have lr := rel_len T
  have lr' := rel_len T.back
  have F := full_fu (rel_perm T)
  have F' := full_fu (rel_perm T.back)
  refine cB_back F F' fun p h0 h1 => ?_
  by_cases c0 : p = 0
  · subst c0
    rw [F'.h0, F.pos_of (by omega) (by omega) F.h0]
  · by_cases c1 : p = (n : Int) + 1
    · subst c1
      rw [F'.hN, F.pos_of (by omega) (by omega) F.hN]
    · have hq : p - 1 ∈ upI 0 n := up_mem.mpr (by omega)
      obtain ⟨x, _, _, a3, _⟩ := T.back.at hq
      have g := up_mem.mp a3
      have e1 : valZ (fullZ (relZ b a)) p = gZ b a (p - 1) + 1 := by
        have := full_val (r := relZ b a) (p := p - 1) (by omega) (by omega)
        rw [show p - 1 + 1 = p by omega] at this
        rw [this, rel_val T.back (by omega) (by omega)]
      have e2 : valZ (fullZ (relZ a b)) (gZ b a (p - 1) + 1) = p := by
        rw [full_val (by omega) (by omega), rel_val T (by omega) (by omega), T.back.inv _ hq]
        omega
      rw [e1, F.pos_of (by omega) (by omega) e2]
/-- the least number of exchanges of blocks -/
noncomputable def lsB (n : Nat) (a b : List Int) : Nat := (n + 1 - cB n (fullZ (relZ a b))) / 2
theorem rel_F {m : Mv} (T : Two n a b) (o : m.ok n) : relZ (m.F b) a = m.F (relZ b a) := by
  unfold relZ
  rw [m.map _ o T.lb]
theorem lsB_step (T : Two n a b) {i j k m' : Nat} (o : (Mv.blocks i j k m').ok n) : Two n a ((Mv.blocks i j k m').F b) ∧ lsB n a ((Mv.blocks i j k m').F b) ≤ lsB n a b + 1 := by
  have T' : Two n a ((Mv.blocks i j k m').F b) := ⟨T.pa, mv_perm T.pb o⟩
  refine ⟨T', ?_⟩
  have c1 := cB_row (rel_perm T.back) o
  have e1 := cB_rel T
  have e2 := cB_rel T'
  rw [rel_F T o] at e2
  unfold lsB
  omega
theorem lsB_self (h : r.Perm (upI 1 n)) : lsB n r r = 0 := by
  have T : Two n r r := ⟨h, h⟩
  unfold lsB
  rw [(rel_sorted T).mpr rfl, full_sorted, cB_sorted (full_sorted n ▸ full_fu (.refl _))]
  omega
end
end Pu

set_option Elab.async false
set_option linter.all false
set_option maxRecDepth 100000
set_option maxHeartbeats 2000000
/-! zip of two, tuples or lists -/
namespace ZG
open PySem PySem.Spec PyProof.Rows L2
def SqK (t : Bool) (K : PySem.W.Frag) (H : Hp) (a : Addr) (xs : List V) : Prop := match t with | true => SqT K H a xs | false => SqL K H a xs
def HK (t : Bool) (h : Heap) (a : Addr) (its : Array Value) : Prop := match t with | true => h.IsTuple a its | false => h.IsList a its
def StK (t : Bool) (h : Heap) (it a : Addr) (i : Nat) : Prop := match t with | true => h.IsTupleIter it a i | false => h.IsListIter it a i
def itO (t : Bool) (a : Addr) : Obj := match t with | true => { cls := .type "tuple_iterator", data := .fields #[.ref a, .int 0 0] } | false => { cls := .type "list_iterator", data := .fields #[.ref a, .int 0 0] }
theorem draws {prog : Program} {w : World} {A : Around} (t : Bool) (hh : A.handled = none) (it a : Addr) (hne : a ≠ it) (its : Array Value) :
    Draws prog w A it [it, a] its.size (fun i v => its[i]? = some v) (fun i h => StK t h it a i ∧ HK t h a its) := by
  cases t with
  | true => exact Draws.tuple hh it a hne its
  | false => exact Draws.list hh it a hne its
theorem begins (t : Bool) (a : Addr) (its : Array Value) : Begins (.ref a) (itO t a) fun h => HK t h a its := by
  cases t with
  | true => exact begins_tuple a its
  | false => exact begins_list a its
theorem st0 {t : Bool} {h : Heap} {it a : Addr} (e : h.get? it = some (itO t a)) : StK t h it a 0 := by
  cases t with
  | true => exact ⟨_, e, rfl, rfl⟩
  | false => exact ⟨_, e, rfl, rfl⟩
theorem st_at {t : Bool} {h h' : Heap} {it a : Addr} {i : Nat} (s : StK t h it a i) (k : ∀ o, h.get? it = some o → h'.get? it = some o) : StK t h' it a i := by
  cases t with
  | true => exact Heap.IsTupleIter.at s k
  | false => exact Heap.IsListIter.at s k
theorem st_obj {t : Bool} {h : Heap} {it a : Addr} {i : Nat} (s : StK t h it a i) : ∃ o, h.get? it = some o ∧ ∀ v, o.data ≠ .cell v := by
  cases t with
  | true =>
    obtain ⟨o, e, _, d⟩ := s
    exact ⟨o, e, fun v q => by rw [d] at q; cases q⟩
  | false =>
    obtain ⟨o, e, _, d⟩ := s
    exact ⟨o, e, fun v q => by rw [d] at q; cases q⟩
section
variable {X : Cx} {pins : List (Addr × Obj)} {σ : L2.St} {H : Hp} {s : Shared} {t : Bool} {a : Addr} {xs ys : List V}
theorem sqk (I : Inv X pins σ H s) (h : SqK t X.K H a xs) : ∃ its : List Value, Vals xs its ∧ HK t s.heap a its.toArray := by
  cases t with
  | true =>
    obtain ⟨its, rv, p, _⟩ := I.tuple h
    exact ⟨its, rv, p⟩
  | false =>
    obtain ⟨its, rv, p, _⟩ := I.list h
    exact ⟨its, rv, p.isList⟩
theorem sqk_inj (I : Inv X pins σ H s) (h : SqK t X.K H a xs) (h' : SqK t X.K H a ys) : xs = ys := by
  cases t with
  | true => exact I.tuple_inj h h'
  | false => exact I.list_inj h h'
end
/-- the two as they stand at each turn, the items in new pairs -/
def ItzG (K : PySem.W.Frag) (t1 t2 : Bool) (a b : Addr) : It :=
  ⟨fun i H => ∃ (xs ys : List V) (x y : V), SqK t1 K H a xs ∧ SqK t2 K H b ys ∧ xs[i]? = some x ∧ ys[i]? = some y,
    fun i H v H' => ∃ T o x y, v = .ref T ∧ H T = none ∧ o.dict = none ∧ H' = upd H T (.frz o (.tup [x, y])) ∧ (∀ xs, SqK t1 K H a xs → xs[i]? = some x) ∧ ∀ ys, SqK t2 K H b ys → ys[i]? = some y,
    fun i H => ∃ xs ys : List V, SqK t1 K H a xs ∧ SqK t2 K H b ys ∧ i ≤ xs.length ∧ i ≤ ys.length ∧ (i = xs.length ∨ i = ys.length)⟩
theorem sep {z TI TO i1 i2 a b : Addr} (D : ZipApart z TI TO i1 i2 a b) : ZipSep2 z TI TO i1 i2 [i1, a] [i2, b] where
  TIz := D.TIz
  TOz := D.TOz
  TITO := D.TITO
  TIi1 := D.TIi1
  mem1 := by simp
  zf1 := by
    intro h
    rcases List.mem_cons.mp h with e | h
    · exact D.i1z e.symm
    · exact D.l1z (List.mem_singleton.mp h).symm
  Tf1 := by
    intro h
    rcases List.mem_cons.mp h with e | h
    · exact D.TOi1 e
    · exact D.l1TO (List.mem_singleton.mp h).symm
  TIi2 := D.TIi2
  mem2 := by simp
  zf2 := by
    intro h
    rcases List.mem_cons.mp h with e | h
    · exact D.i2z e.symm
    · exact D.l2z (List.mem_singleton.mp h).symm
  Tf2 := by
    intro h
    rcases List.mem_cons.mp h with e | h
    · exact D.TOi2 e
    · exact D.l2TO (List.mem_singleton.mp h).symm
  sep1_2 := by
    intro h
    rcases List.mem_cons.mp h with e | h
    · exact D.i12 e
    · exact D.l2i1 (List.mem_singleton.mp h).symm
  sep2_1 := by
    intro h
    rcases List.mem_cons.mp h with e | h
    · exact D.i12 e.symm
    · exact D.l1i2 (List.mem_singleton.mp h).symm
theorem turn_zipG {P : Program} {w : World} {K : PySem.W.Frag} {elts : List Expr} {kk : Nat} {tpos : Pos} {t1 t2 : Bool} {a b z TI TO i1 i2 : Addr} (D : ZipApart z TI TO i1 i2 a b) :
    Turn P w K (.Tuple elts kk tpos) (ItzG K t1 t2 a b) [z, TI, TO, i1, i2] z (fun i h => IsZip h z TI TO .none ∧ IsPair h TI (.ref i1) (.ref i2) ∧ (∃ x y, IsPair h TO x y) ∧ StK t1 h i1 a i ∧ StK t2 h i2 b i) where
  mem := by simp
  obj := fun i h st c hc => by
    obtain ⟨hz, hTI, ⟨x, y, hTO⟩, s1, s2⟩ := st
    have e' : c = z ∨ c = TI ∨ c = TO ∨ c = i1 ∨ c = i2 := by simpa using hc
    rcases e' with q | q | q | q | q
    · rw [q]; exact ⟨_, hz, fun v q => nomatch q⟩
    · rw [q]; exact ⟨_, hTI, fun v q => nomatch q⟩
    · rw [q]; exact ⟨_, hTO, fun v q => nomatch q⟩
    · rw [q]; exact st_obj s1
    · rw [q]; exact st_obj s2
  keep := fun i h h' st k => by
    obtain ⟨hz, hTI, ⟨x, y, hTO⟩, h1, h2⟩ := st
    exact ⟨k z (by simp) _ hz, k TI (by simp) _ hTI, ⟨x, y, k TO (by simp) _ hTO⟩, st_at h1 fun o q => k i1 (by simp) o q, st_at h2 fun o q => k i2 (by simp) o q⟩
  item := by
    intro X hP hw hK hc i pins s σ H E I hf st hg
    subst hP hw hK
    obtain ⟨hz, hTI, ⟨x0, y0, hTO⟩, h1, h2⟩ := st
    obtain ⟨xs, ys, x, y, hqx, hqy, hx, hy⟩ := hg
    obtain ⟨its, rv, p⟩ := sqk I hqx
    obtain ⟨its2, rv2, p2⟩ := sqk I hqy
    obtain ⟨u, hu, ru⟩ := rv.get hx
    obtain ⟨u2, hu2, ru2⟩ := rv2.get hy
    have hzl : z < s.heap.objs.size := Heap.lt_size hz
    have hh : X.A.in1.handled = none := I.ok.hd hc
    have D1 := draws (prog := X.prog) (w := X.w) (A := X.A.in1) t1 hh i1 a D.l1i1 its.toArray
    have D2 := draws (prog := X.prog) (w := X.w) (A := X.A.in1) t2 hh i2 b D.l2i2 its2.toArray
    refine wpAny_pyNext_zipD2_item (sep D) D1 D2 hz hTI hTO (i := i) ⟨h1, p⟩ ⟨h2, p2⟩ (by have := (List.getElem?_eq_some_iff.mp hu).1; simpa using this) (by have := (List.getElem?_eq_some_iff.mp hu2).1; simpa using this) fun x1 x2 h' tk e1 e2 z' TO' q1 q2 hT hsz hk => ?_
    have eu : x1 = u := by
      have : its.toArray[i]? = some x1 := e1
      rw [List.getElem?_toArray, hu] at this
      exact (Option.some.inj this).symm
    have eu2 : x2 = u2 := by
      have : its2.toArray[i]? = some x2 := e2
      rw [List.getElem?_toArray, hu2] at this
      exact (Option.some.inj this).symm
    subst eu eu2
    refine ⟨_, rfl, wpAny_letOwnedTupleGo_zip (s := { s with heap := h', toks := tk }) z' fun h'' z'' sb => ?_⟩
    have hT2 : h''.get? s.heap.objs.size = some { cls := .type "tuple", data := .seq #[x1, x2] } := (sb.2 _ (Nat.ne_of_gt hzl)).trans hT
    have new : ObjOk X.prog X.w (upd H s.heap.objs.size (.frz { cls := .type "tuple", data := .seq #[x1, x2] } (.tup [x, y]))) h'' s.heap.objs.size (.frz { cls := .type "tuple", data := .seq #[x1, x2] } (.tup [x, y])) :=
      ⟨hT2, by show 2 ≤ sizeLine; decide, [x1, x2], .cons ru (.cons ru2 .nil), ⟨_, hT2, rfl, _, rfl⟩⟩
    have I1 : Inv X pins σ (upd H s.heap.objs.size (.frz { cls := .type "tuple", data := .seq #[x1, x2] } (.tup [x, y]))) { s with heap := h'', toks := tk } :=
      I.turnedNew (t' := tk) (ch := [z, TI, TO, i1, i2]) (fun c o hb q => (sb.2 c (fun q' => hb (by simp [q']))).trans (hk c o (fun q' => hb (by simp [q'])) (fun q' => hb (by simp [q'])) (fun q' => hb (by simp [q'])) (fun q' => hb (by simp [q'])) q)) hf (Nat.le_refl _) new
    refine ⟨.ref s.heap.objs.size, _, I1, rfl, ⟨_, _, x, y, rfl, I.hok.fresh (Nat.le_refl _), rfl, rfl, fun l hl => by rw [sqk_inj I hl hqx]; exact hx, fun l hl => by rw [sqk_inj I hl hqy]; exact hy⟩, ⟨z'', ?_, ⟨x1, x2, ?_⟩, ?_, ?_⟩, fun c hcm => ?_⟩
    · exact (sb.2 _ D.TIz).trans (hk _ _ D.TIz D.TITO D.TIi1 D.TIi2 hTI)
    · exact (sb.2 _ D.TOz).trans TO'
    · exact st_at q1.1 fun o q => (sb.2 _ D.i1z).trans q
    · exact st_at q2.1 fun o q => (sb.2 _ D.i2z).trans q
    · have hlt : c < s.heap.objs.size := by
        have e' : c = z ∨ c = TI ∨ c = TO ∨ c = i1 ∨ c = i2 := by simpa using hcm
        rcases e' with q | q | q | q | q
        · rw [q]; exact hzl
        · rw [q]; exact Heap.lt_size hTI
        · rw [q]; exact Heap.lt_size hTO
        · rw [q]; obtain ⟨_, e1, _⟩ := st_obj h1; exact Heap.lt_size e1
        · rw [q]; obtain ⟨_, e2, _⟩ := st_obj h2; exact Heap.lt_size e2
      rw [upd_ne (Nat.ne_of_lt hlt)]
      exact (hf c hcm).1
  done := by
    intro X hP hw hK hc i pins s σ H E I hf st hg
    subst hP hw hK
    obtain ⟨hz, hTI, ⟨x0, y0, hTO⟩, h1, h2⟩ := st
    obtain ⟨xs, ys, hqx, hqy, le1, le2, hend⟩ := hg
    obtain ⟨its, rv, p⟩ := sqk I hqx
    obtain ⟨its2, rv2, p2⟩ := sqk I hqy
    have l1 := rv.length
    have l2 := rv2.length
    have hh : X.A.in1.handled = none := I.ok.hd hc
    have D1 := draws (prog := X.prog) (w := X.w) (A := X.A.in1) t1 hh i1 a D.l1i1 its.toArray
    have D2 := draws (prog := X.prog) (w := X.w) (A := X.A.in1) t2 hh i2 b D.l2i2 its2.toArray
    refine wpAny_pyNext_zipD2_end (sep D) D1 D2 hz hTI hTO (i := i) ⟨h1, p⟩ ⟨h2, p2⟩ (by simp; omega) (by simp; omega) (by simp; omega) fun h' tk hk => ⟨rfl, ?_⟩
    exact I.turnedL (t' := tk) (ch := [z, TI, TO, i1, i2]) (fun c o hb q =>
      hk c o (fun q' => hb (by simp [q'])) (fun q' => hb (by simp [q'])) (fun q' => hb (by simp [q'])) (fun q' => hb (by simp [q'])) q) hf
  self := fun A i s Q E st h => wpAny_pyIter_zip st.1 h
def iZipG (K : PySem.W.Frag) (ta : TA) : TI := fun σ H R => ta σ H fun vs H1 => ∃ t1 t2 a b xs ys, vs = [.ref a, .ref b] ∧ SqK t1 K H1 a xs ∧ SqK t2 K H1 b ys ∧ R (ItzG K t1 t2 a b) H1
theorem hk_lt {t : Bool} {h : Heap} {a : Addr} {its : Array Value} (p : HK t h a its) : a < h.objs.size := by
  cases t with
  | true =>
    obtain ⟨_, e, _⟩ := p
    exact Heap.lt_size e
  | false =>
    obtain ⟨_, e, _⟩ := p
    exact Heap.lt_size e
theorem pi_zipG {X : Cx} {e e2 : Expr} {ta : TA} {p pos tpos : Pos} {elts : List Expr} {kk : Nat} (hg : Gl X "zip") (hm : X.mg "zip" = none) (ha : PA X [e, e2] ta)
    (hs : starEach [e, e2] X.env = (false, eval e X.env) :: starEach [e2] X.env := by rfl) (hpl : (backTo pos (starEach [e2] X.env)).any (·.1) = false := by rfl) :
    PI X (.Tuple elts kk tpos) (.Call (.Name "zip" p) [e, e2] [] pos) (iZipG X.K ta) := by
  refine ⟨fun pins s σ H R I h => ?_⟩
  refine Call_ (ld_blt I hg hm PyProof.Rows.boot_zip (PyProof.Rows.callWith_type1 (thn (ha.run pos pins s σ H _ I h) fun us s1 ⟨vs, H1, I1, r1, q1⟩ => ?_) hs hpl))
  obtain ⟨t1, t2, a, b, xs, ys, ex, hqx, hqy, q⟩ := q1
  subst ex
  cases r1 with
  | cons r rr =>
    cases rr with
    | cons r' rr =>
      cases rr
      cases r
      cases r'
      have fresh5 : ∀ c, c ∈ [s1.heap.objs.size + 4, s1.heap.objs.size + 2, s1.heap.objs.size + 3, s1.heap.objs.size, s1.heap.objs.size + 1] → FpOk X pins H1 c := fun c hcm => by
        have e' : c = s1.heap.objs.size + 4 ∨ c = s1.heap.objs.size + 2 ∨ c = s1.heap.objs.size + 3 ∨ c = s1.heap.objs.size ∨ c = s1.heap.objs.size + 1 := by simpa using hcm
        have hle : s1.heap.objs.size ≤ c := by
          rcases e' with z | z | z | z | z
          · rw [z]; exact Nat.le_add_right _ _
          · rw [z]; exact Nat.le_add_right _ _
          · rw [z]; exact Nat.le_add_right _ _
          · rw [z]; exact Nat.le_refl _
          · rw [z]; exact Nat.le_add_right _ _
        exact I1.fpOk hle (I1.hok.fresh hle)
      obtain ⟨its, rv, p1⟩ := sqk I1 hqx
      obtain ⟨its2, rv2, p2⟩ := sqk I1 hqy
      refine zip_begins2 (begins t1 a its.toArray) (begins t2 b its2.toArray) p1 p2 fun h' hz hTI hTO h1 h2 hsz hk => wpAny_pyIter_zip hz ?_
      have I2 : Inv X pins σ H1 { s1 with heap := h' } := I1.kept (t' := s1.toks) hk
      exact ⟨s1.heap.objs.size + 4, [s1.heap.objs.size + 4, s1.heap.objs.size + 2, s1.heap.objs.size + 3, s1.heap.objs.size, s1.heap.objs.size + 1], _, _, H1, rfl, I2, turn_zipG (zipApart_new (hk_lt p1) (hk_lt p2)), ⟨hz, hTI, ⟨_, _, hTO⟩, st0 h1, st0 h2⟩, fresh5, q⟩
end ZG
namespace Pu
open PySem PySem.Spec PyProof.Rows L2 ZG
variable [TabL]
section
variable {X : Cx} {M : Nat → Bool} {F : Fx} {E : L2.St → XK} {σ : L2.St} {ρ : Rho} {H H1 H2 : Hp} {S : Addr → Prop} {K : PySem.W.Frag}
def pairD (z : PyData × PyData) : PyData := .tuple [z.1, z.2]
def zipR (ds : List PyData) : Re (List PyData) := match ds with
  | [d, e] => (itS d).andThen fun xs => (itS e).andThen fun ys => .ok ((xs.zip ys).map pairD)
  | _ => .bad
/-- one of the two sides -/
def Sd (t : Bool) (K : PySem.W.Frag) (H : Hp) (S : Addr → Prop) (a : Addr) (vs : List V) : Prop := match t with | true => TupD K H a vs | false => H a = some (.lst vs) ∧ S a
theorem sd_keep {t : Bool} {a : Addr} {vs : List V} (s : Sd t K H1 S a vs) (kp : Kp (fun a => S a ∧ Nn H1 a) H1 H2) : SqK t K H2 a vs := by
  cases t with
  | true => exact (tupD_keep s fun u q m n => kp a u q (.inr m) n).sq
  | false =>
    obtain ⟨e, hS⟩ := s
    exact SqL.of (kp a _ e (.inl ⟨hS, _, e, by first | assumption | exact fun _ z => nomatch z⟩))
theorem sd_sq {t : Bool} {a : Addr} {vs : List V} (s : Sd t K H1 S a vs) : SqK t K H1 a vs := by
  cases t with
  | true => exact s.sq
  | false => exact SqL.of s.1
theorem walk_z {t1 t2 : Bool} {a b : Addr} {vs us : List V} {xs ys : List PyData} (s1 : Sd t1 K H1 S a vs) (r1 : RpA K H1 S vs xs) (s2 : Sd t2 K H1 S b us) (r2 : RpA K H1 S us ys) : Walks K (fun a => S a ∧ Nn H1 a) (ItzG K t1 t2 a b) ((xs.zip ys).map pairD) H1 := fun H2 kp i => by
  have e1 := sd_keep s1 kp
  have e2 := sd_keep s2 kp
  have l1 := r1.length
  have l2 := r2.length
  refine ⟨fun d hd => ?_, fun hl => ⟨vs, us, e1, e2, ?_⟩⟩
  · rw [List.getElem?_map] at hd
    obtain ⟨⟨dx, dy⟩, hz, rfl⟩ := Option.map_eq_some_iff.mp hd
    obtain ⟨hx, hy⟩ := List.getElem?_zip_eq_some.mp hz
    obtain ⟨v, hv, rv⟩ := r1.thru.get' hx
    obtain ⟨u, hu, ru⟩ := r2.thru.get' hy
    refine ⟨⟨vs, us, v, u, e1, e2, hv, hu⟩, fun x H' y => ?_⟩
    obtain ⟨T, o, x', y', rfl, hT, hdn, rfl, q1, q2⟩ := y
    have g1 := q1 vs e1
    have g2 := q2 us e2
    rw [hv] at g1
    rw [hu] at g2
    cases g1
    cases g2
    have sn : Same H2 (upd H2 T (.frz o (.tup [v, u]))) := same_new hT
    exact ⟨sn, .tup (.inl ⟨o, upd_same, hdn⟩) (.cons ((rv.keep kp fun _ _ x _ _ => x).same sn) (.cons ((ru.keep kp fun _ _ x _ _ => x).same sn) .nil))⟩
  · rw [List.length_map, List.length_zip] at hl
    refine ⟨by omega, by omega, by omega⟩
theorem sd_of {a : V} {d : PyData} {xs : List PyData} (r : Rp K H S a d) (h : itS d = .ok xs) : ∃ t p vs, a = .ref p ∧ Sd t K H S p vs ∧ RpA K H S vs xs := by
  cases r with
  | tup h1 h2 =>
    cases h
    exact ⟨true, _, _, rfl, h1, h2⟩
  | lst h1 h2 h3 =>
    cases h
    exact ⟨false, _, _, rfl, ⟨h1, h2⟩, h3⟩
  | bl _ => cases h
  | non => cases h
  | int _ => cases h
  | str _ => cases h
  | scr _ _ => cases h
  | dic _ _ _ _ => cases h
  | dit _ _ _ _ => cases h
  | dif _ _ _ => cases h
  | rng _ => cases h
  | dct _ _ _ _ => cases h
def iZp (gs : Rho → Re (List PyData)) : Rho → Re (List PyData) := fun ρ => (gs ρ).andThen zipR
theorem di_zip {e e2 : Expr} {gs : Rho → Re (List PyData)} {p pos tpos : Pos} {elts : List Expr} {kk : Nat} (hg : Gl X "zip") (hm : X.mg "zip" = none) (h : DA X M F E false [e, e2] gs)
    (hs : starEach [e, e2] X.env = (false, eval e X.env) :: starEach [e2] X.env := by rfl) (hpl : (backTo pos (starEach [e2] X.env)).any (·.1) = false := by rfl) : DI X M F E (.Tuple elts kk tpos) (.Call (.Name "zip" p) [e, e2] [] pos) (iZp gs) := by
  obtain ⟨t, pa, h⟩ := h
  refine ⟨_, pi_zipG hg hm pa hs hpl, fun σ H ρ er R w => ?_⟩
  unfold iZp at w
  refine h σ H ρ er _ ?_
  cases q : gs ρ with
  | ex c =>
    rw [q] at w
    exact w
  | bad =>
    rw [q] at w
    exact w
  | ok ds =>
    rw [q] at w
    refine fun vs H1 sm r => ?_
    have w : WI X M F E σ ρ H (zipR ds) R := w
    match ds, r, w with
    | [d, e'], .cons r1 (.cons r2 .nil), w =>
      have w : WI X M F E σ ρ H ((itS d).andThen fun xs => (itS e').andThen fun ys => .ok ((xs.zip ys).map pairD)) R := w
      cases q1 : itS d with
      | ok xs =>
        rw [q1] at w
        have w : WI X M F E σ ρ H ((itS e').andThen fun ys => .ok ((xs.zip ys).map pairD)) R := w
        cases q2 : itS e' with
        | ok ys =>
          rw [q2] at w
          obtain ⟨t1, a, vs1, rfl, s1, ra1⟩ := sd_of r1 q1
          obtain ⟨t2, b, vs2, rfl, s2, ra2⟩ := sd_of r2 q2
          exact ⟨t1, t2, a, b, vs1, vs2, rfl, sd_sq s1, sd_sq s2, w _ H1 sm (walk_z s1 ra1 s2 ra2)⟩
        | ex c => cases d <;> cases e' <;> cases q2
        | bad =>
          rw [q2] at w
          exact w.elim
      | ex c => cases d <;> cases q1
      | bad =>
        rw [q1] at w
        exact w.elim
@[simp] theorem ap_iZp (gs : Rho → Re (List PyData)) : iZp gs ρ = (gs ρ).andThen zipR := (rfl)
end
end Pu

set_option Elab.async false
set_option linter.all false
set_option maxRecDepth 100000
set_option maxHeartbeats 2000000
/-! factorial, divmod, truth of a list, order of tuples, reversed(range(n)), max(x, default=d), xs[::-1] of a list -/
namespace Pu
open PySem PySem.Spec PyProof.Rows L2
variable [TabL]
/-! ### factorial -/
def facN : Nat → Nat
  | 0 => 1
  | n + 1 => (n + 1) * facN n
theorem fac_fold (n : Nat) : (List.range n).foldl (fun (p i : Nat) => p * (i + 1)) 1 = facN n := by
  induction n with
  | zero => rfl
  | succ n ih =>
    rw [List.range_succ, List.foldl_append, ih]
    show facN n * (n + 1) = (n + 1) * facN n
    exact Nat.mul_comm _ _
theorem facN_pos : ∀ n, 0 < facN n
  | 0 => Nat.one_pos
  | n + 1 => Nat.mul_pos (Nat.succ_pos n) (facN_pos n)
theorem facN_lt : ∀ n, n ≤ 100 → facN n < 2 ^ (7 * n + 1)
  | 0, _ => by decide
  | n + 1, h => by
    have ih := facN_lt n (by omega)
    have e : 7 * (n + 1) + 1 = 7 + (7 * n + 1) := by omega
    rw [e, Nat.pow_add]
    exact Nat.mul_lt_mul'' (show n + 1 < 2 ^ 7 by omega) ih
def rFac : List V → Hp → VK → Prop := fun vs H Q => ∃ n : Nat, vs = [.int (n : Int)] ∧ n ≤ 100 ∧ Q (.int (facN n : Nat)) H
theorem cr_fac {X : Cx} : CallR X (.builtin "math.factorial") rFac := by
  intro pins s σ H vs us Q I r h
  obtain ⟨n, rfl, hn, q⟩ := h
  obtain ⟨u, rfl, ⟨t, rfl⟩⟩ := vals1 r
  have e : Builtin.Math.factorialNat ((n : Int)).toNat = facN n := by
    show (List.range ((n : Int)).toNat).foldl (fun (p i : Nat) => p * (i + 1)) 1 = facN n
    rw [Int.toNat_natCast]
    exact fac_fold n
  refine PySem.W.mg_factorial_v (c := ((facN n : Nat) : Int)) ?_ ?_ ?_ (by rw [e]) ?_ ⟨.int _, H, I.tok _, ⟨_, rfl⟩, q⟩
  · have e2 : Builtin.Math.maxSsize = 9223372036854775807 := by decide
    rw [e2]
    omega
  · omega
  · have e2 : Builtin.Math.manyFactors = 20000 := by decide
    rw [e2]
    omega
  · have e2 : bitsLine = 134217728 := by decide
    rw [e2]
    have h1 : ((facN n : Nat) : Int).natAbs = facN n := rfl
    rw [h1]
    have h2 := facN_lt n hn
    have h3 := PySem.Flt.log2_lt_of (show 0 < 7 * n + 1 by omega) h2
    omega
def bFac : List PyData → Option PyData := fun ds => match ds with
  | [.int i] => if 0 ≤ i ∧ i ≤ 100 then some (.int (facN i.toNat : Nat)) else none
  | _ => none
theorem s_fac {K : PySem.W.Frag} : SemL K rFac false bFac := fun S H xs ds z Q new r q k => by
  unfold bFac at q
  split at q
  · rename_i i
    by_cases hi : 0 ≤ i ∧ i ≤ 100
    · rw [if_pos hi] at q
      cases q
      cases r with
      | cons r1 r2 =>
        cases r2
        cases r1
        exact ⟨i.toNat, by rw [Int.toNat_of_nonneg hi.1], by omega, k _ H (Same.refl H) (.int _) fun z => nomatch z⟩
    · rw [if_neg hi] at q
      cases q
  · cases q
@[simp] theorem bFac_n {n : Nat} (h : n ≤ 100) : bFac [.int (n : Int)] = some (.int (facN n : Nat)) := by
  show (if 0 ≤ (n : Int) ∧ (n : Int) ≤ 100 then some (PyData.int (facN ((n : Int)).toNat : Nat)) else none) = _
  rw [if_pos ⟨by omega, by omega⟩, Int.toNat_natCast]
/-! ### divmod -/
def rDmW : List V → Hp → VK → Prop := fun xs H Q => ∃ i j, xs = [.int i, .int j] ∧ CDivW i j ∧ NewT Q H [.int (i / j), .int (i % j)]
theorem cr_dm {X : Cx} : CallR X (.builtin "divmod") rDmW := by
  intro pins s σ H xs us Q I r h
  obtain ⟨i, j, rfl, ⟨h1, h2⟩, q⟩ := h
  obtain ⟨t, t', rfl⟩ := Vals.int2 r
  refine divmod_int (by omega) ?_ (.inl (PyProof.noPylong_of_log2 h2))
  rw [Int.fdiv_eq_ediv_of_nonneg i (by omega), Int.fmod_eq_emod_of_nonneg i (by omega)]
  have rv : Vals [V.int (i / j), V.int (i % j)] [Value.int (i / j) s.toks, Value.int (i % j) (s.toks + 1)] := .cons ⟨_, rfl⟩ (.cons ⟨_, rfl⟩ .nil)
  exact Inv.tupNew (h' := s.heap) (tk := s.toks + 1 + 1) (I.tok _) rv (by rw [sizeLine_eq]; show 2 ≤ 16777216; decide) q
def bDm : List PyData → Option PyData := fun ds => match ds with
  | [.int i, .int j] => if divOk j = true then some (.tuple [.int (i / j), .int (i % j)]) else none
  | _ => none
theorem s_dm {K : PySem.W.Frag} : SemL K rDmW false bDm := fun S H xs ds z Q new r q k => by
  unfold bDm at q
  split at q
  · rename_i i j
    by_cases hj : divOk j = true
    · rw [if_pos hj] at q
      cases q
      cases r with
      | cons r1 r2 =>
        cases r2 with
        | cons r2 r3 =>
          cases r3
          cases r1
          cases r2
          refine ⟨i, j, rfl, ?_, fun p o hp hd => k _ _ (same_new hp) (.tup (.inl ⟨o, upd_same, hd⟩) (.cons (.int _) (.cons (.int _) .nil))) fun z => nomatch z⟩
          unfold divOk at hj
          simp only [Bool.and_eq_true, decide_eq_true_eq] at hj
          exact wide_div (b := 240) hj.1 (by omega) (by decide) (by decide)
    · rw [if_neg hj] at q
      cases q
  · cases q
theorem bDm_p {i j : Int} (h : 0 < j) (h2 : j < 2 ^ 240) : bDm [.int i, .int j] = some (tI [i / j, i % j]) := by
  show (if divOk j = true then some (PyData.tuple [.int (i / j), .int (i % j)]) else none) = _
  rw [if_pos]
  · rfl
  · unfold divOk
    rw [decide_eq_true h, decide_eq_true h2]
    rfl
/-! ### the truth of a list or a tuple -/
def asL (f : Rho → Re PyData) : Rho → Re Bool := fun ρ => (f ρ).andThen fun d => match d with | .list ds => .ok (!ds.isEmpty) | .tuple ds => .ok (!ds.isEmpty) | _ => .bad
section
variable {X : Cx} {M : Nat → Bool} {F : Fx} {E : L2.St → XK} {la fa lb fb : Bool} {a b : Expr} {pos : Pos} {f g : Rho → Re PyData}
/-- a built-in function that a name of the module stands for -/
theorem de_callM {id : String} {fr : Bool} {r : List V → Hp → VK → Prop} {gg : List PyData → Option PyData} {x : Str} {es : List Expr} {gs : Rho → Re (List PyData)} {p : Pos} (hc : CallR X (.builtin id) r) (hS : SemL X.K r fr gg) (hm : X.mg x = some (.builtin id))
    (ha : DA X M F E la (a :: es) gs) (hg : Gl X x := by rfl) (hdb : (x == ("__debug__" : Str)) = false := by decide)
    (he : starEach (a :: es) X.env = (false, eval a X.env) :: starEach es X.env := by rfl) (hpl : (backTo pos (starEach es X.env)).any (·.1) = false := by rfl) :
    DE X M F E la fr (.Call (.Name x p) (a :: es) [] pos) (rB gg gs) := by
  obtain ⟨t, pa, ha⟩ := ha
  refine ⟨_, pe_callBfun hc hg hm pa hdb he hpl, fun σ H ρ er Q z => ?_⟩
  refine ha σ H ρ er _ (we_stepA z fun ds vs H1 e s r1 z1 => ?_)
  cases q : gg ds with
  | none =>
    rw [q] at z1
    exact z1.elim
  | some d =>
    rw [q] at z1
    exact hS (RS M F σ ρ la) H1 vs ds d Q (er.same s).freshS r1 q fun v' H' s' r' f' => z1 v' H' s' r' f'
/-- a number, whatever it was read from -/
def nOf : PyData → Re PyData
  | .int i => .ok (.int i)
  | _ => .bad
def rN (f : Rho → Re PyData) : Rho → Re PyData := fun ρ => (f ρ).andThen nOf
@[simp] theorem ap_rN {ρ : Rho} : rN f ρ = (f ρ).andThen nOf := (rfl)
@[simp] theorem nOf_i {i : Int} : nOf (.int i) = .ok (.int i) := (rfl)
theorem de_cast (ha : DE X M F E la fa a f) : DE X M F E false false a (rN f) := by
  obtain ⟨t, pa, ha⟩ := ha
  refine ⟨_, pa, fun σ H ρ er Q z => ?_⟩
  refine ha σ H ρ er _ (we_step z fun d v H1 e1 s1 r1 _ z1 => ?_)
  cases r1 with
  | int i => exact z1 _ H1 (Same.refl _) (.int i) fun z => nomatch z
  | lst _ _ _ => exact z1.elim
  | bl _ => exact z1.elim
  | non => exact z1.elim
  | str _ => exact z1.elim
  | tup _ _ => exact z1.elim
  | scr _ _ => exact z1.elim
  | dic _ _ _ _ => exact z1.elim
  | dit _ _ _ _ => exact z1.elim
  | dif _ _ _ => exact z1.elim
  | rng _ => exact z1.elim
  | dct _ _ _ _ => exact z1.elim
theorem rpA_empty {K : PySem.W.Frag} {H : Hp} {S : Addr → Prop} {vs : List V} {ds : List PyData} (r : RpA K H S vs ds) : (!vs.isEmpty) = !ds.isEmpty := by
  cases r with
  | nil => rfl
  | cons _ _ => rfl
theorem dt_lst (ha : DE X M F E la fa a f) (he : ∀ whole, isTrue a X.env whole = (do let v ← whole; standAt a.pos; holding [v] (truthy v)) := by intro _; rfl) : DT X M F E a (asL f) := by
  obtain ⟨ta, pa, ha⟩ := ha
  refine ⟨_, pt_truth pa he, fun σ H ρ er Q w => ?_⟩
  refine ha σ H ρ er _ (wt_step w fun d v H1 e s1 q1 _ w1 => ?_)
  cases q1 with
  | lst h1 _ rr =>
    refine ⟨_, .inl ⟨_, SqL.of h1, rfl⟩, ?_⟩
    rw [rpA_empty rr]
    exact w1 H1 (Same.refl _)
  | tup h1 rr =>
    refine ⟨_, .inr (.inl ⟨_, h1.sq, rfl⟩), ?_⟩
    rw [rpA_empty rr]
    exact w1 H1 (Same.refl _)
  | bl _ => exact w1.elim
  | non => exact w1.elim
  | int _ => exact w1.elim
  | str _ => exact w1.elim
  | scr _ _ => exact w1.elim
  | dic _ _ _ _ => exact w1.elim
  | dit _ _ _ _ => exact w1.elim
  | dif _ _ _ => exact w1.elim
  | rng _ => exact w1.elim
  | dct _ _ _ _ => exact w1.elim
/-! ### t < u of tuples of numbers -/
def oLtT : PyData → PyData → Option PyData := fun d e => match d, e with
  | .tuple xs, .tuple ys => (asInts xs).bind fun ns => (asInts ys).map fun ms => .bool (HT.lexLt ns ms)
  | _, _ => none
theorem s_ltT {K : PySem.W.Frag} : SemB K (rLtT K) false oLtT := fun S H x y d e z Q new rx ry q k => by
  unfold oLtT at q
  split at q
  · obtain ⟨ns, e1, q⟩ := Option.bind_eq_some_iff.mp q
    obtain ⟨ms, e2, rfl⟩ := Option.map_eq_some_iff.mp q
    rw [asInts_eq e1] at rx
    rw [asInts_eq e2] at ry
    cases rx with
    | tup h1 r1 =>
      cases ry with
      | tup h2 r2 =>
        rw [RpA.of_ints r1] at h1
        rw [RpA.of_ints r2] at h2
        exact ⟨_, _, ns, ms, rfl, rfl, h1.sq, h2.sq, k _ H (Same.refl H) (.bl _) fun z => nomatch z⟩
  · cases q
theorem op_ltT' {k : Nat} (r : Room k X.A) : OpR X (compareOp .Lt) (rLtT X.K) := op_ltT (by have := ru r; omega)
@[simp] theorem oLtT_t {ns ms : List Int} : oLtT (tI ns) (tI ms) = some (.bool (HT.lexLt ns ms)) := by
  show ((asInts (ns.map PyData.int)).bind fun ns => (asInts (ms.map PyData.int)).map fun ms => PyData.bool (HT.lexLt ns ms)) = _
  rw [asInts_map, asInts_map]
  rfl
/-! ### reversed(range(n)) -/
def dnI (n : Nat) : List Int := (List.range n).map fun (k : Nat) => (n : Int) - 1 - (k : Int)
def rgRev : List PyData → Re (List PyData) := fun ds => match ds with
  | [.int j] => if small62 j = true then .ok ((dnI j.toNat).map PyData.int) else .bad
  | _ => .bad
theorem walk_dn {S : Addr → Prop} {K : PySem.W.Frag} {H1 : Hp} (n : Nat) : Walks K S (Itc (0 + (n : Int) - 1) (-1) n) ((dnI n).map PyData.int) H1 := fun H2 kp i => by
  have hlen : ((dnI n).map PyData.int).length = n := by simp [dnI]
  refine ⟨fun d hd => ?_, fun hl => by rw [hlen] at hl; exact Nat.le_of_eq hl.symm⟩
  have hi : i < n := by
    have := getSome hd
    rwa [hlen] at this
  have hd' : d = .int ((n : Int) - 1 - (i : Int)) := by
    unfold dnI at hd
    rw [List.map_map, List.getElem?_map, List.getElem?_range hi] at hd
    exact (Option.some.inj hd).symm
  refine ⟨hi, fun x H' y => ?_⟩
  obtain ⟨rfl, rfl⟩ := y
  rw [hd', show (0 : Int) + (n : Int) - 1 + (i : Int) * (-1) = (n : Int) - 1 - (i : Int) by omega]
  exact ⟨Same.refl _, .int _⟩
theorem di_rev {tg : Expr} {p pp q : Pos} (hg : Gl X "reversed") (hm : X.mg "reversed" = none) (hg2 : Gl X "range") (hm2 : X.mg "range" = none) (ha : DE X M F E la fa a f)
    (na : starEach [a] X.env = (false, eval a X.env) :: starEach [] X.env := by rfl)
    (nc : starEach [Expr.Call (.Name "range" pp) [a] [] q] X.env = (false, eval (.Call (.Name "range" pp) [a] [] q) X.env) :: starEach [] X.env := by rfl) :
    DI X M F E tg (.Call (.Name "reversed" p) [.Call (.Name "range" pp) [a] [] q] [] pos) (fun ρ => (f ρ).andThen fun d => rgRev [d]) := by
  obtain ⟨t, pa, ha⟩ := ha
  refine ⟨_, pi_revR hg hm (prg_1 hg2 hm2 pa na) nc, fun σ H ρ er R w => ?_⟩
  refine ha σ H ρ er _ (wi_step w fun d v H1 e sm r w1 => ?_)
  unfold rgRev at w1
  cases r with
  | int j =>
    have w1 : WI X M F E σ ρ H1 (if small62 j = true then .ok ((dnI j.toNat).map PyData.int) else .bad) R := w1
    by_cases hj : small62 j = true
    · rw [if_pos hj] at w1
      unfold small62 at hj
      simp only [Bool.and_eq_true, decide_eq_true_eq] at hj
      refine ⟨j, rfl, by omega, by omega, by omega, by omega, w1 _ H1 (Same.refl _) ?_⟩
      rw [show (j - 0).toNat = j.toNat by omega]
      exact walk_dn j.toNat
    · rw [if_neg hj] at w1
      exact w1.elim
  | bl _ => exact w1.elim
  | non => exact w1.elim
  | str _ => exact w1.elim
  | tup _ _ => exact w1.elim
  | lst _ _ _ => exact w1.elim
  | scr _ _ => exact w1.elim
  | dic _ _ _ _ => exact w1.elim
  | dit _ _ _ _ => exact w1.elim
  | dif _ _ _ => exact w1.elim
  | rng _ => exact w1.elim
  | dct _ _ _ _ => exact w1.elim
def iRev (f : Rho → Re PyData) : Rho → Re (List PyData) := fun ρ => (f ρ).andThen fun d => rgRev [d]
@[simp] theorem ap_iRev {ρ : Rho} : iRev f ρ = (f ρ).andThen fun d => rgRev [d] := (rfl)
theorem rgRev_n {n : Nat} (h : n ≤ 1000000) : rgRev [.int (n : Int)] = .ok ((dnI n).map PyData.int) := by
  show (if small62 (n : Int) = true then Re.ok ((dnI ((n : Int)).toNat).map PyData.int) else .bad) = _
  rw [if_pos (small_ok (by omega) (by omega)), Int.toNat_natCast]
/-! ### max(x, default=d) of a list of numbers -/
def maxO (d : Int) : List Int → Int
  | [] => d
  | n :: ns => maxZ n ns
def rMaxKD (K : PySem.W.Frag) : List V → List V → Hp → VK → Prop := fun vs zs H Q => ∃ (a : Addr) (ns : List Int) (d : Int), vs = [.ref a] ∧ zs = [.int d] ∧ SqL K H a (ns.map V.int) ∧ Q (.int (maxO d ns)) H
theorem cr_maxD (hc : X.calm = true) {k : Nat} (hr : Room k X.A) : CallRK X (.builtin "max") [Str.ofString "default"] (rMaxKD X.K) := by
  intro pins s σ H vs zs us ws Q I r rz h
  obtain ⟨a, ns, d, rfl, rfl, hs, q⟩ := h
  obtain rfl := Vals.ref1 r
  obtain ⟨w1, rfl, ⟨td, rfl⟩⟩ := vals1 rz
  obtain ⟨its, rv, hl, hz⟩ := I.list hs
  obtain ⟨as, ra⟩ := Dp.readsAll I (ns.map PyData.int) _ its (dpAll_ints ns) rv
  have hu := hr.units
  have hde := depth_ints ns
  refine PySem.W.max_list_default (xs := ns.map PyData.int) (I.ok.hd hc) hl.isList ra (alike_ints ns) (by omega) (fun e h' tk kp => ?_) fun y ys i v h' tk bs e hv rd kp => ?_
  · have e2 : ns = [] := List.map_eq_nil_iff.mp e
    subst e2
    exact ⟨.int _, H, I.kept (t' := tk) kp, ⟨td, rfl⟩, q⟩
  · cases ns with
    | nil => cases e
    | cons n ns =>
      cases e
      rw [maxD_ints] at rd
      obtain ⟨t, rfl⟩ : ∃ t, v = .int (maxZ n ns) t := by
        cases rd
        exact ⟨_, rfl⟩
      exact ⟨.int _, H, I.kept (t' := tk) kp, ⟨t, rfl⟩, q⟩
def oMaxD : PyData → PyData → Option PyData := fun x d => match x, d with
  | .list xs, .int d => (asInts xs).map fun ns => .int (maxO d ns)
  | _, _ => none
theorem s_maxD {K : PySem.W.Frag} : SemB K (fun x y H Q => rMaxKD K [x] [y] H Q) false oMaxD := fun S H x y d e z Q new rx ry q k => by
  unfold oMaxD at q
  split at q
  · obtain ⟨ns, e, rfl⟩ := Option.map_eq_some_iff.mp q
    cases ry
    rw [asInts_eq e] at rx
    cases rx with
    | lst h1 s1 r1 =>
      rw [RpA.of_ints r1] at h1
      exact ⟨_, ns, _, rfl, rfl, SqL.of h1, k _ H (Same.refl H) (.int _) fun z => nomatch z⟩
  · cases q
theorem de_maxD {p kpos : Pos} {k : Nat} (hc : X.calm = true) (hr : Room k X.A) (hm : X.mg "max" = none) (ha : DE X M F E la fa a f) (hb : DE X M F E lb fb b g) (hg : Gl X "max" := by rfl)
    (hs : starEach [a] X.env = (false, eval a X.env) :: starEach [] X.env := by rfl)
    (he : backTo pos (starEach [a] X.env) = (false, eval a X.env) :: backTo pos (starEach [] X.env) := by rfl) (hpl : (backTo pos (starEach [a] X.env)).any (·.1) = false := by rfl)
    (hall : (backToKw pos (keywordEach [⟨some "default", b, kpos⟩] X.env)).all (·.1.isSome) = true := by rfl) (hnone : (backToKw pos (keywordEach [⟨some "default", b, kpos⟩] X.env)).any (·.1.isNone) = false := by rfl)
    (hks : (backToKw pos (keywordEach [⟨some "default", b, kpos⟩] X.env)).filterMap (·.1) = [Str.ofString "default"] := by rfl) :
    DE X M F E (la || lb) false (.Call (.Name "max" p) [a] [⟨some "default", b, kpos⟩] pos) (r2 oMaxD f g) := by
  obtain ⟨ta, pa, ha⟩ := ha
  obtain ⟨tb, pb, hb⟩ := hb
  exact ⟨_, pe_callBK (cr_maxD hc hr) hg hm (by decide +kernel) (pa_cons pa pa_nil hs) (pk_cons pb pk_nil) (by decide) (by decide) he hpl hall hnone hks, fun σ H ρ er Q w => two_run ha hb s_maxD er w⟩
@[simp] theorem oMaxD_l {ns : List Int} {d : Int} : oMaxD (lI ns) (.int d) = some (.int (maxO d ns)) := by
  show (asInts (ns.map PyData.int)).map _ = _
  rw [asInts_map]
  rfl
/-! ### xs[::-1] of a list -/
def oRevL : PyData → Option PyData := fun d => match d with | .list ds => some (.list ds.reverse) | _ => none
theorem de_revL {k : Nat} {p1 p2 p3 : Pos} (ha : DE X M F E la fa a f) : DE X M F E la false (.Subscript a (.Slice none none (some (.UnaryOp .USub (.Constant (.int 1) k p1) p2)) p3) pos) (r1 oRevL f) := by
  obtain ⟨ta, pa, ha⟩ := ha
  refine ⟨_, pe_revL pa, fun σ H ρ er Q z => ?_⟩
  refine ha σ H ρ er _ (we_step z fun d v H1 e1 s1 r1 _ z1 => ?_)
  cases r1 with
  | lst h1 ss rr => exact ⟨_, _, rfl, SqL.of h1, fun p hp => z1 _ _ (same_new hp) (.lst upd_same ((er.same s1).freshS p hp) ((rpA_rev rr).same (same_new hp))) fun z => nomatch z⟩
  | int _ => exact z1.elim
  | bl _ => exact z1.elim
  | non => exact z1.elim
  | str _ => exact z1.elim
  | tup _ _ => exact z1.elim
  | scr _ _ => exact z1.elim
  | dic _ _ _ _ => exact z1.elim
  | dit _ _ _ _ => exact z1.elim
  | dif _ _ _ => exact z1.elim
  | rng _ => exact z1.elim
  | dct _ _ _ _ => exact z1.elim
@[simp] theorem oRevL_l {ns : List Int} : oRevL (lI ns) = some (lI ns.reverse) := by
  show some (PyData.list (ns.map PyData.int).reverse) = _
  rw [← List.map_reverse]
  rfl
/-! ### x = y, y a list of the frame's own: it is x's from then on -/
def sMove (i j : Nat) : Rho → Sr := fun ρ => (vOf ρ[j]?).st ρ fun d => if i < ρ.length then .nx ((ρ.set j none).set i (some d)) else .bad
theorem own_forget {σ : L2.St} {ρ : Rho} {j : Nat} {a : Addr} (o : OwnA M σ (ρ.set j none) a) : OwnA M σ ρ a := by
  obtain ⟨k, d, m, r, s⟩ := o
  have hk : j ≠ k := fun z => by
    subst z
    have h := getSome r
    rw [List.length_set] at h
    rw [List.getElem?_set_self h] at r
    cases r
  rw [List.getElem?_set_ne hk] at r
  exact ⟨k, d, m, r, s⟩
theorem get_forget {ρ : Rho} {j k : Nat} {d : PyData} (r : (ρ.set j none)[k]? = some (some d)) : j ≠ k ∧ ρ[k]? = some (some d) := by
  have hk : j ≠ k := fun z => by
    subst z
    have h := getSome r
    rw [List.length_set] at h
    rw [List.getElem?_set_self h] at r
    cases r
  rw [List.getElem?_set_ne hk] at r
  exact ⟨hk, r⟩
theorem ER.forget {K : PySem.W.Frag} {σ : L2.St} {H : Hp} {ρ : Rho} (e : ER K M F σ H ρ) (j : Nat) : ER K M F σ H (ρ.set j none) := by
  have rs : ∀ a, RS M F σ ρ false a → RS M F σ (ρ.set j none) false a := fun a x => ⟨x.1, fun q o => x.2 q (own_forget o)⟩
  exact ⟨by rw [List.length_set]; exact e.len, e.old, e.new, e.tab, fun k d q mk => by
      obtain ⟨v, s, r⟩ := e.im k d (get_forget q).2 mk
      exact ⟨v, s, r.wide rs⟩, fun k d q mk => by
      obtain ⟨p, s, z, w⟩ := e.ow k d (get_forget q).2 mk
      exact ⟨p, s, z, w.keep (kp_same (Same.refl _)) (fun a _ x _ _ => rs a x) fun _ q _ => q⟩,
    fun i k d d' p mi mk q1 q2 s1 s2 => e.ap i k d d' p mi mk (get_forget q1).2 (get_forget q2).2 s1 s2⟩
theorem ds_move {i j : Nat} {x y : Str} {p1 p2 : Pos} (mi : M i = false) (mj : M j = true) (hN : X.N.Nodup) (hi : X.N[i]? = some x := by rfl) (hj : X.N[j]? = some y := by rfl) (hx : Loc X.env.scope x := by first | exact Or.inl rfl | exact Or.inr rfl)
    (hv : Vis X.env.scope y := by first | exact Or.inl rfl | exact Or.inr (Or.inl rfl) | exact Or.inr (Or.inr rfl)) (hd : (y == ("__debug__" : Str)) = false := by decide) (hcd : (y == ("__classdict__" : Str)) = false := by decide)
    (hs : swapsWith (.Name y p2) (some (.Name x p1)) pos.line X.env = pure false := by rfl) (hw : swappedStores [.Name x p1] (.Name y p2) X.env = pure none := by rfl) (hf : X.fn x = true ∨ X.env.scope.names.lookup x = some .local := by first | exact .inl rfl | exact .inr rfl) :
    DS X M F E (.Assign [.Name x p1] (.Name y p2) pos) (sMove i j) := by
  refine ⟨_, ps_asg (pe_var hj hv hd hcd) (pg_name hN hi hx hf) hs hw, fun σ H ρ er D w => ?_⟩
  unfold sMove at w
  cases q : ρ[j]? with
  | none =>
    rw [q] at w
    exact w.elim
  | some o =>
    cases o with
    | none =>
      rw [q] at w
      exact w.elim
    | some d =>
      rw [q] at w
      have w : WS X M F E σ H ρ (if i < ρ.length then .nx ((ρ.set j none).set i (some d)) else .bad) D := w
      by_cases hl : i < ρ.length
      · rw [if_pos hl] at w
        obtain ⟨p, s, z, ow⟩ := er.ow j d q mj
        have notown : ¬ OwnA M σ (ρ.set j none) p := fun o => by
          obtain ⟨k, d', mk, r, s'⟩ := o
          obtain ⟨hk, r'⟩ := get_forget r
          exact hk (er.ap j k d d' p mj mk q r' s s')
        have er' := er.forget j
        have rs : ∀ a, RS M F σ ρ false a → RS M F σ (ρ.set j none) false a := fun a x => ⟨x.1, fun q o => x.2 q (own_forget o)⟩
        have rp : Rp X.K H (RS M F σ (ρ.set j none) false) (.ref p) d := (ow.keep (kp_same (Same.refl _)) (fun a _ x _ _ => rs a x) fun _ q _ => q).rp ⟨z.2, fun _ => notown⟩
        refine ⟨.ref p, s, ?_⟩
        exact w _ H (er'.set mi rp) fun a u q n _ => ⟨q, fun o => n (own_forget ((own_set mi).mp o))⟩
      · rw [if_neg hl] at w
        exact w.elim
@[simp] theorem ap_sMove {ρ : Rho} {i j : Nat} : sMove i j ρ = (vOf ρ[j]?).st ρ fun d => if i < ρ.length then .nx ((ρ.set j none).set i (some d)) else .bad := (rfl)
def liOf : PyData → Re Bool
  | .list ds => .ok (!ds.isEmpty)
  | .tuple ds => .ok (!ds.isEmpty)
  | _ => .bad
@[simp] theorem ap_asL {ρ : Rho} : asL f ρ = (f ρ).andThen liOf := by
  unfold asL
  congr 1
@[simp] theorem liOf_l {ns : List Int} : liOf (lI ns) = .ok (!ns.isEmpty) := by
  cases ns <;> rfl
end
end Pu

set_option Elab.async false
set_option linter.all false
set_option maxRecDepth 100000
set_option maxHeartbeats 2000000
/-! the number of a row (k16); rising places, takes (k07) -/
namespace Pu
open PySem PySem.Spec PyProof.Rows L2
variable [TabL]
/-! ### k16: the number of a row -/
def cntZ (x : Int) (l : List Int) : Nat := (l.filter fun y => decide (y < x)).length
def numZ : List Int → Nat
  | [] => 0
  | x :: xs => cntZ x xs * facN xs.length + numZ xs
theorem cntZ_le (x : Int) (l : List Int) : cntZ x l ≤ l.length := List.length_filter_le _ _
theorem numZ_lt : ∀ l : List Int, numZ l < facN l.length
  | [] => by decide
  | x :: xs => by
    have h1 := cntZ_le x xs
    have h2 := numZ_lt xs
    show cntZ x xs * facN xs.length + numZ xs < (xs.length + 1) * facN xs.length
    have h3 : (cntZ x xs + 1) * facN xs.length ≤ (xs.length + 1) * facN xs.length := Nat.mul_le_mul_right _ (by omega)
    rw [Nat.add_mul, Nat.one_mul] at h3
    omega
theorem cntZ_perm (x : Int) {l m : List Int} (h : l.Perm m) : cntZ x l = cntZ x m := (h.filter _).length_eq
theorem cntZ_self (x : Int) (l : List Int) : cntZ x (x :: l) = cntZ x l := by
  unfold cntZ
  rw [List.filter_cons_of_neg (by simp)]
theorem cntZ_lt {x y : Int} (h : x < y) : ∀ {l : List Int}, x ∈ l → cntZ x l < cntZ y l
  | z :: l, m => by
    have mono : ∀ l : List Int, cntZ x l ≤ cntZ y l := fun l => by
      induction l with
      | nil => exact Nat.le_refl _
      | cons z l ih =>
        unfold cntZ at ih ⊢
        rw [List.filter_cons, List.filter_cons]
        by_cases h1 : z < x
        · rw [if_pos (by simpa using h1), if_pos (by simp; omega), List.length_cons, List.length_cons]
          omega
        · rw [if_neg (by simpa using h1)]
          by_cases h2 : z < y
          · rw [if_pos (by simpa using h2), List.length_cons]
            omega
          · rw [if_neg (by simpa using h2)]
            exact ih
    by_cases hz : z = x
    · subst hz
      have := mono l
      rw [cntZ_self]
      unfold cntZ at this ⊢
      rw [List.filter_cons (x := z) (p := fun w => decide (w < y)), if_pos (by simpa using h), List.length_cons]
      omega
    · have ih := cntZ_lt h (l := l) ((List.mem_cons.mp m).resolve_left fun q => hz q.symm)
      unfold cntZ at ih ⊢
      rw [List.filter_cons, List.filter_cons]
      by_cases h1 : z < x
      · rw [if_pos (by simpa using h1), if_pos (by simp; omega), List.length_cons, List.length_cons]
        omega
      · rw [if_neg (by simpa using h1)]
        by_cases h2 : z < y
        · rw [if_pos (by simpa using h2), List.length_cons]
          omega
        · rw [if_neg (by simpa using h2)]
          exact ih
theorem lex_num : ∀ {l m : List Int}, l.Perm m → HT.lexLt l m = true → numZ l < numZ m
  | [], [], _, h => by cases h
  | [], _ :: _, p, _ => by
    have := p.length_eq
    simp at this
  | _ :: _, [], p, _ => by
    have := p.length_eq
    simp at this
  | x :: xs, y :: ys, p, h => by
    have hl : xs.length = ys.length := by simpa using p.length_eq
    unfold HT.lexLt at h
    show cntZ x xs * facN xs.length + numZ xs < cntZ y ys * facN ys.length + numZ ys
    by_cases e : x = y
    · subst e
      rw [if_pos rfl] at h
      have p2 : xs.Perm ys := List.Perm.cons_inv p
      rw [cntZ_perm x p2, hl]
      have := lex_num p2 h
      omega
    · rw [if_neg e] at h
      have hxy : x < y := by simpa using h
      have h1 : cntZ x xs = cntZ x (y :: ys) := by rw [← cntZ_self x xs, cntZ_perm x p]
      have h2 : cntZ y ys = cntZ y (y :: ys) := (cntZ_self y ys).symm
      have h3 : cntZ x (y :: ys) < cntZ y (y :: ys) := cntZ_lt hxy (p.subset List.mem_cons_self)
      have h4 := numZ_lt xs
      have h5 : (cntZ x xs + 1) * facN ys.length ≤ cntZ y ys * facN ys.length := Nat.mul_le_mul_right _ (by omega)
      rw [Nat.add_mul, Nat.one_mul] at h5
      rw [hl] at h4 ⊢
      omega
theorem lex_total : ∀ {l m : List Int}, l.length = m.length → l ≠ m → HT.lexLt l m = false → HT.lexLt m l = true
  | [], [], _, h, _ => absurd rfl h
  | [], _ :: _, h, _, _ => by simp at h
  | _ :: _, [], h, _, _ => by simp at h
  | x :: xs, y :: ys, h, n, f => by
    unfold HT.lexLt at f ⊢
    by_cases e : x = y
    · subst e
      rw [if_pos rfl] at f ⊢
      exact lex_total (by simpa using h) (fun z => n (by rw [z])) f
    · rw [if_neg e] at f
      rw [if_neg (fun z => e z.symm)]
      have : ¬ x < y := by simpa using f
      simp
      omega
theorem lex_irr : ∀ l : List Int, HT.lexLt l l = false
  | [] => rfl
  | x :: xs => by
    unfold HT.lexLt
    rw [if_pos rfl]
    exact lex_irr xs
theorem num_iff {l m : List Int} (p : l.Perm m) : (numZ l < numZ m ↔ HT.lexLt l m = true) ∧ (numZ l = numZ m ↔ l = m) := by
  by_cases e : l = m
  · subst e
    refine ⟨⟨fun h => absurd h (Nat.lt_irrefl _), fun h => ?_⟩, ⟨fun _ => rfl, fun _ => rfl⟩⟩
    rw [lex_irr] at h
    cases h
  · cases h : HT.lexLt l m with
    | true =>
      have := lex_num p h
      exact ⟨⟨fun _ => rfl, fun _ => this⟩, ⟨fun q => by omega, fun q => absurd q e⟩⟩
    | false =>
      have := lex_num p.symm (lex_total p.length_eq e h)
      exact ⟨⟨fun q => by omega, fun q => by cases q⟩, ⟨fun q => by omega, fun q => absurd q e⟩⟩
/-! ### the row with a number -/
def urZ : Nat → List Int → Nat → List Int
  | 0, _, _ => []
  | n + 1, l, k => (l[k / facN n]?).getD 0 :: urZ n (l.eraseIdx (k / facN n)) (k % facN n)
theorem ur_dig {n k : Nat} (h : k < facN (n + 1)) : k / facN n < n + 1 := by
  rw [Nat.div_lt_iff_lt_mul (facN_pos n)]
  exact h
theorem ur_perm : ∀ (n : Nat) (l : List Int) (k : Nat), l.length = n → k < facN n → (urZ n l k).Perm l
  | 0, l, k, hl, _ => by
    rw [List.length_eq_zero_iff.mp hl]
    exact .refl _
  | n + 1, l, k, hl, hk => by
    have hd := ur_dig hk
    have hd2 : k / facN n < l.length := by omega
    unfold urZ
    rw [List.getElem?_eq_getElem hd2, Option.getD_some]
    refine List.Perm.trans ((ur_perm n _ _ ?_ (Nat.mod_lt _ (facN_pos n))).cons _) (erase_perm l _ hd2)
    rw [List.length_eraseIdx, if_pos hd2]
    omega
theorem cnt_at : ∀ {l : List Int} {i : Nat} (h : i < l.length), l.Pairwise (· < ·) → cntZ l[i] (l.eraseIdx i) = i
  | x :: l, 0, _, hp => by
    obtain ⟨h1, _⟩ := List.pairwise_cons.mp hp
    show ((l.filter fun y => decide (y < x)).length) = 0
    rw [List.filter_eq_nil_iff.mpr]
    · rfl
    · intro y hy
      have := h1 y hy
      simp
      omega
  | x :: l, i + 1, h, hp => by
    obtain ⟨h1, h2⟩ := List.pairwise_cons.mp hp
    have h' : i < l.length := by simpa using h
    have ih := cnt_at h' h2
    rw [List.eraseIdx_cons_succ, List.getElem_cons_succ]
    unfold cntZ at ih ⊢
    rw [List.filter_cons_of_pos (by simpa using h1 _ (List.getElem_mem h')), List.length_cons, ih]
theorem ur_num : ∀ (n : Nat) (l : List Int) (k : Nat), l.length = n → l.Pairwise (· < ·) → k < facN n → numZ (urZ n l k) = k
  | 0, l, k, _, _, hk => by
    have : k < 1 := hk
    show 0 = k
    omega
  | n + 1, l, k, hl, hp, hk => by
    have hd := ur_dig hk
    have hd2 : k / facN n < l.length := by omega
    have hl2 : (l.eraseIdx (k / facN n)).length = n := by
      rw [List.length_eraseIdx, if_pos hd2]
      omega
    have hm := Nat.mod_lt k (facN_pos n)
    have pp := ur_perm n _ _ hl2 hm
    unfold urZ
    rw [List.getElem?_eq_getElem hd2, Option.getD_some]
    show cntZ _ _ * facN _ + numZ _ = k
    rw [cntZ_perm _ pp, cnt_at hd2 hp, pp.length_eq, hl2, ur_num n _ _ hl2 (hp.sublist (List.eraseIdx_sublist _ _)) hm]
    rw [Nat.mul_comm]
    exact Nat.div_add_mod k (facN n)
/-! ### the greatest of numbers -/
theorem maxO_ge {ns : List Int} {m : Int} (h : m ∈ ns) : m ≤ maxO 0 ns := by
  cases ns with
  | nil => exact nomatch h
  | cons n ns => exact (maxZ_mem ns n).2 m h
theorem maxO_mem {ns : List Int} : maxO 0 ns = 0 ∨ maxO 0 ns ∈ ns := by
  cases ns with
  | nil => exact .inl rfl
  | cons n ns => exact .inr (maxZ_mem ns n).1
/-! ### heights -/
def rv (r : List Int) (i : Nat) : Int := (r[i]?).getD 0
/-- the values of found at the lower places -/
def lowZ (r : List Int) (k : Nat) (found : List Int) : List Int := ((List.range k).filter fun p => decide (rv r p < rv r k)).map fun p => rv found p
def hsZ (r : List Int) : Nat → List Int
  | 0 => []
  | k + 1 => hsZ r k ++ [1 + maxO 0 (lowZ r k (hsZ r k))]
theorem hsZ_len (r : List Int) : ∀ k, (hsZ r k).length = k
  | 0 => rfl
  | k + 1 => by
    show (hsZ r k ++ [_]).length = k + 1
    rw [List.length_append, hsZ_len r k]
    rfl
def hv (r : List Int) (j : Nat) : Int := 1 + maxO 0 (lowZ r j (hsZ r j))
theorem hsZ_at (r : List Int) : ∀ {k j : Nat}, j < k → rv (hsZ r k) j = hv r j
  | k + 1, j, h => by
    show ((hsZ r k ++ [hv r k])[j]?).getD 0 = hv r j
    by_cases c : j < k
    · rw [List.getElem?_append_left (by rw [hsZ_len]; exact c)]
      exact hsZ_at r c
    · have e : j = k := by omega
      subst e
      rw [List.getElem?_append_right (by rw [hsZ_len]; exact Nat.le_refl _), hsZ_len, Nat.sub_self]
      rfl
theorem hsZ_eq (r : List Int) : ∀ k, hsZ r k = (List.range k).map (hv r)
  | 0 => rfl
  | k + 1 => by
    rw [List.range_succ, List.map_append, ← hsZ_eq r k]
    rfl
theorem lowZ_eq (r : List Int) (k : Nat) : lowZ r k (hsZ r k) = ((List.range k).filter fun p => decide (rv r p < rv r k)).map (hv r) := by
  unfold lowZ
  refine List.map_congr_left fun p hp => ?_
  exact hsZ_at r (List.mem_range.mp (List.mem_filter.mp hp).1)
theorem hv_lt {r : List Int} {p q : Nat} (h : p < q) (h2 : rv r p < rv r q) : hv r p < hv r q := by
  have m : hv r p ∈ lowZ r q (hsZ r q) := by
    rw [lowZ_eq]
    exact List.mem_map.mpr ⟨p, List.mem_filter.mpr ⟨List.mem_range.mpr h, by simpa using h2⟩, rfl⟩
  have := maxO_ge m
  show hv r p < 1 + maxO 0 (lowZ r q (hsZ r q))
  omega
theorem hv_from {r : List Int} (q : Nat) : hv r q = 1 ∨ ∃ p, p < q ∧ rv r p < rv r q ∧ hv r q = hv r p + 1 := by
  rcases maxO_mem (ns := lowZ r q (hsZ r q)) with h | h
  · refine .inl ?_
    show 1 + maxO 0 (lowZ r q (hsZ r q)) = 1
    omega
  · have e : hv r q = 1 + maxO 0 (lowZ r q (hsZ r q)) := rfl
    generalize hx : maxO 0 (lowZ r q (hsZ r q)) = x at *
    rw [lowZ_eq] at h
    obtain ⟨p, hp, ep⟩ := List.mem_map.mp h
    obtain ⟨h1, h2⟩ := List.mem_filter.mp hp
    refine .inr ⟨p, List.mem_range.mp h1, by simpa using h2, by omega⟩
theorem hv_pos {r : List Int} : ∀ q : Nat, 1 ≤ hv r q := fun q => by
  induction q using Nat.strongRecOn with
  | _ q ih =>
    rcases hv_from (r := r) q with h | ⟨p, h1, _, h3⟩
    · omega
    · have := ih p h1
      omega
/-- the greatest height -/
def topZ (r : List Int) : Int := maxO 0 (hsZ r r.length)
theorem top_ge {r : List Int} {q : Nat} (h : q < r.length) : hv r q ≤ topZ r := by
  refine maxO_ge ?_
  rw [hsZ_eq]
  exact List.mem_map.mpr ⟨q, List.mem_range.mpr h, rfl⟩
theorem top_at (r : List Int) : topZ r = 0 ∨ ∃ q, q < r.length ∧ hv r q = topZ r := by
  rcases maxO_mem (ns := hsZ r r.length) with h | h
  · exact .inl h
  · refine .inr ?_
    rw [hsZ_eq] at h
    obtain ⟨q, h1, h2⟩ := List.mem_map.mp h
    refine ⟨q, List.mem_range.mp h1, ?_⟩
    rw [h2]
    unfold topZ
    rw [hsZ_eq]
theorem top_pos (r : List Int) : 0 ≤ topZ r := by
  rcases top_at r with h | ⟨q, _, h⟩
  · omega
  · have := hv_pos (r := r) q
    omega
/-- no row of places rises higher -/
theorem chain_up {r : List Int} : ∀ (c : List Nat) (b : Int), c ≠ [] → c.Pairwise (fun p q => p < q ∧ rv r p < rv r q) → (∀ x ∈ c, b + 1 ≤ hv r x) → ∃ x ∈ c, b + c.length ≤ hv r x
  | [], _, h, _, _ => absurd rfl h
  | [p], b, _, _, h => ⟨p, List.mem_cons_self, by simpa using h p List.mem_cons_self⟩
  | p :: p2 :: c, b, _, hp, h => by
    obtain ⟨h1, h2⟩ := List.pairwise_cons.mp hp
    have hb := h p List.mem_cons_self
    obtain ⟨x, hx, e⟩ := chain_up (p2 :: c) (b + 1) (by simp) h2 fun x hx => by
      obtain ⟨h3, h4⟩ := h1 x hx
      have := hv_lt h3 h4
      omega
    refine ⟨x, List.mem_cons_of_mem _ hx, ?_⟩
    rw [List.length_cons]
    omega
theorem chain_le {r : List Int} {c : List Nat} (hp : c.Pairwise (fun p q => p < q ∧ rv r p < rv r q)) (hr : ∀ x ∈ c, x < r.length) : (c.length : Int) ≤ topZ r := by
  by_cases e : c = []
  · subst e
    exact top_pos r
  · obtain ⟨x, hx, h⟩ := chain_up c 0 e hp fun x _ => by
      have := hv_pos (r := r) x
      omega
    have := top_ge (hr x hx)
    omega
/-- .. and no sublist that ascends is longer -/
theorem sub_le {r t : List Int} (hs : t.Sublist r) (ha : t.Pairwise (· < ·)) : (t.length : Int) ≤ topZ r := by
  obtain ⟨is, e, hi⟩ := List.sublist_eq_map_getElem hs
  have hc : (is.map fun i => i.val).Pairwise (fun p q => p < q ∧ rv r p < rv r q) := by
    rw [List.pairwise_map]
    rw [e, List.pairwise_map] at ha
    refine (List.Pairwise.and hi ha).imp fun {a b} h => ?_
    obtain ⟨h1, h2⟩ := h
    refine ⟨h1, ?_⟩
    unfold rv
    rw [List.getElem?_eq_getElem a.isLt, List.getElem?_eq_getElem b.isLt]
    exact h2
  have := chain_le hc fun x hx => by
    obtain ⟨i, _, rfl⟩ := List.mem_map.mp hx
    exact i.isLt
  rw [List.length_map] at this
  rw [e, List.length_map]
  exact this
/-- places that rise make a sublist -/
theorem sub_of {r : List Int} {c : List Nat} (hp : c.Pairwise (· < ·)) (hr : ∀ x ∈ c, x < r.length) : (c.map (rv r)).Sublist r := by
  have e : c.map (rv r) = (c.attach.map fun x => (⟨x.1, hr x.1 x.2⟩ : Fin r.length)).map (r[·]) := by
    rw [List.map_map]
    have : c.map (rv r) = c.attach.map fun x => rv r x.1 := by rw [← List.attach_map_subtype_val c, List.map_map]; simp
    rw [this]
    refine List.map_congr_left fun x _ => ?_
    unfold rv
    rw [List.getElem?_eq_getElem (hr x.1 x.2)]
    rfl
  rw [e]
  refine List.map_getElem_sublist ?_
  rw [List.pairwise_map]
  have h2 : (c.attach.map (·.1)).Pairwise (· < ·) := by
    rw [List.attach_map_subtype_val]
    exact hp
  rw [List.pairwise_map] at h2
  exact h2.imp fun h => h
/-! ### the scan from the right -/
/-- what rising's scan holds when the places from k on have been looked at -/
def ScanI (r : List Int) (k : Nat) (w a : Int) (ps : List Nat) : Prop :=
  0 ≤ w ∧ (ps.length : Int) + w = topZ r ∧ (∀ p ∈ ps, k ≤ p ∧ p < r.length) ∧ (ps.reverse.Pairwise fun p q => p < q ∧ rv r p < rv r q) ∧ (∀ p ∈ ps, a ≤ rv r p) ∧ (0 < w → ∃ p, p < k ∧ hv r p = w ∧ rv r p < a)
theorem scan0 {r : List Int} {a : Int} (h : ∀ q, q < r.length → rv r q < a) : ScanI r r.length (topZ r) a [] := by
  refine ⟨top_pos r, by simp, (fun p hp => nomatch hp), .nil, (fun p hp => nomatch hp), fun hw => ?_⟩
  rcases top_at r with e | ⟨q, h1, h2⟩
  · omega
  · exact ⟨q, h1, h2, h q h1⟩
theorem scan_yes {r : List Int} {k : Nat} {w a : Int} {ps : List Nat} (h : ScanI r (k + 1) w a ps) (hk : k < r.length) (h1 : hv r k = w) (h2 : rv r k < a) : ScanI r k (w - 1) (rv r k) (ps ++ [k]) := by
  obtain ⟨i1, i2, i3, i4, i5, i6⟩ := h
  have hp := hv_pos (r := r) k
  refine ⟨by omega, by rw [List.length_append]; simp; omega, fun p hp => ?_, ?_, fun p hp => ?_, fun hw => ?_⟩
  · rcases List.mem_append.mp hp with h | h
    · have := i3 p h
      omega
    · have : p = k := by simpa using h
      omega
  · rw [List.reverse_append, List.reverse_singleton, List.singleton_append, List.pairwise_cons]
    refine ⟨fun q hq => ?_, i4⟩
    have hq := List.mem_reverse.mp hq
    have := i3 q hq
    have := i5 q hq
    exact ⟨by omega, by omega⟩
  · rcases List.mem_append.mp hp with h | h
    · have := i5 p h
      omega
    · have : p = k := by simpa using h
      subst this
      exact Int.le_refl _
  · rcases hv_from (r := r) k with h | ⟨p, h3, h4, h5⟩
    · omega
    · exact ⟨p, h3, by omega, h4⟩
theorem scan_no {r : List Int} {k : Nat} {w a : Int} {ps : List Nat} (h : ScanI r (k + 1) w a ps) (hn : ¬ (hv r k = w ∧ rv r k < a)) : ScanI r k w a ps := by
  obtain ⟨i1, i2, i3, i4, i5, i6⟩ := h
  refine ⟨i1, i2, fun p hp => ?_, i4, i5, fun hw => ?_⟩
  · have := i3 p hp
    omega
  · obtain ⟨p, h1, h2, h3⟩ := i6 hw
    refine ⟨p, ?_, h2, h3⟩
    by_cases e : p = k
    · subst e
      exact absurd ⟨h2, h3⟩ hn
    · omega
/-- rising's places -/
structure Rises (r : List Int) (c : List Nat) : Prop where
  up : c.Pairwise fun p q => p < q ∧ rv r p < rv r q
  ins : ∀ p ∈ c, p < r.length
  len : (c.length : Int) = topZ r
theorem scan_end {r : List Int} {w a : Int} {ps : List Nat} (h : ScanI r 0 w a ps) : Rises r ps.reverse := by
  obtain ⟨i1, i2, i3, i4, i5, i6⟩ := h
  refine ⟨i4, fun p hp => (i3 p (List.mem_reverse.mp hp)).2, ?_⟩
  by_cases c : 0 < w
  · obtain ⟨p, h1, _⟩ := i6 c
    omega
  · rw [List.length_reverse]
    omega
theorem Rises.sub {r : List Int} {c : List Nat} (h : Rises r c) : (c.map (rv r)).Sublist r := sub_of (h.up.imp fun q => q.1) h.ins
theorem Rises.asc {r : List Int} {c : List Nat} (h : Rises r c) : (c.map (rv r)).Pairwise (· < ·) := by
  rw [List.pairwise_map]
  exact h.up.imp fun q => q.2
/-! ### a take changes little -/
theorem filter_take {b : List Int} (nd : b.Nodup) {i j : Nat} {x : Int} (hx : b[i]? = some x) : (takeZ b i j).filter (fun y => decide (y ≠ x)) = b.filter (fun y => decide (y ≠ x)) := by
  obtain ⟨h1, h2⟩ := List.getElem?_eq_some_iff.mp hx
  unfold takeZ
  rw [cut1 hx]
  have e : b = b.take i ++ [x] ++ b.drop (i + 1) := by
    rw [List.append_assoc, List.singleton_append, ← h2, ← List.drop_eq_getElem_cons h1, List.take_append_drop]
  have e2 : b.filter (fun y => decide (y ≠ x)) = (b.take i ++ b.drop (i + 1)).filter (fun y => decide (y ≠ x)) := by
    conv => lhs; rw [e]
    simp
  rw [e2, List.filter_append, List.filter_append]
  have e3 : [x].filter (fun y => decide (y ≠ x)) = [] := by simp
  rw [e3, List.append_nil, ← List.filter_append, List.take_append_drop]
theorem filter_ne_len {s : List Int} (nd : s.Nodup) (x : Int) : s.length ≤ (s.filter fun y => decide (y ≠ x)).length + 1 := by
  have : ∀ s : List Int, s.Nodup → s.length ≤ (s.filter fun y => decide (y ≠ x)).length + 1 := fun s => by
    induction s with
    | nil => intro _; simp
    | cons z s ih =>
      intro nd
      obtain ⟨h1, h2⟩ := List.nodup_cons.mp nd
      by_cases c : z = x
      · subst c
        rw [List.filter_cons_of_neg (by simp), List.filter_eq_self.mpr]
        · rw [List.length_cons]
          exact Nat.le_refl _
        · intro y hy
          simp
          rintro rfl
          exact h1 hy
      · rw [List.filter_cons_of_pos (by simpa using c), List.length_cons, List.length_cons]
        have := ih h2
        omega
  exact this s nd
/-- both have it in this order -/
def Com (a b : List Int) (k : Nat) : Prop := ∃ s : List Int, s.Sublist a ∧ s.Sublist b ∧ k ≤ s.length
theorem Com.back {a b : List Int} {k : Nat} (h : Com a b k) : Com b a k := by
  obtain ⟨s, h1, h2, h3⟩ := h
  exact ⟨s, h2, h1, h3⟩
theorem com_self (a : List Int) : Com a a a.length := ⟨a, List.Sublist.refl _, List.Sublist.refl _, Nat.le_refl _⟩
theorem Com.take {a b : List Int} {k i j : Nat} (nd : b.Nodup) (hi : i < b.length) (h : Com a b k) : Com a (takeZ b i j) (k - 1) := by
  obtain ⟨s, h1, h2, h3⟩ := h
  have hx := List.getElem?_eq_getElem hi
  refine ⟨s.filter fun y => decide (y ≠ b[i]), List.filter_sublist.trans h1, ?_, ?_⟩
  · refine List.Sublist.trans ?_ (List.filter_sublist (p := fun y => decide (y ≠ b[i])))
    rw [filter_take nd hx]
    exact h2.filter _
  · have := filter_ne_len (h2.nodup nd) b[i]
    omega
theorem top_take {r : List Int} (nd : r.Nodup) {i j : Nat} (hi : i < r.length) {t : List Int} (ht : t.Sublist (takeZ r i j)) (ha : t.Pairwise (· < ·)) : (t.length : Int) ≤ topZ r + 1 := by
  have hx := List.getElem?_eq_getElem hi
  have h1 : (t.filter fun y => decide (y ≠ r[i])).Sublist r := by
    refine List.Sublist.trans (ht.filter _) ?_
    rw [filter_take nd hx]
    exact List.filter_sublist
  have h2 := sub_le h1 (ha.sublist List.filter_sublist)
  have h3 := filter_ne_len (ha.imp fun h => Int.ne_of_lt h) r[i]
  omega
theorem upS (a : Int) (n : Nat) : (upI a n).Pairwise (· ≤ ·) := by
  unfold upI
  refine List.pairwise_map.mpr ?_
  exact List.pairwise_lt_range.imp fun h => by omega
/-! ### the script of takes -/
/-- in order by now: the pieces to p, and those that are kept -/
def inK (K : List Int) (p : Nat) (x : Int) : Bool := decide (x ≤ p) || decide (x ∈ K)
def ordK (K : List Int) (p : Nat) (r : List Int) : List Int := r.filter (inK K p)
theorem inK_succ {K : List Int} {p : Nat} {x : Int} (h : x ≠ (p : Int) + 1) : inK K (p + 1) x = inK K p x := by
  unfold inK
  by_cases c : x ≤ (p : Int)
  · rw [decide_eq_true c, decide_eq_true (by omega : x ≤ ((p + 1 : Nat) : Int))]
  · rw [decide_eq_false c, decide_eq_false (by omega : ¬ x ≤ ((p + 1 : Nat) : Int))]
theorem inK_new {K : List Int} {p : Nat} : inK K (p + 1) ((p : Int) + 1) = true := by
  unfold inK
  rw [decide_eq_true (by omega : (p : Int) + 1 ≤ ((p + 1 : Nat) : Int))]
  rfl
theorem inK_old {K : List Int} {p : Nat} (h : (p : Int) + 1 ∉ K) : inK K p ((p : Int) + 1) = false := by
  unfold inK
  rw [decide_eq_false (by omega), decide_eq_false h]
  rfl
theorem ordK_kept {K r : List Int} {p : Nat} (h : (p : Int) + 1 ∈ K) : ordK K (p + 1) r = ordK K p r := by
  unfold ordK
  refine List.filter_congr fun x _ => ?_
  by_cases c : x = (p : Int) + 1
  · subst c
    rw [inK_new]
    unfold inK
    rw [decide_eq_true h, Bool.or_true]
  · exact inK_succ c
theorem ordK_not {K r : List Int} {p : Nat} (h : (p : Int) + 1 ∉ r) : ordK K (p + 1) r = ordK K p r := by
  unfold ordK
  exact List.filter_congr fun x hx => inK_succ fun e => h (e ▸ hx)
/-- the row with p + 1 put behind p, or first -/
theorem put_asc {K A B : List Int} {p : Nat} (hp : (p : Int) + 1 ∉ A ++ B) (h1 : ∀ x ∈ A ++ B, 1 ≤ x) (hA : (p = 0 ∧ A = []) ∨ ∃ A', A = A' ++ [(p : Int)]) (ha : (ordK K p (A ++ B)).Pairwise (· < ·)) : (ordK K (p + 1) (A ++ [(p : Int) + 1] ++ B)).Pairwise (· < ·) ∧ (ordK K (p + 1) (A ++ [(p : Int) + 1] ++ B)).length = (ordK K p (A ++ B)).length + 1 := by
  have hA' : (p : Int) + 1 ∉ A := fun h => hp (List.mem_append_left _ h)
  have hB' : (p : Int) + 1 ∉ B := fun h => hp (List.mem_append_right _ h)
  have e : ordK K (p + 1) (A ++ [(p : Int) + 1] ++ B) = ordK K p A ++ [(p : Int) + 1] ++ ordK K p B := by
    rw [← ordK_not hA', ← ordK_not hB']
    unfold ordK
    rw [List.filter_append, List.filter_append, List.filter_cons_of_pos inK_new, List.filter_nil]
  have e2 : ordK K p (A ++ B) = ordK K p A ++ ordK K p B := List.filter_append ..
  rw [e, e2]
  rw [e2] at ha
  refine ⟨?_, by simp; omega⟩
  obtain ⟨a1, a2, a3⟩ := List.pairwise_append.mp ha
  have lo : ∀ x ∈ ordK K p A, x < (p : Int) + 1 := by
    rcases hA with ⟨_, rfl⟩ | ⟨A', rfl⟩
    · exact fun x h => nomatch h
    · intro x hx
      have e3 : ordK K p (A' ++ [(p : Int)]) = ordK K p A' ++ [(p : Int)] := by
        unfold ordK
        rw [List.filter_append, List.filter_cons_of_pos (by unfold inK; simp), List.filter_nil]
      rw [e3] at hx a1
      rcases List.mem_append.mp hx with h | h
      · have := (List.pairwise_append.mp a1).2.2 x h (p : Int) (by simp)
        omega
      · have : x = (p : Int) := by simpa using h
        omega
  have hi : ∀ y ∈ ordK K p B, (p : Int) + 1 < y := by
    intro y hy
    have hyB := (List.mem_filter.mp hy).1
    have hne : y ≠ (p : Int) + 1 := fun z => hB' (z ▸ hyB)
    rcases hA with ⟨rfl, rfl⟩ | ⟨A', rfl⟩
    · have := h1 y (by simpa using hyB)
      omega
    · have hm : (p : Int) ∈ ordK K p (A' ++ [(p : Int)]) := List.mem_filter.mpr ⟨by simp, by unfold inK; simp⟩
      have := a3 _ hm y hy
      omega
  rw [List.append_assoc]
  refine List.pairwise_append.mpr ⟨a1, ?_, fun x hx y hy => ?_⟩
  · rw [List.singleton_append, List.pairwise_cons]
    exact ⟨hi, a2⟩
  · rw [List.singleton_append] at hy
    rcases List.mem_cons.mp hy with rfl | hy
    · exact lo x hx
    · exact a3 x hx y hy
theorem split_at {r : List Int} {i : Nat} {x : Int} (h : r[i]? = some x) : r = r.take i ++ [x] ++ r.drop (i + 1) := by
  obtain ⟨h1, h2⟩ := List.getElem?_eq_some_iff.mp h
  rw [List.append_assoc, List.singleton_append, ← h2, ← List.drop_eq_getElem_cons h1, List.take_append_drop]
/-- the piece at i put in at j stands behind what stood ahead of j -/
theorem take_form {r : List Int} {i j : Nat} {x : Int} (h : r[i]? = some x) : takeZ r i j = (r.eraseIdx i).take j ++ [x] ++ (r.eraseIdx i).drop j := by
  unfold takeZ
  rw [cut1 h, ← List.eraseIdx_eq_take_drop_succ]
/-- one turn of the script: the piece p + 1 at i goes behind p at q -/
theorem turn_take {K r : List Int} {n p i : Nat} (hr : r.Perm (upI 1 n)) (hp : p < n) (hK : (p : Int) + 1 ∉ K) (hi : r[i]? = some ((p : Int) + 1)) (ha : (ordK K p r).Pairwise (· < ·))
    {j : Nat} (hj : (p = 0 ∧ j = 0) ∨ ∃ q, r[q]? = some (p : Int) ∧ j = if i < q then q else q + 1) :
    (ordK K (p + 1) (takeZ r i j)).Pairwise (· < ·) ∧ (ordK K (p + 1) (takeZ r i j)).length = (ordK K p r).length + 1 ∧ j < n ∧ (i = j → takeZ r i j = r) := by
  have nd : r.Nodup := hr.symm.nodup (up_nodup 1 n)
  have hl : r.length = n := by rw [hr.length_eq, upI_length]
  obtain ⟨hi1, hi2⟩ := List.getElem?_eq_some_iff.mp hi
  have e0 := split_at hi
  have ee : r.eraseIdx i = r.take i ++ r.drop (i + 1) := List.eraseIdx_eq_take_drop_succ ..
  have notin : (p : Int) + 1 ∉ r.eraseIdx i := by
    rw [ee]
    intro hm
    rw [e0] at nd
    have nd2 : (((p : Int) + 1) :: (r.take i ++ r.drop (i + 1))).Nodup := by
      refine List.Perm.nodup ?_ nd
      rw [List.append_assoc, List.singleton_append]
      exact List.perm_middle
    exact (List.nodup_cons.mp nd2).1 hm
  have pos : ∀ x ∈ r.eraseIdx i, 1 ≤ x := fun x hx => by
    have := up_mem.mp (hr.mem_iff.mp (List.mem_of_mem_eraseIdx hx))
    omega
  have ord : ordK K p (r.eraseIdx i) = ordK K p r := by
    rw [ee]
    conv => rhs; rw [e0]
    unfold ordK
    rw [List.filter_append, List.filter_append, List.filter_append, List.filter_cons_of_neg (by rw [inK_old hK]; exact fun z => nomatch z), List.filter_nil, List.append_nil]
  have hle : (r.eraseIdx i).length = n - 1 := by rw [List.length_eraseIdx, if_pos hi1, hl]
  have hA : (p = 0 ∧ (r.eraseIdx i).take j = []) ∨ ∃ A', (r.eraseIdx i).take j = A' ++ [(p : Int)] := by
    rcases hj with ⟨h0, h2⟩ | ⟨q, hq, h2⟩
    · exact .inl ⟨h0, by rw [h2, List.take_zero]⟩
    · refine .inr ?_
      have hqi : q ≠ i := by
        rintro rfl
        rw [hi] at hq
        have := Option.some.inj hq
        omega
      by_cases c : i < q
      · rw [if_pos c] at h2
        have e1 : (r.eraseIdx i)[q - 1]? = some (p : Int) := by
          rw [List.getElem?_eraseIdx, if_neg (by omega), show q - 1 + 1 = q by omega]
          exact hq
        obtain ⟨k1, k2⟩ := List.getElem?_eq_some_iff.mp e1
        refine ⟨(r.eraseIdx i).take (q - 1), ?_⟩
        rw [h2, ← k2, List.take_append_getElem k1, show q - 1 + 1 = q by omega]
      · rw [if_neg c] at h2
        have e1 : (r.eraseIdx i)[q]? = some (p : Int) := by
          rw [List.getElem?_eraseIdx, if_pos (by omega)]
          exact hq
        obtain ⟨k1, k2⟩ := List.getElem?_eq_some_iff.mp e1
        refine ⟨(r.eraseIdx i).take q, ?_⟩
        rw [h2, ← k2, List.take_append_getElem k1]
  have ap : (r.eraseIdx i).take j ++ (r.eraseIdx i).drop j = r.eraseIdx i := List.take_append_drop ..
  obtain ⟨r1, r2⟩ := put_asc (K := K) (A := (r.eraseIdx i).take j) (B := (r.eraseIdx i).drop j) (p := p) (by rw [ap]; exact notin) (by rw [ap]; exact pos) hA (by rw [ap, ord]; exact ha)
  rw [← take_form hi] at r1 r2
  rw [ap, ord] at r2
  refine ⟨r1, r2, ?_, fun e => ?_⟩
  · rcases hj with ⟨_, h2⟩ | ⟨q, hq, h2⟩
    · omega
    · obtain ⟨k1, _⟩ := List.getElem?_eq_some_iff.mp hq
      have hqi : q ≠ i := by
        rintro rfl
        rw [hi] at hq
        have := Option.some.inj hq
        omega
      by_cases c : i < q
      · rw [if_pos c] at h2
        omega
      · rw [if_neg c] at h2
        omega
  · subst e
    rw [take_form hi, ee]
    conv => rhs; rw [e0]
    have l1 : (r.take i).length = i := by rw [List.length_take]; omega
    rw [List.take_append_of_le_length (by omega), List.take_of_length_le (by omega), List.drop_append_of_le_length (by omega), List.drop_of_length_le (by omega), List.nil_append]
theorem asc_up {r : List Int} {n : Nat} (h : r.Perm (upI 1 n)) (ha : r.Pairwise (· < ·)) : r = upI 1 n :=
  List.Perm.eq_of_pairwise (fun a b _ _ h1 h2 => Int.le_antisymm h1 h2) (ha.imp fun h => Int.le_of_lt h) (upS 1 n) h
theorem ordK_all {K r : List Int} {n : Nat} (h : r.Perm (upI 1 n)) : ordK K n r = r := by
  refine List.filter_eq_self.mpr fun x hx => ?_
  have := up_mem.mp (h.mem_iff.mp hx)
  unfold inK
  rw [decide_eq_true (by omega)]
  rfl
theorem filter_sub {K r : List Int} (hs : K.Sublist r) (nd : r.Nodup) : r.filter (fun x => decide (x ∈ K)) = K := by
  induction hs with
  | slnil => rfl
  | @cons K r x hs ih =>
    obtain ⟨h1, h2⟩ := List.nodup_cons.mp nd
    rw [List.filter_cons_of_neg]
    · exact ih h2
    · rw [decide_eq_false (fun h => h1 (hs.subset h))]
      exact fun z => nomatch z
  | @cons_cons K r x hs ih =>
    obtain ⟨h1, h2⟩ := List.nodup_cons.mp nd
    rw [List.filter_cons_of_pos (by simp)]
    congr 1
    refine Eq.trans ?_ (ih h2)
    refine List.filter_congr fun y hy => ?_
    have hne : y ≠ x := fun e => h1 (e ▸ hy)
    exact decide_eq_decide.mpr ⟨fun h => (List.mem_cons.mp h).resolve_left hne, fun h => List.mem_cons_of_mem _ h⟩
theorem ordK_zero {K r : List Int} {n : Nat} (h : r.Perm (upI 1 n)) (hs : K.Sublist r) : ordK K 0 r = K := by
  refine Eq.trans ?_ (filter_sub hs (h.symm.nodup (up_nodup 1 n)))
  unfold ordK
  refine List.filter_congr fun x hx => ?_
  have := up_mem.mp (h.mem_iff.mp hx)
  unfold inK
  rw [decide_eq_false (by omega), Bool.false_or]
/-! ### two rows -/
section
variable {n : Nat} {a b : List Int}
theorem up_lt (a : Int) (n : Nat) : (upI a n).Pairwise (· < ·) := by
  unfold upI
  refine List.pairwise_map.mpr ?_
  exact List.pairwise_lt_range.imp fun h => by omega
theorem com_le (T : Two n a b) {k : Nat} (h : Com a b k) : (k : Int) ≤ topZ (relZ a b) := by
  obtain ⟨s, h1, h2, h3⟩ := h
  have s1 := h1.map fun x => (((idxZ x b).getD 0 : Nat) : Int) + 1
  have s2 := h2.map fun x => (((idxZ x b).getD 0 : Nat) : Int) + 1
  have e : b.map (fun x => (((idxZ x b).getD 0 : Nat) : Int) + 1) = upI 1 n := rel_self T.nb T.lb
  rw [e] at s2
  have := sub_le (r := relZ a b) s1 ((up_lt 1 n).sublist s2)
  rw [List.length_map] at this
  omega
theorem rises_all (r : List Int) : ∃ c, Rises r c := by
  obtain ⟨A, hA⟩ : ∃ A : Int, ∀ q, q < r.length → rv r q < A := by
    refine ⟨maxO 0 r + 1, fun q hq => ?_⟩
    have : rv r q ∈ r := by
      unfold rv
      rw [List.getElem?_eq_getElem hq]
      exact List.getElem_mem hq
    have := maxO_ge this
    omega
  have key : ∀ d k, k + d = r.length → ∃ w a ps, ScanI r k w a ps := fun d => by
    induction d with
    | zero =>
      intro k hk
      have : k = r.length := by omega
      subst this
      exact ⟨_, _, _, scan0 hA⟩
    | succ d ih =>
      intro k hk
      obtain ⟨w, a, ps, h⟩ := ih (k + 1) (by omega)
      by_cases c : hv r k = w ∧ rv r k < a
      · exact ⟨_, _, _, scan_yes h (by omega) c.1 c.2⟩
      · exact ⟨_, _, _, scan_no h c⟩
  obtain ⟨w, a, ps, h⟩ := key r.length 0 (by omega)
  exact ⟨_, scan_end h⟩
theorem top_com (T : Two n a b) : Com a b (topZ (relZ a b)).toNat := by
  obtain ⟨c, hc⟩ := rises_all (relZ a b)
  have lr := rel_len T
  have at1 : ∀ p ∈ c, 1 ≤ rv (relZ a b) p ∧ (rv (relZ a b) p - 1).toNat < n ∧ rv a p = rv b (rv (relZ a b) p - 1).toNat := fun p hp => by
    obtain ⟨x, j, e1, e2, e3, e4⟩ := rel_at T (k := p) (by have := hc.ins p hp; omega)
    unfold rv
    rw [e1, e4, Option.getD_some, Option.getD_some, show ((j : Int) + 1 - 1).toNat = j by omega, e2]
    exact ⟨by omega, e3, rfl⟩
  refine ⟨c.map (rv a), sub_of (hc.up.imp fun h => h.1) (fun p hp => by have := hc.ins p hp; rw [T.la]; omega), ?_, ?_⟩
  · have e : c.map (rv a) = (c.map fun p => (rv (relZ a b) p - 1).toNat).map (rv b) := by
      rw [List.map_map]
      exact List.map_congr_left fun p hp => (at1 p hp).2.2
    rw [e]
    refine sub_of ?_ fun q hq => ?_
    · rw [List.pairwise_map]
      refine List.Pairwise.imp_of_mem (R := fun p q => p < q ∧ rv (relZ a b) p < rv (relZ a b) q) (fun {p q} hp hq h => ?_) hc.up
      have := at1 p hp
      have := at1 q hq
      omega
    · obtain ⟨p, hp, rfl⟩ := List.mem_map.mp hq
      have := at1 p hp
      rw [T.lb]
      omega
  · have := hc.len
    rw [List.length_map]
    omega
theorem top_back (T : Two n a b) : topZ (relZ b a) = topZ (relZ a b) := by
  have h1 := com_le T.back (top_com T).back
  have h2 := com_le T (top_com T.back).back
  have := top_pos (relZ a b)
  have := top_pos (relZ b a)
  omega
theorem top_self {r : List Int} (h : r.Perm (upI 1 n)) : (n : Int) ≤ topZ (relZ r r) := by
  have := com_le ⟨h, h⟩ (com_self r)
  rw [h.length_eq, upI_length] at this
  exact this
theorem top_le (T : Two n a b) : topZ (relZ a b) ≤ n := by
  obtain ⟨c, hc⟩ := rises_all (relZ a b)
  have := hc.sub.length_le
  rw [List.length_map, rel_len T] at this
  have := hc.len
  omega
theorem top_step (T : Two n a b) {i j : Nat} (hi : i < n) : topZ (relZ a b) - 1 ≤ topZ (relZ a (takeZ b i j)) ∧ Two n a (takeZ b i j) := by
  have T' : Two n a (takeZ b i j) := ⟨T.pa, (take_perm (by rw [T.lb]; exact hi)).trans T.pb⟩
  have := com_le T' ((top_com T).take (j := j) T.nb (by rw [T.lb]; exact hi))
  have := top_pos (relZ a b)
  exact ⟨by omega, T'⟩
end
end Pu

set_option Elab.async false
set_option linter.all false
set_option maxRecDepth 100000
set_option maxHeartbeats 2000000
/-! the drawing of a signed row: marks, light lines, rings -/
namespace Pu
open PySem PySem.Spec PyProof.Rows L2
variable [TabL]
def abZ (i : Int) : Int := if i < 0 then -i else i
/-- the other one of a pair 2 k, 2 k + 1 -/
def dk (x : Int) : Int := if x % 2 = 0 then x + 1 else x - 1
theorem dk_dk (x : Int) : dk (dk x) = x := by
  unfold dk
  by_cases h : x % 2 = 0
  · rw [if_pos h, if_neg (by omega)]
    omega
  · rw [if_neg h, if_pos (by omega)]
    omega
theorem dk_ne (x : Int) : dk x ≠ x := by
  unfold dk
  split <;> omega
theorem dk_in {x : Int} {N : Nat} (h : x ∈ upI 0 (2 * N)) : dk x ∈ upI 0 (2 * N) := by
  have := up_mem.mp h
  refine up_mem.mpr ?_
  unfold dk
  split <;> omega
theorem dk_inj {x y : Int} (h : dk x = dk y) : x = y := by
  have := congrArg dk h
  rwa [dk_dk, dk_dk] at this
/-! ### marks -/
def mk1 (x : Int) : List Int := if 0 < x then [2 * x - 1, 2 * x] else [-2 * x, -2 * x - 1]
def mkZ (r : List Int) : List Int := 0 :: (r.flatMap mk1 ++ [2 * (r.length : Int) + 1])
theorem mk1_len (x : Int) : (mk1 x).length = 2 := by
  unfold mk1
  split <;> rfl
theorem flat_mk_len : ∀ r : List Int, (r.flatMap mk1).length = 2 * r.length
  | [] => rfl
  | x :: r => by
    rw [List.flatMap_cons, List.length_append, mk1_len, flat_mk_len r, List.length_cons]
    omega
theorem mkZ_len (r : List Int) : (mkZ r).length = 2 * r.length + 2 := by
  unfold mkZ
  rw [List.length_cons, List.length_append, flat_mk_len, List.length_singleton]
theorem up_two (n : Nat) : (upI 1 n).flatMap (fun y => [2 * y - 1, 2 * y]) = upI 1 (2 * n) := by
  induction n with
  | zero => rfl
  | succ n ih =>
    have e1 : upI 1 (n + 1) = upI 1 n ++ [1 + (n : Int)] := by
      unfold upI
      rw [List.range_succ, List.map_append]
      rfl
    have e2 : upI 1 (2 * (n + 1)) = upI 1 (2 * n) ++ [1 + ((2 * n : Nat) : Int), 1 + ((2 * n + 1 : Nat) : Int)] := by
      unfold upI
      rw [show 2 * (n + 1) = 2 * n + 1 + 1 by omega, List.range_succ, List.range_succ, List.map_append, List.map_append, List.append_assoc]
      rfl
    rw [e1, List.flatMap_append, ih, e2]
    congr 1
    have a : 2 * (1 + (n : Int)) - 1 = 1 + ((2 * n : Nat) : Int) := by omega
    have b : 2 * (1 + (n : Int)) = 1 + ((2 * n + 1 : Nat) : Int) := by omega
    rw [List.flatMap_cons, List.flatMap_nil, List.append_nil, a, b]
theorem mk1_perm (x : Int) (h : x ≠ 0) : (mk1 x).Perm [2 * abZ x - 1, 2 * abZ x] := by
  unfold mk1 abZ
  by_cases c : 0 < x
  · rw [if_pos c, if_neg (by omega)]
  · rw [if_neg c, if_pos (by omega), show -2 * x = 2 * -x by omega]
    exact List.Perm.swap _ _ _
theorem mkZ_perm {r : List Int} (h : (r.map abZ).Perm (upI 1 r.length)) : (mkZ r).Perm (upI 0 (2 * (r.length + 1))) := by
  have h0 : ∀ x ∈ r, x ≠ 0 := fun x hx e => by
    have := up_mem.mp (h.mem_iff.mp (List.mem_map.mpr ⟨x, hx, rfl⟩))
    rw [e] at this
    have z : abZ 0 = 0 := rfl
    rw [z] at this
    omega
  have e : ∀ l : List Int, (∀ x ∈ l, x ≠ 0) → (l.flatMap mk1).Perm ((l.map abZ).flatMap fun y => [2 * y - 1, 2 * y]) := by
    intro l
    induction l with
    | nil => exact fun _ => .refl _
    | cons x l ih =>
      intro hl
      rw [List.flatMap_cons, List.map_cons, List.flatMap_cons]
      exact (mk1_perm x (hl x List.mem_cons_self)).append (ih fun y hy => hl y (List.mem_cons_of_mem _ hy))
  have p1 := (e r h0).trans (h.flatMap_right _)
  rw [up_two] at p1
  have u : upI 0 (2 * (r.length + 1)) = 0 :: (upI 1 (2 * r.length) ++ [2 * (r.length : Int) + 1]) := by
    unfold upI
    rw [show 2 * (r.length + 1) = (2 * r.length + 1) + 1 by omega, List.range_succ_eq_map, List.map_cons, List.map_map, List.range_succ, List.map_append]
    congr 1
    congr 1
    · refine List.map_congr_left fun k _ => ?_
      show (0 : Int) + ((k + 1 : Nat) : Int) = 1 + (k : Int)
      omega
    · show [(0 : Int) + ((2 * r.length + 1 : Nat) : Int)] = _
      congr 1
      omega
  rw [u]
  unfold mkZ
  exact (p1.append_right _).cons _
/-! ### places of marks, light lines -/
section
variable {m : List Int} {N : Nat}
def ixI (m : List Int) (y : Int) : Int := (((idxZ y m).getD 0 : Nat) : Int)
theorem ix_some (p : m.Perm (upI 0 (2 * N))) {y : Int} (h : y ∈ upI 0 (2 * N)) : ∃ j : Nat, idxZ y m = some j ∧ ixI m y = j ∧ j < 2 * N ∧ m[j]? = some y := by
  obtain ⟨j, e⟩ := idxZ_mem (p.mem_iff.mpr h)
  have g := (idxZ_some e).1
  have hj := getSome g
  rw [p.length_eq, upI_length] at hj
  refine ⟨j, e, ?_, hj, g⟩
  unfold ixI
  rw [e]
  rfl
theorem ix_in (p : m.Perm (upI 0 (2 * N))) {y : Int} (h : y ∈ upI 0 (2 * N)) : ixI m y ∈ upI 0 (2 * N) := by
  obtain ⟨j, _, e, hj, _⟩ := ix_some p h
  rw [e]
  exact up_mem.mpr (by omega)
theorem val_ix (p : m.Perm (upI 0 (2 * N))) {y : Int} (h : y ∈ upI 0 (2 * N)) : valZ m (ixI m y) = y := by
  obtain ⟨j, _, e, hj, g⟩ := ix_some p h
  rw [e]
  unfold valZ
  rw [atZ_nat (by rw [p.length_eq, upI_length]; exact hj), g]
  rfl
theorem val_in (p : m.Perm (upI 0 (2 * N))) {x : Int} (h : x ∈ upI 0 (2 * N)) : valZ m x ∈ upI 0 (2 * N) := by
  have l : m.length = 2 * N := by rw [p.length_eq, upI_length]
  have v := val_at (r := m) (p := x) (by rw [l]; exact h)
  have := up_mem.mp h
  rw [show x = ((x.toNat : Nat) : Int) by omega, atZ_nat (by omega)] at v
  have := List.mem_of_getElem? v
  rw [show ((x.toNat : Nat) : Int) = x by omega] at this
  exact p.mem_iff.mp this
theorem ix_val (p : m.Perm (upI 0 (2 * N))) {x : Int} (h : x ∈ upI 0 (2 * N)) : ixI m (valZ m x) = x := by
  have l : m.length = 2 * N := by rw [p.length_eq, upI_length]
  have nd : m.Nodup := p.symm.nodup (up_nodup _ _)
  obtain ⟨j, _, e, hj, g⟩ := ix_some p (val_in p h)
  rw [e]
  have v := val_at (r := m) (p := x) (by rw [l]; exact h)
  refine atZ_inj nd (x := valZ m x) (up_mem.mpr (by omega)) (by rw [l]; exact h) ?_ v
  rw [atZ_nat (by omega)]
  exact g
theorem ix_inj (p : m.Perm (upI 0 (2 * N))) {y z : Int} (hy : y ∈ upI 0 (2 * N)) (hz : z ∈ upI 0 (2 * N)) (h : ixI m y = ixI m z) : y = z := by
  rw [← val_ix p hy, h, val_ix p hz]
/-- the spot across the light line -/
def tZ (m : List Int) (x : Int) : Int := ixI m (dk (valZ m x))
def lnZ (m : List Int) (k : Int) : Int × Int := if ixI m (2 * k + 1) < ixI m (2 * k) then (ixI m (2 * k + 1), ixI m (2 * k)) else (ixI m (2 * k), ixI m (2 * k + 1))
def LZ (m : List Int) (N : Nat) : List (Int × Int) := (upI 0 N).map (lnZ m)
/-- light lines and the spots across them -/
structure Lin (L : List (Int × Int)) (T : Int → Int) : Prop where
  pm : (L.flatMap fun l => [l.1, l.2]).Perm (upI 0 (2 * L.length))
  t1 : ∀ l ∈ L, T l.1 = l.2
  t2 : ∀ l ∈ L, T l.2 = l.1
theorem LZ_len (m : List Int) (N : Nat) : (LZ m N).length = N := by
  unfold LZ
  rw [List.length_map, upI_length]
theorem dk_even (k : Int) : dk (2 * k) = 2 * k + 1 := by
  unfold dk
  rw [if_pos (by omega)]
theorem dk_odd (k : Int) : dk (2 * k + 1) = 2 * k := by
  unfold dk
  rw [if_neg (by omega)]
  omega
theorem up_pairs (N : Nat) : (upI 0 N).flatMap (fun k => [2 * k, 2 * k + 1]) = upI 0 (2 * N) := by
  induction N with
  | zero => rfl
  | succ n ih =>
    have e1 : upI 0 (n + 1) = upI 0 n ++ [0 + (n : Int)] := by
      unfold upI
      rw [List.range_succ, List.map_append]
      rfl
    have e2 : upI 0 (2 * (n + 1)) = upI 0 (2 * n) ++ [0 + ((2 * n : Nat) : Int), 0 + ((2 * n + 1 : Nat) : Int)] := by
      unfold upI
      rw [show 2 * (n + 1) = 2 * n + 1 + 1 by omega, List.range_succ, List.range_succ, List.map_append, List.map_append, List.append_assoc]
      rfl
    rw [e1, List.flatMap_append, ih, e2]
    congr 1
    have a : 2 * (0 + (n : Int)) = 0 + ((2 * n : Nat) : Int) := by omega
    have b : 2 * (0 + (n : Int)) + 1 = 0 + ((2 * n + 1 : Nat) : Int) := by omega
    rw [List.flatMap_cons, List.flatMap_nil, List.append_nil, b, a]
theorem LZ_lin (p : m.Perm (upI 0 (2 * N))) : Lin (LZ m N) (tZ m) := by
  have mem2 : ∀ k ∈ upI 0 N, 2 * k ∈ upI 0 (2 * N) ∧ 2 * k + 1 ∈ upI 0 (2 * N) := fun k hk => by
    have := up_mem.mp hk
    exact ⟨up_mem.mpr (by omega), up_mem.mpr (by omega)⟩
  refine ⟨?_, fun l hl => ?_, fun l hl => ?_⟩
  · rw [LZ_len]
    unfold LZ
    have e : ∀ K : List Int, ((K.map (lnZ m)).flatMap fun l => [l.1, l.2]).Perm ((K.flatMap fun k => [2 * k, 2 * k + 1]).map (ixI m)) := by
      intro K
      induction K with
      | nil => exact .refl _
      | cons k K ih =>
        rw [List.map_cons, List.flatMap_cons, List.flatMap_cons, List.map_append]
        refine List.Perm.append ?_ ih
        unfold lnZ
        by_cases c : ixI m (2 * k + 1) < ixI m (2 * k)
        · rw [if_pos c]
          exact List.Perm.swap _ _ _
        · rw [if_neg c]
          exact .refl _
    refine (e _).trans ?_
    rw [up_pairs]
    refine (List.perm_ext_iff_of_nodup ?_ (up_nodup _ _)).mpr fun x => ?_
    · refine List.Pairwise.map _ ?_ (List.pairwise_iff_forall_sublist.mpr fun {a b} h => ?_ : List.Pairwise (fun a b => a ∈ upI 0 (2 * N) ∧ b ∈ upI 0 (2 * N) ∧ a ≠ b) (upI 0 (2 * N)))
      · exact fun a b h q => h.2.2 (ix_inj p h.1 h.2.1 q)
      · have nd := List.pairwise_iff_forall_sublist.mp (up_nodup 0 (2 * N)) h
        exact ⟨h.subset (by simp), h.subset (by simp), nd⟩
    · constructor
      · intro h
        obtain ⟨y, hy, rfl⟩ := List.mem_map.mp h
        exact ix_in p hy
      · intro h
        exact List.mem_map.mpr ⟨valZ m x, val_in p h, ix_val p h⟩
  · unfold LZ at hl
    obtain ⟨k, hk, rfl⟩ := List.mem_map.mp hl
    obtain ⟨h1, h2⟩ := mem2 k hk
    unfold lnZ tZ
    split
    · show ixI m (dk (valZ m (ixI m (2 * k + 1)))) = ixI m (2 * k)
      rw [val_ix p h2, dk_odd]
    · show ixI m (dk (valZ m (ixI m (2 * k)))) = ixI m (2 * k + 1)
      rw [val_ix p h1, dk_even]
  · unfold LZ at hl
    obtain ⟨k, hk, rfl⟩ := List.mem_map.mp hl
    obtain ⟨h1, h2⟩ := mem2 k hk
    unfold lnZ tZ
    split
    · show ixI m (dk (valZ m (ixI m (2 * k)))) = ixI m (2 * k + 1)
      rw [val_ix p h1, dk_even]
    · show ixI m (dk (valZ m (ixI m (2 * k + 1)))) = ixI m (2 * k)
      rw [val_ix p h2, dk_odd]
end
/-! ### rings of lines -/
section
variable {L : List (Int × Int)} {T : Int → Int}
theorem Lin.line (Z : Lin L T) {x : Int} (h : x ∈ upI 0 (2 * L.length)) : ∃ l ∈ L, x = l.1 ∨ x = l.2 := by
  have := Z.pm.mem_iff.mpr h
  obtain ⟨l, hl, q⟩ := List.mem_flatMap.mp this
  exact ⟨l, hl, by simpa using q⟩
theorem Lin.inn (Z : Lin L T) {l : Int × Int} (h : l ∈ L) : l.1 ∈ upI 0 (2 * L.length) ∧ l.2 ∈ upI 0 (2 * L.length) :=
  ⟨Z.pm.mem_iff.mp (List.mem_flatMap.mpr ⟨l, h, by simp⟩), Z.pm.mem_iff.mp (List.mem_flatMap.mpr ⟨l, h, by simp⟩)⟩
theorem Lin.ne (Z : Lin L T) {l : Int × Int} (h : l ∈ L) : l.1 ≠ l.2 := by
  have nd : (L.flatMap fun l => [l.1, l.2]).Nodup := Z.pm.symm.nodup (up_nodup _ _)
  have : ∀ K : List (Int × Int), (K.flatMap fun l => [l.1, l.2]).Nodup → l ∈ K → l.1 ≠ l.2 := by
    intro K
    induction K with
    | nil => exact fun _ h => by cases h
    | cons k K ih =>
      intro nd h
      rw [List.flatMap_cons] at nd
      rcases List.mem_cons.mp h with e | h
      · subst e
        have := (List.nodup_append.mp nd).1
        simpa using this
      · exact ih (List.nodup_append.mp nd).2.1 h
  exact this L nd h
theorem Lin.tin (Z : Lin L T) {x : Int} (h : x ∈ upI 0 (2 * L.length)) : T x ∈ upI 0 (2 * L.length) := by
  obtain ⟨l, hl, e | e⟩ := Z.line h
  · rw [e, Z.t1 l hl]
    exact (Z.inn hl).2
  · rw [e, Z.t2 l hl]
    exact (Z.inn hl).1
theorem Lin.tt (Z : Lin L T) {x : Int} (h : x ∈ upI 0 (2 * L.length)) : T (T x) = x := by
  obtain ⟨l, hl, e | e⟩ := Z.line h
  · rw [e, Z.t1 l hl, Z.t2 l hl]
  · rw [e, Z.t2 l hl, Z.t1 l hl]
theorem Lin.tne (Z : Lin L T) {x : Int} (h : x ∈ upI 0 (2 * L.length)) : T x ≠ x := by
  obtain ⟨l, hl, e | e⟩ := Z.line h
  · rw [e, Z.t1 l hl]
    exact fun q => Z.ne hl q.symm
  · rw [e, Z.t2 l hl]
    exact Z.ne hl
/-- two steps: dark, light -/
def fD2 (T : Int → Int) (x : Int) : Int := T (dk x)
theorem Lin.pm2 (Z : Lin L T) : Pm (fD2 T) (upI 0 (2 * L.length)) := ⟨up_nodup _ _, fun k hk => Z.tin (dk_in hk), fun k hk l hl e => by
  have := congrArg T e
  unfold fD2 at this
  rw [Z.tt (dk_in hk), Z.tt (dk_in hl)] at this
  exact dk_inj this⟩
theorem Lin.fdf (Z : Lin L T) {x : Int} (h : x ∈ upI 0 (2 * L.length)) : fD2 T (dk (fD2 T x)) = dk x := by
  unfold fD2
  rw [dk_dk, Z.tt (dk_in h)]
/-- the other side lies on another ring of double steps -/
theorem Lin.apart (Z : Lin L T) : ∀ (m : Nat) {s : Int}, s ∈ upI 0 (2 * L.length) → itZ (fD2 T) m s ≠ dk s
  | 0, s, h => fun e => dk_ne s e.symm
  | 1, s, h => fun e => by
    have e : fD2 T s = dk s := e
    unfold fD2 at e
    exact Z.tne (dk_in h) e
  | m + 2, s, h => fun e => by
    have e : itZ (fD2 T) (m + 1 + 1) s = dk s := e
    rw [itZ_add] at e
    have e : itZ (fD2 T) (m + 1) (fD2 T s) = dk s := e
    rw [← Z.fdf h] at e
    have hf := Z.pm2.to s h
    have e : fD2 T (itZ (fD2 T) m (fD2 T s)) = fD2 T (dk (fD2 T s)) := e
    have := Z.pm2.inj _ (Z.pm2.it m hf) _ (dk_in hf) e
    exact Z.apart m hf this
theorem Lin.back (Z : Lin L T) : ∀ (b : Nat) {s : Int}, s ∈ upI 0 (2 * L.length) → itZ (fD2 T) b (dk (itZ (fD2 T) b s)) = dk s
  | 0, _, _ => rfl
  | b + 1, s, h => by
    have e1 : itZ (fD2 T) (b + 1) s = fD2 T (itZ (fD2 T) b s) := rfl
    rw [e1, itZ_add]
    show itZ (fD2 T) b (fD2 T (dk (fD2 T (itZ (fD2 T) b s)))) = dk s
    rw [Z.fdf (Z.pm2.it b h)]
    exact Z.back b h
theorem Lin.apart2 (Z : Lin L T) {s : Int} (h : s ∈ upI 0 (2 * L.length)) (a b : Nat) : itZ (fD2 T) a s ≠ dk (itZ (fD2 T) b s) := fun e => by
  have := congrArg (itZ (fD2 T) b) e
  rw [Z.back b h, ← itZ_add] at this
  exact Z.apart _ h this
/-- the first 2 m spots of the way from s on -/
def wayD (T : Int → Int) (s : Int) (m : Nat) : List Int := (orb (fD2 T) s m).flatMap fun x => [x, dk x]
theorem way_succ (s : Int) (m : Nat) : wayD T s (m + 1) = wayD T s m ++ [itZ (fD2 T) m s, dk (itZ (fD2 T) m s)] := by
  unfold wayD
  rw [orb_succ, List.flatMap_append]
  rfl
theorem way_len (s : Int) : ∀ m, (wayD T s m).length = 2 * m
  | 0 => rfl
  | m + 1 => by
    rw [way_succ, List.length_append, way_len s m]
    rfl
theorem way_mem {s x : Int} {m : Nat} : x ∈ wayD T s m ↔ ∃ k, k < m ∧ (x = itZ (fD2 T) k s ∨ x = dk (itZ (fD2 T) k s)) := by
  unfold wayD orb
  rw [List.mem_flatMap]
  constructor
  · rintro ⟨y, hy, hx⟩
    obtain ⟨k, hk, rfl⟩ := List.mem_map.mp hy
    exact ⟨k, List.mem_range.mp hk, by simpa using hx⟩
  · rintro ⟨k, hk, hx⟩
    exact ⟨_, List.mem_map.mpr ⟨k, List.mem_range.mpr hk, rfl⟩, by simpa using hx⟩
noncomputable def ringD (T : Int → Int) (s : Int) : List Int := wayD T s (pd (fD2 T) s)
theorem Lin.it_ne (Z : Lin L T) {s : Int} (h : s ∈ upI 0 (2 * L.length)) {k m : Nat} (hk : k < m) (hm : m < pd (fD2 T) s) : itZ (fD2 T) m s ≠ itZ (fD2 T) k s := fun e => by
  have nd := Z.pm2.ring_nd h
  have g1 := orb_get (f := fD2 T) (s := s) hm
  have g2 := orb_get (f := fD2 T) (s := s) (show k < pd (fD2 T) s by omega)
  rw [e] at g1
  obtain ⟨i1, j1⟩ := List.getElem?_eq_some_iff.mp g1
  obtain ⟨i2, j2⟩ := List.getElem?_eq_some_iff.mp g2
  have := (List.getElem_inj (h₀ := i1) (h₁ := i2) nd).mp (j1.trans j2.symm)
  omega
theorem Lin.new1 (Z : Lin L T) {s : Int} (h : s ∈ upI 0 (2 * L.length)) {m : Nat} (hm : m < pd (fD2 T) s) : itZ (fD2 T) m s ∉ wayD T s m := fun q => by
  obtain ⟨k, hk, e | e⟩ := way_mem.mp q
  · exact Z.it_ne h hk hm e
  · exact Z.apart2 h m k e
theorem Lin.new2 (Z : Lin L T) {s : Int} (h : s ∈ upI 0 (2 * L.length)) {m : Nat} (hm : m < pd (fD2 T) s) : dk (itZ (fD2 T) m s) ∉ wayD T s m ∧ dk (itZ (fD2 T) m s) ≠ itZ (fD2 T) m s := ⟨fun q => by
  obtain ⟨k, hk, e | e⟩ := way_mem.mp q
  · exact Z.apart2 h k m e.symm
  · exact Z.it_ne h hk hm (dk_inj e), dk_ne _⟩
theorem Lin.way_in (Z : Lin L T) {s x : Int} (h : s ∈ upI 0 (2 * L.length)) {m : Nat} (hx : x ∈ wayD T s m) : x ∈ upI 0 (2 * L.length) := by
  obtain ⟨k, hk, e | e⟩ := way_mem.mp hx
  · rw [e]
    exact Z.pm2.it k h
  · rw [e]
    exact dk_in (Z.pm2.it k h)
theorem Lin.way_nd (Z : Lin L T) {s : Int} (h : s ∈ upI 0 (2 * L.length)) : ∀ m, m ≤ pd (fD2 T) s → (wayD T s m).Nodup
  | 0, _ => List.nodup_nil
  | m + 1, hm => by
    rw [way_succ]
    obtain ⟨a, b⟩ := Z.new2 h (show m < pd (fD2 T) s by omega)
    have c := Z.new1 h (show m < pd (fD2 T) s by omega)
    refine List.nodup_append.mpr ⟨Z.way_nd h m (by omega), by simp; exact fun e => b e.symm, fun x hx y hy => ?_⟩
    rcases List.mem_cons.mp hy with e | hy
    · subst e
      exact fun e => c (e ▸ hx)
    · have e := List.mem_singleton.mp hy
      subst e
      exact fun e => a (e ▸ hx)
/-- a ring is closed -/
theorem Lin.ring_dk (Z : Lin L T) {s x : Int} (h : s ∈ upI 0 (2 * L.length)) : x ∈ ringD T s → dk x ∈ ringD T s := fun hx => by
  obtain ⟨k, hk, e | e⟩ := way_mem.mp hx
  · rw [e]
    exact way_mem.mpr ⟨k, hk, .inr rfl⟩
  · rw [e, dk_dk]
    exact way_mem.mpr ⟨k, hk, .inl rfl⟩
theorem Lin.ring_T (Z : Lin L T) {s x : Int} (h : s ∈ upI 0 (2 * L.length)) : x ∈ ringD T s → T x ∈ ringD T s := fun hx => by
  obtain ⟨⟨p0, pe, _⟩, _⟩ := Z.pm2.isPer h
  obtain ⟨k, hk, e | e⟩ := way_mem.mp hx
  · rw [e]
    cases k with
    | zero =>
      refine way_mem.mpr ⟨pd (fD2 T) s - 1, by omega, .inr ?_⟩
      have e2 : itZ (fD2 T) (pd (fD2 T) s - 1 + 1) s = s := by rw [show pd (fD2 T) s - 1 + 1 = pd (fD2 T) s by omega]; exact pe
      have e2 : T (dk (itZ (fD2 T) (pd (fD2 T) s - 1) s)) = s := e2
      show T s = _
      rw [← Z.tt (dk_in (Z.pm2.it (pd (fD2 T) s - 1) h)), e2]
    | succ k =>
      refine way_mem.mpr ⟨k, by omega, .inr ?_⟩
      show T (T (dk (itZ (fD2 T) k s))) = _
      exact Z.tt (dk_in (Z.pm2.it k h))
  · rw [e]
    by_cases c : k + 1 < pd (fD2 T) s
    · exact way_mem.mpr ⟨k + 1, c, .inl rfl⟩
    · refine way_mem.mpr ⟨0, p0, .inl ?_⟩
      have e2 : itZ (fD2 T) (k + 1) s = s := by rw [show k + 1 = pd (fD2 T) s by omega]; exact pe
      exact e2
theorem Lin.ring_self (Z : Lin L T) {s : Int} (h : s ∈ upI 0 (2 * L.length)) : s ∈ ringD T s := way_mem.mpr ⟨0, (Z.pm2.isPer h).1.1, .inl rfl⟩
/-- what is closed under both kinds of lines -/
def Clo (T : Int → Int) (W : List Int) : Prop := ∀ x ∈ W, dk x ∈ W ∧ T x ∈ W
theorem Clo.way (Z : Lin L T) {W : List Int} (C : Clo T W) (hW : ∀ x ∈ W, x ∈ upI 0 (2 * L.length)) {s : Int} (h : s ∈ upI 0 (2 * L.length)) : ∀ m, itZ (fD2 T) m s ∈ W → s ∈ W
  | 0, q => q
  | m + 1, q => by
    have q : T (dk (itZ (fD2 T) m s)) ∈ W := q
    have q2 := (C _ q).2
    rw [Z.tt (dk_in (Z.pm2.it m h))] at q2
    have q3 := (C _ q2).1
    rw [dk_dk] at q3
    exact C.way Z hW h m q3
theorem Clo.ring (Z : Lin L T) {W : List Int} (C : Clo T W) (hW : ∀ x ∈ W, x ∈ upI 0 (2 * L.length)) {s x : Int} (h : s ∈ upI 0 (2 * L.length)) (hx : x ∈ ringD T s) (q : x ∈ W) : s ∈ W := by
  obtain ⟨k, hk, e | e⟩ := way_mem.mp hx
  · rw [e] at q
    exact C.way Z hW h k q
  · rw [e] at q
    have := (C _ q).1
    rw [dk_dk] at this
    exact C.way Z hW h k this
theorem Clo.add (Z : Lin L T) {W : List Int} (C : Clo T W) {s : Int} (h : s ∈ upI 0 (2 * L.length)) : Clo T (W ++ ringD T s) := fun x hx => by
  rcases List.mem_append.mp hx with q | q
  · exact ⟨List.mem_append_left _ (C x q).1, List.mem_append_left _ (C x q).2⟩
  · exact ⟨List.mem_append_right _ (Z.ring_dk h q), List.mem_append_right _ (Z.ring_T h q)⟩
/-- the starts that are taken among 0, 2, .., 2 k - 2 -/
structure Starts (L : List (Int × Int)) (T : Int → Int) (k : Nat) (hs : List Int) : Prop where
  inn : ∀ s ∈ hs, s ∈ upI 0 (2 * L.length) ∧ s < 2 * (k : Int)
  asc : hs.Pairwise (· < ·)
  nd : (hs.flatMap (ringD T)).Nodup
  clo : Clo T (hs.flatMap (ringD T))
  all : ∀ t : Nat, t < k → t < L.length → 2 * (t : Int) ∈ hs.flatMap (ringD T)
  low : ∀ s ∈ hs, ∀ x ∈ ringD T s, s ≤ x
theorem Starts.nil : Starts L T 0 [] := ⟨fun _ h => (by cases h), .nil, List.nodup_nil, fun _ h => (by cases h), fun t h => (by omega), fun _ h => (by cases h)⟩
theorem Starts.sub {k : Nat} {hs : List Int} (Z : Lin L T) (S : Starts L T k hs) : ∀ x ∈ hs.flatMap (ringD T), x ∈ upI 0 (2 * L.length) := fun x hx => by
  obtain ⟨s, h1, h2⟩ := List.mem_flatMap.mp hx
  exact Z.way_in (S.inn s h1).1 h2
theorem Starts.keep {k : Nat} {hs : List Int} (S : Starts L T k hs) (h : 2 * (k : Int) ∈ hs.flatMap (ringD T)) : Starts L T (k + 1) hs :=
  ⟨fun s q => ⟨(S.inn s q).1, by have := (S.inn s q).2; omega⟩, S.asc, S.nd, S.clo, fun t h1 h2 => by
    by_cases c : t = k
    · subst c
      exact h
    · exact S.all t (by omega) h2, S.low⟩
theorem Starts.more {k : Nat} {hs : List Int} (Z : Lin L T) (S : Starts L T k hs) (hk : k < L.length) (h : 2 * (k : Int) ∉ hs.flatMap (ringD T)) : Starts L T (k + 1) (hs ++ [2 * (k : Int)]) := by
  have hin : 2 * (k : Int) ∈ upI 0 (2 * L.length) := up_mem.mpr (by omega)
  have e : (hs ++ [2 * (k : Int)]).flatMap (ringD T) = hs.flatMap (ringD T) ++ ringD T (2 * (k : Int)) := by
    rw [List.flatMap_append, List.flatMap_cons, List.flatMap_nil, List.append_nil]
  have dis : ∀ x ∈ ringD T (2 * (k : Int)), x ∉ hs.flatMap (ringD T) := fun x hx q => h (S.clo.ring Z (S.sub Z) hin hx q)
  refine ⟨fun s q => ?_, ?_, ?_, ?_, fun t h1 h2 => ?_, fun s q x hx => ?_⟩
  · rcases List.mem_append.mp q with q | q
    · exact ⟨(S.inn s q).1, by have := (S.inn s q).2; omega⟩
    · have := List.mem_singleton.mp q
      subst this
      exact ⟨hin, by omega⟩
  · refine List.pairwise_append.mpr ⟨S.asc, List.pairwise_singleton _ _, fun a ha b hb => ?_⟩
    have := List.mem_singleton.mp hb
    subst this
    exact (S.inn a ha).2
  · rw [e]
    exact List.nodup_append.mpr ⟨S.nd, Z.way_nd hin _ (Nat.le_refl _), fun x hx y hy q => dis y hy (q ▸ hx)⟩
  · rw [e]
    exact S.clo.add Z hin
  · rw [e]
    by_cases c : t = k
    · subst c
      exact List.mem_append_right _ (Z.ring_self hin)
    · exact List.mem_append_left _ (S.all t (by omega) h2)
  · rcases List.mem_append.mp q with q | q
    · exact S.low s q x hx
    · have := List.mem_singleton.mp q
      subst this
      have xin := up_mem.mp (Z.way_in hin hx)
      by_cases c : x < 2 * (k : Int)
      · exfalso
        by_cases ev : x % 2 = 0
        · have := S.all (x / 2).toNat (by omega) (by omega)
          rw [show 2 * (((x / 2).toNat : Nat) : Int) = x by omega] at this
          exact dis x hx this
        · have := S.all (x / 2).toNat (by omega) (by omega)
          have e2 : 2 * (((x / 2).toNat : Nat) : Int) = dk x := by
            unfold dk
            rw [if_neg ev]
            omega
          rw [e2] at this
          exact dis _ (Z.ring_dk hin hx) this
      · omega
theorem Starts.perm {hs : List Int} (Z : Lin L T) (S : Starts L T L.length hs) : (hs.flatMap (ringD T)).Perm (upI 0 (2 * L.length)) :=
  (List.perm_ext_iff_of_nodup S.nd (up_nodup _ _)).mpr fun x => ⟨S.sub Z x, fun h => by
    have := up_mem.mp h
    by_cases ev : x % 2 = 0
    · have q := S.all (x / 2).toNat (by omega) (by omega)
      rwa [show 2 * (((x / 2).toNat : Nat) : Int) = x by omega] at q
    · have q := S.all (x / 2).toNat (by omega) (by omega)
      have e2 : 2 * (((x / 2).toNat : Nat) : Int) = dk x := by
        unfold dk
        rw [if_neg ev]
        omega
      rw [e2] at q
      have := (S.clo _ q).1
      rwa [dk_dk] at this⟩
end
end Pu

set_option Elab.async false
set_option linter.all false
set_option maxRecDepth 100000
set_option maxHeartbeats 2000000
/-! any, all; {k: True}; d.update(e); x = e[y.pop()]; is True; xs.count(t) -/
namespace ZG
open PySem PySem.Spec PyProof.Rows L2
def rUpd : V → List V → Hp → VK → Prop := fun x vs H Q => ∃ (d o : Addr) (kvs more : List (L2.Key × V)), x = .ref d ∧ vs = [.ref o] ∧ d ≠ o ∧ H d = some (.dK kvs) ∧ Rd H o (.dK more) ∧ kvs.length + more.length ≤ sizeLine ∧ Q .non (upd H d (.dK (mergeK kvs more)))
theorem mt_upd {X : Cx} : MtR X "dict.update" rUpd := by
  intro pins s σ H x vs v us Q I rx rv h
  obtain ⟨d, o, kvs, more, rfl, rfl, hdo, hd, ho, hz, q⟩ := h
  cases rx
  obtain ⟨u, rfl, ru⟩ := rv.one
  cases ru
  obtain ⟨z1, s1, vs1, rel1, dd1⟩ := dk_of I.hok hd
  obtain ⟨z2, s2, vs2, rel2, dd2⟩ := dk_rd I.hok ho
  refine call_meetsIn PySem.F.slot_dict_update dd1.typeIs PySem.F.entry_dict_update (PySem.F.args_dict_update_2 _ _) (meets_dict_update (mixKind X.prog X.w) d o hdo s2) ⟨vs1, vs2, dd1, dd2, by rw [← rel1.length, ← rel2.length]; exact hz, fun h' dd' do' hs => ?_⟩
  have hl : (mergeK kvs more).length ≤ sizeLine := by have := length_mergeK more kvs; omega
  have he : ∃ q, h'.get? d = some q := let ⟨q, _, _, hq, _⟩ := dd'; ⟨q, hq⟩
  exact ⟨.non, _, d_write I (by rw [hd]; exact True.intro) hs he (dk_new hl s1 (rel2.merge rel1) dd'), rfl, q⟩
theorem mergeK_new : ∀ {more kvs : List (L2.Key × V)}, (∀ p ∈ more, valV kvs p.1 = none) → (more.map (·.1)).Nodup → mergeK kvs more = kvs ++ more
  | [], kvs, _, _ => by
    unfold mergeK
    simp
  | p :: more, kvs, h, nd => by
    have e : mergeK kvs (p :: more) = mergeK (putK kvs p.1 p.2) more := rfl
    rw [List.map_cons, List.nodup_cons] at nd
    have hp := h p List.mem_cons_self
    rw [e, mergeK_new (fun q hq => ?_) nd.2, putK_new p.2 hp, List.append_assoc]
    · rfl
    · rw [valV_put]
      have : q.1 ≠ p.1 := fun z => nd.1 (z ▸ List.mem_map.mpr ⟨q, hq, rfl⟩)
      rw [if_neg this]
      exact h q (List.mem_cons_of_mem _ hq)
/-- xs.count(t), items of any depth -/
def rCountD (K : PySem.W.Frag) : V → List V → Hp → VK → Prop := fun x xs H Q => ∃ (a : Addr) (y : V) (d : PyData) (ds : List PyData), x = V.ref a ∧ xs = [y] ∧ Dp K H (V.ref a) (.list ds) ∧ Dp K H y d ∧
  SeqAt.shaped (.list ds) = true ∧ SeqAt.shaped d = true ∧ Q (.int ((ds.countP fun z => PyData.eqv z d) : Nat)) H
theorem countP_map' {α β : Type} (f : α → β) (p : β → Bool) : ∀ l : List α, (l.map f).countP p = l.countP fun x => p (f x)
  | [] => rfl
  | a :: l => by
    rw [List.map_cons, List.countP_cons, List.countP_cons, countP_map' f p l]
theorem mt_countD {X : Cx} (hu : X.A.units + 65 < cLine) : MtR X "list.count" (rCountD X.K) := by
  intro pins s σ H x xs v us Q I rx rxs h
  obtain ⟨a, y, d, ds, rfl, rfl, hl, hy, sl, sd, q⟩ := h
  cases rx
  cases rxs with
  | cons ry rt =>
    rename_i uy ut
    cases rt
    obtain ⟨bs, r1⟩ := Dp.reads I d y uy hy ry
    have hxs : PyData.canLayAll0 ds = true := SeqAt.canLay_of_shaped sl
    have hroom : X.A.units + 1 + min (PyData.depthAll ds) d.depth < cLine := room_in_shaped sd hu
    cases hl with
    | lst hs ha =>
      obtain ⟨its, rv, ⟨⟨cls, dd, data, sls⟩, n, ho, hc, hdn, hdt⟩, hlen⟩ := I.list hs
      simp only at hc hdt
      subst hc hdt
      obtain ⟨as, h4⟩ := Dp.readsAll I ds _ its ha rv
      have hmap : its.map (SeqAt.readOf s.heap) = ds := SeqAt.readsAll_map ds its as hxs h4
      refine call_meets PySem.F.slot_list_count ⟨_, ho, rfl⟩ PySem.F.entry_list_count (PySem.F.args_list_count_2 _ _)
        (SeqAt.list_countAt a its.toArray n dd sls uy (fun u => PyData.eqv (SeqAt.readOf s.heap u) d)) ⟨ho, SeqAt.items_eqAt (vs := its.toArray) (show ReadsAll s.heap its.toArray.toList ds as from h4) r1 hxs (SeqAt.canLay_of_shaped sd) hroom, ?_⟩
      have ec : its.toArray.toList.countP (fun u => PyData.eqv (SeqAt.readOf s.heap u) d) = ds.countP fun z => PyData.eqv z d := by
        rw [← hmap, countP_map']
      refine ⟨.int ((ds.countP fun z => PyData.eqv z d) : Nat), H, I.tok _, ⟨s.toks, ?_⟩, q⟩
      show Value.int ((its.toArray.toList.countP (fun u => PyData.eqv (SeqAt.readOf s.heap u) d) : Nat) : Int) s.toks = Value.int _ s.toks
      rw [ec]
end ZG
namespace Pu
open PySem PySem.Spec PyProof.Rows L2 ZG
variable [TabL]
section
variable {X : Cx} {M : Nat → Bool} {F : Fx} {E : L2.St → XK} {σ : L2.St} {ρ : Rho} {H H1 H2 : Hp} {S : Addr → Prop} {K : PySem.W.Frag} {la fa lb fb : Bool} {a b : Expr} {f g : Rho → Re PyData} {pos : Pos}
/-! ### any, all -/
def asBools : List PyData → Option (List Bool)
  | [] => some []
  | .bool b :: ds => (asBools ds).map (b :: ·)
  | _ :: _ => none
theorem asBools_map : ∀ bs : List Bool, asBools (bs.map PyData.bool) = some bs
  | [] => rfl
  | b :: bs => by
    rw [List.map_cons]
    show (asBools (bs.map PyData.bool)).map (b :: ·) = _
    rw [asBools_map bs]
    rfl
theorem asBools_eq : ∀ {ds : List PyData} {bs : List Bool}, asBools ds = some bs → ds = bs.map PyData.bool
  | [], bs, h => by
    cases h
    rfl
  | .bool b :: ds, bs, h => by
    obtain ⟨cs, e, rfl⟩ := Option.map_eq_some_iff.mp h
    rw [asBools_eq e]
    rfl
  | .none :: _, _, h => by cases h
  | .int _ :: _, _, h => by cases h
  | .str _ :: _, _, h => by cases h
  | .list _ :: _, _, h => by cases h
  | .tuple _ :: _, _, h => by cases h
  | .dict _ :: _, _, h => by cases h
theorem RpA.of_bools : ∀ {bs : List Bool} {vs : List V}, RpA K H S vs (bs.map PyData.bool) → vs = bs.map V.bl
  | [], _, .nil => rfl
  | b :: bs, _, .cons h1 h2 => by
    cases h1
    rw [RpA.of_bools h2]
    rfl
def bAny : List PyData → Option PyData := fun ds => match ds with | [.list xs] => (asBools xs).map fun bs => .bool (bs.any id) | _ => none
def bAll : List PyData → Option PyData := fun ds => match ds with | [.list xs] => (asBools xs).map fun bs => .bool (bs.all id) | _ => none
theorem s_any : SemL K (rAny K) false bAny := fun S H xs ds z Q new r q k => by
  unfold bAny at q
  split at q
  · rename_i ys
    obtain ⟨bs, e, rfl⟩ := Option.map_eq_some_iff.mp q
    cases r with
    | cons r1 r2 =>
      cases r2
      cases r1 with
      | lst h1 s1 r1 =>
        rw [asBools_eq e] at r1
        rw [RpA.of_bools r1] at h1
        exact ⟨_, bs, rfl, SqL.of h1, k _ H (Same.refl H) (.bl _) fun z => nomatch z⟩
  · cases q
theorem s_all : SemL K (rAll K) false bAll := fun S H xs ds z Q new r q k => by
  unfold bAll at q
  split at q
  · rename_i ys
    obtain ⟨bs, e, rfl⟩ := Option.map_eq_some_iff.mp q
    cases r with
    | cons r1 r2 =>
      cases r2
      cases r1 with
      | lst h1 s1 r1 =>
        rw [asBools_eq e] at r1
        rw [RpA.of_bools r1] at h1
        exact ⟨_, bs, rfl, SqL.of h1, k _ H (Same.refl H) (.bl _) fun z => nomatch z⟩
  · cases q
@[simp] theorem bAny_b (bs : List Bool) : bAny [.list (bs.map PyData.bool)] = some (.bool (bs.any id)) := by
  show (asBools (bs.map PyData.bool)).map _ = _
  rw [asBools_map]
  rfl
@[simp] theorem bAll_b (bs : List Bool) : bAll [.list (bs.map PyData.bool)] = some (.bool (bs.all id)) := by
  show (asBools (bs.map PyData.bool)).map _ = _
  rw [asBools_map]
  rfl
/-! ### is True, is False -/
def oIsB (neg : Bool) : PyData → PyData → Option PyData := fun d e => match d, e with | .bool x, .bool y => some (.bool (if neg then !decide (x = y) else decide (x = y))) | _, _ => none
theorem s_isB : SemB K (fun x y H Q => ∃ a b, x = .bl a ∧ y = .bl b ∧ Q (.bl (decide (a = b))) H) false (oIsB false) := fun S H x y d e z Q new rx ry q k => by
  unfold oIsB at q
  split at q
  · cases q
    cases rx
    cases ry
    exact ⟨_, _, rfl, rfl, k _ H (Same.refl H) (.bl _) fun z => nomatch z⟩
  · cases q
theorem s_isnotB : SemB K (fun x y H Q => ∃ a b, x = .bl a ∧ y = .bl b ∧ Q (.bl (!decide (a = b))) H) false (oIsB true) := fun S H x y d e z Q new rx ry q k => by
  unfold oIsB at q
  split at q
  · cases q
    cases rx
    cases ry
    exact ⟨_, _, rfl, rfl, k _ H (Same.refl H) (.bl _) fun z => nomatch z⟩
  · cases q
@[simp] theorem oIsB_f (x y : Bool) : oIsB false (.bool x) (.bool y) = some (.bool (decide (x = y))) := rfl
@[simp] theorem oIsB_t (x y : Bool) : oIsB true (.bool x) (.bool y) = some (.bool (!decide (x = y))) := rfl
/-! ### {k: v}, v plain data -/
def rDisp (f g : Rho → Re PyData) : Rho → Re PyData := fun ρ => (f ρ).andThen fun d => (g ρ).andThen fun e => match d with | .int n => if imm e = true then .ok (dicD [(.int n, e)]) else .bad | _ => .bad
theorem de_disp (ha : DE X M F E la fa a f) (hb : DE X M F E lb fb b g) : DE X M F E (la || lb) true (.Dict [some a] [b] pos) (rDisp f g) := by
  obtain ⟨ta, pa, ha⟩ := ha
  obtain ⟨tb, pb, hb⟩ := hb
  refine ⟨_, pe_disp (pps_cons pa pb pps_nil) (by rfl) (by rfl) (fun z => by cases z) (Nat.le_of_ble_eq_true rfl), fun σ H ρ er Q w => ?_⟩
  intro p hp
  have s0 : Same H (upd H p (.dK [])) := same_new hp
  have er0 := er.same s0
  unfold rDisp at w
  refine ha σ _ ρ er0 _ ?_
  cases qf : f ρ with
  | ex c =>
    rw [qf] at w
    exact fun C H' m s => w C H' m (s0.trans s)
  | bad =>
    rw [qf] at w
    exact w.elim
  | ok d =>
    rw [qf] at w
    refine fun v H1 s1 r1 _ => ?_
    refine hb σ H1 ρ (er0.same s1) _ ?_
    cases qg : g ρ with
    | ex c =>
      rw [qg] at w
      exact fun C H' m s => w C H' m ((s0.trans s1).trans s)
    | bad =>
      rw [qg] at w
      exact w.elim
    | ok e =>
      rw [qg] at w
      refine fun u H2 s2 r2 _ => ?_
      cases r1 with
      | int n =>
        have w : WE X M F E (la || lb) true σ ρ H (if imm e = true then .ok (dicD [(.int n, e)]) else .bad) Q := w
        by_cases c : imm e = true
        · rw [if_pos c] at w
          have h2p : H2 p = some (.dK []) := s2 _ _ (s1 _ _ upd_same)
          have s02 : Same H H2 := (s0.trans s1).trans s2
          have s03 : Same H (upd H2 p (.dK [((Sum.inl n : L2.Key), u)])) := s02.put hp h2p plain_dK
          have ru : ∀ S' : Addr → Prop, Rp X.K (upd H2 p (.dK [((Sum.inl n : L2.Key), u)])) S' u e := fun S' => by
            have r0 : Rp X.K H2 (fun _ => False) u e := r2.noAddr c
            have r3 := r0.keep (S' := fun _ => False) (H' := upd H2 p (.dK [((Sum.inl n : L2.Key), u)])) ⟨fun x o q z _ => by
              rcases z with z | z
              · exact z.elim
              · have : x ≠ p := fun y => by
                  rw [y, h2p] at q
                  cases q
                  exact z trivial
                rw [upd_ne this]
                exact q⟩ fun _ _ z _ _ => z
            exact r3.wide fun _ z => z.elim
          refine ⟨h2p, [((Sum.inl n : L2.Key), u)], rfl, Nat.le_of_ble_eq_true rfl, ?_⟩
          have m : mergeK [] [((Sum.inl n : L2.Key), u)] = [((Sum.inl n : L2.Key), u)] := rfl
          rw [m]
          refine w (.ref p) _ s03 (.dic (ks := [Sum.inl n]) (xs := [u]) (ds := [e]) upd_same ?_ rfl (.cons (ru _) .nil)) fun _ => ⟨p, rfl, hp, .dic (ks := [Sum.inl n]) (xs := [u]) (ds := [e]) upd_same rfl (.cons (ru _) .nil)⟩
          exact er.freshS p hp
        · rw [if_neg c] at w
          exact w.elim
      | bl _ => exact w.elim
      | non => exact w.elim
      | str _ => exact w.elim
      | tup _ _ => exact w.elim
      | lst _ _ _ => exact w.elim
      | scr _ _ => exact w.elim
      | dic _ _ _ _ => exact w.elim
      | dit _ _ _ _ => exact w.elim
      | dif _ _ _ => exact w.elim
      | rng _ => exact w.elim
      | dct _ _ _ _ => exact w.elim
/-! ### x = a new list, whose items hold no address -/
def sSetF (i : Nat) (f : Rho → Re PyData) : Rho → Sr := fun ρ => (f ρ).st ρ fun d => if itemsImm d = true then .nx (ρ.set i (some d)) else .bad
theorem ds_setF {i : Nat} {x : Str} {pos' : Pos} (m : M i = false) (hN : X.N.Nodup) (h : DE X M F E la true a f) (hi : X.N[i]? = some x := by rfl) (hx : Loc X.env.scope x := by first | exact Or.inl rfl | exact Or.inr rfl)
    (hs : swapsWith a (some (.Name x pos')) pos.line X.env = pure false := by rfl) (hw : swappedStores [.Name x pos'] a X.env = pure none := by rfl) (hf : X.fn x = true ∨ X.env.scope.names.lookup x = some .local := by first | exact .inl rfl | exact .inr rfl) :
    DS X M F E (.Assign [.Name x pos'] a pos) (sSetF i f) := by
  obtain ⟨t, p, h⟩ := h
  refine ⟨_, ps_asg p (pg_name hN hi hx hf) hs hw, fun σ H ρ er D w => ?_⟩
  refine h σ H ρ er _ (ws_step er w fun d v H1 e sm r fr w1 => ?_)
  by_cases hd : itemsImm d = true
  · rw [if_pos hd] at w1
    obtain ⟨pp, rfl, hp, ow⟩ := fr rfl
    have r' : Rp X.K H1 (RS M F σ ρ false) (.ref pp) d := (ow.noAddr (S' := RS M F σ ρ false) hd).rp (er.freshS pp hp)
    exact w1 _ H1 ((er.same sm).set m r') fun a u q n _ => ⟨q, fun o => n ((own_set m).mp o)⟩
  · rw [if_neg hd] at w1
    exact w1.elim
@[simp] theorem ap_sSetF (i : Nat) (f : Rho → Re PyData) : sSetF i f ρ = (f ρ).st ρ fun d => if itemsImm d = true then .nx (ρ.set i (some d)) else .bad := rfl
/-! ### d.update(e), e new keys -/
def keysNew (kvs more : List (PyData × PyData)) : Bool := match keysOf more with | some ns => decide ns.Nodup && ns.all (fun n => (lookI kvs n).isNone) | none => false
def sUpd (i : Nat) (f : Rho → Re PyData) : Rho → Sr := fun ρ => match ρ[i]? with
  | some (some dd) => (match kvsOf dd with
    | some kvs => (f ρ).st ρ fun e => (match kvsOf e with
      | some more => if okLen (kvs.length + more.length) = true ∧ keysNew kvs more = true then .nx (ρ.set i (some (dicD (kvs ++ more)))) else .bad
      | none => .bad)
    | none => .bad)
  | _ => .bad
theorem zip_fstK {ks : List L2.Key} {xs : List V} (h : ks.length = xs.length) : (ks.zip xs).map (·.1) = ks := zip_fst ks xs h
theorem upd_run {pp : Addr} {ks ks2 : List L2.Key} {xs xs2 : List V} {ds ds2 : List PyData} (l : ks.length = xs.length) (r : RpA K H S xs ds) (l2 : ks2.length = xs2.length) (r2 : RpA K H S xs2 ds2)
    (h : keysNew ((ks.map kD).zip ds) ((ks2.map kD).zip ds2) = true) : mergeK (ks.zip xs) (ks2.zip xs2) = (ks ++ ks2).zip (xs ++ xs2) := by
  unfold keysNew at h
  split at h
  · rename_i ns e
    rw [Bool.and_eq_true, decide_eq_true_eq] at h
    obtain ⟨nd, hn⟩ := h
    unfold keysOf at e
    rw [zip_fst _ _ (by rw [List.length_map, l2, r2.length])] at e
    have ek := ints_keys (asInts_eq e)
    rw [List.zip_append l]
    refine mergeK_new (fun p hp => ?_) ?_
    · have hp1 : p.1 ∈ ks2 := by
        rw [← zip_fstK l2]
        exact List.mem_map.mpr ⟨p, hp, rfl⟩
      rw [ek] at hp1
      obtain ⟨n, hn', e'⟩ := List.mem_map.mp hp1
      have q := List.all_eq_true.mp hn n hn'
      have lo := look_of n l r
      rw [Option.isNone_iff_eq_none] at q
      rw [q] at lo
      rw [← e']
      exact lo
    · rw [zip_fstK l2, ek]
      exact List.Pairwise.map _ (fun a b h z => h (Sum.inl.inj z)) nd
  · cases h
theorem ds_upd {i : Nat} {x : Str} {p1 p2 p3 : Pos} (m : M i = true) (h : DE X M F E false fa a f) (hN : X.N[i]? = some x := by rfl) (hv : Vis X.env.scope x := by first | exact Or.inl rfl | exact Or.inr (Or.inl rfl) | exact Or.inr (Or.inr rfl)) (hd : (x == ("__debug__" : Str)) = false := by decide)
    (hcd : (x == ("__classdict__" : Str)) = false := by decide)
    (hs : swapsWith (.Call (.Attribute (.Name x p1) "update" p2) [a] [] p3) none pos.line X.env = pure false := by rfl) (hbase : attributeBase (.Name x p1) "update" X.env (eval (.Name x p1) X.env) = eval (.Name x p1) X.env := by rfl)
    (hfew : ((backTo p3 (starEach (a :: []) X.env)).all (fun x => !x.1) && (backToKw p3 (keywordEach [] X.env)).all (fun x => x.1.isSome)
      && decide ((a :: ([] : List Expr)).length + ([] : List Keyword).length + (if ([] : List Keyword).isEmpty then 0 else 1) < 30)) = true := by rfl)
    (hline : (p2.endLine == p3.line) = true := by rfl) (hst : starEach (a :: []) X.env = (false, eval a X.env) :: starEach [] X.env := by rfl) (hplain : (backTo p3 (starEach [] X.env)).any (·.1) = false := by rfl) :
    DS X M F E (.Expr (.Call (.Attribute (.Name x p1) "update" p2) [a] [] p3) pos) (sUpd i f) := by
  obtain ⟨t, pa, h⟩ := h
  refine ⟨_, ps_expr (pe_bm PySem.F.plainAttrs_dict PySem.F.slot_dict_update PySem.F.type_dict_update mt_upd (pe_var hN hv hd hcd) (pa_cons pa pa_nil hst) hbase hfew hline hst hplain) hs, fun σ H ρ er D w => ?_⟩
  unfold sUpd at w
  cases q : ρ[i]? with
  | none =>
    rw [q] at w
    exact w.elim
  | some o =>
    cases o with
    | none =>
      rw [q] at w
      exact w.elim
    | some dd =>
      rw [q] at w
      obtain ⟨pp, sp, _, w0⟩ := er.ow i dd q m
      cases qk : kvsOf dd with
      | none =>
        simp only [qk] at w
        exact w.elim
      | some kvs =>
        simp only [qk] at w
        obtain ⟨pp', ks, xs, ds, sp', hx, l, rr, ek⟩ := er.dicO m q qk
        rw [sp] at sp'
        cases sp'
        refine ⟨.ref pp, sp, .inr (.inr (.inl ⟨rfl, .inl ⟨_, hx⟩⟩)), ?_⟩
        refine h σ H ρ er _ (ws_step er w fun e u H1 e1 s1 r1 _ w1 => ?_)
        have er1 := er.same s1
        have hx1 := s1 _ _ hx
        cases qe : kvsOf e with
        | none =>
          rw [qe] at w1
          exact w1.elim
        | some more =>
          rw [qe] at w1
          have w1 : WS X M F E σ H1 ρ (if okLen (kvs.length + more.length) = true ∧ keysNew kvs more = true then .nx (ρ.set i (some (dicD (kvs ++ more)))) else .bad) D := w1
          by_cases c : okLen (kvs.length + more.length) = true ∧ keysNew kvs more = true
          · rw [if_pos c] at w1
            obtain ⟨a2, ks2, xs2, ds2, rfl, l2, rr2, em, rd2, ne⟩ : ∃ (a2 : Addr) (ks2 : List L2.Key) (xs2 : List V) (ds2 : List PyData), u = .ref a2 ∧ ks2.length = xs2.length ∧ RpA X.K H1 (RS M F σ ρ false) xs2 ds2 ∧ more = (ks2.map kD).zip ds2 ∧ Rd H1 a2 (.dK (ks2.zip xs2)) ∧ pp ≠ a2 := by
              cases r1 with
              | dic h1 h2 h3 h4 =>
                cases qe
                exact ⟨_, _, _, _, rfl, h3, h4, rfl, .inl h1, fun z => h2.2 rfl ⟨i, dd, m, q, z ▸ sp⟩⟩
              | dif h1 h3 h4 =>
                cases qe
                exact ⟨_, _, _, _, rfl, h3, h4, rfl, .inr ⟨_, h1⟩, fun z => by
                  rw [← z, hx1] at h1
                  cases h1⟩
              | scr _ _ => cases qe
              | rng _ => cases qe
              | dct _ _ _ _ => cases qe
              | dit _ _ _ _ => cases qe
              | bl _ => cases qe
              | non => cases qe
              | int _ => cases qe
              | str _ => cases qe
              | tup _ _ => cases qe
              | lst _ _ _ => cases qe
            have rr1 := rr.same s1
            have hl1 := rr1.length
            have hl2 := rr2.length
            have hlen : (ks.zip xs).length + (ks2.zip xs2).length ≤ sizeLine := by
              have := okLen_le c.1
              rw [ek, em, zip_len l hl1, zip_len l2 hl2] at this
              exact this
            have hm := upd_run (pp := pp) l rr1 l2 rr2 (by rw [← ek, ← em]; exact c.2)
            have ed : dicD (kvs ++ more) = .dict ((.bool true, .none) :: ((ks ++ ks2).map kD).zip (ds ++ ds2)) := by
              rw [ek, em, List.map_append, List.zip_append (by rw [List.length_map, l, hl1])]
              rfl
            have rA := rr1.append rr2
            obtain ⟨er3, ev3⟩ := er1.put (o := .dK ((ks ++ ks2).zip (xs ++ xs2))) (d' := dicD (kvs ++ more)) m q sp (by
              rw [ed]
              refine .dic upd_same (by rw [List.length_append, List.length_append, l, l2]) (rA.keep ⟨fun a u qa xa _ => ?_⟩ fun _ _ x _ _ => x)
              rw [upd_ne]
              · exact qa
              · intro za
                subst za
                rcases xa with xa | xa
                · exact xa.2 rfl ⟨i, dd, m, q, sp⟩
                · rw [hx1] at qa
                  cases qa
                  exact xa trivial)
            refine ⟨pp, a2, _, _, rfl, rfl, ne, hx1, rd2, hlen, ?_⟩
            rw [hm]
            exact w1 σ _ er3 ev3
          · rw [if_neg c] at w1
            exact w1.elim
/-! ### x = e[y.pop()] -/
def sIxPop (i j : Nat) (f : Rho → Re PyData) : Rho → Sr := fun ρ => (f ρ).st ρ fun d => match getL ρ j with
  | some es => (match es.getLast? with
    | some y => if i ≠ j then (match oIx d y with | some z => .nx ((ρ.set j (some (.list es.dropLast))).set i (some z)) | none => .bad) else .bad
    | none => .bad)
  | none => .bad
theorem RpA.dropLast {vs : List V} {ds : List PyData} (r : RpA K H S vs ds) : RpA K H S vs.dropLast ds.dropLast := by
  rw [List.dropLast_eq_take, List.dropLast_eq_take, r.length]
  exact r.take _
theorem ds_ixPop {i j : Nat} {x y : Str} {p0 q1 q2 q3 p4 : Pos} (m : M i = false) (mj : M j = true) (hNd : X.N.Nodup) (h : DE X M F E false fa a f) (hi : X.N[i]? = some x := by rfl) (hx : Loc X.env.scope x := by first | exact Or.inl rfl | exact Or.inr rfl)
    (hNy : X.N[j]? = some y := by rfl) (hvy : Vis X.env.scope y := by first | exact Or.inl rfl | exact Or.inr (Or.inl rfl) | exact Or.inr (Or.inr rfl)) (hdy : (y == ("__debug__" : Str)) = false := by decide) (hcdy : (y == ("__classdict__" : Str)) = false := by decide)
    (hbase2 : attributeBase (.Name y q1) "pop" X.env (eval (.Name y q1) X.env) = eval (.Name y q1) X.env := by rfl) (hline2 : (q2.endLine == q3.line) = true := by rfl)
    (hpl : PlainIx (.Call (.Attribute (.Name y q1) "pop" q2) [] [] q3) := by intro _ _; rfl)
    (hs : swapsWith (.Subscript a (.Call (.Attribute (.Name y q1) "pop" q2) [] [] q3) p4) (some (.Name x p0)) pos.line X.env = pure false := by rfl) (hw : swappedStores [.Name x p0] (.Subscript a (.Call (.Attribute (.Name y q1) "pop" q2) [] [] q3) p4) X.env = pure none := by rfl)
    (hf : X.fn x = true ∨ X.env.scope.names.lookup x = some .local := by first | exact .inl rfl | exact .inr rfl) :
    DS X M F E (.Assign [.Name x p0] (.Subscript a (.Call (.Attribute (.Name y q1) "pop" q2) [] [] q3) p4) pos) (sIxPop i j f) := by
  obtain ⟨t, pa, h⟩ := h
  refine ⟨_, ps_asg (pe_ix ix_seq pa (pe_bm0 PySem.F.plainAttrs_list PySem.F.slot_list_pop PySem.F.type_list_pop mt_pop (pe_var hNy hvy hdy hcdy) hbase2 hline2) hpl) (pg_name hNd hi hx hf) hs hw, fun σ H ρ er D w => ?_⟩
  refine h σ H ρ er _ (ws_step er w fun d v H1 e s1 r _ w1 => ?_)
  have er1 := er.same s1
  cases hl2 : getL ρ j with
  | none =>
    rw [hl2] at w1
    exact w1.elim
  | some es =>
    rw [hl2] at w1
    obtain ⟨qq, ys, hs2, hy, ry⟩ := er1.lst mj hl2
    cases hg : es.getLast? with
    | none =>
      simp only [hg] at w1
      exact w1.elim
    | some yd =>
      simp only [hg] at w1
      by_cases hij : i ≠ j
      · rw [if_pos hij] at w1
        have hel : es[es.length - 1]? = some yd := by rw [← List.getLast?_eq_getElem?]; exact hg
        obtain ⟨yv, hyv, ryv⟩ := ry.get' hel
        rw [← ry.length] at hyv
        cases hz : oIx d yd with
        | none =>
          rw [hz] at w1
          exact w1.elim
        | some z =>
          rw [hz] at w1
          obtain ⟨er2, ev2⟩ := er1.putL mj hl2 hs2 hy ry.dropLast
          refine ⟨.ref qq, hs2, sq_l hy, qq, ys, yv, rfl, rfl, hy, hyv, ?_⟩
          have r2 := r.keep (Evo.kp er1 ev2) fun a u x q n => Evo.rs ev2 a u x q n
          have ryv2 := ryv.keep (Evo.kp er1 ev2) fun a u x q n => Evo.rs ev2 a u x q n
          refine s_ix (RS M F σ (ρ.set j (some (.list es.dropLast))) false) _ v yv d yd z _ er2.freshS r2 ryv2 hz fun v' H' s' r' _ => ?_
          have er3 := er2.same s'
          refine w1 _ H' (er3.set m r') (ev2.trans ((Evo.same s').trans fun a u q n _ => ⟨q, fun o => n ((own_set m).mp o)⟩))
      · rw [if_neg hij] at w1
        exact w1.elim
/-! ### xs.count(t) -/
def oCntD : PyData → List PyData → Option PyData := fun d es => match d, es with
  | .list ds, [e] => if SeqAt.shaped (.list ds) = true ∧ SeqAt.shaped e = true then some (.int ((ds.countP fun z => PyData.eqv z e) : Nat)) else none
  | _, _ => none
theorem ru65 {k : Nat} {A : Around} (r : Room k A) : A.units + 65 < cLine := by
  have := r.un
  omega
theorem de_cntL {es : List Expr} {gs : Rho → Re (List PyData)} {p2 : Pos} (hu : X.A.units + 65 < cLine) (ha : DE X M F E la fa a f) (hb : DA X M F E lb (b :: es) gs)
    (hbase : attributeBase a "count" X.env (eval a X.env) = eval a X.env := by rfl)
    (hfew : ((backTo pos (starEach (b :: es) X.env)).all (fun x => !x.1) && (backToKw pos (keywordEach [] X.env)).all (fun x => x.1.isSome)
      && decide ((b :: es).length + ([] : List Keyword).length + (if ([] : List Keyword).isEmpty then 0 else 1) < 30)) = true := by rfl)
    (hline : (p2.endLine == pos.line) = true := by rfl) (hs : starEach (b :: es) X.env = (false, eval b X.env) :: starEach es X.env := by rfl) (hplain : (backTo pos (starEach es X.env)).any (·.1) = false := by rfl) :
    DE X M F E false false (.Call (.Attribute a "count" p2) (b :: es) [] pos) (rMethL oCntD f gs) := by
  obtain ⟨ta, pa, ha⟩ := ha
  obtain ⟨tb, pb, hb⟩ := hb
  refine ⟨_, pe_bm PySem.F.plainAttrs_list PySem.F.slot_list_count PySem.F.type_list_count (mt_countD hu) pa pb hbase hfew hline hs hplain, fun σ H ρ er Q w => ?_⟩
  refine ha σ H ρ er _ (we_step w fun d v H1 e1 s1 r1 _ w1 => ?_)
  have er1 := er.same s1
  cases r1 with
  | lst h1 hS rr =>
    rename_i aa xs ds0 _
    refine ⟨sq_l h1, hb σ H1 ρ er1 _ (we_stepA (lk' := lb) w1 fun ds vs H2 e2 s2 r2 w2 => ?_)⟩
    have h2 := s2 _ _ h1
    have rr2 := rr.same s2
    have w2 : WE X M F E false false σ ρ H2 (liftO (oCntD (.list ds0) ds)) Q := w2
    generalize q : oCntD (.list ds0) ds = oo at w2
    cases oo with
    | none => exact w2.elim
    | some z =>
      unfold oCntD at q
      split at q
      · rename_i ds1 e hh
        cases hh
        obtain ⟨hc, rfl⟩ := if_some q
        cases r2 with
        | cons r2 r3 =>
          cases r3
          have rl : Rp X.K H2 (RS M F σ ρ la) (.ref aa) (.list ds0) := .lst h2 hS rr2
          exact ⟨_, _, e, ds0, rfl, rfl, rl.dp hc.1, r2.dp hc.2, hc.1, hc.2, w2 _ H2 (Same.refl _) (.int _) fun z => nomatch z⟩
      · cases q
  | bl _ => exact w1.elim
  | non => exact w1.elim
  | int _ => exact w1.elim
  | str _ => exact w1.elim
  | tup _ _ => exact w1.elim
  | scr _ _ => exact w1.elim
  | dic _ _ _ _ => exact w1.elim
  | dit _ _ _ _ => exact w1.elim
  | dif _ _ _ => exact w1.elim
  | rng _ => exact w1.elim
  | dct _ _ _ _ => exact w1.elim
end
end Pu

set_option Elab.async false
set_option linter.all false
set_option maxRecDepth 100000
set_option maxHeartbeats 2000000
/-! sorted(d) of any number of whole keys; t in ts, items of any depth; what is not looked at -/
namespace ZG
open PySem PySem.Spec PyProof.Rows L2
theorem call_sortedDL {X : Cx} (hcalm : X.calm = true) : CallR X (.builtin "sorted") (fun xs H Q => ∃ (a : Addr) (kvs : List (L2.Key × V)) (ks : List Int), xs = [.ref a] ∧ Rd H a (.dK kvs) ∧ kvs.map (·.1) = ks.map Sum.inl ∧
    ∀ (ys : List Int) (p : Addr), ys.Perm ks → ys.Pairwise (· ≤ ·) → H p = none → Q (.ref p) (upd H p (.lst (ys.map V.int)))) := by
  intro pins s σ H xs us Q I r q
  obtain ⟨a, kvs, ks, ex, hd, hks, q⟩ := q
  subst ex
  rw [Vals.ref1 r]
  obtain ⟨z, lo, vs, rel, dd⟩ := dk_rd I.hok hd
  obtain ⟨ep, hat⟩ := dd.dictAt
  have hkeys : vs.map (·.1) = ks.map Sum.inl := rel.keys.symm.trans hks
  have hl : vs.length = ks.length := by
    have e := congrArg List.length hkeys
    rw [List.length_map, List.length_map] at e
    exact e
  have h16 : vs.length ≤ sizeLine := by rw [← rel.length]; exact z
  refine Calls.call_function_entry PyProof.Rows.kind_sorted PyProof.Rows.plain_sorted PyProof.Rows.entry_sorted (PyProof.Rows.args_sorted1 _) ?_
  unfold Builtin.«sorted»
  refine wpAny_bind (m := checkCount "sorted" 1 1 _) (wpAny_pure ?_)
  refine wpAny_bind (PySem.W.kdu_collect (A := X.A.in1) (PySem.W.kdl_dict (knd := mixKind X.prog X.w) (kvs := vs) (ep := ep) lo) (I.ok.hd hcalm) hat h16 fun h' tk acc hk hacc => ?_)
  have hal : acc.toList.length = ks.length := by rw [Array.length_toList, hacc.1, hl]
  have hS : IntsAre acc.toList ks := ints_each hal fun j v e => by
    obtain ⟨k, x, e1, e2⟩ := hacc.2 j v (by rw [← Array.getElem?_toList]; exact e)
    have e3 : (vs.map (·.1))[j]? = some k := by rw [List.getElem?_map, e1]; rfl
    rw [hkeys, List.getElem?_map] at e3
    cases e4 : ks[j]? with
    | none => rw [e4] at e3; cases e3
    | some y =>
      rw [e4] at e3
      have e5 : Sum.inl y = k := Option.some.inj e3
      subst e5
      rcases keyIs_shape (show keyIs (Sum.inl y) v = true from e2) with ⟨i, t, ek, ev⟩ | ⟨z, t, ek, ev⟩
      · cases ek
        exact ⟨y, t, rfl, ev⟩
      · cases ek
  have I1 : Inv X pins σ H { s with heap := h', toks := tk } := I.kept hk
  have hz2 : acc.toList.length ≤ sizeLine := by rw [hal, ← hl]; exact h16
  refine wpAny_bind (wpAny_newList ?_ hz2)
  have hoL : (h'.push (seqObj "list" acc.toList.toArray 0)).get? h'.objs.size = some (seqObj "list" acc.toList.toArray 0) := Heap.get?_push_size _ rfl
  show wpAny _ _ _ _ _ { s with heap := h'.push (seqObj "list" acc.toList.toArray 0), toks := tk }
  refine wpAny_bind (wpAny_holding (wpAny_call_entry PyProof.Rows.slot_list_sort ⟨_, hoL, rfl⟩ PyProof.Rows.entry_list_sort
    (SrtO.list_sort_ord (s := { s with heap := h'.push (seqObj "list" acc.toList.toArray 0), toks := tk }) SrtO.swo_int hoL hz2 (fun h2 => SrtO.ints_sortable hS h2) fun out h1 h2 => ⟨_, rfl, ?_⟩) (PyProof.Rows.args_list_sort _)))
  obtain ⟨k1, k2, k3⟩ := SrtO.ints_out hS h1 h2
  obtain ⟨e', he'⟩ := PyProof.Rows.sortedHeap_at (vs := acc.toList) (out := out.toArray) hoL
  have hlen : ((out.map SrtO.iv).map V.int).length ≤ sizeLine := by
    rw [List.length_map, k2.length_eq, ← hl]
    exact h16
  refine wpAny_pure ⟨_, rfl, .ref h'.objs.size, upd H h'.objs.size (.lst ((out.map SrtO.iv).map V.int)), I1.laid (t' := tk) (fun b u e => ?_) (Nat.le_refl _)
    (show ObjOk X.prog X.w _ _ _ (.lst ((out.map SrtO.iv).map V.int)) from ⟨hlen, out, e', vals_of_ints k1, he'⟩), rfl, q _ _ k2 k3 (I1.hok.fresh (Nat.le_refl _))⟩
  have hb : b < h'.objs.size := Heap.lt_size e
  rw [PyProof.Rows.sortedHeap_old (Nat.ne_of_lt hb) (by rw [size_push']; exact Nat.lt_succ_of_lt hb)]
  exact Heap.get?_push_of_some _ e
def rInZ (neg : Bool) (K : PySem.W.Frag) : R2 := fun x y H Q => ∃ d ds, Dp K H x d ∧ (Dp K H y (.list ds) ∨ Dp K H y (.tuple ds)) ∧ SeqAt.shaped d = true ∧ SeqAt.shaped (.list ds) = true ∧ Q (.bl (if neg = true then !ds.any fun z => PyData.eqv z d else ds.any fun z => PyData.eqv z d)) H
theorem op_inZ {X : Cx} (hu : X.A.units + 65 < cLine) : OpR X (compareOp .In) (rInZ false X.K) := by
  intro pins s σ H x y v u Q I rx ry h
  obtain ⟨d, ds, hd, he, sd, se, q⟩ := h
  obtain ⟨as, r1⟩ := Dp.reads I d x v hd rx
  rcases he with he | he
  · obtain ⟨bs, r2⟩ := Dp.reads I (.list ds) y u he ry
    exact SeqAt.in_list_reads r2 r1 (SeqAt.canLay_of_shaped se) (SeqAt.canLay_of_shaped sd) (room_in_shaped sd hu) ⟨.bl _, H, I, rfl, q⟩
  · obtain ⟨bs, r2⟩ := Dp.reads I (.tuple ds) y u he ry
    exact SeqAt.in_tuple_reads r2 r1 (SeqAt.canLay_of_shaped se) (SeqAt.canLay_of_shaped sd) (room_in_shaped sd hu) ⟨.bl _, H, I, rfl, q⟩
theorem op_notInZ {X : Cx} (hu : X.A.units + 65 < cLine) : OpR X (compareOp .NotIn) (rInZ true X.K) := by
  intro pins s σ H x y v u Q I rx ry h
  obtain ⟨d, ds, hd, he, sd, se, q⟩ := h
  obtain ⟨as, r1⟩ := Dp.reads I d x v hd rx
  rcases he with he | he
  · obtain ⟨bs, r2⟩ := Dp.reads I (.list ds) y u he ry
    exact SeqAt.notIn_list_reads r2 r1 (SeqAt.canLay_of_shaped se) (SeqAt.canLay_of_shaped sd) (room_in_shaped sd hu) ⟨.bl _, H, I, rfl, q⟩
  · obtain ⟨bs, r2⟩ := Dp.reads I (.tuple ds) y u he ry
    exact SeqAt.notIn_tuple_reads r2 r1 (SeqAt.canLay_of_shaped se) (SeqAt.canLay_of_shaped sd) (room_in_shaped sd hu) ⟨.bl _, H, I, rfl, q⟩
end ZG
namespace Pu
open PySem PySem.Spec PyProof.Rows L2 ZG
variable [TabL]
section
variable {X : Cx} {M : Nat → Bool} {F : Fx} {E : L2.St → XK} {ρ : Rho} {K : PySem.W.Frag} {H : Hp} {la fa lb fb : Bool} {a b : Expr} {f g : Rho → Re PyData} {pos : Pos}
def bSortL : List PyData → Option PyData := fun ds => match ds with
  | [d] => (kvsOf d).bind fun kvs => (keysOf kvs).bind fun ns => some (.list ((srtZ ns).map PyData.int))
  | _ => none
theorem s_sortL : SemL K (fun xs H Q => ∃ (a : Addr) (kvs : List (L2.Key × V)) (ks : List Int), xs = [.ref a] ∧ Rd H a (.dK kvs) ∧ kvs.map (·.1) = ks.map Sum.inl ∧
    ∀ (ys : List Int) (p : Addr), ys.Perm ks → ys.Pairwise (· ≤ ·) → H p = none → Q (.ref p) (upd H p (.lst (ys.map V.int)))) true bSortL := fun S H xs ds z Q new r q k => by
  unfold bSortL at q
  split at q
  · obtain ⟨kvs, q1, q⟩ := Option.bind_eq_some_iff.mp q
    obtain ⟨ns, q2, q⟩ := Option.bind_eq_some_iff.mp q
    cases q
    cases r with
    | cons r1 r2 =>
      cases r2
      obtain ⟨a, ks, xs, rfl, hr, hk⟩ := dic_in r1 q1 q2
      refine ⟨a, _, ns, rfl, hr, hk, fun ys p hp hs hn => ?_⟩
      have e := srtZ_uniq hp hs
      subst e
      exact k _ _ (same_new hn) (.lst upd_same (new _ hn) (RpA.ints _)) fun _ => ⟨p, rfl, hn, .lst upd_same (RpA.ints _)⟩
  · cases q
def oInZ (neg : Bool) : PyData → PyData → Option PyData := fun d e => match e with
  | .list ds => if SeqAt.shaped d = true ∧ SeqAt.shaped (.list ds) = true then some (.bool (if neg = true then !ds.any fun z => PyData.eqv z d else ds.any fun z => PyData.eqv z d)) else none
  | .tuple ds => if SeqAt.shaped d = true ∧ SeqAt.shaped (.list ds) = true ∧ SeqAt.shaped (.tuple ds) = true then some (.bool (if neg = true then !ds.any fun z => PyData.eqv z d else ds.any fun z => PyData.eqv z d)) else none
  | _ => none
theorem s_inZ (neg : Bool) : SemB K (rInZ neg K) false (oInZ neg) := fun S H x y d e z Q new rx ry q k => by
  unfold oInZ at q
  split at q
  · obtain ⟨h, rfl⟩ := if_some q
    exact ⟨d, _, rx.dp h.1, .inl (ry.dp h.2), h.1, h.2, k _ H (Same.refl H) (.bl _) fun z => nomatch z⟩
  · obtain ⟨h, rfl⟩ := if_some q
    exact ⟨d, _, rx.dp h.1, .inr (ry.dp h.2.2), h.1, h.2.1, k _ H (Same.refl H) (.bl _) fun z => nomatch z⟩
  · cases q
/-- a piece that nothing is said of -/
def rBad : Rho → Re PyData := fun _ => .bad
theorem de_bad {e : Expr} {lk fr : Bool} : DE X M F E lk fr e rBad := ⟨fun _ _ _ => False, ⟨fun _ _ _ _ _ _ h => h.elim⟩, fun _ _ _ _ _ w => w.elim⟩
def sBad : Rho → Sr := fun _ => .bad
theorem ds_bad {st : Stmt} : DS X M F E st sBad := ⟨fun _ _ _ => False, ⟨fun _ _ _ _ _ _ h => h.elim⟩, fun _ _ _ _ _ w => w.elim⟩
end
end Pu

set_option Elab.async false
set_option linter.all false
set_option maxRecDepth 100000
set_option maxHeartbeats 4000000
/-! signings of a plain row -/
namespace Pu
open PySem PySem.Spec PyProof.Rows L2
variable [TabL]
def ext1 (acc : List (List Int)) (p : Int) : List (List Int) := acc.flatMap fun a => [a ++ [p], a ++ [-p]]
def sgF (row : List Int) : List (List Int) := row.foldl ext1 [[]]
def wsZ : List Int → Int → List Int
  | [], _ => []
  | p :: r, s => (if s % 2 = 0 then p else -p) :: wsZ r (s / 2)
theorem wsZ_len : ∀ (r : List Int) (s : Int), (wsZ r s).length = r.length
  | [], _ => rfl
  | p :: r, s => by
    show (wsZ r (s / 2)).length + 1 = r.length + 1
    rw [wsZ_len r]
theorem ext1_len (acc : List (List Int)) (p : Int) : (ext1 acc p).length = 2 * acc.length := by
  unfold ext1
  induction acc with
  | nil => rfl
  | cons a acc ih =>
    rw [List.flatMap_cons, List.length_append, ih, List.length_cons]
    simp
    omega
theorem fold_len : ∀ (r : List Int) (acc : List (List Int)), (r.foldl ext1 acc).length = 2 ^ r.length * acc.length
  | [], acc => by simp
  | p :: r, acc => by
    rw [List.foldl_cons, fold_len r, ext1_len, List.length_cons, Nat.pow_succ, Nat.mul_assoc]
theorem mem_fold : ∀ (r : List Int) (acc : List (List Int)) (x : List Int), x ∈ r.foldl ext1 acc ↔ ∃ a ∈ acc, ∃ s : Nat, s < 2 ^ r.length ∧ x = a ++ wsZ r (s : Int)
  | [], acc, x => by
    constructor
    · intro h
      exact ⟨x, h, 0, by simp, by simp [wsZ]⟩
    · rintro ⟨a, ha, s, _, e⟩
      rw [e]
      simpa [wsZ] using ha
  | p :: r, acc, x => by
    rw [List.foldl_cons, mem_fold r]
    constructor
    · rintro ⟨a', ha', s', hs, e⟩
      obtain ⟨a, ha, q⟩ := List.mem_flatMap.mp ha'
      rcases List.mem_cons.mp q with q | q
      · refine ⟨a, ha, 2 * s', by rw [List.length_cons, Nat.pow_succ]; omega, ?_⟩
        rw [e, q]
        show a ++ [p] ++ wsZ r s' = a ++ ((if ((2 * s' : Nat) : Int) % 2 = 0 then p else -p) :: wsZ r (((2 * s' : Nat) : Int) / 2))
        rw [if_pos (by omega), show ((2 * s' : Nat) : Int) / 2 = s' by omega]
        simp
      · refine ⟨a, ha, 2 * s' + 1, by rw [List.length_cons, Nat.pow_succ]; omega, ?_⟩
        rw [e, List.mem_singleton.mp q]
        show a ++ [-p] ++ wsZ r s' = a ++ ((if ((2 * s' + 1 : Nat) : Int) % 2 = 0 then p else -p) :: wsZ r (((2 * s' + 1 : Nat) : Int) / 2))
        rw [if_neg (by omega), show ((2 * s' + 1 : Nat) : Int) / 2 = s' by omega]
        simp
    · rintro ⟨a, ha, s, hs, e⟩
      rw [List.length_cons, Nat.pow_succ] at hs
      by_cases c : (s : Int) % 2 = 0
      · refine ⟨a ++ [p], List.mem_flatMap.mpr ⟨a, ha, by simp⟩, s / 2, by omega, ?_⟩
        rw [e]
        show a ++ ((if (s : Int) % 2 = 0 then p else -p) :: wsZ r ((s : Int) / 2)) = a ++ [p] ++ wsZ r ((s / 2 : Nat) : Int)
        rw [if_pos c, show ((s / 2 : Nat) : Int) = (s : Int) / 2 by omega]
        simp
      · refine ⟨a ++ [-p], List.mem_flatMap.mpr ⟨a, ha, by simp⟩, s / 2, by omega, ?_⟩
        rw [e]
        show a ++ ((if (s : Int) % 2 = 0 then p else -p) :: wsZ r ((s : Int) / 2)) = a ++ [-p] ++ wsZ r ((s / 2 : Nat) : Int)
        rw [if_neg c, show ((s / 2 : Nat) : Int) = (s : Int) / 2 by omega]
        simp
theorem mem_sgF {r x : List Int} : x ∈ sgF r ↔ ∃ s : Nat, s < 2 ^ r.length ∧ x = wsZ r (s : Int) := by
  unfold sgF
  rw [mem_fold]
  simp
/-- only the last bits count -/
theorem ws_low : ∀ (r : List Int) (s : Int), ∃ s' : Nat, s' < 2 ^ r.length ∧ wsZ r s = wsZ r (s' : Int)
  | [], s => ⟨0, by simp, rfl⟩
  | p :: r, s => by
    obtain ⟨s', h, e⟩ := ws_low r (s / 2)
    by_cases c : s % 2 = 0
    · refine ⟨2 * s', by rw [List.length_cons, Nat.pow_succ]; omega, ?_⟩
      show (if s % 2 = 0 then p else -p) :: wsZ r (s / 2) = (if ((2 * s' : Nat) : Int) % 2 = 0 then p else -p) :: wsZ r (((2 * s' : Nat) : Int) / 2)
      rw [if_pos c, if_pos (by omega), e, show ((2 * s' : Nat) : Int) / 2 = s' by omega]
    · refine ⟨2 * s' + 1, by rw [List.length_cons, Nat.pow_succ]; omega, ?_⟩
      show (if s % 2 = 0 then p else -p) :: wsZ r (s / 2) = (if ((2 * s' + 1 : Nat) : Int) % 2 = 0 then p else -p) :: wsZ r (((2 * s' + 1 : Nat) : Int) / 2)
      rw [if_neg c, if_neg (by omega), e, show ((2 * s' + 1 : Nat) : Int) / 2 = s' by omega]
theorem ws_in (r : List Int) (s : Int) : wsZ r s ∈ sgF r := by
  obtain ⟨s', h, e⟩ := ws_low r s
  exact mem_sgF.mpr ⟨s', h, e⟩
theorem ws_zero : ∀ r : List Int, wsZ r 0 = r
  | [] => rfl
  | p :: r => by
    show (if (0 : Int) % 2 = 0 then p else -p) :: wsZ r (0 / 2) = p :: r
    rw [if_pos (by decide), show (0 : Int) / 2 = 0 by decide, ws_zero r]
theorem self_in (r : List Int) : r ∈ sgF r := by
  have := ws_in r 0
  rwa [ws_zero] at this
theorem ws_ab : ∀ (r : List Int) (s : Int), (∀ x ∈ r, 0 < x) → (wsZ r s).map abZ = r
  | [], _, _ => rfl
  | p :: r, s, h => by
    have hp := h p List.mem_cons_self
    show abZ (if s % 2 = 0 then p else -p) :: (wsZ r (s / 2)).map abZ = p :: r
    rw [ws_ab r _ fun x hx => h x (List.mem_cons_of_mem _ hx)]
    congr 1
    unfold abZ
    split <;> split <;> omega
theorem bMin_l {l : List Int} (h : l ≠ []) : bMinA [lI l] = some (.int (mnZ l)) := by
  cases l with
  | nil => exact absurd rfl h
  | cons x xs =>
    show (match asInts ((x :: xs).map PyData.int) with | some (n :: ns) => some (PyData.int (minZ n ns)) | _ => none) = _
    rw [asInts_map]
    rfl
end Pu

set_option Elab.async false
set_option linter.all false
set_option maxRecDepth 100000
set_option maxHeartbeats 4000000
/-! objects of the program's own classes -/
namespace Pu
open PySem PySem.Spec PyProof.Rows L2
variable [TabL]
/-- an object of the class c as data -/
def insD (c : Str) (ks : List Str) (ds : List PyData) : PyData := .dict ((.bool false, .tuple [.str c, .none]) :: (ks.map PyData.str).zip ds)
def isS (f : Str) : PyData → Bool
  | .str s => decide (s = f)
  | _ => false
def fldO (kvs : List (PyData × PyData)) (f : Str) : Option PyData := (kvs.find? fun p => isS f p.1).map (·.2)
section
variable {X : Cx} {M : Nat → Bool} {F : Fx} {E : L2.St → XK} {la fa lb fb : Bool} {e : Expr} {pos : Pos}
theorem fld_cons (k f : Str) (d : PyData) (kvs : List (PyData × PyData)) : fldO ((.str k, d) :: kvs) f = if k = f then some d else fldO kvs f := by
  unfold fldO
  rw [List.find?_cons]
  by_cases h : k = f
  · rw [if_pos h]
    show Option.map _ (match decide (k = f) with | true => some _ | false => _) = _
    rw [decide_eq_true h]
    rfl
  · rw [if_neg h]
    show Option.map _ (match decide (k = f) with | true => some _ | false => _) = _
    rw [decide_eq_false h]
theorem fld_look {K : PySem.W.Frag} {H : Hp} {S : Addr → Prop} {f : Str} {z : PyData} : ∀ {ks : List Str} {xs : List V} {ds : List PyData}, ks.length = xs.length → RpA K H S xs ds → fldO ((ks.map PyData.str).zip ds) f = some z → ∃ v, List.lookup f (ks.zip xs) = some v ∧ Rp K H S v z
  | [], _, _, _, _, h => by cases h
  | k :: ks, [], _, hl, _, _ => by cases hl
  | k :: ks, x :: xs, _, hl, .cons (d := d) (ds := ds) r rs, h => by
    rw [List.map_cons, List.zip_cons_cons, fld_cons] at h
    rw [List.zip_cons_cons, List.lookup_cons]
    by_cases c : k = f
    · rw [if_pos c] at h
      cases h
      have : (f == k) = true := by rw [c]; exact beq_self_eq_true f
      rw [this]
      exact ⟨x, rfl, r⟩
    · rw [if_neg c] at h
      have : (f == k) = false := beq_eq_false_iff_ne.mpr fun q => c q.symm
      rw [this]
      exact fld_look (by simpa using hl) rs h
theorem fld_none {K : PySem.W.Frag} {H : Hp} {S : Addr → Prop} {f : Str} : ∀ {ks : List Str} {xs : List V} {ds : List PyData}, ks.length = xs.length → RpA K H S xs ds → fldO ((ks.map PyData.str).zip ds) f = none → List.lookup f (ks.zip xs) = none
  | [], _, _, _, _, _ => rfl
  | k :: ks, [], _, hl, _, _ => by cases hl
  | k :: ks, x :: xs, _, hl, .cons (d := d) (ds := ds) r rs, h => by
    rw [List.map_cons, List.zip_cons_cons, fld_cons] at h
    rw [List.zip_cons_cons, List.lookup_cons]
    by_cases c : k = f
    · rw [if_pos c] at h
      cases h
    · rw [if_neg c] at h
      have : (f == k) = false := beq_eq_false_iff_ne.mpr fun q => c q.symm
      rw [this]
      exact fld_none (by simpa using hl) rs h
/-- the fields of an object of the class c -/
def objF (c : Str) : PyData → Option (List (PyData × PyData))
  | .dict ((.bool false, .tuple [.str c', _]) :: kvs) => if c' = c then some kvs else none
  | _ => none
def rFld (c f : Str) (g : Rho → Re PyData) : Rho → Re PyData := fun ρ => (g ρ).andThen fun d => liftO ((objF c d).bind fun kvs => fldO kvs f)
theorem obj_of {K : PySem.W.Frag} {H : Hp} {S : Addr → Prop} {v : V} {d : PyData} {c : Str} {kvs : List (PyData × PyData)} (r : Rp K H S v d) (h : objF c d = some kvs) :
    ∃ (a dx : Addr) (ks : List Str) (xs : List V) (ds : List PyData), v = .ref a ∧ H a = some (.ins (He.ga K c) dx (ks.zip xs)) ∧ ks.length = xs.length ∧ RpA K H S xs ds ∧ kvs = (ks.map PyData.str).zip ds := by
  cases r with
  | @dit a dx c' tag ks xs ds h1 h2 h3 h4 =>
    have h : (if c' = c then some ((ks.map PyData.str).zip ds) else none) = some kvs := h
    by_cases q : c' = c
    · rw [if_pos q] at h
      cases h
      subst q
      exact ⟨a, dx, ks, xs, ds, rfl, h1, h3, h4, rfl⟩
    · rw [if_neg q] at h
      cases h
  | non => cases h
  | bl b => cases h
  | int i => cases h
  | str x => cases h
  | tup _ _ => cases h
  | lst _ _ _ => cases h
  | scr _ _ => cases h
  | dic _ _ _ _ => cases h
  | dif _ _ _ => cases h
  | rng _ => cases h
  | dct _ _ _ _ => cases h
/-- o.f -/
theorem de_fld {c f : Str} {g : Rho → Re PyData} (hC : Cls X.K (He.ga X.K c)) (hN : NoAttr X.K (He.ga X.K c) f) (ha : DE X M F E la fa e g) (hb : attributeBase e f X.env (eval e X.env) = eval e X.env := by rfl) : DE X M F E la false (.Attribute e f pos) (rFld c f g) := by
  obtain ⟨t, pa, ha⟩ := ha
  refine ⟨_, pe_fld pa hb, fun σ H ρ er Q z => ?_⟩
  refine ha σ H ρ er _ (we_step z fun d v H1 _ s r1 _ z1 => ?_)
  cases q : objF c d with
  | none =>
    rw [q] at z1
    exact z1.elim
  | some kvs =>
    rw [q] at z1
    obtain ⟨a, dx, ks, xs, ds, ev, h1, hl, rs, ek⟩ := obj_of r1 q
    subst ek
    cases q2 : fldO ((ks.map PyData.str).zip ds) f with
    | none =>
      have z1 : WE X M F E la false σ ρ H1 (liftO (fldO ((ks.map PyData.str).zip ds) f)) Q := z1
      rw [q2] at z1
      exact z1.elim
    | some y =>
      have z1 : WE X M F E la false σ ρ H1 (liftO (fldO ((ks.map PyData.str).zip ds) f)) Q := z1
      rw [q2] at z1
      obtain ⟨u, lu, ru⟩ := fld_look hl rs q2
      exact ⟨a, _, dx, _, u, ev, h1, hC, hN, lu, z1 u H1 (Same.refl H1) ru fun w => nomatch w⟩
/-- a method that raises nothing -/
structure HasM (P : Program) (w : World) (K : PySem.W.Frag) (mg : Str → Option Value) (base : Heap) (k : Nat) (c m : Str) (ps : List Str) (f : List PyData → Re PyData) : Prop where
  cl : Cls K (He.ga K c)
  ex : ∃ (fA : Addr) (fd : FuncData), FnOk P w K mg base (L2.CX P w) k fA fd ps (spD mg f K) ∧ Meth K (He.ga K c) m fA ∧ Binds K fd ps []
def noEx : Re PyData → Re PyData
  | .ok d => .ok d
  | _ => .bad
def rMth (c m : Str) (ff : List PyData → Re PyData) (g : Rho → Re PyData) (gs : Rho → Re (List PyData)) : Rho → Re PyData := fun ρ => (g ρ).andThen fun d => match objF c d with
  | some kvs => if fldO kvs m = none then (gs ρ).andThen fun ds => noEx (ff (d :: ds)) else .bad
  | none => .bad
theorem passM : Passes (L2.CX X.prog X.w) X fun _ _ _ => False := fun _ _ _ _ _ _ _ c => by
  obtain ⟨_, _, _, _, _, _, _, _, _, _, _, _, z⟩ := c
  exact z.elim
/-- o.m(e, ..) -/
theorem de_meth {c m : Str} {k : Nat} {ps : List Str} {ff : List PyData → Re PyData} {g : Rho → Re PyData} {a : Expr} {es : List Expr} {gs : Rho → Re (List PyData)} {p1 : Pos} {pl : Sem Bool} (h : HasM X.prog X.w X.K X.mg X.base k c m ps ff) (hr : Room k X.A) (ho : DE X M F E la fa e g) (ha : DA X M F E lb (a :: es) gs)
    (he : starEach (a :: es) X.env = (false, eval a X.env) :: starEach es X.env := by rfl) (hpl : (backTo pos (starEach es X.env)).any (·.1) = false := by rfl)
    (hev : eval (.Call (.Attribute e m p1) (a :: es) [] pos) X.env = (do
      let ov ← eval e X.env
      standAt p1.atName
      let __x ← holding [ov] (getMethod ov m pl)
      match __x with
        | (f, first) => callWith pos f first (backTo pos (starEach (a :: es) X.env)) (backToKw pos (keywordEach [] X.env))) := by rfl) :
    DE X M F E (la || lb) false (.Call (.Attribute e m p1) (a :: es) [] pos) (rMth c m ff g gs) := by
  obtain ⟨ta, pa, ho⟩ := ho
  obtain ⟨tb, pb, ha⟩ := ha
  obtain ⟨fA, fd, G, hm, bb⟩ := h.ex
  refine ⟨_, pe_meth (dvs := []) (ds := []) (E := fun _ _ _ => False) pa h.cl hm G hr bb .nil passM pb he hpl hev, fun σ H ρ er Q z => ?_⟩
  refine ho σ H ρ er _ (we_step z fun d v H1 _ s r1 _ z1 => ?_)
  cases q : objF c d with
  | none =>
    rw [q] at z1
    exact z1.elim
  | some kvs =>
    rw [q] at z1
    obtain ⟨ad, dx, ks, xs, ds, ev, h1, hl, rs, ek⟩ := obj_of r1 q
    subst ek
    have z1 : WE X M F E (la || lb) false σ ρ H1 (if fldO ((ks.map PyData.str).zip ds) m = none then (gs ρ).andThen fun ds => noEx (ff (d :: ds)) else .bad) Q := z1
    cases q2 : fldO ((ks.map PyData.str).zip ds) m with
    | some y =>
      rw [q2, if_neg (by simp)] at z1
      exact z1.elim
    | none =>
      rw [q2, if_pos rfl] at z1
      refine ⟨ad, dx, _, ev, h1, fld_none hl rs q2, ?_⟩
      refine ha σ H1 ρ (er.same s) _ (we_stepA z1 fun es' vs H2 _ s2 r2 z2 => ?_)
      refine ⟨d :: es', RS M F σ ρ (la || lb), ?_, ⟨((er.same s).same s2).freshS, ((er.same s).same s2).tab⟩, ?_⟩
      · rw [List.append_nil]
        exact .cons ((r1.wide rs_or1).same s2) (r2.wide rs_or2)
      · cases q3 : ff (d :: es') with
        | ok y =>
          rw [q3] at z2
          exact fun v' H' s' r' => z2 v' H' s' r' fun w => nomatch w
        | ex cc =>
          rw [q3] at z2
          exact z2.elim
        | bad =>
          rw [q3] at z2
          exact z2.elim
/-! ### the fields that __init__ stores -/
/-- the object that __init__ fills, with the address of its own dict -/
def slfD (c : Str) (dx : Addr) (ks : List Str) (ds : List PyData) : PyData := .dict ((.bool false, .tuple [.str c, .int (dx : Nat)]) :: (ks.map PyData.str).zip ds)
def addF (f : Str) (d : PyData) : PyData → PyData
  | .dict kvs => .dict (kvs ++ [(.str f, d)])
  | x => x
def sFldS (c : Str) (i : Nat) (f : Str) (g : Rho → Re PyData) : Rho → Sr := fun ρ => (g ρ).st ρ fun d => match ρ[i]? with
  | some (some dd) => match objF c dd with
    | some kvs => if kvs.length < 1000 ∧ fldO kvs f = none ∧ imm d = true then .nx (ρ.set i (some (addF f d dd))) else .bad
    | none => .bad
  | _ => .bad
theorem putF_new {f : Str} {v : V} : ∀ {l : List (Str × V)}, List.lookup f l = none → putF f v l = l ++ [(f, v)]
  | [], _ => rfl
  | (g, u) :: l, h => by
    have e : putF f v ((g, u) :: l) = if g = f then (g, v) :: l else (g, u) :: putF f v l := rfl
    rw [List.lookup_cons] at h
    have ne : ¬ g = f := fun q => by
      have : (f == g) = true := by rw [q]; exact beq_self_eq_true f
      rw [this] at h
      cases h
    have : (f == g) = false := beq_eq_false_iff_ne.mpr fun q => ne q.symm
    rw [this] at h
    rw [e, if_neg ne, putF_new h]
    rfl
theorem ds_fldS {c : Str} {i : Nat} {x f : Str} {a : Expr} {g : Rho → Re PyData} {p1 p2 : Pos} (hC : Cls X.K (He.ga X.K c)) (hN : NoAttr X.K (He.ga X.K c) f) (m : M i = true) (h : DE X M F E la fa a g) (hNx : X.N[i]? = some x := by rfl) (hv : Vis X.env.scope x := by first | exact Or.inl rfl | exact Or.inr (Or.inl rfl) | exact Or.inr (Or.inr rfl)) (hd : (x == ("__debug__" : Str)) = false := by decide) (hcd : (x == ("__classdict__" : Str)) = false := by decide)
    (hs : swapsWith a (some (.Attribute (.Name x p1) f p2)) pos.line X.env = pure false := by rfl) : DS X M F E (.Assign [.Attribute (.Name x p1) f p2] a pos) (sFldS c i f g) := by
  obtain ⟨ta, pa, h⟩ := h
  refine ⟨_, ps_fld (pe_var hNx hv hd hcd) pa hs, fun σ H ρ er D w => ?_⟩
  refine h σ H ρ er _ (ws_step er w fun d v H1 e1 s1 r1 _ w1 => ?_)
  have er1 := er.same s1
  cases q : ρ[i]? with
  | none =>
    rw [q] at w1
    exact w1.elim
  | some o =>
    cases o with
    | none =>
      rw [q] at w1
      exact w1.elim
    | some dd =>
      rw [q] at w1
      obtain ⟨pp, sp, z0, w0⟩ := er1.ow i dd q m
      refine ⟨.ref pp, sp, ?_⟩
      have w2 : WS X M F E σ H1 ρ (match objF c dd with
        | some kvs => if kvs.length < 1000 ∧ fldO kvs f = none ∧ imm d = true then .nx (ρ.set i (some (addF f d dd))) else .bad
        | none => .bad) D := w1
      clear w1
      cases qk : objF c dd with
      | none =>
        rw [qk] at w2
        exact w2.elim
      | some kvs =>
        rw [qk] at w2
        have w3 : WS X M F E σ H1 ρ (if kvs.length < 1000 ∧ fldO kvs f = none ∧ imm d = true then .nx (ρ.set i (some (addF f d dd))) else .bad) D := w2
        clear w2
        by_cases cc : kvs.length < 1000 ∧ fldO kvs f = none ∧ imm d = true
        · rw [if_pos cc] at w3
          obtain ⟨c1, c2, c3⟩ := cc
          cases w0 with
          | lst e r => cases qk
          | dic e l r => cases qk
          | dct e l r => cases qk
          | @dit dx c' ks xs ds e l r =>
            have qk : (if c' = c then some ((ks.map PyData.str).zip ds) else none) = some kvs := qk
            by_cases ec : c' = c
            · rw [if_pos ec] at qk
              cases qk
              subst ec
              have ln := fld_none l r c2
              have len : (ks.zip xs).length < 1000 := by
                rw [List.length_zip, List.length_map, ← r.length] at c1
                rw [List.length_zip]
                exact c1
              have ez : putF f v (ks.zip xs) = (ks ++ [f]).zip (xs ++ [v]) := by
                rw [putF_new ln, List.zip_append l]
                rfl
              have ed : addF f d (.dict ((.bool false, .tuple [.str c', .int (dx : Nat)]) :: (ks.map PyData.str).zip ds)) = .dict ((.bool false, .tuple [.str c', .int (dx : Nat)]) :: ((ks ++ [f]).map PyData.str).zip (ds ++ [d])) := by
                rw [List.map_append, List.zip_append (by rw [List.length_map, l, r.length])]
                rfl
              have rA := r.append (.cons (r1.noAddr c3) .nil)
              have ndx : dx ≠ pp := fun z => by
                have h2 := e.2
                rw [z, e.1] at h2
                cases h2
              obtain ⟨er3, ev3⟩ := er1.put (o := .ins (He.ga X.K c') dx ((ks ++ [f]).zip (xs ++ [v]))) (d' := addF f d (.dict ((.bool false, .tuple [.str c', .int (dx : Nat)]) :: (ks.map PyData.str).zip ds))) m q sp (by
                rw [ed]
                refine .dit ⟨upd_same, by rw [upd_ne ndx]; exact e.2⟩ (by rw [List.length_append, List.length_append, l]; rfl) (rA.keep ⟨fun a u qa xa _ => ?_⟩ fun _ _ x _ _ => x)
                rw [upd_ne]
                · exact qa
                · intro za
                  subst za
                  rcases xa with xa | xa
                  · exact xa.2 rfl ⟨i, _, m, q, sp⟩
                  · rw [e.1] at qa
                    cases qa
                    exact xa trivial)
              refine ⟨pp, _, dx, _, rfl, e.1, hC, hN, len, ?_⟩
              rw [ez]
              exact w3 σ _ er3 ev3
            · rw [if_neg ec] at qk
              cases qk
        · rw [if_neg cc] at w3
          exact w3.elim
/-! ### objects made -/
/-- what is left of the object at a with its dict at dx, or an error -/
def postI (mg : Str → Option Value) (K : PySem.W.Frag) (c : Str) (a dx : Addr) (H : Hp) (Q : VK) (Ex : XK) : Re PyData → Prop
  | .ok d => ∀ (H' : Hp) (ks : List Str) (xs : List V) (es : List PyData), d = insD c ks es → H' a = some (.ins (He.ga K c) dx (ks.zip xs)) → ks.length = xs.length → (∀ S', RpA K H' S' xs es) → SameX a H H' → Q .non H'
  | .ex cc => ∀ (C : Addr) (H' : Hp), mg cc = some (.ref C) → SameX a H H' → Ex (.ref C) none H'
  | .bad => False
/-- what __init__ says of the object at a with its dict at dx; f: the fields that it leaves, or an error -/
def spI (mg : Str → Option Value) (c : Str) (f : Addr → List PyData → Re PyData) (K : PySem.W.Frag) : Sp := fun vs H Q Ex => ∃ (a dx : Addr) (vs' : List V) (ds : List PyData) (S : Addr → Prop), vs = .ref a :: vs' ∧ H a = some (.ins (He.ga K c) dx []) ∧ H dx = some (.own a) ∧ RpA K H S vs' ds ∧ ((∀ p, H p = none → S p) ∧ LamX.Tabs TabL.T H) ∧ ¬ S a ∧ postI mg K c a dx H Q Ex (f dx ds)
/-- the fields that are left, as the object's data -/
def fin (c : Str) (dx : Addr) : PyData → Re PyData
  | .dict ((.bool false, .tuple [.str c', .int j]) :: kvs) => if c' = c ∧ j = ((dx : Nat) : Int) ∧ (kvs.all fun p => imm p.2) = true then .ok (.dict ((.bool false, .tuple [.str c, .none]) :: kvs)) else .bad
  | _ => .bad
def runI (c : Str) (n m : Nat) (s : Rho → Sr) (dx : Addr) (ds : List PyData) : Re PyData := if ds.length = n then (match s (some (slfD c dx [] []) :: (ds.map some ++ List.replicate (m - (n + 1)) none)) with
  | .nx ρ => (match ρ[0]? with | some (some d) => fin c dx d | _ => .bad)
  | .ex cc _ => .ex cc
  | _ => .bad) else .bad
end
end Pu

set_option Elab.async false
set_option linter.all false
set_option maxRecDepth 100000
set_option maxHeartbeats 4000000
/-! defs that call themselves (a block of nothing promised); x = y.pop(), x = y.pop(e); x.extend(list); list(range(..)) -/
namespace Pu
open PySem PySem.Spec PyProof.Rows L2
variable [TabL]
section
variable {X : Cx} {M : Nat → Bool} {F : Fx} {E : L2.St → XK} {σ σ1 : L2.St} {ρ ρ1 : Rho} {H H' H1 : Hp} {D : Ends}
variable {la fa lb fb : Bool} {a b : Expr} {f g : Rho → Re PyData} {pos : Pos}
theorem dss_bad {b : List Stmt} : DSs X M F E b sBad := ⟨fun _ _ _ => False, ⟨fun _ _ _ _ _ _ h => h.elim⟩, fun _ _ _ _ _ w => w.elim⟩
/-! ### x = y.pop() -/
def sSetPop0 (i j : Nat) : Rho → Sr := fun ρ => match getL ρ j with
  | some es => (match es.getLast? with
    | some y => if i ≠ j then .nx ((ρ.set j (some (.list es.dropLast))).set i (some y)) else .bad
    | none => .bad)
  | none => .bad
theorem ds_setPop0 {i j : Nat} {x y : Str} {p0 q1 q2 q3 : Pos} (m : M i = false) (mj : M j = true) (hNd : X.N.Nodup) (hi : X.N[i]? = some x := by rfl) (hx : Loc X.env.scope x := by first | exact Or.inl rfl | exact Or.inr rfl)
    (hNy : X.N[j]? = some y := by rfl) (hvy : Vis X.env.scope y := by first | exact Or.inl rfl | exact Or.inr (Or.inl rfl) | exact Or.inr (Or.inr rfl)) (hdy : (y == ("__debug__" : Str)) = false := by decide) (hcdy : (y == ("__classdict__" : Str)) = false := by decide)
    (hbase2 : attributeBase (.Name y q1) "pop" X.env (eval (.Name y q1) X.env) = eval (.Name y q1) X.env := by rfl) (hline2 : (q2.endLine == q3.line) = true := by rfl)
    (hs : swapsWith (.Call (.Attribute (.Name y q1) "pop" q2) [] [] q3) (some (.Name x p0)) pos.line X.env = pure false := by rfl) (hw : swappedStores [.Name x p0] (.Call (.Attribute (.Name y q1) "pop" q2) [] [] q3) X.env = pure none := by rfl)
    (hf : X.fn x = true ∨ X.env.scope.names.lookup x = some .local := by first | exact .inl rfl | exact .inr rfl) :
    DS X M F E (.Assign [.Name x p0] (.Call (.Attribute (.Name y q1) "pop" q2) [] [] q3) pos) (sSetPop0 i j) := by
  refine ⟨_, ps_asg (pe_bm0 PySem.F.plainAttrs_list PySem.F.slot_list_pop PySem.F.type_list_pop mt_pop (pe_var hNy hvy hdy hcdy) hbase2 hline2) (pg_name hNd hi hx hf) hs hw, fun σ H ρ er1 D w1 => ?_⟩
  unfold sSetPop0 at w1
  cases hl2 : getL ρ j with
  | none =>
    rw [hl2] at w1
    exact w1.elim
  | some es =>
    rw [hl2] at w1
    obtain ⟨qq, ys, hs2, hy, ry⟩ := er1.lst mj hl2
    cases hg : es.getLast? with
    | none =>
      simp only [hg] at w1
      exact w1.elim
    | some yd =>
      simp only [hg] at w1
      by_cases hij : i ≠ j
      · rw [if_pos hij] at w1
        have hel : es[es.length - 1]? = some yd := by rw [← List.getLast?_eq_getElem?]; exact hg
        obtain ⟨yv, hyv, ryv⟩ := ry.get' hel
        rw [← ry.length] at hyv
        obtain ⟨er2, ev2⟩ := er1.putL mj hl2 hs2 hy ry.dropLast
        refine ⟨.ref qq, hs2, sq_l hy, qq, ys, yv, rfl, rfl, hy, hyv, ?_⟩
        have ryv2 := ryv.keep (Evo.kp er1 ev2) fun a u x q n => Evo.rs ev2 a u x q n
        exact w1 _ _ (er2.set m ryv2) (ev2.trans fun a u q n _ => ⟨q, fun o => n ((own_set m).mp o)⟩)
      · rw [if_neg hij] at w1
        exact w1.elim
/-! ### x = y.pop(e) -/
def sSetPop (i j : Nat) (f : Rho → Re PyData) : Rho → Sr := fun ρ => match getL ρ j with
  | some _ => (f ρ).st ρ fun d => match popAt ρ j d with
    | some (y, es') => if i ≠ j then .nx ((ρ.set j (some (.list es'))).set i (some y)) else .bad
    | none => .bad
  | none => .bad
theorem ds_setPop {i j : Nat} {x y : Str} {p0 q1 q2 q3 : Pos} (m : M i = false) (mj : M j = true) (hNd : X.N.Nodup) (h : DE X M F E la fa a f) (hi : X.N[i]? = some x := by rfl) (hx : Loc X.env.scope x := by first | exact Or.inl rfl | exact Or.inr rfl)
    (hNy : X.N[j]? = some y := by rfl) (hvy : Vis X.env.scope y := by first | exact Or.inl rfl | exact Or.inr (Or.inl rfl) | exact Or.inr (Or.inr rfl)) (hdy : (y == ("__debug__" : Str)) = false := by decide) (hcdy : (y == ("__classdict__" : Str)) = false := by decide)
    (hbase2 : attributeBase (.Name y q1) "pop" X.env (eval (.Name y q1) X.env) = eval (.Name y q1) X.env := by rfl)
    (hfew2 : ((backTo q3 (starEach (a :: []) X.env)).all (fun x => !x.1) && (backToKw q3 (keywordEach [] X.env)).all (fun x => x.1.isSome)
      && decide ((a :: ([] : List Expr)).length + ([] : List Keyword).length + (if ([] : List Keyword).isEmpty then 0 else 1) < 30)) = true := by rfl)
    (hline2 : (q2.endLine == q3.line) = true := by rfl) (hst2 : starEach (a :: []) X.env = (false, eval a X.env) :: starEach [] X.env := by rfl) (hplain2 : (backTo q3 (starEach [] X.env)).any (·.1) = false := by rfl)
    (hs : swapsWith (.Call (.Attribute (.Name y q1) "pop" q2) [a] [] q3) (some (.Name x p0)) pos.line X.env = pure false := by rfl) (hw : swappedStores [.Name x p0] (.Call (.Attribute (.Name y q1) "pop" q2) [a] [] q3) X.env = pure none := by rfl)
    (hf : X.fn x = true ∨ X.env.scope.names.lookup x = some .local := by first | exact .inl rfl | exact .inr rfl) :
    DS X M F E (.Assign [.Name x p0] (.Call (.Attribute (.Name y q1) "pop" q2) [a] [] q3) pos) (sSetPop i j f) := by
  obtain ⟨t, pa, h⟩ := h
  refine ⟨_, ps_asg (pe_bm PySem.F.plainAttrs_list PySem.F.slot_list_pop PySem.F.type_list_pop mt_popAt (pe_var hNy hvy hdy hcdy) (pa_cons pa pa_nil hst2) hbase2 hfew2 hline2 hst2 hplain2) (pg_name hNd hi hx hf) hs hw, fun σ H ρ er D w => ?_⟩
  unfold sSetPop at w
  cases hl2 : getL ρ j with
  | none =>
    rw [hl2] at w
    exact w.elim
  | some es =>
    rw [hl2] at w
    obtain ⟨qq, ys, hs2, hy, ry⟩ := er.lst mj hl2
    refine ⟨.ref qq, hs2, sq_l hy, h σ H ρ er _ (ws_step er w fun d v H1 e sm r _ w1 => ?_)⟩
    cases hp : popAt ρ j d with
    | none =>
      rw [hp] at w1
      exact w1.elim
    | some z =>
      obtain ⟨y0, es'⟩ := z
      rw [hp] at w1
      have w1 : WS X M F E σ H1 ρ (if i ≠ j then .nx ((ρ.set j (some (.list es'))).set i (some y0)) else .bad) D := w1
      by_cases hij : i ≠ j
      · rw [if_pos hij] at w1
        obtain ⟨es2, n, k, g1, rfl, g2, g3, g4, rfl⟩ := popAt_some hp
        rw [hl2] at g1
        cases g1
        cases r
        have er1 := er.same sm
        refine rpop_ok (X := X) (j := j) (sm _ _ hy) (ry.same sm) g2 g3 g4 fun v rv hv' => ?_
        obtain ⟨er2, ev2⟩ := er1.putL mj hl2 hs2 (sm _ _ hy) ((ry.same sm).erase k)
        have rv2 := rv.keep (Evo.kp er1 ev2) fun a u x q n => Evo.rs ev2 a u x q n
        exact w1 _ _ (er2.set m rv2) (ev2.trans fun a u q n _ => ⟨q, fun o => n ((own_set m).mp o)⟩)
      · rw [if_neg hij] at w1
        exact w1.elim
/-! ### x.extend(e), e a list -/
def sExtL (i : Nat) (lk : Bool) (f : Rho → Re PyData) : Rho → Sr := fun ρ => match getL ρ i with
  | some ds => (f ρ).st ρ fun d => (match d with
    | .list es => if okLen (ds.length + es.length) = true ∧ (lk = true → immAll es = true) then .nx (ρ.set i (some (.list (ds ++ es)))) else .bad
    | _ => .bad)
  | none => .bad
theorem ds_extL {i : Nat} {x : Str} {p1 p2 p3 : Pos} (m : M i = true) (h : DE X M F E la fa a f) (hN : X.N[i]? = some x := by rfl) (hv : Vis X.env.scope x := by first | exact Or.inl rfl | exact Or.inr (Or.inl rfl) | exact Or.inr (Or.inr rfl)) (hd : (x == ("__debug__" : Str)) = false := by decide)
    (hcd : (x == ("__classdict__" : Str)) = false := by decide)
    (hs : swapsWith (.Call (.Attribute (.Name x p1) "extend" p2) [a] [] p3) none pos.line X.env = pure false := by rfl) (hbase : attributeBase (.Name x p1) "extend" X.env (eval (.Name x p1) X.env) = eval (.Name x p1) X.env := by rfl)
    (hfew : ((backTo p3 (starEach (a :: []) X.env)).all (fun x => !x.1) && (backToKw p3 (keywordEach [] X.env)).all (fun x => x.1.isSome)
      && decide ((a :: ([] : List Expr)).length + ([] : List Keyword).length + (if ([] : List Keyword).isEmpty then 0 else 1) < 30)) = true := by rfl)
    (hline : (p2.endLine == p3.line) = true := by rfl) (hst : starEach (a :: []) X.env = (false, eval a X.env) :: starEach [] X.env := by rfl) (hplain : (backTo p3 (starEach [] X.env)).any (·.1) = false := by rfl) :
    DS X M F E (.Expr (.Call (.Attribute (.Name x p1) "extend" p2) [a] [] p3) pos) (sExtL i la f) := by
  obtain ⟨t, pa, h⟩ := h
  refine ⟨_, ps_expr (pe_bm PySem.F.plainAttrs_list PySem.F.slot_list_extend PySem.F.type_list_extend mt_extend (pe_var hN hv hd hcd) (pa_cons pa pa_nil hst) hbase hfew hline hst hplain) hs, fun σ H ρ er D w => ?_⟩
  unfold sExtL at w
  cases hl : getL ρ i with
  | none =>
    rw [hl] at w
    exact w.elim
  | some ds =>
    rw [hl] at w
    obtain ⟨pp, xs, hs', hx, rx⟩ := er.lst m hl
    refine ⟨.ref pp, hs', sq_l hx, h σ H ρ er _ (ws_step er w fun d v H1 e sm r _ w1 => ?_)⟩
    cases r with
    | lst h1 hS h2 =>
      rename_i b zs es _
      have w1 : WS X M F E σ H1 ρ (if okLen (ds.length + es.length) = true ∧ (la = true → immAll es = true) then .nx (ρ.set i (some (.list (ds ++ es)))) else .bad) D := w1
      by_cases hc : okLen (ds.length + es.length) = true ∧ (la = true → immAll es = true)
      · rw [if_pos hc] at w1
        have er1 := er.same sm
        have hx1 := sm _ _ hx
        have hz : xs.length + zs.length ≤ sizeLine := by
          have := of_decide_eq_true hc.1
          rw [rx.length, h2.length]
          exact Nat.le_trans this (by decide)
        have r2 : RpA X.K H1 (RS M F σ ρ false) zs es := by
          cases la with
          | false => exact h2
          | true => exact h2.noAddr (hc.2 rfl)
        obtain ⟨er2, ev2⟩ := er1.putL m hl hs' hx1 ((rx.same sm).append r2)
        exact ⟨pp, _, xs, zs, rfl, rfl, hx1, h1, hz, w1 σ _ er2 ev2⟩
      · rw [if_neg hc] at w1
        exact w1.elim
    | bl _ => exact w1.elim
    | non => exact w1.elim
    | int _ => exact w1.elim
    | str _ => exact w1.elim
    | tup _ _ => exact w1.elim
    | scr _ _ => exact w1.elim
    | dic _ _ _ _ => exact w1.elim
    | dit _ _ _ _ => exact w1.elim
    | dif _ _ _ => exact w1.elim
    | rng _ => exact w1.elim
    | dct _ _ _ _ => exact w1.elim
/-! ### list(range(e)), list(range(e, e)) -/
def lrg : PyData → PyData → Option PyData := fun d e => match d, e with | .int i, .int j => if rgOk i j = true then some (.list (upFrom i (j - i).toNat)) else none | _, _ => none
def rLstRg (f g : Rho → Re PyData) : Rho → Re PyData := r2 lrg f g
theorem de_lstRg {pp q : Pos} (hc : X.calm = true) (hg : Gl X "list") (hm : X.mg "list" = none) (hg2 : Gl X "range") (hm2 : X.mg "range" = none) (ha : DE X M F E la fa a f) (hb : DE X M F E lb fb b g)
    (na : starEach [a, b] X.env = (false, eval a X.env) :: starEach [b] X.env := by rfl) (nb : starEach [b] X.env = (false, eval b X.env) :: starEach [] X.env := by rfl)
    (np : (backTo q (starEach [b] X.env)).any (·.1) = false := by rfl) (nc : starEach [Expr.Call (.Name "range" pp) [a, b] [] q] X.env = (false, eval (.Call (.Name "range" pp) [a, b] [] q) X.env) :: starEach [] X.env := by rfl) {p0 : Pos} :
    DE X M F E (la || lb) true (.Call (.Name "list" p0) [.Call (.Name "range" pp) [a, b] [] q] [] pos) (rLstRg f g) := by
  obtain ⟨ta, pa, ha⟩ := ha
  obtain ⟨tb, pb, hb⟩ := hb
  refine ⟨_, pe_listRg hc hg hm (prg_2 hg2 hm2 pa pb na nb np) nc, fun σ H ρ er Q w => ?_⟩
  refine ha σ H ρ er _ (we_step w fun d v H1 e1 s1 q1 _ w1 => ?_)
  refine hb σ H1 ρ (er.same s1) _ (we_step w1 fun e u H2 e2 s2 q2 _ w2 => ?_)
  have er2 := (er.same s1).same s2
  cases q1 with
  | int i =>
    cases q2 with
    | int j =>
      have w2 : WE X M F E (la || lb) true σ ρ H2 (liftO (if rgOk i j = true then some (.list (upFrom i (j - i).toNat)) else none)) Q := w2
      by_cases hr : rgOk i j = true
      · rw [if_pos hr] at w2
        exact ⟨i, j, rfl, rfl, rgOk_ok hr, fun p hp => w2 _ _ (same_new hp) (.lst upd_same (er2.freshS p hp) (rg_rp i j)) fun _ => frs_lst hp (rg_rp i j)⟩
      · rw [if_neg hr] at w2
        exact w2.elim
    | bl _ => exact w2.elim
    | non => exact w2.elim
    | str _ => exact w2.elim
    | tup _ _ => exact w2.elim
    | lst _ _ _ => exact w2.elim
    | scr _ _ => exact w2.elim
    | dic _ _ _ _ => exact w2.elim
    | dit _ _ _ _ => exact w2.elim
    | dif _ _ _ => exact w2.elim
    | rng _ => exact w2.elim
    | dct _ _ _ _ => exact w2.elim
  | bl _ => exact w2.elim
  | non => exact w2.elim
  | str _ => exact w2.elim
  | tup _ _ => exact w2.elim
  | lst _ _ _ => exact w2.elim
  | scr _ _ => exact w2.elim
  | dic _ _ _ _ => exact w2.elim
  | dit _ _ _ _ => exact w2.elim
  | dif _ _ _ => exact w2.elim
  | rng _ => exact w2.elim
  | dct _ _ _ _ => exact w2.elim
def lrg1 : PyData → Option PyData := fun e => match e with | .int j => if rgOk 0 j = true then some (.list (upFrom 0 j.toNat)) else none | _ => none
def rLstRg1 (g : Rho → Re PyData) : Rho → Re PyData := r1 lrg1 g
theorem de_lstRg1 {pp q : Pos} (hc : X.calm = true) (hg : Gl X "list") (hm : X.mg "list" = none) (hg2 : Gl X "range") (hm2 : X.mg "range" = none) (hb : DE X M F E lb fb b g)
    (nb : starEach [b] X.env = (false, eval b X.env) :: starEach [] X.env := by rfl)
    (nc : starEach [Expr.Call (.Name "range" pp) [b] [] q] X.env = (false, eval (.Call (.Name "range" pp) [b] [] q) X.env) :: starEach [] X.env := by rfl) {p0 : Pos} :
    DE X M F E lb true (.Call (.Name "list" p0) [.Call (.Name "range" pp) [b] [] q] [] pos) (rLstRg1 g) := by
  obtain ⟨tb, pb, hb⟩ := hb
  refine ⟨_, pe_listRg hc hg hm (prg_1 hg2 hm2 pb nb) nc, fun σ H ρ er Q w => ?_⟩
  refine hb σ H ρ er _ (we_step w fun e u H2 e2 s2 q2 _ w2 => ?_)
  have er2 := er.same s2
  cases q2 with
  | int j =>
    have w2 : WE X M F E lb true σ ρ H2 (liftO (if rgOk 0 j = true then some (.list (upFrom 0 j.toNat)) else none)) Q := w2
    by_cases hr : rgOk 0 j = true
    · rw [if_pos hr] at w2
      have rr : RpA X.K H2 (RS M F σ ρ lb) (rgV 0 j) (upFrom 0 j.toNat) := by
        have := rg_rp (K := X.K) (H := H2) (S := RS M F σ ρ lb) 0 j
        rwa [Int.sub_zero] at this
      exact ⟨j, rfl, rgOk_ok hr, fun p hp => w2 _ _ (same_new hp) (.lst upd_same (er2.freshS p hp) (rr.same (same_new hp))) fun _ => frs_lst hp rr⟩
    · rw [if_neg hr] at w2
      exact w2.elim
  | bl _ => exact w2.elim
  | non => exact w2.elim
  | str _ => exact w2.elim
  | tup _ _ => exact w2.elim
  | lst _ _ _ => exact w2.elim
  | scr _ _ => exact w2.elim
  | dic _ _ _ _ => exact w2.elim
  | dit _ _ _ _ => exact w2.elim
  | dif _ _ _ => exact w2.elim
  | rng _ => exact w2.elim
  | dct _ _ _ _ => exact w2.elim
end
end Pu

set_option Elab.async false
set_option linter.all false
set_option maxRecDepth 100000
set_option maxHeartbeats 4000000
/-! defs as values; a call of a name that holds one -/
namespace Pu
open PySem PySem.Spec PyProof.Rows L2
variable [TabL]
section
variable {X : Cx} {M : Nat → Bool} {F : Fx} {E : L2.St → XK} {la fa : Bool} {a : Expr} {pos : Pos} {f : Rho → Re PyData}
theorem de_fnV {x : Str} (hm : X.mg x = some (.ref (He.ga X.K x))) (hg : Gl X x := by rfl) (hd : (x == ("__debug__" : Str)) = false := by decide) : DE X M F E false false (.Name x pos) (rC (fnD x)) :=
  ⟨_, pe_glob (v := .ref (He.ga X.K x)) hg hm rfl hd, fun σ H ρ er Q w => w _ H (Same.refl _) (.rng (.inr ⟨x, rfl, rfl⟩)) fun z => nomatch z⟩
/-- what each def of a table does -/
def TblOk (P : Program) (w : World) (K : PySem.W.Frag) (mg : Str → Option Value) (base : Heap) (k : Nat) (tbl : List (Str × (List PyData → Re PyData))) : Prop :=
  ∀ x ff, tbl.lookup x = some ff → (∃ (ps : List Str), Has P w K mg base k x ps ff) ∧ mg x = some (.ref (He.ga K x))
theorem tb_nil {P : Program} {w : World} {K : PySem.W.Frag} {mg : Str → Option Value} {base : Heap} {k : Nat} : TblOk P w K mg base k [] := fun x ff h => nomatch h
theorem Has.up {P : Program} {w : World} {K : PySem.W.Frag} {mg : Str → Option Value} {base : Heap} {j k : Nat} {x : Str} {ps : List Str} {f : List PyData → Re PyData} (h : Has P w K mg base j x ps f) (hk : j ≤ k) : Has P w K mg base k x ps f := by
  obtain ⟨fA, fd, G, r⟩ := h
  exact ⟨fA, fd, G.mono hk, r⟩
theorem tb_cons {P : Program} {w : World} {K : PySem.W.Frag} {mg : Str → Option Value} {base : Heap} {j k : Nat} {x : Str} {ps : List Str} {ff : List PyData → Re PyData} {tbl : List (Str × (List PyData → Re PyData))} (h : Has P w K mg base j x ps ff) (hk : j ≤ k)
    (g : mg x = some (.ref (He.ga K x))) (t : TblOk P w K mg base k tbl) : TblOk P w K mg base k ((x, ff) :: tbl) := fun y gg q => by
  rw [List.lookup_cons] at q
  split at q
  · rename_i e
    cases q
    rw [eq_of_beq e]
    exact ⟨⟨ps, h.up hk⟩, g⟩
  · exact t y gg q
def lookF (tbl : List (Str × (List PyData → Re PyData))) : PyData → Option (List PyData → Re PyData)
  | .dict [(.int _, .str x)] => tbl.lookup x
  | _ => none
def rCallV (tbl : List (Str × (List PyData → Re PyData))) (f : Rho → Re PyData) (gs : Rho → Re (List PyData)) : Rho → Re PyData := fun ρ => (f ρ).andThen fun d => match lookF tbl d with
  | some ff => (gs ρ).andThen fun ds => noEx (ff ds)
  | none => .bad
@[simp] theorem lookF_fn {tbl : List (Str × (List PyData → Re PyData))} {x : Str} : lookF tbl (fnD x) = tbl.lookup x := (rfl)
theorem ap_callV {tbl : List (Str × (List PyData → Re PyData))} {f : Rho → Re PyData} {gs : Rho → Re (List PyData)} {ρ : Rho} {x : Str} {ff : List PyData → Re PyData} {ds : List PyData} (h : f ρ = .ok (fnD x)) (hl : tbl.lookup x = some ff) (hg : gs ρ = .ok ds) : rCallV tbl f gs ρ = noEx (ff ds) := by
  unfold rCallV
  rw [h]
  show (match lookF tbl (fnD x) with
  | some ff => (gs ρ).andThen fun ds => noEx (ff ds)
  | none => .bad) = _
  rw [lookF_fn, hl]
  show (gs ρ).andThen _ = _
  rw [hg]
  rfl
def tCallV (X : Cx) (k i : Nat) (t : TA) : TE := fun σ H Q => ∃ (f : Addr) (fd : FuncData) (ps : List Str) (sp : Sp), FnOk X.prog X.w X.K X.mg X.base (L2.CX X.prog X.w) k f fd ps sp ∧ PySem.W.keepIn X.K (.ref f) = true ∧ Binds X.K fd ps [] ∧ tCallL i f sp [] (fun _ _ _ => False) t σ H Q
theorem de_callV {k i : Nat} {c : Str} {p : Pos} {es : List Expr} {gs : Rho → Re (List PyData)} {tbl : List (Str × (List PyData → Re PyData))} (m : M i = false) (T : TblOk X.prog X.w X.K X.mg X.base k tbl) (hr : Room k X.A) (ha : DA X M F E la (a :: es) gs)
    (hN : X.N[i]? = some c := by rfl) (hv : Vis X.env.scope c := by first | exact Or.inl rfl | exact Or.inr (Or.inl rfl)) (hdb : (c == ("__debug__" : Str)) = false := by decide) (hcd : (c == ("__classdict__" : Str)) = false := by decide)
    (he : starEach (a :: es) X.env = (false, eval a X.env) :: starEach es X.env := by rfl) (hpl : (backTo pos (starEach es X.env)).any (·.1) = false := by rfl) :
    DE X M F E la false (.Call (.Name c p) (a :: es) [] pos) (rCallV tbl (rVar i) gs) := by
  obtain ⟨t, pa, ha⟩ := ha
  have no : Passes (L2.CX X.prog X.w) X (fun _ _ _ => False) := fun pins σ H s e s' I cx => by
    obtain ⟨x1, x2, x3, x4, x5, y1, y2, y3, y4, y5, y6, y7, z⟩ := cx
    exact z.elim
  refine ⟨tCallV X k i t, ⟨fun pins s σ H Q I ⟨f, fd, ps, sp, G, hk, hb, h⟩ => (pe_callL (i := i) (f := f) (sp := sp) (dvs := []) (E := fun _ _ _ => False) G hr hN hv hk hb .nil no pa hdb hcd he hpl).run pins s σ H Q I h⟩, fun σ H ρ er Q w => ?_⟩
  unfold rCallV at w
  cases q : ρ[i]? with
  | none =>
    have : rVar i ρ = .bad := by unfold rVar; rw [q]
    rw [this] at w
    exact w.elim
  | some o =>
    cases o with
    | none =>
      have : rVar i ρ = .bad := by unfold rVar; rw [q]
      rw [this] at w
      exact w.elim
    | some d =>
      have : rVar i ρ = .ok d := by unfold rVar; rw [q]
      rw [this] at w
      have w : WE X M F E la false σ ρ H (match lookF tbl d with
        | some ff => (gs ρ).andThen fun ds => noEx (ff ds)
        | none => .bad) Q := w
      obtain ⟨v, hσ, r⟩ := er.im i d q m
      cases hl : lookF tbl d with
      | none =>
        rw [hl] at w
        exact w.elim
      | some ff =>
        rw [hl] at w
        have w2 : WE X M F E la false σ ρ H ((gs ρ).andThen fun ds => noEx (ff ds)) Q := w
        clear w
        unfold lookF at hl
        split at hl
        · rename_i n x
          obtain ⟨⟨ps, fA, fd, G, hm, kp, bb⟩, gx⟩ := T x ff hl
          have eA : fA = He.ga X.K x := by
            rw [gx] at hm
            cases hm
            rfl
          cases r with
          | rng h1 =>
            rcases h1 with ⟨j, ej, _⟩ | ⟨y, ey, hy⟩
            · cases ej
            · cases ey
              rw [hy, ← eA] at hσ
              refine ⟨fA, fd, ps, _, G, kp, bb, hσ, ?_⟩
              refine ha σ H ρ er _ (we_stepA w2 fun ds vs H1 e s r1 z1 => ?_)
              rw [List.append_nil]
              refine ⟨ds, RS M F σ ρ la, r1, ⟨(er.same s).freshS, (er.same s).tab⟩, ?_⟩
              have z1 : WE X M F E la false σ ρ H1 (noEx (ff ds)) Q := z1
              cases qf : ff ds with
              | ok d =>
                rw [qf] at z1
                exact fun v H' s' r' => z1 v H' s' r' fun z => nomatch z
              | ex c =>
                rw [qf] at z1
                exact z1.elim
              | bad =>
                rw [qf] at z1
                exact z1.elim
        · cases hl
end
end Pu

set_option Elab.async false
set_option linter.all false
set_option maxRecDepth 100000
set_option maxHeartbeats 4000000
/-! dicts of texts: displays, look, in -/
namespace Pu
open PySem PySem.Spec PyProof.Rows L2
variable [TabL]
/-! data that reaches no list and no dict -/
mutual
def pur : PyData → Bool
  | .dict [(.int _, .str _)] => true
  | .dict _ => false
  | .list _ => false
  | .tuple ds => purAll ds
  | _ => true
def purAll : List PyData → Bool
  | [] => true
  | d :: ds => pur d && purAll ds
end
section
variable {K : PySem.W.Frag} {H H' : Hp} {S S' : Addr → Prop}
theorem purAll_cons {x : PyData} {xs : List PyData} : purAll (x :: xs) = (pur x && purAll xs) := by rw [purAll]
theorem pur_tup {xs : List PyData} : pur (.tuple xs) = purAll xs := by rw [pur]
theorem pur_no {A : Prop} {b : Bool} (e : b = false) (h : b = true) : A := by
  rw [e] at h
  cases h
mutual
theorem Rp.pure : ∀ {d : PyData} {v : V}, Rp K H S v d → pur d = true → Rp K H S' v d
  | _, _, .non, _ => .non
  | _, _, .bl b, _ => .bl b
  | _, _, .int i, _ => .int i
  | _, _, .str x, _ => .str x
  | _, _, .tup h1 h2, h => .tup h1 (RpA.pure h2 (pur_tup.symm.trans h))
  | _, _, .lst h1 h2 h3, h => pur_no (by rw [pur]) h
  | _, _, .scr h1 h3, h => pur_no (by rw [pur]; intro _ _ z; injection z with z1 z2; injection z1 with z3; cases z3) h
  | _, _, .dic h1 h2 h3 h4, h => pur_no (by rw [pur]; intro _ _ z; injection z with z1 z2; injection z1 with z3; cases z3) h
  | _, _, .dct h1 h2 h3 h4, h => pur_no (by rw [pur]; intro _ _ z; injection z with z1 z2; injection z1 with z3; cases z3) h
  | _, _, .dit h1 h2 h3 h4, h => pur_no (by rw [pur]; intro _ _ z; injection z with z1 z2; injection z1 with z3; cases z3) h
  | _, _, .dif h1 h3 h4, h => pur_no (by rw [pur]; intro _ _ z; injection z with z1 z2; injection z1 with z3; cases z3) h
  | _, _, .rng h1, h => .rng h1
theorem RpA.pure : ∀ {ds : List PyData} {vs : List V}, RpA K H S vs ds → purAll ds = true → RpA K H S' vs ds
  | _, _, .nil, _ => .nil
  | _, _, .cons h1 h2, h => .cons (Rp.pure h1 (Bool.and_eq_true_iff.mp (purAll_cons.symm.trans h)).1) (RpA.pure h2 (Bool.and_eq_true_iff.mp (purAll_cons.symm.trans h)).2)
end
end
/-! the values of a display -/
def DPs (X : Cx) (pos : Pos) (M : Nat → Bool) (F : Fx) (E : L2.St → XK) (keys : List (Option Expr)) (vals : List Expr) (zs : List Str) (gs : Rho → Re (List PyData)) : Prop :=
  ∃ trs, PPs X pos keys vals trs ∧ ∀ σ H ρ, ER X.K M F σ H ρ → ∀ Q : List (V × V) → Hp → Prop, (match gs ρ with
    | .ok ds => ∀ vs H', Same H H' → RpA X.K H' (RS M F σ ρ false) vs ds → vs.length = zs.length → Q ((zs.map V.str).zip vs) H'
    | .ex c => ∀ C H', X.mg c = some (.ref C) → Same H H' → E σ (.ref C) none H'
    | .bad => False) → tPairs trs σ H Q
section
variable {X : Cx} {M : Nat → Bool} {F : Fx} {E : L2.St → XK} {la fa lb fb : Bool} {a b : Expr} {pos : Pos} {f g : Rho → Re PyData}
theorem dps_nil : DPs X pos M F E [] [] [] aNil := ⟨_, pps_nil, fun σ H ρ er Q w => w [] H (Same.refl _) .nil rfl⟩
theorem dps_cons {z : Str} {j : Nat} {kp : Pos} {keys : List (Option Expr)} {vals : List Expr} {zs : List Str} {gs : Rho → Re (List PyData)} (hv : DE X M F E false fa a f) (hr : DPs X pos M F E keys vals zs gs) :
    DPs X pos M F E (some (.Constant (.str z) j kp) :: keys) (a :: vals) (z :: zs) (aCons f gs) := by
  obtain ⟨tv, pv, hv⟩ := hv
  obtain ⟨trs, pr, hr⟩ := hr
  refine ⟨_, pps_cons pe_str pv pr, fun σ H ρ er Q w => ?_⟩
  show tv σ H fun y H2 => tPairs trs σ H2 fun ps H3 => Q ((V.str z, y) :: ps) H3
  refine hv σ H ρ er _ ?_
  unfold aCons at w
  cases qf : f ρ with
  | ex c =>
    rw [qf] at w
    exact w
  | bad =>
    rw [qf] at w
    exact w.elim
  | ok d =>
    rw [qf] at w
    refine fun y H2 s2 r2 _ => ?_
    refine hr σ H2 ρ (er.same s2) _ ?_
    cases qg : gs ρ with
    | ex c =>
      rw [qg] at w
      exact fun C H' m s => w C H' m (s2.trans s)
    | bad =>
      rw [qg] at w
      exact w.elim
    | ok ds =>
      rw [qg] at w
      refine fun vs H3 s3 r3 hl => ?_
      exact w (y :: vs) H3 (s2.trans s3) (.cons (r2.same s3) r3) (by rw [List.length_cons, List.length_cons, hl])
theorem putK_new {k : Key} {v : V} : ∀ {kvs : List (Key × V)}, k ∉ kvs.map (·.1) → putK kvs k v = kvs ++ [(k, v)] := fun {kvs} h => by
  unfold putK
  rw [if_neg]
  intro z
  obtain ⟨p, hp, e⟩ := List.any_eq_true.mp z
  exact h (List.mem_map.mpr ⟨p, hp, of_decide_eq_true e⟩)
theorem merge_new : ∀ (more kvs : List (Key × V)), ((kvs ++ more).map (·.1)).Nodup → mergeK kvs more = kvs ++ more
  | [], kvs, _ => by
    rw [List.append_nil]
    rfl
  | p :: more, kvs, h => by
    have hn : p.1 ∉ kvs.map (·.1) := fun z => by
      rw [List.map_append, List.map_cons] at h
      exact (List.nodup_append.mp h).2.2 p.1 z p.1 (.head _) rfl
    show mergeK (putK kvs p.1 p.2) more = _
    rw [putK_new hn, merge_new more (kvs ++ [(p.1, p.2)]) (by rw [List.append_assoc]; exact h), List.append_assoc]
    rfl
/-- {'a': x, 'b': y, ..} -/
def rDispS (zs : List Str) (gs : Rho → Re (List PyData)) : Rho → Re PyData := fun ρ => (gs ρ).andThen fun ds => if purAll ds = true ∧ ds.length = zs.length then .ok (dicD ((zs.map PyData.str).zip ds)) else .bad
theorem de_dispS {keys : List (Option Expr)} {vals : List Expr} {zs : List Str} {gs : Rho → Re (List PyData)} (h : DPs X pos M F E keys vals zs gs) (hnd : zs.Nodup) (h15 : zs.length ≤ 15) (hall : keys.all (·.isSome) = true := by rfl) (hl : keys.length = vals.length := by rfl) (h0 : keys ≠ [] := by exact List.cons_ne_nil _ _) (hk15 : keys.length ≤ 15 := by exact Nat.le_of_ble_eq_true rfl) :
    DE X M F E false true (.Dict keys vals pos) (rDispS zs gs) := by
  obtain ⟨trs, pr, h⟩ := h
  refine ⟨_, pe_disp pr hall hl h0 hk15, fun σ H ρ er Q w => ?_⟩
  intro p hp
  have s0 : Same H (upd H p (.dK [])) := same_new hp
  refine h σ _ ρ (er.same s0) _ ?_
  unfold rDispS at w
  cases qg : gs ρ with
  | ex c =>
    rw [qg] at w
    exact fun C H' m s => w C H' m (s0.trans s)
  | bad =>
    rw [qg] at w
    exact w.elim
  | ok ds =>
    rw [qg] at w
    refine fun vs H2 s2 r2 hvl => ?_
    have w : WE X M F E false true σ ρ H (if purAll ds = true ∧ ds.length = zs.length then .ok (dicD ((zs.map PyData.str).zip ds)) else .bad) Q := w
    by_cases c : purAll ds = true ∧ ds.length = zs.length
    · rw [if_pos c] at w
      have h2p : H2 p = some (.dK []) := s2 _ _ upd_same
      have s02 : Same H H2 := s0.trans s2
      have e1 : (zs.map V.str).zip vs = (((zs.map Sum.inr).zip vs : List (Key × V))).map fun kv => (kV kv.1, kv.2) := by
        have e : ∀ (zs : List Str) (vs : List V), (zs.map V.str).zip vs = (((zs.map Sum.inr).zip vs : List (Key × V))).map fun kv => (kV kv.1, kv.2) := fun zs => by
          induction zs with
          | nil => intro _; rfl
          | cons z zs ih =>
            intro vs
            cases vs with
            | nil => rfl
            | cons v vs =>
              rw [List.map_cons, List.map_cons, List.zip_cons_cons, List.zip_cons_cons, List.map_cons, ih vs]
              rfl
        exact e zs vs
      have lk : ((zs.map Sum.inr : List Key)).length = vs.length := by rw [List.length_map, hvl]
      have e2 : mergeK [] ((zs.map Sum.inr).zip vs) = (zs.map Sum.inr).zip vs := by
        have := merge_new ((zs.map Sum.inr).zip vs) [] (by
          rw [List.nil_append, List.map_fst_zip (by omega)]
          exact hnd.map _ fun a b ne e => ne (Sum.inr.inj e))
        rw [this, List.nil_append]
      have s03 : Same H (upd H2 p (.dK ((zs.map Sum.inr).zip vs))) := s02.put hp h2p plain_dK
      have ru : ∀ S' : Addr → Prop, RpA X.K (upd H2 p (.dK ((zs.map Sum.inr).zip vs))) S' vs ds := fun S' => by
        have r0 : RpA X.K H2 (fun _ => False) vs ds := r2.pure c.1
        have r3 := r0.keep (S' := fun _ => False) (H' := upd H2 p (.dK ((zs.map Sum.inr).zip vs))) ⟨fun x o q z _ => by
          rcases z with z | z
          · exact z.elim
          · have : x ≠ p := fun y => by
              rw [y, h2p] at q
              cases q
              exact z trivial
            rw [upd_ne this]
            exact q⟩ fun _ _ z _ _ => z
        exact r3.wide fun _ z => z.elim
      refine ⟨h2p, (zs.map Sum.inr).zip vs, e1, by rw [List.length_zip, List.length_map]; omega, ?_⟩
      rw [e2]
      have ed : dicD ((zs.map PyData.str).zip ds) = .dict ((.bool true, .none) :: (((zs.map Sum.inr : List Key)).map kD).zip ds) := by
        rw [List.map_map]
        rfl
      rw [ed] at w
      exact w (.ref p) _ s03 (.dic upd_same (er.freshS p hp) lk (ru _)) fun _ => ⟨p, rfl, hp, .dic upd_same lk (ru _)⟩
    · rw [if_neg c] at w
      exact w.elim
/-! look, in -/
def keyS (z : Str) : PyData → Bool
  | .str y => decide (y = z)
  | _ => false
def lookS (kvs : List (PyData × PyData)) (z : Str) : Option PyData := (kvs.find? fun p => keyS z p.1).map (·.2)
theorem keyS_kD (z : Str) (k : Key) : keyS z (kD k) = decide (k = .inr z) := by
  cases k with
  | inl j => exact (decide_eq_false fun e => nomatch e).symm
  | inr y =>
    show decide (y = z) = decide ((Sum.inr y : Key) = .inr z)
    exact decide_eq_decide.mpr ⟨fun e => by rw [e], fun e => Sum.inr.inj e⟩
theorem lookS_of {K : PySem.W.Frag} {H : Hp} {S : Addr → Prop} (z : Str) : ∀ {ks : List Key} {xs : List V} {ds : List PyData}, ks.length = xs.length → RpA K H S xs ds →
    match lookS ((ks.map kD).zip ds) z with
    | some d => ∃ v, valV (ks.zip xs) (.inr z) = some v ∧ Rp K H S v d
    | none => valV (ks.zip xs) (.inr z) = none
  | [], _, _, _, _ => by
    simp [lookS, valV]
  | k :: ks, [], _, h, _ => by simp at h
  | k :: ks, x :: xs, _, h, .cons (d := d) (ds := ds) r rr => by
    have ih := lookS_of z (ks := ks) (xs := xs) (by simpa using h) rr
    rw [List.map_cons, List.zip_cons_cons, List.zip_cons_cons]
    unfold lookS valV at *
    rw [List.find?_cons, List.find?_cons, keyS_kD]
    by_cases e : k = .inr z
    · simp only [e, decide_true]
      exact ⟨x, rfl, r⟩
    · simp only [e, decide_false]
      exact ih
def oDGetS : PyData → PyData → Option PyData := fun d e => match kvsOf d, e with | some kvs, .str z => lookS kvs z | _, _ => none
theorem oDGetS_some {d e z : PyData} (h : oDGetS d e = some z) : ∃ kvs y, d = dicD kvs ∧ e = .str y ∧ lookS kvs y = some z := by
  unfold oDGetS kvsOf at h
  split at h
  · rename_i kvs i q
    split at q
    · cases q
      exact ⟨_, _, rfl, rfl, h⟩
    · cases q
  · cases h
theorem de_dgetS (hu : X.A.units + 64 < cLine) (ha : DE X M F E la fa a f) (hb : DE X M F E lb fb b g) (hs : NoSl b := by intro _ _; rfl) : DE X M F E (la || lb) false (.Subscript a b pos) (r2 oDGetS f g) := by
  obtain ⟨ta, pa, ha⟩ := ha
  obtain ⟨tb, pb, hb⟩ := hb
  refine ⟨_, pe_dget (by omega) pa pb hs, fun σ H ρ er Q z => ?_⟩
  refine ha σ H ρ er _ (we_step z fun d v H1 e1 s1 r1 _ z1 => ?_)
  refine hb σ H1 ρ (er.same s1) _ (we_step (lk' := lb) (fr' := fb) z1 fun e u H2 e2 s2 r2 _ z2 => ?_)
  have z3 : WE X M F E (la || lb) false σ ρ H2 (liftO (oDGetS d e)) Q := z2
  clear z2
  cases q : oDGetS d e with
  | none =>
    rw [q] at z3
    exact z3.elim
  | some zz =>
    rw [q] at z3
    obtain ⟨kvs, i, rfl, rfl, hl⟩ := oDGetS_some q
    have r1' := r1.same s2
    cases r2
    generalize hd : dicD kvs = dd at r1'
    cases r1' with
    | dic h1 h2 h3 h4 =>
      unfold dicD at hd
      cases hd
      have lo := lookS_of i h3 h4
      rw [hl] at lo
      obtain ⟨v', hv, rv⟩ := lo
      refine ⟨_, v', rfl, ?_, z3 _ H2 (Same.refl _) (rv.wide fun a h => rs_or1 a h) fun z => nomatch z⟩
      have := DGet.k (k := Sum.inr i) h1
      rw [hv] at this
      exact this
    | dif h1 h3 h4 =>
      unfold dicD at hd
      cases hd
      have lo := lookS_of i h3 h4
      rw [hl] at lo
      obtain ⟨v', hv, rv⟩ := lo
      refine ⟨_, v', rfl, ?_, z3 _ H2 (Same.refl _) (rv.wide fun a h => rs_or1 a h) fun z => nomatch z⟩
      exact .inl ⟨_, Sum.inr i, .inr ⟨_, h1⟩, rfl, hv.symm⟩
    | rng _ => exact nomatch hd
    | scr _ _ => exact nomatch hd
    | dit _ _ _ _ => exact nomatch hd
    | dct _ _ _ _ => exact nomatch hd
    | bl _ => exact nomatch hd
    | non => exact nomatch hd
    | int _ => exact nomatch hd
    | str _ => exact nomatch hd
    | tup _ _ => exact nomatch hd
    | lst _ _ _ => exact nomatch hd
def oInDS (neg : Bool) : PyData → PyData → Option PyData := fun d e => match d, kvsOf e with
  | .str z, some kvs => some (.bool (if neg = true then !(lookS kvs z).isSome else (lookS kvs z).isSome))
  | _, _ => none
theorem oInDS_some {neg : Bool} {d e z : PyData} (h : oInDS neg d e = some z) : ∃ kvs y, d = .str y ∧ e = dicD kvs ∧ z = .bool (if neg = true then !(lookS kvs y).isSome else (lookS kvs y).isSome) := by
  unfold oInDS at h
  split at h
  · rename_i i kvs q
    cases h
    unfold kvsOf at q
    split at q
    · cases q
      exact ⟨_, _, rfl, rfl, rfl⟩
    · cases q
  · cases h
theorem in_dgetS {K : PySem.W.Frag} {H : Hp} {S : Addr → Prop} {v : V} {kvs : List (PyData × PyData)} (i : Str) (r : Rp K H S v (dicD kvs)) : ∃ (p : Addr) (o : Option V), v = .ref p ∧ DGet H p (V.str i) o ∧ o.isSome = (lookS kvs i).isSome := by
  generalize hd : dicD kvs = dd at r
  have fin : ∀ {ks : List Key} {xs : List V} {ds : List PyData}, ks.length = xs.length → RpA K H S xs ds → (valV (ks.zip xs) (.inr i)).isSome = (lookS ((ks.map kD).zip ds) i).isSome := fun h3 h4 => by
    have lo := lookS_of i h3 h4
    cases q : lookS ((_ : List PyData).zip _) i with
    | none =>
      rw [q] at lo
      rw [lo]
      rfl
    | some z =>
      rw [q] at lo
      obtain ⟨v, hv, _⟩ := lo
      rw [hv]
      rfl
  cases r with
  | dic h1 h2 h3 h4 =>
    unfold dicD at hd
    cases hd
    exact ⟨_, _, rfl, DGet.k (k := Sum.inr i) h1, fin h3 h4⟩
  | dif h1 h3 h4 =>
    unfold dicD at hd
    cases hd
    exact ⟨_, _, rfl, .inl ⟨_, Sum.inr i, .inr ⟨_, h1⟩, rfl, rfl⟩, fin h3 h4⟩
  | rng _ => exact nomatch hd
  | scr _ _ => exact nomatch hd
  | dit _ _ _ _ => exact nomatch hd
  | dct _ _ _ _ => exact nomatch hd
  | bl _ => exact nomatch hd
  | non => exact nomatch hd
  | int _ => exact nomatch hd
  | str _ => exact nomatch hd
  | tup _ _ => exact nomatch hd
  | lst _ _ _ => exact nomatch hd
theorem dt_dnotinS (hu : X.A.units + 64 < cLine) (ha : DE X M F E la fa a f) (hb : DE X M F E lb fb b g) (hm : behindInMarks .NotIn b = false) : DT X M F E (.Compare a [.NotIn] [b] pos) (asB (r2 (oInDS true) f g)) := by
  obtain ⟨ta, pa, ha⟩ := ha
  obtain ⟨tb, pb, hb⟩ := hb
  refine ⟨_, pt_cmp (pc_dnotin (by omega) pa pb) hm, fun σ H ρ er Q w => wt_asB (lk := la || lb) (fr := false) (h := r2 (oInDS true) f g) (fun σ H ρ er Q z => ?_) er w⟩
  refine ha σ H ρ er _ (we_step z fun d v H1 e1 s1 r1 _ z1 => ?_)
  refine hb σ H1 ρ (er.same s1) _ (we_step (lk' := lb) (fr' := fb) z1 fun e u H2 e2 s2 r2 _ z2 => ?_)
  have z3 : WE X M F E (la || lb) false σ ρ H2 (liftO (oInDS true d e)) Q := z2
  clear z2
  cases q : oInDS true d e with
  | none =>
    rw [q] at z3
    exact z3.elim
  | some z =>
    rw [q] at z3
    obtain ⟨kvs, i, rfl, rfl, rfl⟩ := oInDS_some q
    cases r1
    obtain ⟨p, o, rfl, dg, eo⟩ := in_dgetS i r2
    refine ⟨p, o, rfl, dg, ?_⟩
    rw [eo]
    exact z3 _ H2 (Same.refl _) (.bl _) fun z => nomatch z
end
end Pu

set_option Elab.async false
set_option linter.all false
set_option maxRecDepth 100000
set_option maxHeartbeats 4000000
/-! comb(a, b); xs[lo:hi:-k] of a list -/
namespace Pu
open PySem PySem.Spec PyProof.Rows L2
variable [TabL]
def rComb : List V → Hp → VK → Prop := fun vs H Q => ∃ a b : Int, vs = [.int a, .int b] ∧ (0 ≤ a ∧ a ≤ 100) ∧ (0 ≤ b ∧ b ≤ 100) ∧ Q (.int (PySem.W.mcComb a b)) H
theorem cr_comb {X : Cx} : CallR X (.builtin "math.comb") rComb := by
  intro pins s σ H vs us Q I r h
  obtain ⟨a, b, rfl, ha, hb, q⟩ := h
  obtain ⟨u1, u2, rfl, ⟨t1, rfl⟩, ⟨t2, rfl⟩⟩ := vals2 r
  exact PySem.W.mc_comb_v ha.1 hb.1 (by omega) (.inl (by omega)) rfl ⟨.int _, H, I.tok _, ⟨_, rfl⟩, q⟩
def bComb : List PyData → Option PyData := fun ds => match ds with
  | [.int a, .int b] => if (0 ≤ a ∧ a ≤ 100) ∧ (0 ≤ b ∧ b ≤ 100) then some (.int (PySem.W.mcComb a b)) else none
  | _ => none
theorem s_comb {K : PySem.W.Frag} : SemL K rComb false bComb := fun S H xs ds z Q new r q k => by
  unfold bComb at q
  split at q
  · rename_i a b
    by_cases h : (0 ≤ a ∧ a ≤ 100) ∧ (0 ≤ b ∧ b ≤ 100)
    · rw [if_pos h] at q
      cases q
      cases r with
      | cons r1 r2 =>
        cases r2 with
        | cons r3 r4 =>
          cases r4
          cases r1
          cases r3
          exact ⟨a, b, rfl, h.1, h.2, k _ H (Same.refl H) (.int _) fun z => nomatch z⟩
    · rw [if_neg h] at q
      cases q
  · cases q
def pkI (n : Nat) (lo hi : Option Int) (st : Int) : List Nat := sliceRange (sliceBounds lo hi (some st) n).1 (sliceBounds lo hi (some st) n).2.1 (sliceBounds lo hi (some st) n).2.2
def pkL {α : Type} (xs : List α) (lo hi : Option Int) (st : Int) : List α := (pkI xs.length lo hi st).filterMap (xs[·]?)
section
variable {X : Cx} {M : Nat → Bool} {F : Fx} {E : L2.St → XK} {la fa : Bool} {a : Expr} {pos : Pos} {f : Rho → Re PyData}
theorem filt_vals {K : List V} {us : List Value} (r : Vals K us) : ∀ is : List Nat, Vals (is.filterMap (K[·]?)) (is.filterMap (us[·]?))
  | [] => .nil
  | i :: is => by
    have ih := filt_vals r is
    rw [List.filterMap_cons, List.filterMap_cons]
    have key : ∀ {K : List V} {us : List Value}, Vals K us → ∀ i : Nat, (K[i]? = none ∧ us[i]? = none) ∨ ∃ v u, K[i]? = some v ∧ us[i]? = some u ∧ RelV v u := fun {K us} r => by
      induction r with
      | nil => exact fun i => .inl ⟨rfl, rfl⟩
      | @cons v u vs us h t ih =>
        intro i
        cases i with
        | zero => exact .inr ⟨v, u, rfl, rfl, h⟩
        | succ i => exact ih i
    rcases key r i with ⟨e1, e2⟩ | ⟨v, u, e1, e2, h⟩
    · rw [e1, e2]
      exact ih
    · rw [e1, e2]
      exact .cons h ih
theorem filt_rp {K : PySem.W.Frag} {H : Hp} {S : Addr → Prop} {xs : List V} {ds : List PyData} (r : RpA K H S xs ds) : ∀ is : List Nat, RpA K H S (is.filterMap (xs[·]?)) (is.filterMap (ds[·]?))
  | [] => .nil
  | i :: is => by
    have ih := filt_rp r is
    rw [List.filterMap_cons, List.filterMap_cons]
    cases e : ds[i]? with
    | none =>
      have : xs[i]? = none := by
        rw [List.getElem?_eq_none_iff] at e ⊢
        rw [r.length]
        exact e
      rw [this]
      exact ih
    | some d =>
      obtain ⟨v, hv, rv⟩ := r.get' e
      rw [hv]
      exact .cons rv ih
def tPk (K : PySem.W.Frag) (te : TE) (tl th : TO) (st : Int) : TE := fun σ H Q => te σ H fun x H1 => tl σ H1 fun lo H2 => th σ H2 fun hi H3 => ∃ a xs, x = .ref a ∧ SqL K H3 a xs ∧ ∀ p, H3 p = none → Q (.ref p) (upd H3 p (.lst (pkL xs lo hi st)))
theorem pe_pk {e : Expr} {te : TE} {lo hi : Option Expr} {tl th : TO} {kk : Int} {k : Nat} {p1 p2 p3 : Pos} (he : PE X e te) (hl : PO X lo tl) (hh : PO X hi th) (h0 : -kk ≠ 0) : PE X (.Subscript e (.Slice lo hi (some (.UnaryOp .USub (.Constant (.int kk) k p1) p2)) p3) pos) (tPk X.K te tl th (-kk)) := by
  refine ⟨fun pins s σ H Q I h => ?_⟩
  refine Subscript_ (thn (he.run pins s σ H _ I h) fun v s1 ⟨x, H1, I1, r1, q1⟩ => ?_)
  have hst : PO X (some (.UnaryOp .USub (.Constant (.int kk) k p1) p2)) (tPart (tUn (rU fun i => .int (-i)) (L2.tC (.int kk)))) := po_some (pe_un un_neg pe_int)
  refine wpAny_Slice (thn (hl.run pins s1 σ H1 _ I1 q1) fun vl s2 ⟨l, H2, I2, pl, q2⟩ => ?_)
  refine thn (hh.run pins s2 σ H2 _ I2 q2) fun vu s3 ⟨u, H3, I3, pu, q3⟩ => ?_
  refine thn (hst.run pins s3 σ H3 (fun o H4 => o = some (-kk) ∧ H4 = H3) I3 ⟨kk, rfl, -kk, rfl, rfl, rfl⟩) fun vs s4 ⟨o, H4, I4, ps, eo, e4⟩ => ?_
  subst eo e4
  obtain ⟨a, xs, ex, hx, q⟩ := q3
  subst ex
  cases r1
  have I5 : Inv X pins σ H4 { s4 with heap := s4.heap.push { cls := .type "slice", data := .fields #[vl, vu, vs] } } := I4.kept (t' := s4.toks) fun b ob q => Heap.get?_push_of_some _ q
  obtain ⟨its, r, ht, hz⟩ := I5.list hx
  have hlen := r.length
  show wpAny (model X.prog X.w) X.A (subscriptTail e (.Slice lo hi (some (.UnaryOp .USub (.Constant (.int kk) k p1) p2)) p3) (.ref a) (.ref s4.heap.objs.size)) (EP X pins σ Q) X.xe { s4 with heap := s4.heap.push { cls := .type "slice", data := .fields #[vl, vu, vs] } }
  refine tail_any (ops := [.ref a, .ref s4.heap.objs.size]) ht.isList.typeIs (PySem.slot_list_getitem.lookup) ?_ (by with_unfolding_all rfl)
  refine wpAny_getItem_list_slice ht.isList (Heap.IsSliceOf.new _ vl vu vs) pl pu ps (fun z => h0 (Option.some.inj z)) ?_ (by rw [List.size_toArray]; omega)
  have hpk : slicePick its.toArray l u (some (-kk)) = ((pkI xs.length l u (-kk)).filterMap (its[·]?)).toArray := by
    unfold slicePick pkI
    rw [List.size_toArray, ← hlen]
    simp
  rw [hpk]
  refine ⟨.ref _, _, I5.laid (t' := s4.toks) (o := .lst (pkL xs l u (-kk))) (fun b ob q => Heap.get?_push_of_some _ q) (Nat.le_refl _) ?_, rfl, q _ (I5.hok.fresh (Nat.le_refl _))⟩
  refine ⟨?_, _, 0, filt_vals r (pkI xs.length l u (-kk)), Heap.get?_push_size _ rfl⟩
  have h1 : (pkL xs l u (-kk)).length ≤ xs.length := by
    have z := slicePick_size_le its.toArray l u (some (-kk))
    rw [hpk, List.size_toArray, List.size_toArray] at z
    have z2 : (pkL xs l u (-kk)).length = ((pkI xs.length l u (-kk)).filterMap (its[·]?)).length := (filt_vals r (pkI xs.length l u (-kk))).length
    omega
  omega
theorem pk_rp {K : PySem.W.Frag} {H : Hp} {S : Addr → Prop} {xs : List V} {ds : List PyData} {lo hi : Option Int} {st : Int} (r : RpA K H S xs ds) : RpA K H S (pkL xs lo hi st) (pkL ds lo hi st) := by
  unfold pkL
  rw [r.length]
  exact filt_rp r _
def oPk (st : Int) (d : PyData) (lo hi : Option Int) : Re PyData := match d with
  | .list ds => .ok (.list (pkL ds lo hi st))
  | _ => .bad
def rPk (st : Int) (f : Rho → Re PyData) (lo hi : Rho → Re (Option Int)) : Rho → Re PyData := fun ρ => (f ρ).andThen fun d => (lo ρ).andThen fun l => (hi ρ).andThen fun h => oPk st d l h
theorem de_pk {lo hi : Option Expr} {fl fh : Rho → Re (Option Int)} {kk : Int} {k : Nat} {p1 p2 p3 : Pos} (ha : DE X M F E la fa a f) (hl : DO X M F E lo fl) (hh : DO X M F E hi fh) (h0 : -kk ≠ 0 := by decide) : DE X M F E la false (.Subscript a (.Slice lo hi (some (.UnaryOp .USub (.Constant (.int kk) k p1) p2)) p3) pos) (rPk (-kk) f fl fh) := by
  obtain ⟨ta, pa, ha⟩ := ha
  obtain ⟨tl, pl, hl⟩ := hl
  obtain ⟨th, ph, hh⟩ := hh
  refine ⟨_, pe_pk pa pl ph h0, fun σ H ρ er Q w => ?_⟩
  refine ha σ H ρ er _ (we_step w fun d v H1 e1 s1 r1 _ w1 => ?_)
  refine hl σ H1 ρ (er.same s1) _ (wo_step w1 fun l H2 e2 s2 w2 => ?_)
  refine hh σ H2 ρ ((er.same s1).same s2) _ (wo_step w2 fun h H3 e3 s3 w3 => ?_)
  have er3 := ((er.same s1).same s2).same s3
  have r3 := r1.same (s2.trans s3)
  have w3 : WE X M F E la false σ ρ H3 (oPk (-kk) d l h) Q := w3
  cases r3 with
  | lst h1 hS rr =>
    refine ⟨_, _, rfl, .inl (.inl h1), fun p hp => ?_⟩
    refine w3 _ _ (same_new hp) (.lst upd_same (er3.freshS p hp) ?_) fun z => nomatch z
    exact (pk_rp rr).same (same_new hp)
  | tup _ _ => exact w3.elim
  | bl _ => exact w3.elim
  | non => exact w3.elim
  | int _ => exact w3.elim
  | str _ => exact w3.elim
  | scr _ _ => exact w3.elim
  | dic _ _ _ _ => exact w3.elim
  | dit _ _ _ _ => exact w3.elim
  | dif _ _ _ => exact w3.elim
  | rng _ => exact w3.elim
  | dct _ _ _ _ => exact w3.elim
end
end Pu

set_option Elab.async false
set_option linter.all false
set_option maxRecDepth 100000
set_option maxHeartbeats 2000000
/-! ### sum(t) of a tuple of ints -/
namespace Pu
open PySem PySem.Spec PyProof.Rows L2
/-- a list of ints, as the walk counts it -/
theorem walked_ints {vs : List Value} {zs : List Int} (z : IntsAre vs zs) : ∃ xs, vs.toArray = intItems xs ∧ preSum (numAt xs) (intItems xs).size = zs.sum := by
  have ⟨xs, he⟩ := z.allInts.items
  have same : numsOf (intItems xs).toList = zs := he ▸ z.numsOf
  rw [nums_intItems] at same
  have whole : (intItems xs).size = xs.size := Array.size_map ..
  refine ⟨xs, he, ?_⟩
  rw [whole, preSum_eq, List.take_of_length_le (by simp), ← same]
theorem sum_tup_raw {P : Program} {W : World} {B : Around} {Er : Value → Shared → Prop} {st : Shared} {t : Addr} {vs : List Value} {zs : List Int} {Post : Value → Shared → Prop} (top : B.handled = none) (tup : st.heap.IsTuple t vs.toArray) (all : IntsAre vs zs)
    (next : ∀ hp n tk, (∀ b o, st.heap.get? b = some o → hp.get? b = some o) → Post (.int zs.sum tk) { st with heap := hp, toks := n }) :
    wpAny (model P W) B (call (.builtin "sum") [.ref t]) Post Er st := by
  obtain ⟨xs, he, tot⟩ := walked_ints all
  rw [he] at tup
  have old : t < st.heap.objs.size := tup.elim fun _ z => Heap.lt_size z.1
  have far : t ≠ st.heap.objs.size := Nat.ne_of_lt old
  have W1 := Walks.tuple (prog := P) (w := W) (A := B.in1) top st.heap.objs.size t far (intItems xs)
  have within : ∀ c ∈ [st.heap.objs.size, t], c ≤ st.heap.objs.size := fun c m => by
    rcases List.mem_cons.mp m with z | z
    · exact Nat.le_of_eq z
    · exact Nat.le_of_lt (List.mem_singleton.mp z ▸ old)
  refine call_sum_walkG (wpAny_pyIter_tuple tup ⟨_, [_, t], [_], _, _, _, numAt xs, rfl, W1, ⟨⟨_, Heap.get?_push_size _ rfl, rfl, rfl⟩, tup.push _⟩, fun c m => ?_, fun _ _ => intItems_at, fun hp n tk keep => ?_⟩)
  · rw [show (Shared.heap _).objs.size = st.heap.objs.size + 1 from Heap.size_push ..]
    exact Nat.lt_succ_of_le (within c m)
  · rw [tot]
    refine next hp n tk fun b o e => keep b o (fun m => ?_) (Heap.get?_push_of_some _ e)
    have := Heap.lt_size e
    exact Nat.lt_irrefl _ (List.mem_singleton.mp m ▸ this)
section
variable {X : Cx}
def rSumT (K : PySem.W.Frag) : List V → Hp → VK → Prop := fun vs H Q => ∃ (a : Addr) (ns : List Int), vs = [V.ref a] ∧ SqT K H a (ns.map V.int) ∧ Q (.int ns.sum) H
theorem cr_sumT (hc : X.calm = true) : CallR X (.builtin "sum") (rSumT X.K) := by
  rintro pins s σ H _ us Q I r ⟨a, zs, rfl, hs, done⟩
  have ⟨vs, rv, tup, _⟩ := I.tuple hs
  rw [Vals.ref1 r]
  exact sum_tup_raw (I.ok.hd hc) tup rv.ints fun _ _ _ keep => ⟨.int _, H, I.kept keep, ⟨_, rfl⟩, done⟩
end
def bSumT : List PyData → Option PyData := fun ds => match ds with
  | [.tuple xs] => (asInts xs).map fun ns => .int ns.sum
  | _ => none
theorem s_sumT {K : PySem.W.Frag} : SemL K (rSumT K) false bSumT := fun S H xs ds z Q new r q k => by
  unfold bSumT at q
  split at q
  · rename_i ys
    obtain ⟨ns, e, rfl⟩ := Option.map_eq_some_iff.mp q
    cases r with
    | cons r1 r2 =>
      cases r2
      cases r1 with
      | tup h1 r1 =>
        rw [asInts_eq e] at r1
        rw [RpA.of_ints r1] at h1
        exact ⟨_, ns, rfl, h1.sq, k _ H (Same.refl H) (.int _) fun z => nomatch z⟩
  · cases q
end Pu

set_option Elab.async false
set_option linter.all false
set_option maxRecDepth 100000
set_option maxHeartbeats 4000000
namespace Gn
open PySem PySem.Spec PyProof.Rows L2 Pu
noncomputable section
/-! ### the mirror -/
def N__law_cell : List Str := ["script", "k"]
def s__law_cell : Rho → Sr := (sSeq (sIf (asB (r2 oLt (rVar 1) (rB bLen (aCons (rVar 0) aNil)))) (sRet (r2 oIx (rVar 0) (rVar 1))) sNil)
    (sRet (rC (.int 0))))
def m__law_cell : List PyData → Re PyData := runF 2 2 s__law_cell
def N__law_digits : List Str := ["cell", "sizes", "row", "size"]
def s__law_digits : Rho → Sr := (sSeq (sSetO 2 false (rLst aNil))
    (sSeq (sFor (iOf itS (rVar 1)) (gSlot 3) (sSeq (sApp 2 false (r2 oMod (rB bInt (aCons (rVar 0) aNil)) (rVar 3)))
    (sSet 0 false (r2 oDiv (rVar 0) (rVar 3)))))
    (sRet (rVar 2))))
def m__law_digits : List PyData → Re PyData := runF 2 4 s__law_digits
def N__law_is_integer : List Str := ["actual"]
def s__law_is_integer : Rho → Sr := (sRet (rAnd (rIsi "int" (rVar 0)) (rNot (rIsi "bool" (rVar 0)))))
def m__law_is_integer : List PyData → Re PyData := runF 1 1 s__law_is_integer
def N_rows_by_rings : List Str := ["m", "counts", "size", "alone", "joined"]
def s_rows_by_rings : Rho → Sr := (sSeq (sSet 1 false (rLst (aCons (rC (.int 1)) aNil)))
    (sSeq (sFor (iR1 (aCons (rVar 0) aNil)) (gSlot 2) (sSet 1 false (rLc (iZp (aCons (r2 oAddL (rLst (aCons (rC (.int 0)) aNil)) (rVar 1)) (aCons (r2 oAddL (rVar 1) (rLst (aCons (rC (.int 0)) aNil))) aNil))) [3, 4] (gSeqD 2 (gMore (gSlot 3) (gMore (gSlot 4) gNone))) yesR (r2 oAdd (rVar 3) (r2 oMul (rVar 2) (rVar 4))))))
    (sRet (rVar 1))))
def m_rows_by_rings : List PyData → Re PyData := runF 1 5 s_rows_by_rings
def N_by_blocks : List Str := ["n", "count"]
def s_by_blocks : Rho → Sr := (sRet (rLc (iOf itS (rPk (-2) (rCall m_rows_by_rings (aCons (r2 oAdd (rVar 0) (rC (.int 2))) aNil)) (asI (r2 oAdd (rVar 0) (rC (.int 1)))) (asI (rC (.int 0))))) [1] (gSlot 1) yesR (r2 oDiv (rVar 1) (rB bComb (aCons (r2 oAdd (rVar 0) (rC (.int 2))) (aCons (rC (.int 2)) aNil))))))
def m_by_blocks : List PyData → Re PyData := runF 1 2 s_by_blocks
def N_by_nexts : List Str := ["n", "counts", "size", "many", "d"]
def s_by_nexts : Rho → Sr := (sSeq (sSet 1 false (rLst (aCons (rC (.int 1)) aNil)))
    (sSeq (sFor (iR2 (aCons (rC (.int 1)) (aCons (r2 oAdd (rVar 0) (rC (.int 1))) aNil))) (gSlot 2) (sSeq (sSet 3 false (r2 oSub (r2 oAdd (rB bLen (aCons (rVar 1) aNil)) (rVar 2)) (rC (.int 1))))
    (sSet 1 false (rLc (iR1 (aCons (rVar 3) aNil)) [4] (gSlot 4) yesR (rB bSum (aCons (rCut (rVar 1) (asI (rB bMax2 (aCons (rC (.int 0)) (aCons (r2 oAdd (r2 oSub (rVar 4) (rVar 2)) (rC (.int 1))) aNil)))) (asI (r2 oAdd (rVar 4) (rC (.int 1))))) aNil))))))
    (sRet (rVar 1))))
def m_by_nexts : List PyData → Re PyData := runF 1 5 s_by_nexts
def N_by_swaps : List Str := ["n"]
def s_by_swaps : Rho → Sr := (sRet (r1 oRevL (rCall m_rows_by_rings (aCons (rVar 0) aNil))))
def m_by_swaps : List PyData → Re PyData := runF 1 1 s_by_swaps
def N_fillings : List Str := ["shape", "hooks", "line", "column", "below", "part"]
def s_fillings : Rho → Sr := (sSeq (sSet 1 false (rC (.int 1)))
    (sSeq (sFor (iR1 (aCons (rB bLen (aCons (rVar 0) aNil)) aNil)) (gSlot 2) (sFor (iR1 (aCons (r2 oIx (rVar 0) (rVar 2)) aNil)) (gSlot 3) (sSeq (sSet 4 false (rLc (iOf itS (rCut (rVar 0) (asI (r2 oAdd (rVar 2) (rC (.int 1)))) noI)) [5] (gSlot 5) (asB (r2 oGt (rVar 5) (rVar 3))) (rVar 5)))
    (sSet 1 false (r2 oMul (rVar 1) (r2 oAdd (r2 oSub (r2 oIx (rVar 0) (rVar 2)) (rVar 3)) (rB bLen (aCons (rVar 4) aNil))))))))
    (sRet (r2 oDiv (rB bFac (aCons (rB bSumT (aCons (rVar 0) aNil)) aNil)) (rVar 1)))))
def m_fillings : List PyData → Re PyData := runF 1 6 s_fillings
def N_shapes : List Str := ["n", "greatest", "part", "rest"]
def s_shapes (rec_ : List PyData → Re PyData) : Rho → Sr := (sSeq (sIf (asB (r2 oEq (rVar 0) (rC (.int 0)))) (sRet (rLst (aCons (rTup aNil) aNil))) sNil)
    (sRet (rLc2 (iR2 (aCons (rC (.int 1)) (aCons (r2 oAdd (rB bMin2 (aCons (rVar 0) (aCons (rVar 1) aNil))) (rC (.int 1))) aNil))) [2, 3] (gSlot 2) yesR (iOf itS (rCall rec_ (aCons (r2 oSub (rVar 0) (rVar 2)) (aCons (rVar 2) aNil)))) [3] (gSlot 3) yesR (r2 oAdd (rTup (aCons (rVar 2) aNil)) (rVar 3)))))
def m_shapes : Nat → List PyData → Re PyData
  | 0 => runF 2 4 sBad
  | n + 1 => runF 2 4 (s_shapes (m_shapes n))
def N_rows_that_rise : List Str := ["n", "longest", "many", "rest", "count"]
def s_rows_that_rise : Rho → Sr := (sSeq (sSet 2 false (rLc (iOf itS (rCall (m_shapes 21) (aCons (r2 oSub (rVar 0) (rVar 1)) (aCons (rVar 1) aNil)))) [3] (gSlot 3) yesR (rCall m_fillings (aCons (r2 oAdd (rTup (aCons (rVar 1) aNil)) (rVar 3)) aNil))))
    (sRet (rB bSum (aCons (rLc (iOf itS (rVar 2)) [4] (gSlot 4) yesR (r2 oMul (rVar 4) (rVar 4))) aNil))))
def m_rows_that_rise : List PyData → Re PyData := runF 2 5 s_rows_that_rise
def N_by_takes : List Str := ["n", "d"]
def s_by_takes : Rho → Sr := (sRet (rLc (iR1 (aCons (rB bMax2 (aCons (rVar 0) (aCons (rC (.int 1)) aNil))) aNil)) [1] (gSlot 1) yesR (rCall m_rows_that_rise (aCons (rVar 0) (aCons (r2 oSub (rVar 0) (rVar 1)) aNil)))))
def m_by_takes : List PyData → Re PyData := runF 1 2 s_by_takes
def N_how_many : List Str := ["kind", "n", "d", "count", "counts"]
def s_how_many : Rho → Sr := (sSeq (sIf (asB (r1 (tabIn tab_COUNTS true) (rVar 0))) (sErr "OutOfRange") sNil)
    (sSeq (sIf (tNotR (rChT (rC (.int 0)) (cLinkT oLe (rVar 1) (cLastT oLe (rC (.int 20)))))) (sErr "OutOfRange") sNil)
    (sSeq (sSet 3 false (r1 (tabGet tab_COUNTS) (rVar 0)))
    (sSeq (sSet 4 false (rCallV [("by_swaps", m_by_swaps), ("by_nexts", m_by_nexts), ("by_takes", m_by_takes), ("by_blocks", m_by_blocks)] (rVar 3) (aCons (rVar 1) aNil)))
    (sRet (rIf (rChT (rC (.int 0)) (cLinkT oLe (rVar 2) (cLastT oLt (rB bLen (aCons (rVar 4) aNil))))) (r2 oIx (rVar 4) (rVar 2)) (rC (.int 0))))))))
def m_how_many : List PyData → Re PyData := runF 3 5 s_how_many
def N__law_refused : List Str := ["kind", "n", "d"]
def s__law_refused : Rho → Sr := (sSeq (sTry "OutOfRange" (sDrop (rCall m_how_many (aCons (rVar 0) (aCons (rVar 1) (aCons (rVar 2) aNil))))) (sRet (rC (.bool true))))
    (sRet (rC (.bool false))))
def m__law_refused : List PyData → Re PyData := runF 3 3 s__law_refused
def N__law_rich : List Str := ["cell", "low", "high"]
def s__law_rich : Rho → Sr := (sSeq (sIf (asB (r2 oGe (rVar 0) (r2 oPow (rC (.int 10)) (rC (.int 18))))) (sRet (rVar 0)) sNil)
    (sSeq (sSet 1 false (r2 oMod (rB bInt (aCons (r2 oAdd (r2 oMul (rVar 0) (rC (.int 48271))) (rC (.int 11))) aNil)) (rC (.int 2147483647))))
    (sSeq (sSet 2 false (r2 oMod (rB bInt (aCons (r2 oAdd (r2 oAdd (r2 oMul (rVar 1) (rC (.int 69621))) (r2 oDiv (rVar 0) (rC (.int 7)))) (rC (.int 5))) aNil)) (rC (.int 2147483629))))
    (sRet (r2 oAdd (r2 oMul (rVar 1) (rC (.int 2147483629))) (rVar 2))))))
def m__law_rich : List PyData → Re PyData := runF 1 3 s__law_rich
def N__law_rows : List Str := ["n", "rows", "piece", "longer", "row", "at"]
def s__law_rows : Rho → Sr := (sSeq (sSet 1 false (rLst (aCons (rTup aNil) aNil)))
    (sSeq (sFor (iR2 (aCons (rC (.int 1)) (aCons (r2 oAdd (rVar 0) (rC (.int 1))) aNil))) (gSlot 2) (sSeq (sSetO 3 false (rLst aNil))
    (sSeq (sFor (iOf itS (rVar 1)) (gSlot 4) (sFor (iR1 (aCons (r2 oAdd (rB bLen (aCons (rVar 4) aNil)) (rC (.int 1))) aNil)) (gSlot 5) (sApp 3 false (r2 oAdd (r2 oAdd (rCut (rVar 4) noI (asI (rVar 5))) (rTup (aCons (rVar 2) aNil))) (rCut (rVar 4) (asI (rVar 5)) noI)))))
    (sMove 1 3))))
    (sRet (rVar 1))))
def m__law_rows : List PyData → Re PyData := runF 1 6 s__law_rows
def N_functions_of : List Str := ["kind", "pairs"]
def s_functions_of : Rho → Sr := (sSeq (sSet 1 false (rDispS ["swap", "next", "take", "blocks", "flip", "turn", "closed", "recut", "single"] (aCons (rTup (aCons (rC (fnD "least_swaps")) (aCons (rC (fnD "swap_script")) aNil))) (aCons (rTup (aCons (rC (fnD "least_nexts")) (aCons (rC (fnD "next_script")) aNil))) (aCons (rTup (aCons (rC (fnD "least_takes")) (aCons (rC (fnD "take_script")) aNil))) (aCons (rTup (aCons (rC (fnD "least_blocks")) (aCons (rC (fnD "block_script")) aNil))) (aCons (rTup (aCons (rC (fnD "least_flips")) (aCons (rC (fnD "flip_script")) aNil))) (aCons (rTup (aCons (rC (fnD "least_turns")) (aCons (rC (fnD "turn_script")) aNil))) (aCons (rTup (aCons (rC (fnD "least_closed_turns")) (aCons (rC (fnD "closed_turn_script")) aNil))) (aCons (rTup (aCons (rC (fnD "least_recuts")) (aCons (rC (fnD "recut_script")) aNil))) (aCons (rTup (aCons (rC (fnD "least_singles")) (aCons (rC (fnD "single_script")) aNil))) aNil)))))))))))
    (sSeq (sIf (asB (r2 (oInDS true) (rVar 0) (rVar 1))) (sErr "OutOfRange") sNil)
    (sRet (r2 oDGetS (rVar 1) (rVar 0)))))
def m_functions_of : List PyData → Re PyData := runF 1 2 s_functions_of
def N_blocks_lead : List Str := ["row", "full", "i"]
def s_blocks_lead : Rho → Sr := (sSeq (sSet 1 false (r2 oAdd (r2 oAdd (rTup (aCons (rC (.int 0)) aNil)) (rVar 0)) (rTup (aCons (r2 oAdd (rB bLen (aCons (rVar 0) aNil)) (rC (.int 1))) aNil))))
    (sRet (rDc (iR2 (aCons (rC (.int 1)) (aCons (rB bLen (aCons (rVar 1) aNil)) aNil))) [2] (gSlot 2) yesR (rVar 2) (rMeth oIdx (rVar 1) (aCons (r2 oAdd (r2 oIx (rVar 1) (r2 oSub (rVar 2) (rC (.int 1)))) (rC (.int 1))) aNil)))))
def m_blocks_lead : List PyData → Re PyData := runF 1 3 s_blocks_lead
def N_sorted_row : List Str := ["n"]
def s_sorted_row : Rho → Sr := (sRet (rTupRg (rC (.int 1)) (r2 oAdd (rVar 0) (rC (.int 1)))))
def m_sorted_row : List PyData → Re PyData := runF 1 1 s_sorted_row
def N_check_row : List Str := ["row"]
def s_check_row : Rho → Sr := (sSeq (sIf (tOrR (asB (r2 oGt (rB bLen (aCons (rVar 0) aNil)) (rC (.int 40)))) (asB (r2 oNe (rB bTuple (aCons (rB bSorted (aCons (rVar 0) aNil)) aNil)) (rCall m_sorted_row (aCons (rB bLen (aCons (rVar 0) aNil)) aNil))))) (sErr "InvalidRow") sNil)
    (sRet (rVar 0)))
def m_check_row : List PyData → Re PyData := runF 1 1 s_check_row
def N_ring_from : List Str := ["leads", "start", "ring"]
def s_ring_from : Rho → Sr := (sSeq (sSetO 2 false (rLst (aCons (rVar 1) aNil)))
    (sSeq (sWhile (asB (r2 oNe (r2 oDGet (rVar 0) (r2 oIx (rVar 2) (r1 oNeg (rC (.int 1))))) (rVar 1))) (sApp 2 true (r2 oDGet (rVar 0) (r2 oIx (rVar 2) (r1 oNeg (rC (.int 1)))))) 100)
    (sRet (rB bTuple (aCons (rVar 2) aNil)))))
def m_ring_from : List PyData → Re PyData := runF 2 3 s_ring_from
def N_rings_of : List Str := ["leads", "found", "start", "ring"]
def s_rings_of : Rho → Sr := (sSeq (sSetO 1 false (rLst aNil))
    (sSeq (sFor (iOf itS (rB bSortD (aCons (rVar 0) aNil))) (gSlot 2) (sSeq (sSet 3 false (rCall m_ring_from (aCons (rVar 0) (aCons (rVar 2) aNil))))
    (sIf (asB (r2 oEq (rB bMinA (aCons (rVar 3) aNil)) (rVar 2))) (sApp 1 false (rVar 3)) sNil)))
    (sRet (rB bTuple (aCons (rVar 1) aNil)))))
def m_rings_of : List PyData → Re PyData := runF 1 4 s_rings_of
def N_block_rings : List Str := ["row"]
def s_block_rings : Rho → Sr := (sRet (rCall m_rings_of (aCons (rCall m_blocks_lead (aCons (rCall m_check_row (aCons (rVar 0) aNil)) aNil)) aNil)))
def m_block_rings : List PyData → Re PyData := runF 1 1 s_block_rings
def N_check_same_length : List Str := ["first", "second"]
def s_check_same_length : Rho → Sr := (sIf (asB (r2 oNe (rB bLen (aCons (rVar 0) aNil)) (rB bLen (aCons (rVar 1) aNil)))) (sErr "InvalidRow") sNil)
def m_check_same_length : List PyData → Re PyData := runF 2 2 s_check_same_length
def N_relative_row : List Str := ["first", "second", "piece"]
def s_relative_row : Rho → Sr := (sSeq (sDrop (rCall m_check_row (aCons (rVar 0) aNil)))
    (sSeq (sDrop (rCall m_check_row (aCons (rVar 1) aNil)))
    (sSeq (sDrop (rCall m_check_same_length (aCons (rVar 0) (aCons (rVar 1) aNil))))
    (sRet (rB bTuple (aCons (rLc (iOf itS (rVar 0)) [2] (gSlot 2) yesR (r2 oAdd (rMeth oIdx (rVar 1) (aCons (rVar 2) aNil)) (rC (.int 1)))) aNil))))))
def m_relative_row : List PyData → Re PyData := runF 2 3 s_relative_row
def N_least_blocks : List Str := ["first", "second", "row"]
def s_least_blocks : Rho → Sr := (sSeq (sSet 2 false (rCall m_relative_row (aCons (rVar 0) (aCons (rVar 1) aNil))))
    (sRet (r2 oDiv (r2 oSub (r2 oAdd (rB bLen (aCons (rVar 2) aNil)) (rC (.int 1))) (rB bLen (aCons (rCall m_block_rings (aCons (rVar 2) aNil)) aNil))) (rC (.int 2)))))
def m_least_blocks : List PyData → Re PyData := runF 2 3 s_least_blocks
def N_wrong_pairs : List Str := ["row", "n", "p", "q"]
def s_wrong_pairs : Rho → Sr := (sSeq (sSet 1 false (rB bLen (aCons (rVar 0) aNil)))
    (sRet (rB bTuple (aCons (rLc2 (iR1 (aCons (rVar 1) aNil)) [2, 3] (gSlot 2) yesR (iR2 (aCons (r2 oAdd (rVar 2) (rC (.int 1))) (aCons (rVar 1) aNil))) [3] (gSlot 3) (asB (r2 oGt (r2 oIx (rVar 0) (rVar 2)) (r2 oIx (rVar 0) (rVar 3)))) (rTup (aCons (rVar 2) (aCons (rVar 3) aNil)))) aNil))))
def m_wrong_pairs : List PyData → Re PyData := runF 1 4 s_wrong_pairs
def N_least_nexts : List Str := ["first", "second"]
def s_least_nexts : Rho → Sr := (sRet (rB bLen (aCons (rCall m_wrong_pairs (aCons (rCall m_relative_row (aCons (rVar 0) (aCons (rVar 1) aNil))) aNil)) aNil)))
def m_least_nexts : List PyData → Re PyData := runF 2 2 s_least_nexts
def N_places_lead : List Str := ["row", "p"]
def s_places_lead : Rho → Sr := (sRet (rDc (iR1 (aCons (rB bLen (aCons (rVar 0) aNil)) aNil)) [1] (gSlot 1) yesR (rVar 1) (r2 oSub (r2 oIx (rVar 0) (rVar 1)) (rC (.int 1)))))
def m_places_lead : List PyData → Re PyData := runF 1 2 s_places_lead
def N_rings : List Str := ["row"]
def s_rings : Rho → Sr := (sRet (rCall m_rings_of (aCons (rCall m_places_lead (aCons (rCall m_check_row (aCons (rVar 0) aNil)) aNil)) aNil)))
def m_rings : List PyData → Re PyData := runF 1 1 s_rings
def N_least_swaps : List Str := ["first", "second", "row"]
def s_least_swaps : Rho → Sr := (sSeq (sSet 2 false (rCall m_relative_row (aCons (rVar 0) (aCons (rVar 1) aNil))))
    (sRet (r2 oSub (rB bLen (aCons (rVar 2) aNil)) (rB bLen (aCons (rCall m_rings (aCons (rVar 2) aNil)) aNil)))))
def m_least_swaps : List PyData → Re PyData := runF 2 3 s_least_swaps
def N_heights : List Str := ["row", "found", "place", "lower", "p"]
def heights_s0 : Rho → Sr := (sSeq (sSet 3 false (rLc (iR1 (aCons (rVar 2) aNil)) [4] (gSlot 4) (asB (r2 oLt (r2 oIx (rVar 0) (rVar 4)) (r2 oIx (rVar 0) (rVar 2)))) (rN (r2 oIx (rVar 1) (rVar 4))))) (sApp 1 false (r2 oAdd (rC (.int 1)) (r2 oMaxD (rVar 3) (rC (.int 0))))))
def heights_s1 : Rho → Sr := (sFor (iR1 (aCons (rB bLen (aCons (rVar 0) aNil)) aNil)) (gSlot 2) heights_s0)
def s_heights : Rho → Sr := (sSeq (sSetO 1 false (rLst aNil)) (sSeq heights_s1 (sRet (rVar 1))))
def m_heights : List PyData → Re PyData := runF 1 5 s_heights
def N_rising : List Str := ["row", "height", "wanted", "above", "places", "place"]
def rising_s0 : Rho → Sr := (sIf (tAndR (asB (r2 oEq (r2 oIx (rVar 1) (rVar 5)) (rVar 2))) (asB (r2 oLt (r2 oIx (rVar 0) (rVar 5)) (rVar 3)))) (sSeq (sApp 4 false (rVar 5)) (sSeq (sSet 3 false (r2 oIx (rVar 0) (rVar 5))) (sAug 2 (fun i j => i - j) (rC (.int 1))))) sNil)
def rising_s1 : Rho → Sr := rising_s0
def rising_s2 : Rho → Sr := (sFor (iRev (rB bLen (aCons (rVar 0) aNil))) (gSlot 5) rising_s1)
def s_rising : Rho → Sr := (sSeq (sDrop (rCall m_check_row (aCons (rVar 0) aNil))) (sSeq (sSet 1 false (rCall m_heights (aCons (rVar 0) aNil))) (sSeq (sSet 2 false (r2 oMaxD (rVar 1) (rC (.int 0)))) (sSeq (sSet 3 false (r2 oAdd (rB bLen (aCons (rVar 0) aNil)) (rC (.int 1)))) (sSeq (sSetO 4 false (rLst aNil)) (sSeq rising_s2 (sRet (rB bTuple (aCons (r1 oRevL (rVar 4)) aNil)))))))))
def m_rising : List PyData → Re PyData := runF 1 6 s_rising
def N_least_takes : List Str := ["first", "second", "row"]
def s_least_takes : Rho → Sr := (sSeq (sSet 2 false (rCall m_relative_row (aCons (rVar 0) (aCons (rVar 1) aNil))))
    (sRet (r2 oSub (rB bLen (aCons (rVar 2) aNil)) (rB bLen (aCons (rCall m_rising (aCons (rVar 2) aNil)) aNil)))))
def m_least_takes : List PyData → Re PyData := runF 2 3 s_least_takes
def N_least : List Str := ["kind", "first", "second", "count", "_"]
def s_least : Rho → Sr := (sSeq (sAsg false (gSeqD 2 (gMore (gSlot 3) (gMore (gSlot 4) gNone))) (rCall m_functions_of (aCons (rVar 0) aNil)))
    (sRet (rCallV [("least_swaps", m_least_swaps), ("least_nexts", m_least_nexts), ("least_takes", m_least_takes), ("least_blocks", m_least_blocks)] (rVar 3) (aCons (rVar 1) (aCons (rVar 2) aNil)))))
def m_least : List PyData → Re PyData := runF 3 5 s_least
def N_law : List Str := ["script", "d", "kind", "n", "found", "k", "told", "product", "most", "counts", "size", "row", "number"]
def law_s0 : Rho → Sr := (sSet 1 false (rCall m__law_digits (aCons (rCall m__law_rich (aCons (rCall m__law_cell (aCons (rVar 0) (aCons (rC (.int 0)) aNil))) aNil)) (aCons (rLst (aCons (rC (.int 4)) (aCons (rC (.int 5)) (aCons (rC (.int 13)) (aCons (rC (.int 204)) (aCons (rC (.int 60)) (aCons (rC (.int 8)) aNil))))))) aNil))))
def law_s1 : Rho → Sr := (sIf (tOrR (tNotR (asB (rCall m__law_is_integer (aCons (rVar 6) aNil)))) (asB (r2 oNe (rVar 6) (rB bLen (aCons (rLc (iOf itS (rVar 4)) [12] (gSlot 12) (asB (r2 oEq (rVar 12) (rVar 5))) (rVar 12)) aNil))))) (sRet (rC (.bool false))) sNil)
def law_s2 : Rho → Sr := (sSeq (sSet 6 false (rCall m_how_many (aCons (rVar 2) (aCons (rVar 3) (aCons (rVar 5) aNil))))) law_s1)
def law_s3 : Rho → Sr := (sFor (iR2 (aCons (r1 oNeg (rC (.int 1))) (aCons (rC (.int 8)) aNil))) (gSlot 5) law_s2)
def law_s4 : Rho → Sr := (sIf (tAndR (asB (r2 oEq (r2 oIx (rVar 1) (rC (.int 5))) (rC (.int 1)))) (asB (r2 (oIn false) (rVar 2) (rLst (aCons (rC (.str "swap")) (aCons (rC (.str "blocks")) aNil)))))) (sSet 3 false (r2 oAdd (rC (.int 13)) (r2 oMod (rB bInt (aCons (r2 oIx (rVar 1) (rC (.int 4))) aNil)) (rC (.int 8))))) sNil)
def law_s5 : Rho → Sr := (sSet 7 false (r2 oMul (rVar 7) (rVar 5)))
def law_s6 : Rho → Sr := (sFor (iR2 (aCons (rC (.int 1)) (aCons (r2 oAdd (rVar 3) (rC (.int 1))) aNil))) (gSlot 5) law_s5)
def law_s7 : Rho → Sr := (sIf (tOrR (asB (r2 oNe (rB bSum (aCons (rVar 9) aNil)) (rVar 7))) (tOrR (asB (r2 oLt (rB bMinA (aCons (rVar 9) aNil)) (rC (.int 0)))) (tOrR (asB (r2 oNe (r2 oIx (rVar 9) (rC (.int 0))) (rC (.int 1)))) (asB (r2 oNe (rCall m_how_many (aCons (rVar 2) (aCons (rVar 3) (aCons (r2 oSub (r1 oNeg (rC (.int 1))) (r2 oIx (rVar 1) (rC (.int 3)))) aNil)))) (rC (.int 0))))))) (sRet (rC (.bool false))) sNil)
def law_s8 : Rho → Sr := (sIf (tOrR (asB (r2 oNe (rCall m_how_many (aCons (rVar 2) (aCons (rVar 3) (aCons (r2 oAdd (r2 oAdd (rVar 8) (rC (.int 1))) (r2 oIx (rVar 1) (rC (.int 3)))) aNil)))) (rC (.int 0)))) (tAndR (asB (r2 oEq (rVar 2) (rC (.str "next")))) (asB (r2 oNe (rVar 9) (r1 oRevL (rVar 9)))))) (sRet (rC (.bool false))) sNil)
def law_s9 : Rho → Sr := (sIf (tOrR (asB (r2 oNe (rCall m_how_many (aCons (rVar 2) (aCons (rC (.int 20)) (aCons (rC (.int 0)) aNil)))) (rC (.int 1)))) (asB (r2 oLe (rCall m_how_many (aCons (rVar 2) (aCons (rC (.int 20)) (aCons (rC (.int 1)) aNil)))) (rC (.int 0))))) (sRet (rC (.bool false))) sNil)
def law_s10 : Rho → Sr := (sIf (asB (r2 oNe (rCall m__law_refused (aCons (rVar 2) (aCons (rVar 10) (aCons (r2 oSub (r2 oIx (rVar 1) (rC (.int 3))) (rC (.int 3))) aNil)))) (rOr (r2 oLt (rVar 10) (rC (.int 0))) (r2 oGt (rVar 10) (rC (.int 20)))))) (sRet (rC (.bool false))) sNil)
def law_s11 : Rho → Sr := (sRet (rOr (r2 oGt (r2 oIx (rVar 1) (rC (.int 5))) (rC (.int 0))) (rCall m__law_refused (aCons (r2 oIx (rLst (aCons (rC (.str "turn")) (aCons (rC (.str "")) (aCons (rC (.str "flip")) (aCons (rC (.str "recut")) aNil))))) (r2 oIx (rVar 1) (rC (.int 0)))) (aCons (rVar 3) (aCons (rC (.int 0)) aNil))))))
def s_law : Rho → Sr := (sSeq law_s0 (sSeq (sSet 2 false (r2 oIx (rLst (aCons (rC (.str "swap")) (aCons (rC (.str "next")) (aCons (rC (.str "take")) (aCons (rC (.str "blocks")) aNil))))) (r2 oIx (rVar 1) (rC (.int 0))))) (sSeq (sSet 3 false (r2 oIx (rVar 1) (rC (.int 1)))) (sSeq (sSet 4 false (rLc (iOf itS (rCall m__law_rows (aCons (rVar 3) aNil))) [11] (gSlot 11) yesR (rCall m_least (aCons (rVar 2) (aCons (rVar 11) (aCons (rCall m_sorted_row (aCons (rVar 3) aNil)) aNil)))))) (sSeq law_s3 (sSeq (sSet 3 false (r2 oIx (rVar 1) (rC (.int 2)))) (sSeq law_s4 (sSeq (sSet 7 false (rC (.int 1))) (sSeq law_s6 (sSeq (sSet 8 false (r2 oIx (rLst (aCons (rVar 3) (aCons (r2 oDiv (r2 oMul (rVar 3) (r2 oSub (rVar 3) (rC (.int 1)))) (rC (.int 2))) aNil))) (rB bInt (aCons (r2 oEq (rVar 2) (rC (.str "next"))) aNil)))) (sSeq (sSet 9 false (rLc (iR1 (aCons (r2 oAdd (rVar 8) (rC (.int 1))) aNil)) [5] (gSlot 5) yesR (rCall m_how_many (aCons (rVar 2) (aCons (rVar 3) (aCons (rVar 5) aNil)))))) (sSeq law_s7 (sSeq law_s8 (sSeq law_s9 (sSeq (sSet 10 false (r2 oSub (r2 oIx (rVar 1) (rC (.int 4))) (rC (.int 20)))) (sSeq law_s10 law_s11))))))))))))))))
def m_law : List PyData → Re PyData := runF 1 13 s_law
end
end Gn

set_option Elab.async false
set_option linter.all false
set_option maxRecDepth 100000
set_option maxHeartbeats 4000000
namespace Gn
open PySem PySem.Spec PyProof.Rows L2 Pu
/-! ### the text -/
/-! ### what the head tells -/
structure Ct (K : PySem.W.Frag) (mg : Str → Option Value) (w : World) : Prop where
  f__law_cell : FnAt K mg "_law_cell" st__law_cell
  f__law_digits : FnAt K mg "_law_digits" st__law_digits
  f__law_is_integer : FnAt K mg "_law_is_integer" st__law_is_integer
  f_rows_by_rings : FnAt K mg "rows_by_rings" st_rows_by_rings
  f_by_blocks : FnAt K mg "by_blocks" st_by_blocks
  f_by_nexts : FnAt K mg "by_nexts" st_by_nexts
  f_by_swaps : FnAt K mg "by_swaps" st_by_swaps
  f_fillings : FnAt K mg "fillings" st_fillings
  f_shapes : FnAt K mg "shapes" st_shapes
  f_rows_that_rise : FnAt K mg "rows_that_rise" st_rows_that_rise
  f_by_takes : FnAt K mg "by_takes" st_by_takes
  f_how_many : FnAt K mg "how_many" st_how_many
  f__law_refused : FnAt K mg "_law_refused" st__law_refused
  f__law_rich : FnAt K mg "_law_rich" st__law_rich
  f__law_rows : FnAt K mg "_law_rows" st__law_rows
  f_functions_of : FnAt K mg "functions_of" st_functions_of
  f_blocks_lead : FnAt K mg "blocks_lead" st_blocks_lead
  f_sorted_row : FnAt K mg "sorted_row" st_sorted_row
  f_check_row : FnAt K mg "check_row" st_check_row
  f_ring_from : FnAt K mg "ring_from" st_ring_from
  f_rings_of : FnAt K mg "rings_of" st_rings_of
  f_block_rings : FnAt K mg "block_rings" st_block_rings
  f_check_same_length : FnAt K mg "check_same_length" st_check_same_length
  f_relative_row : FnAt K mg "relative_row" st_relative_row
  f_least_blocks : FnAt K mg "least_blocks" st_least_blocks
  f_wrong_pairs : FnAt K mg "wrong_pairs" st_wrong_pairs
  f_least_nexts : FnAt K mg "least_nexts" st_least_nexts
  f_places_lead : FnAt K mg "places_lead" st_places_lead
  f_rings : FnAt K mg "rings" st_rings
  f_least_swaps : FnAt K mg "least_swaps" st_least_swaps
  f_heights : FnAt K mg "heights" st_heights
  f_rising : FnAt K mg "rising" st_rising
  f_least_takes : FnAt K mg "least_takes" st_least_takes
  f_least : FnAt K mg "least" st_least
  f_law : FnAt K mg "law" st_law
  b_bool : mg "bool" = none
  b_int : mg "int" = none
  b_isinstance : mg "isinstance" = none
  b_len : mg "len" = none
  b_max : mg "max" = none
  b_min : mg "min" = none
  b_range : mg "range" = none
  b_reversed : mg "reversed" = none
  b_sorted : mg "sorted" = none
  b_sum : mg "sum" = none
  b_tuple : mg "tuple" = none
  b_zip : mg "zip" = none
  gf_block_script : mg "block_script" = some (.ref (He.ga K "block_script"))
  gf_by_blocks : mg "by_blocks" = some (.ref (He.ga K "by_blocks"))
  gf_by_nexts : mg "by_nexts" = some (.ref (He.ga K "by_nexts"))
  gf_by_swaps : mg "by_swaps" = some (.ref (He.ga K "by_swaps"))
  gf_by_takes : mg "by_takes" = some (.ref (He.ga K "by_takes"))
  gf_closed_turn_script : mg "closed_turn_script" = some (.ref (He.ga K "closed_turn_script"))
  gf_flip_script : mg "flip_script" = some (.ref (He.ga K "flip_script"))
  gf_least_blocks : mg "least_blocks" = some (.ref (He.ga K "least_blocks"))
  gf_least_closed_turns : mg "least_closed_turns" = some (.ref (He.ga K "least_closed_turns"))
  gf_least_flips : mg "least_flips" = some (.ref (He.ga K "least_flips"))
  gf_least_nexts : mg "least_nexts" = some (.ref (He.ga K "least_nexts"))
  gf_least_recuts : mg "least_recuts" = some (.ref (He.ga K "least_recuts"))
  gf_least_singles : mg "least_singles" = some (.ref (He.ga K "least_singles"))
  gf_least_swaps : mg "least_swaps" = some (.ref (He.ga K "least_swaps"))
  gf_least_takes : mg "least_takes" = some (.ref (He.ga K "least_takes"))
  gf_least_turns : mg "least_turns" = some (.ref (He.ga K "least_turns"))
  gf_next_script : mg "next_script" = some (.ref (He.ga K "next_script"))
  gf_recut_script : mg "recut_script" = some (.ref (He.ga K "recut_script"))
  gf_single_script : mg "single_script" = some (.ref (He.ga K "single_script"))
  gf_swap_script : mg "swap_script" = some (.ref (He.ga K "swap_script"))
  gf_take_script : mg "take_script" = some (.ref (He.ga K "take_script"))
  gf_turn_script : mg "turn_script" = some (.ref (He.ga K "turn_script"))
  m_comb : mg "comb" = some (.builtin "math.comb")
  m_factorial : mg "factorial" = some (.builtin "math.factorial")
  i_MOST_PIECES : ∃ t, mg "MOST_PIECES" = some (.int 40 t)
  i_MOST_PIECES_COUNTED : ∃ t, mg "MOST_PIECES_COUNTED" = some (.int 20 t)
  e_InvalidRow : ErrC K mg "InvalidRow" (He.ga K "InvalidRow")
  e_OutOfRange : ErrC K mg "OutOfRange" (He.ga K "OutOfRange")
  t_COUNTS : TabC K mg w "COUNTS" tab_COUNTS
/-! ### each def is its mirror -/
section
variable {P : Program} {w : World} {K : PySem.W.Frag} {mg : Str → Option Value} {base : Heap}
theorem nd__law_cell : N__law_cell.Nodup := by decide +kernel
def M__law_cell : Nat → Bool := fun i => false
theorem sc__law_cell : FnScope N__law_cell ["script", "k"] (defScope st__law_cell) := ⟨rfl, rfl, rfl, nd__law_cell, rfl, by decide +kernel, by decide +kernel⟩
theorem bo__law_cell (c : Ct K mg w) (k : Nat) (fA : Addr) (cdv : Value) (A : Around) (outer : List Env) (sh : Shared) (H : Hp) (Ex : XK) (G : Gd (cxOf (L2.CX P w) P w K mg base N__law_cell "_law_cell" (defScope st__law_cell) fA cdv A outer sh H Ex) (fun _ => Ex) (k + 0)) (F : Fx) :
    DSs (cxOf (L2.CX P w) P w K mg base N__law_cell "_law_cell" (defScope st__law_cell) fA cdv A outer sh H Ex) M__law_cell F (fun _ => Ex) (defBody st__law_cell) s__law_cell :=
    (dss_cons (ds_if (dt_cmp op_lt s_lt (de_var 1) (db call_len_seq s_len c.b_len boot_len (da_cons (de_var 0) da_nil)) (by first | exact nomark _ | rfl)) (dss_one (ds_ret (de_ix (de_var 0) (de_var 1)))) dss_nil)
    (dss_one (ds_ret de_int)))
theorem has__law_cell (c : Ct K mg w) (k : Nat) : Has P w K mg base (k + 1) "_law_cell" ["script", "k"] m__law_cell := has_of c.f__law_cell sc__law_cell M__law_cell (by decide) s__law_cell (fun _ _ _ _ _ _ us hl => match us, hl with | [_, _], _ => rfl) (bo__law_cell c k)
theorem nd__law_digits : N__law_digits.Nodup := by decide +kernel
def M__law_digits : Nat → Bool := fun i => i == 2
theorem sc__law_digits : FnScope N__law_digits ["cell", "sizes"] (defScope st__law_digits) := ⟨rfl, rfl, rfl, nd__law_digits, rfl, by decide +kernel, by decide +kernel⟩
theorem bo__law_digits (c : Ct K mg w) (k : Nat) (fA : Addr) (cdv : Value) (A : Around) (outer : List Env) (sh : Shared) (H : Hp) (Ex : XK) (G : Gd (cxOf (L2.CX P w) P w K mg base N__law_digits "_law_digits" (defScope st__law_digits) fA cdv A outer sh H Ex) (fun _ => Ex) (k + 0)) (F : Fx) :
    DSs (cxOf (L2.CX P w) P w K mg base N__law_digits "_law_digits" (defScope st__law_digits) fA cdv A outer sh H Ex) M__law_digits F (fun _ => Ex) (defBody st__law_digits) s__law_digits :=
    (dss_cons (ds_setO (i := 2) rfl nd__law_digits (de_lst da_nil))
    (dss_cons (ds_for G.own rfl (di_seq (de_var 1)) (dg_name 3 rfl nd__law_digits) (dss_cons (ds_app (i := 2) rfl (de_op op_mod s_mod (dt call_int1 s_int c.b_int boot_int (da_cons (de_var 0) da_nil)) (de_var 3)))
    (dss_one (ds_set (i := 0) rfl nd__law_digits (de_op op_fdivW s_div (de_var 0) (de_var 3))))))
    (dss_one (ds_ret (de_var 2)))))
theorem has__law_digits (c : Ct K mg w) (k : Nat) : Has P w K mg base (k + 1) "_law_digits" ["cell", "sizes"] m__law_digits := has_of c.f__law_digits sc__law_digits M__law_digits (by decide) s__law_digits (fun _ _ _ _ _ _ us hl => match us, hl with | [_, _], _ => rfl) (bo__law_digits c k)
theorem nd__law_is_integer : N__law_is_integer.Nodup := by decide +kernel
def M__law_is_integer : Nat → Bool := fun i => false
theorem sc__law_is_integer : FnScope N__law_is_integer ["actual"] (defScope st__law_is_integer) := ⟨rfl, rfl, rfl, nd__law_is_integer, rfl, by decide +kernel, by decide +kernel⟩
theorem bo__law_is_integer (c : Ct K mg w) (k : Nat) (fA : Addr) (cdv : Value) (A : Around) (outer : List Env) (sh : Shared) (H : Hp) (Ex : XK) (G : Gd (cxOf (L2.CX P w) P w K mg base N__law_is_integer "_law_is_integer" (defScope st__law_is_integer) fA cdv A outer sh H Ex) (fun _ => Ex) (k + 0)) (F : Fx) :
    DSs (cxOf (L2.CX P w) P w K mg base N__law_is_integer "_law_is_integer" (defScope st__law_is_integer) fA cdv A outer sh H Ex) M__law_is_integer F (fun _ => Ex) (defBody st__law_is_integer) s__law_is_integer :=
    (dss_one (ds_ret (de_and (de_isi (p2 := ⟨0, 0, 0, 0⟩) (T := "int") rfl c.b_isinstance rfl c.b_int boot_int (de_var 0)) (de_one (de_not (de_isi (p2 := ⟨0, 0, 0, 0⟩) (T := "bool") rfl c.b_isinstance rfl c.b_bool boot_bool (de_var 0)))))))
theorem has__law_is_integer (c : Ct K mg w) (k : Nat) : Has P w K mg base (k + 1) "_law_is_integer" ["actual"] m__law_is_integer := has_of c.f__law_is_integer sc__law_is_integer M__law_is_integer (by decide) s__law_is_integer (fun _ _ _ _ _ _ us hl => match us, hl with | [_], _ => rfl) (bo__law_is_integer c k)
theorem nd_rows_by_rings : N_rows_by_rings.Nodup := by decide +kernel
def M_rows_by_rings : Nat → Bool := fun i => false
theorem sc_rows_by_rings : FnScope N_rows_by_rings ["m"] (defScope st_rows_by_rings) := ⟨rfl, rfl, rfl, nd_rows_by_rings, rfl, by decide +kernel, by decide +kernel⟩
theorem bo_rows_by_rings (c : Ct K mg w) (k : Nat) (fA : Addr) (cdv : Value) (A : Around) (outer : List Env) (sh : Shared) (H : Hp) (Ex : XK) (G : Gd (cxOf (L2.CX P w) P w K mg base N_rows_by_rings "rows_by_rings" (defScope st_rows_by_rings) fA cdv A outer sh H Ex) (fun _ => Ex) (k + 0)) (F : Fx) :
    DSs (cxOf (L2.CX P w) P w K mg base N_rows_by_rings "rows_by_rings" (defScope st_rows_by_rings) fA cdv A outer sh H Ex) M_rows_by_rings F (fun _ => Ex) (defBody st_rows_by_rings) s_rows_by_rings :=
    (dss_cons (ds_set (i := 1) rfl nd_rows_by_rings (de_lst (da_cons de_int da_nil)))
    (dss_cons (ds_for G.own rfl (di_rg1 (by rfl) c.b_range (da_cons (de_var 0) da_nil)) (dg_name 2 rfl nd_rows_by_rings) (dss_one (ds_setLc (i := 1) (own := [("alone", 3), ("joined", 4)]) [3, 4] rfl rfl nd_rows_by_rings (di_zip (by rfl) c.b_zip (da_cons (de_op op_cat s_addL (de_lst (da_cons de_int da_nil)) (de_var 1)) (da_cons (de_op op_cat s_addL (de_var 1) (de_lst (da_cons de_int da_nil))) da_nil))) (blkOk_by (own := [("alone", 3), ("joined", 4)]) (N := N_rows_by_rings) (sc := defScope st_rows_by_rings) (by decide +kernel)) (by decide) (fun _ _ _ _ _ _ => (dg_seq rfl (dgs_cons (dg_name 3 rfl nd_rows_by_rings) (dgs_cons (dg_name 4 rfl nd_rows_by_rings) dgs_nil)))) (fun _ _ _ _ _ => dts_nil) (fun _ _ _ _ _ _ => (de_op op_addA s_add (de_var 3) (de_op op_mulA s_mul (de_var 2) (de_var 4)))) (sw_true rfl rfl rfl (by decide +kernel)))))
    (dss_one (ds_ret (de_var 1)))))
theorem has_rows_by_rings (c : Ct K mg w) (k : Nat) : Has P w K mg base (k + 1) "rows_by_rings" ["m"] m_rows_by_rings := has_of c.f_rows_by_rings sc_rows_by_rings M_rows_by_rings (by decide) s_rows_by_rings (fun _ _ _ _ _ _ us hl => match us, hl with | [_], _ => rfl) (bo_rows_by_rings c k)
theorem nd_by_blocks : N_by_blocks.Nodup := by decide +kernel
def M_by_blocks : Nat → Bool := fun i => false
theorem sc_by_blocks : FnScope N_by_blocks ["n"] (defScope st_by_blocks) := ⟨rfl, rfl, rfl, nd_by_blocks, rfl, by decide +kernel, by decide +kernel⟩
theorem bo_by_blocks (c : Ct K mg w) (k : Nat) (fA : Addr) (cdv : Value) (A : Around) (outer : List Env) (sh : Shared) (H : Hp) (Ex : XK) (G : Gd (cxOf (L2.CX P w) P w K mg base N_by_blocks "by_blocks" (defScope st_by_blocks) fA cdv A outer sh H Ex) (fun _ => Ex) (k + 1)) (F : Fx) :
    DSs (cxOf (L2.CX P w) P w K mg base N_by_blocks "by_blocks" (defScope st_by_blocks) fA cdv A outer sh H Ex) M_by_blocks F (fun _ => Ex) (defBody st_by_blocks) s_by_blocks :=
    (dss_one (ds_ret (de_lc (own := [("count", 1)]) [1] rfl nd_by_blocks (di_seq (de_pk (de_fn (has_rows_by_rings c (k + 0)) G.room G.pass (da_cons (de_op op_addA s_add (de_var 0) de_int) da_nil)) (do_some (de_op op_addA s_add (de_var 0) de_int)) (do_some de_int))) (blkOk_by (own := [("count", 1)]) (N := N_by_blocks) (sc := defScope st_by_blocks) (by decide +kernel)) (by decide) (fun _ _ _ _ _ _ => (dg_name 1 rfl nd_by_blocks)) (fun _ _ _ _ _ => dts_nil) (fun _ _ _ _ _ _ => (de_op op_fdivW s_div (de_var 1) (de_callM cr_comb s_comb c.m_comb (da_cons (de_op op_addA s_add (de_var 0) de_int) (da_cons de_int da_nil))))))))
theorem has_by_blocks (c : Ct K mg w) (k : Nat) : Has P w K mg base (k + 2) "by_blocks" ["n"] m_by_blocks := has_of c.f_by_blocks sc_by_blocks M_by_blocks (by decide) s_by_blocks (fun _ _ _ _ _ _ us hl => match us, hl with | [_], _ => rfl) (bo_by_blocks c k)
theorem nd_by_nexts : N_by_nexts.Nodup := by decide +kernel
def M_by_nexts : Nat → Bool := fun i => false
theorem sc_by_nexts : FnScope N_by_nexts ["n"] (defScope st_by_nexts) := ⟨rfl, rfl, rfl, nd_by_nexts, rfl, by decide +kernel, by decide +kernel⟩
theorem bo_by_nexts (c : Ct K mg w) (k : Nat) (fA : Addr) (cdv : Value) (A : Around) (outer : List Env) (sh : Shared) (H : Hp) (Ex : XK) (G : Gd (cxOf (L2.CX P w) P w K mg base N_by_nexts "by_nexts" (defScope st_by_nexts) fA cdv A outer sh H Ex) (fun _ => Ex) (k + 0)) (F : Fx) :
    DSs (cxOf (L2.CX P w) P w K mg base N_by_nexts "by_nexts" (defScope st_by_nexts) fA cdv A outer sh H Ex) M_by_nexts F (fun _ => Ex) (defBody st_by_nexts) s_by_nexts :=
    (dss_cons (ds_set (i := 1) rfl nd_by_nexts (de_lst (da_cons de_int da_nil)))
    (dss_cons (ds_for G.own rfl (di_rg2 (by rfl) c.b_range (da_cons de_int (da_cons (de_op op_addA s_add (de_var 0) de_int) da_nil))) (dg_name 2 rfl nd_by_nexts) (dss_cons (ds_set (i := 3) rfl nd_by_nexts (de_op op_sub s_sub (de_op op_addA s_add (db call_len_seq s_len c.b_len boot_len (da_cons (de_var 1) da_nil)) (de_var 2)) de_int))
    (dss_one (ds_set (i := 1) rfl nd_by_nexts (de_lc (own := [("d", 4)]) [4] rfl nd_by_nexts (di_rg1 (by rfl) c.b_range (da_cons (de_var 3) da_nil)) (blkOk_by (own := [("d", 4)]) (N := N_by_nexts) (sc := defScope st_by_nexts) (by decide +kernel)) (by decide) (fun _ _ _ _ _ _ => (dg_name 4 rfl nd_by_nexts)) (fun _ _ _ _ _ => dts_nil) (fun _ _ _ _ _ _ => (db (cr_sum rfl) s_sum c.b_sum boot_sum (da_cons (de_cut (de_var 1) (do_some (db (call_max2 rfl) s_max2 c.b_max boot_max (da_cons de_int (da_cons (de_op op_addA s_add (de_op op_sub s_sub (de_var 4) (de_var 2)) de_int) da_nil)))) (do_some (de_op op_addA s_add (de_var 4) de_int))) da_nil))))))))
    (dss_one (ds_ret (de_var 1)))))
theorem has_by_nexts (c : Ct K mg w) (k : Nat) : Has P w K mg base (k + 1) "by_nexts" ["n"] m_by_nexts := has_of c.f_by_nexts sc_by_nexts M_by_nexts (by decide) s_by_nexts (fun _ _ _ _ _ _ us hl => match us, hl with | [_], _ => rfl) (bo_by_nexts c k)
theorem nd_by_swaps : N_by_swaps.Nodup := by decide +kernel
def M_by_swaps : Nat → Bool := fun i => false
theorem sc_by_swaps : FnScope N_by_swaps ["n"] (defScope st_by_swaps) := ⟨rfl, rfl, rfl, nd_by_swaps, rfl, by decide +kernel, by decide +kernel⟩
theorem bo_by_swaps (c : Ct K mg w) (k : Nat) (fA : Addr) (cdv : Value) (A : Around) (outer : List Env) (sh : Shared) (H : Hp) (Ex : XK) (G : Gd (cxOf (L2.CX P w) P w K mg base N_by_swaps "by_swaps" (defScope st_by_swaps) fA cdv A outer sh H Ex) (fun _ => Ex) (k + 1)) (F : Fx) :
    DSs (cxOf (L2.CX P w) P w K mg base N_by_swaps "by_swaps" (defScope st_by_swaps) fA cdv A outer sh H Ex) M_by_swaps F (fun _ => Ex) (defBody st_by_swaps) s_by_swaps :=
    (dss_one (ds_ret (de_revL (de_fn (has_rows_by_rings c (k + 0)) G.room G.pass (da_cons (de_var 0) da_nil)))))
theorem has_by_swaps (c : Ct K mg w) (k : Nat) : Has P w K mg base (k + 2) "by_swaps" ["n"] m_by_swaps := has_of c.f_by_swaps sc_by_swaps M_by_swaps (by decide) s_by_swaps (fun _ _ _ _ _ _ us hl => match us, hl with | [_], _ => rfl) (bo_by_swaps c k)
theorem nd_fillings : N_fillings.Nodup := by decide +kernel
def M_fillings : Nat → Bool := fun i => false
theorem sc_fillings : FnScope N_fillings ["shape"] (defScope st_fillings) := ⟨rfl, rfl, rfl, nd_fillings, rfl, by decide +kernel, by decide +kernel⟩
theorem bo_fillings (c : Ct K mg w) (k : Nat) (fA : Addr) (cdv : Value) (A : Around) (outer : List Env) (sh : Shared) (H : Hp) (Ex : XK) (G : Gd (cxOf (L2.CX P w) P w K mg base N_fillings "fillings" (defScope st_fillings) fA cdv A outer sh H Ex) (fun _ => Ex) (k + 0)) (F : Fx) :
    DSs (cxOf (L2.CX P w) P w K mg base N_fillings "fillings" (defScope st_fillings) fA cdv A outer sh H Ex) M_fillings F (fun _ => Ex) (defBody st_fillings) s_fillings :=
    (dss_cons (ds_set (i := 1) rfl nd_fillings de_int)
    (dss_cons (ds_for G.own rfl (di_rg1 (by rfl) c.b_range (da_cons (db call_len_seq s_len c.b_len boot_len (da_cons (de_var 0) da_nil)) da_nil)) (dg_name 2 rfl nd_fillings) (dss_one (ds_for G.own rfl (di_rg1 (by rfl) c.b_range (da_cons (de_ix (de_var 0) (de_var 2)) da_nil)) (dg_name 3 rfl nd_fillings) (dss_cons (ds_setLc (i := 4) (own := [("part", 5)]) [5] rfl rfl nd_fillings (di_seq (de_cut (de_var 0) (do_some (de_op op_addA s_add (de_var 2) de_int)) do_none)) (blkOk_by (own := [("part", 5)]) (N := N_fillings) (sc := defScope st_fillings) (by decide +kernel)) (by decide) (fun _ _ _ _ _ _ => (dg_name 5 rfl nd_fillings)) (fun _ _ _ _ _ => (dts_one fun _ => (dt_cmp op_gt s_gt (de_var 5) (de_var 3) (by first | exact nomark _ | rfl)))) (fun _ _ _ _ _ _ => (de_var 5)) (sw_true rfl rfl rfl (by decide +kernel)))
    (dss_one (ds_set (i := 1) rfl nd_fillings (de_op op_mulA s_mul (de_var 1) (de_op op_addA s_add (de_op op_sub s_sub (de_ix (de_var 0) (de_var 2)) (de_var 3)) (db call_len_seq s_len c.b_len boot_len (da_cons (de_var 4) da_nil))))))))))
    (dss_one (ds_ret (de_op op_fdivW s_div (de_callM cr_fac s_fac c.m_factorial (da_cons (db (cr_sumT rfl) s_sumT c.b_sum boot_sum (da_cons (de_var 0) da_nil)) da_nil)) (de_var 1))))))
theorem has_fillings (c : Ct K mg w) (k : Nat) : Has P w K mg base (k + 1) "fillings" ["shape"] m_fillings := has_of c.f_fillings sc_fillings M_fillings (by decide) s_fillings (fun _ _ _ _ _ _ us hl => match us, hl with | [_], _ => rfl) (bo_fillings c k)
theorem nd_shapes : N_shapes.Nodup := by decide +kernel
def M_shapes : Nat → Bool := fun i => false
theorem sc_shapes : FnScope N_shapes ["n", "greatest"] (defScope st_shapes) := ⟨rfl, rfl, rfl, nd_shapes, rfl, by decide +kernel, by decide +kernel⟩
theorem bo_shapes (c : Ct K mg w) (k : Nat) (n : Nat) (rec_ : List PyData → Re PyData) (hrec : Has P w K mg base (k + n + 1) "shapes" ["n", "greatest"] rec_) (fA : Addr) (cdv : Value) (A : Around) (outer : List Env) (sh : Shared) (H : Hp) (Ex : XK) (G : Gd (cxOf (L2.CX P w) P w K mg base N_shapes "shapes" (defScope st_shapes) fA cdv A outer sh H Ex) (fun _ => Ex) (k + n + 1)) (F : Fx) :
    DSs (cxOf (L2.CX P w) P w K mg base N_shapes "shapes" (defScope st_shapes) fA cdv A outer sh H Ex) M_shapes F (fun _ => Ex) (defBody st_shapes) (s_shapes rec_) :=
    (dss_cons (ds_if (dt_cmp (op_eqD (by exact ru G.room)) s_eq (de_var 0) de_int (by first | exact nomark _ | rfl)) (dss_one (ds_ret (de_lst (da_cons (de_tup da_nil) da_nil)))) dss_nil)
    (dss_one (ds_ret (de_lc2 (own := [("part", 2), ("rest", 3)]) (vs1 := [3]) [2, 3] rfl nd_shapes (di_rg2 (by rfl) c.b_range (da_cons de_int (da_cons (de_op op_addA s_add (db (call_min2 rfl) s_min2 c.b_min boot_min (da_cons (de_var 0) (da_cons (de_var 1) da_nil))) de_int) da_nil))) (blkOk_by (own := [("part", 2), ("rest", 3)]) (N := N_shapes) (sc := defScope st_shapes) (by decide +kernel)) (by decide) (by decide) (fun _ _ _ _ _ _ => (dg_name 2 rfl nd_shapes)) (fun _ _ _ _ _ => dts_nil) (fun _ _ _ _ _ _ => (di_seq (de_fn hrec (by exact G.room) passF (da_cons (de_op op_sub s_sub (de_var 0) (de_var 2)) (da_cons (de_var 2) da_nil))))) (fun _ _ _ _ _ _ => (dg_name 3 rfl nd_shapes)) (fun _ _ _ _ _ => dts_nil) (fun _ _ _ _ _ _ => (de_op op_addA s_add (de_tup (da_cons (de_var 2) da_nil)) (de_var 3)))))))
theorem has_shapes (c : Ct K mg w) (k : Nat) : ∀ n : Nat, Has P w K mg base (k + n + 1) "shapes" ["n", "greatest"] (m_shapes n)
  | 0 => has_of (k := k + 0 + 0) c.f_shapes sc_shapes (M_shapes) (by decide) sBad (fun _ _ _ _ _ _ us hl => match us, hl with | [_, _], _ => rfl) fun _ _ _ _ _ _ _ _ _ => dss_bad
  | n + 1 => has_of (k := k + n + 1) c.f_shapes sc_shapes (M_shapes) (by decide) (s_shapes (m_shapes n)) (fun _ _ _ _ _ _ us hl => match us, hl with | [_, _], _ => rfl) (bo_shapes c k n (m_shapes n) (has_shapes c k n))
theorem nd_rows_that_rise : N_rows_that_rise.Nodup := by decide +kernel
def M_rows_that_rise : Nat → Bool := fun i => false
theorem sc_rows_that_rise : FnScope N_rows_that_rise ["n", "longest"] (defScope st_rows_that_rise) := ⟨rfl, rfl, rfl, nd_rows_that_rise, rfl, by decide +kernel, by decide +kernel⟩
theorem bo_rows_that_rise (c : Ct K mg w) (k : Nat) (fA : Addr) (cdv : Value) (A : Around) (outer : List Env) (sh : Shared) (H : Hp) (Ex : XK) (G : Gd (cxOf (L2.CX P w) P w K mg base N_rows_that_rise "rows_that_rise" (defScope st_rows_that_rise) fA cdv A outer sh H Ex) (fun _ => Ex) (k + 22)) (F : Fx) :
    DSs (cxOf (L2.CX P w) P w K mg base N_rows_that_rise "rows_that_rise" (defScope st_rows_that_rise) fA cdv A outer sh H Ex) M_rows_that_rise F (fun _ => Ex) (defBody st_rows_that_rise) s_rows_that_rise :=
    (dss_cons (ds_setLc (i := 2) (own := [("rest", 3)]) [3] rfl rfl nd_rows_that_rise (di_seq (de_fn (has_shapes c (k + 0) 21) G.room G.pass (da_cons (de_op op_sub s_sub (de_var 0) (de_var 1)) (da_cons (de_var 1) da_nil)))) (blkOk_by (own := [("rest", 3)]) (N := N_rows_that_rise) (sc := defScope st_rows_that_rise) (by decide +kernel)) (by decide) (fun _ _ _ _ _ _ => (dg_name 3 rfl nd_rows_that_rise)) (fun _ _ _ _ _ => dts_nil) (fun _ _ _ _ _ _ => (de_fn (has_fillings c (k + 21)) (by exact G.room) passF (da_cons (de_op op_addA s_add (de_tup (da_cons (de_var 1) da_nil)) (de_var 3)) da_nil))) (sw_true rfl rfl rfl (by decide +kernel)))
    (dss_one (ds_ret (db (cr_sum rfl) s_sum c.b_sum boot_sum (da_cons (de_lc (own := [("count", 4)]) [4] rfl nd_rows_that_rise (di_seq (de_var 2)) (blkOk_by (own := [("count", 4)]) (N := N_rows_that_rise) (sc := defScope st_rows_that_rise) (by decide +kernel)) (by decide) (fun _ _ _ _ _ _ => (dg_name 4 rfl nd_rows_that_rise)) (fun _ _ _ _ _ => dts_nil) (fun _ _ _ _ _ _ => (de_op op_mulA s_mul (de_var 4) (de_var 4)))) da_nil)))))
theorem has_rows_that_rise (c : Ct K mg w) (k : Nat) : Has P w K mg base (k + 23) "rows_that_rise" ["n", "longest"] m_rows_that_rise := has_of c.f_rows_that_rise sc_rows_that_rise M_rows_that_rise (by decide) s_rows_that_rise (fun _ _ _ _ _ _ us hl => match us, hl with | [_, _], _ => rfl) (bo_rows_that_rise c k)
theorem nd_by_takes : N_by_takes.Nodup := by decide +kernel
def M_by_takes : Nat → Bool := fun i => false
theorem sc_by_takes : FnScope N_by_takes ["n"] (defScope st_by_takes) := ⟨rfl, rfl, rfl, nd_by_takes, rfl, by decide +kernel, by decide +kernel⟩
theorem bo_by_takes (c : Ct K mg w) (k : Nat) (fA : Addr) (cdv : Value) (A : Around) (outer : List Env) (sh : Shared) (H : Hp) (Ex : XK) (G : Gd (cxOf (L2.CX P w) P w K mg base N_by_takes "by_takes" (defScope st_by_takes) fA cdv A outer sh H Ex) (fun _ => Ex) (k + 23)) (F : Fx) :
    DSs (cxOf (L2.CX P w) P w K mg base N_by_takes "by_takes" (defScope st_by_takes) fA cdv A outer sh H Ex) M_by_takes F (fun _ => Ex) (defBody st_by_takes) s_by_takes :=
    (dss_one (ds_ret (de_lc (own := [("d", 1)]) [1] rfl nd_by_takes (di_rg1 (by rfl) c.b_range (da_cons (db (call_max2 rfl) s_max2 c.b_max boot_max (da_cons (de_var 0) (da_cons de_int da_nil))) da_nil)) (blkOk_by (own := [("d", 1)]) (N := N_by_takes) (sc := defScope st_by_takes) (by decide +kernel)) (by decide) (fun _ _ _ _ _ _ => (dg_name 1 rfl nd_by_takes)) (fun _ _ _ _ _ => dts_nil) (fun _ _ _ _ _ _ => (de_fn (has_rows_that_rise c (k + 0)) (by exact G.room) passF (da_cons (de_var 0) (da_cons (de_op op_sub s_sub (de_var 0) (de_var 1)) da_nil)))))))
theorem has_by_takes (c : Ct K mg w) (k : Nat) : Has P w K mg base (k + 24) "by_takes" ["n"] m_by_takes := has_of c.f_by_takes sc_by_takes M_by_takes (by decide) s_by_takes (fun _ _ _ _ _ _ us hl => match us, hl with | [_], _ => rfl) (bo_by_takes c k)
theorem nd_how_many : N_how_many.Nodup := by decide +kernel
def M_how_many : Nat → Bool := fun i => false
theorem sc_how_many : FnScope N_how_many ["kind", "n", "d"] (defScope st_how_many) := ⟨rfl, rfl, rfl, nd_how_many, rfl, by decide +kernel, by decide +kernel⟩
theorem bo_how_many (c : Ct K mg w) (k : Nat) (fA : Addr) (cdv : Value) (A : Around) (outer : List Env) (sh : Shared) (H : Hp) (Ex : XK) (G : Gd (cxOf (L2.CX P w) P w K mg base N_how_many "how_many" (defScope st_how_many) fA cdv A outer sh H Ex) (fun _ => Ex) (k + 24)) (F : Fx) :
    DSs (cxOf (L2.CX P w) P w K mg base N_how_many "how_many" (defScope st_how_many) fA cdv A outer sh H Ex) M_how_many F (fun _ => Ex) (defBody st_how_many) s_how_many :=
    (dss_cons (ds_if (dt_notInTab c.t_COUNTS (de_var 0)) (dss_one (ds_raise G rfl c.e_OutOfRange rfl)) dss_nil)
    (dss_cons (ds_if (dt_not (dt_chain de_int (dch_linkT op_le s_le (de_var 1) (dch_lastT op_le s_le (de_globE c.i_MOST_PIECES_COUNTED))))) (dss_one (ds_raise G rfl c.e_OutOfRange rfl)) dss_nil)
    (dss_cons (ds_set (i := 3) rfl nd_how_many (de_getTab c.t_COUNTS (de_var 0)))
    (dss_cons (ds_set (i := 4) rfl nd_how_many (de_callV (i := 3) rfl (tb_cons (has_by_swaps c (k + 22)) (Nat.le_refl _) c.gf_by_swaps (tb_cons (has_by_nexts c (k + 23)) (Nat.le_refl _) c.gf_by_nexts (tb_cons (has_by_takes c (k + 0)) (Nat.le_refl _) c.gf_by_takes (tb_cons (has_by_blocks c (k + 22)) (Nat.le_refl _) c.gf_by_blocks tb_nil)))) (by exact G.room) (da_cons (de_var 1) da_nil)))
    (dss_one (ds_ret (de_ifExp (dt_chain de_int (dch_linkT op_le s_le (de_var 2) (dch_lastT op_lt s_lt (db call_len_seq s_len c.b_len boot_len (da_cons (de_var 4) da_nil))))) (de_ix (de_var 4) (de_var 2)) de_int)))))))
theorem has_how_many (c : Ct K mg w) (k : Nat) : Has P w K mg base (k + 25) "how_many" ["kind", "n", "d"] m_how_many := has_of c.f_how_many sc_how_many M_how_many (by decide) s_how_many (fun _ _ _ _ _ _ us hl => match us, hl with | [_, _, _], _ => rfl) (bo_how_many c k)
theorem nd__law_refused : N__law_refused.Nodup := by decide +kernel
def M__law_refused : Nat → Bool := fun i => false
theorem sc__law_refused : FnScope N__law_refused ["kind", "n", "d"] (defScope st__law_refused) := ⟨rfl, rfl, rfl, nd__law_refused, rfl, by decide +kernel, by decide +kernel⟩
theorem bo__law_refused (c : Ct K mg w) (k : Nat) (fA : Addr) (cdv : Value) (A : Around) (outer : List Env) (sh : Shared) (H : Hp) (Ex : XK) (G : Gd (cxOf (L2.CX P w) P w K mg base N__law_refused "_law_refused" (defScope st__law_refused) fA cdv A outer sh H Ex) (fun _ => Ex) (k + 25)) (F : Fx) :
    DSs (cxOf (L2.CX P w) P w K mg base N__law_refused "_law_refused" (defScope st__law_refused) fA cdv A outer sh H Ex) M__law_refused F (fun _ => Ex) (defBody st__law_refused) s__law_refused :=
    (dss_cons (ds_try G c.e_OutOfRange ⟨rfl, by decide⟩ (fun W pn xe G F => (dss_one (ds_expr (de_fn (has_how_many c (k + 0)) G.room G.pass (da_cons (de_var 0) (da_cons (de_var 1) (da_cons (de_var 2) da_nil))))))) (fun a oe pn F => (dss_one (ds_ret de_bl))))
    (dss_one (ds_ret de_bl)))
theorem has__law_refused (c : Ct K mg w) (k : Nat) : Has P w K mg base (k + 26) "_law_refused" ["kind", "n", "d"] m__law_refused := has_of c.f__law_refused sc__law_refused M__law_refused (by decide) s__law_refused (fun _ _ _ _ _ _ us hl => match us, hl with | [_, _, _], _ => rfl) (bo__law_refused c k)
theorem nd__law_rich : N__law_rich.Nodup := by decide +kernel
def M__law_rich : Nat → Bool := fun i => false
theorem sc__law_rich : FnScope N__law_rich ["cell"] (defScope st__law_rich) := ⟨rfl, rfl, rfl, nd__law_rich, rfl, by decide +kernel, by decide +kernel⟩
theorem bo__law_rich (c : Ct K mg w) (k : Nat) (fA : Addr) (cdv : Value) (A : Around) (outer : List Env) (sh : Shared) (H : Hp) (Ex : XK) (G : Gd (cxOf (L2.CX P w) P w K mg base N__law_rich "_law_rich" (defScope st__law_rich) fA cdv A outer sh H Ex) (fun _ => Ex) (k + 0)) (F : Fx) :
    DSs (cxOf (L2.CX P w) P w K mg base N__law_rich "_law_rich" (defScope st__law_rich) fA cdv A outer sh H Ex) M__law_rich F (fun _ => Ex) (defBody st__law_rich) s__law_rich :=
    (dss_cons (ds_if (dt_cmp op_ge s_ge (de_var 0) (de_op op_pow s_pow de_int de_int) (by first | exact nomark _ | rfl)) (dss_one (ds_ret (de_var 0))) dss_nil)
    (dss_cons (ds_set (i := 1) rfl nd__law_rich (de_op op_mod s_mod (dt call_int1 s_int c.b_int boot_int (da_cons (de_op op_addA s_add (de_op op_mulA s_mul (de_var 0) de_int) de_int) da_nil)) de_int))
    (dss_cons (ds_set (i := 2) rfl nd__law_rich (de_op op_mod s_mod (dt call_int1 s_int c.b_int boot_int (da_cons (de_op op_addA s_add (de_op op_addA s_add (de_op op_mulA s_mul (de_var 1) de_int) (de_op op_fdivW s_div (de_var 0) de_int)) de_int) da_nil)) de_int))
    (dss_one (ds_ret (de_op op_addA s_add (de_op op_mulA s_mul (de_var 1) de_int) (de_var 2)))))))
theorem has__law_rich (c : Ct K mg w) (k : Nat) : Has P w K mg base (k + 1) "_law_rich" ["cell"] m__law_rich := has_of c.f__law_rich sc__law_rich M__law_rich (by decide) s__law_rich (fun _ _ _ _ _ _ us hl => match us, hl with | [_], _ => rfl) (bo__law_rich c k)
theorem nd__law_rows : N__law_rows.Nodup := by decide +kernel
def M__law_rows : Nat → Bool := fun i => i == 3
theorem sc__law_rows : FnScope N__law_rows ["n"] (defScope st__law_rows) := ⟨rfl, rfl, rfl, nd__law_rows, rfl, by decide +kernel, by decide +kernel⟩
theorem bo__law_rows (c : Ct K mg w) (k : Nat) (fA : Addr) (cdv : Value) (A : Around) (outer : List Env) (sh : Shared) (H : Hp) (Ex : XK) (G : Gd (cxOf (L2.CX P w) P w K mg base N__law_rows "_law_rows" (defScope st__law_rows) fA cdv A outer sh H Ex) (fun _ => Ex) (k + 0)) (F : Fx) :
    DSs (cxOf (L2.CX P w) P w K mg base N__law_rows "_law_rows" (defScope st__law_rows) fA cdv A outer sh H Ex) M__law_rows F (fun _ => Ex) (defBody st__law_rows) s__law_rows :=
    (dss_cons (ds_set (i := 1) rfl nd__law_rows (de_lst (da_cons (de_tup da_nil) da_nil)))
    (dss_cons (ds_for G.own rfl (di_rg2 (by rfl) c.b_range (da_cons de_int (da_cons (de_op op_addA s_add (de_var 0) de_int) da_nil))) (dg_name 2 rfl nd__law_rows) (dss_cons (ds_setO (i := 3) rfl nd__law_rows (de_lst da_nil))
    (dss_cons (ds_for G.own rfl (di_seq (de_var 1)) (dg_name 4 rfl nd__law_rows) (dss_one (ds_for G.own rfl (di_rg1 (by rfl) c.b_range (da_cons (de_op op_addA s_add (db call_len_seq s_len c.b_len boot_len (da_cons (de_var 4) da_nil)) de_int) da_nil)) (dg_name 5 rfl nd__law_rows) (dss_one (ds_app (i := 3) rfl (de_op op_addA s_add (de_op op_addA s_add (de_cut (de_var 4) do_none (do_some (de_var 5))) (de_tup (da_cons (de_var 2) da_nil))) (de_cut (de_var 4) (do_some (de_var 5)) do_none)))))))
    (dss_one (ds_move (i := 1) (j := 3) rfl rfl nd__law_rows)))))
    (dss_one (ds_ret (de_var 1)))))
theorem has__law_rows (c : Ct K mg w) (k : Nat) : Has P w K mg base (k + 1) "_law_rows" ["n"] m__law_rows := has_of c.f__law_rows sc__law_rows M__law_rows (by decide) s__law_rows (fun _ _ _ _ _ _ us hl => match us, hl with | [_], _ => rfl) (bo__law_rows c k)
theorem nd_functions_of : N_functions_of.Nodup := by decide +kernel
def M_functions_of : Nat → Bool := fun i => false
theorem sc_functions_of : FnScope N_functions_of ["kind"] (defScope st_functions_of) := ⟨rfl, rfl, rfl, nd_functions_of, rfl, by decide +kernel, by decide +kernel⟩
theorem bo_functions_of (c : Ct K mg w) (k : Nat) (fA : Addr) (cdv : Value) (A : Around) (outer : List Env) (sh : Shared) (H : Hp) (Ex : XK) (G : Gd (cxOf (L2.CX P w) P w K mg base N_functions_of "functions_of" (defScope st_functions_of) fA cdv A outer sh H Ex) (fun _ => Ex) (k + 0)) (F : Fx) :
    DSs (cxOf (L2.CX P w) P w K mg base N_functions_of "functions_of" (defScope st_functions_of) fA cdv A outer sh H Ex) M_functions_of F (fun _ => Ex) (defBody st_functions_of) s_functions_of :=
    (dss_cons (ds_set (i := 1) rfl nd_functions_of (de_dispS (dps_cons (de_tup (da_cons (de_fnV c.gf_least_swaps) (da_cons (de_fnV c.gf_swap_script) da_nil))) (dps_cons (de_tup (da_cons (de_fnV c.gf_least_nexts) (da_cons (de_fnV c.gf_next_script) da_nil))) (dps_cons (de_tup (da_cons (de_fnV c.gf_least_takes) (da_cons (de_fnV c.gf_take_script) da_nil))) (dps_cons (de_tup (da_cons (de_fnV c.gf_least_blocks) (da_cons (de_fnV c.gf_block_script) da_nil))) (dps_cons (de_tup (da_cons (de_fnV c.gf_least_flips) (da_cons (de_fnV c.gf_flip_script) da_nil))) (dps_cons (de_tup (da_cons (de_fnV c.gf_least_turns) (da_cons (de_fnV c.gf_turn_script) da_nil))) (dps_cons (de_tup (da_cons (de_fnV c.gf_least_closed_turns) (da_cons (de_fnV c.gf_closed_turn_script) da_nil))) (dps_cons (de_tup (da_cons (de_fnV c.gf_least_recuts) (da_cons (de_fnV c.gf_recut_script) da_nil))) (dps_cons (de_tup (da_cons (de_fnV c.gf_least_singles) (da_cons (de_fnV c.gf_single_script) da_nil))) dps_nil))))))))) (by decide +kernel) (by decide)))
    (dss_cons (ds_if (dt_dnotinS (by exact ru G.room) (de_var 0) (de_var 1) (by first | exact nobehind _ (by decide) (by decide) | rfl)) (dss_one (ds_raise G rfl c.e_OutOfRange rfl)) dss_nil)
    (dss_one (ds_ret (de_dgetS (by exact ru G.room) (de_var 1) (de_var 0))))))
theorem has_functions_of (c : Ct K mg w) (k : Nat) : Has P w K mg base (k + 1) "functions_of" ["kind"] m_functions_of := has_of c.f_functions_of sc_functions_of M_functions_of (by decide) s_functions_of (fun _ _ _ _ _ _ us hl => match us, hl with | [_], _ => rfl) (bo_functions_of c k)
theorem nd_blocks_lead : N_blocks_lead.Nodup := by decide +kernel
def M_blocks_lead : Nat → Bool := fun i => false
theorem sc_blocks_lead : FnScope N_blocks_lead ["row"] (defScope st_blocks_lead) := ⟨rfl, rfl, rfl, nd_blocks_lead, rfl, by decide +kernel, by decide +kernel⟩
theorem bo_blocks_lead (c : Ct K mg w) (k : Nat) (fA : Addr) (cdv : Value) (A : Around) (outer : List Env) (sh : Shared) (H : Hp) (Ex : XK) (G : Gd (cxOf (L2.CX P w) P w K mg base N_blocks_lead "blocks_lead" (defScope st_blocks_lead) fA cdv A outer sh H Ex) (fun _ => Ex) (k + 0)) (F : Fx) :
    DSs (cxOf (L2.CX P w) P w K mg base N_blocks_lead "blocks_lead" (defScope st_blocks_lead) fA cdv A outer sh H Ex) M_blocks_lead F (fun _ => Ex) (defBody st_blocks_lead) s_blocks_lead :=
    (dss_cons (ds_set (i := 1) rfl nd_blocks_lead (de_op op_addA s_add (de_op op_addA s_add (de_tup (da_cons de_int da_nil)) (de_var 0)) (de_tup (da_cons (de_op op_addA s_add (db call_len_seq s_len c.b_len boot_len (da_cons (de_var 0) da_nil)) de_int) da_nil))))
    (dss_one (ds_ret (de_dc (own := [("i", 2)]) [2] rfl nd_blocks_lead (di_rg2 (by rfl) c.b_range (da_cons de_int (da_cons (db call_len_seq s_len c.b_len boot_len (da_cons (de_var 1) da_nil)) da_nil))) (blkOk_by (own := [("i", 2)]) (N := N_blocks_lead) (sc := defScope st_blocks_lead) (by decide +kernel)) (by decide) (fun _ _ _ _ _ _ => (dg_name 2 rfl nd_blocks_lead)) (fun _ _ _ _ _ => dts_nil) (fun _ _ _ _ _ _ => (de_var 2)) (fun _ _ _ _ _ _ => (de_idxT (de_var 1) (da_cons (de_op op_addA s_add (de_ix (de_var 1) (de_op op_sub s_sub (de_var 2) de_int)) de_int) da_nil)))))))
theorem has_blocks_lead (c : Ct K mg w) (k : Nat) : Has P w K mg base (k + 1) "blocks_lead" ["row"] m_blocks_lead := has_of c.f_blocks_lead sc_blocks_lead M_blocks_lead (by decide) s_blocks_lead (fun _ _ _ _ _ _ us hl => match us, hl with | [_], _ => rfl) (bo_blocks_lead c k)
theorem nd_sorted_row : N_sorted_row.Nodup := by decide +kernel
def M_sorted_row : Nat → Bool := fun i => false
theorem sc_sorted_row : FnScope N_sorted_row ["n"] (defScope st_sorted_row) := ⟨rfl, rfl, rfl, nd_sorted_row, rfl, by decide +kernel, by decide +kernel⟩
theorem bo_sorted_row (c : Ct K mg w) (k : Nat) (fA : Addr) (cdv : Value) (A : Around) (outer : List Env) (sh : Shared) (H : Hp) (Ex : XK) (G : Gd (cxOf (L2.CX P w) P w K mg base N_sorted_row "sorted_row" (defScope st_sorted_row) fA cdv A outer sh H Ex) (fun _ => Ex) (k + 0)) (F : Fx) :
    DSs (cxOf (L2.CX P w) P w K mg base N_sorted_row "sorted_row" (defScope st_sorted_row) fA cdv A outer sh H Ex) M_sorted_row F (fun _ => Ex) (defBody st_sorted_row) s_sorted_row :=
    (dss_one (ds_ret (de_tupRg (by rfl) (by rfl) c.b_tuple (by rfl) c.b_range de_int (de_op op_addA s_add (de_var 0) de_int))))
theorem has_sorted_row (c : Ct K mg w) (k : Nat) : Has P w K mg base (k + 1) "sorted_row" ["n"] m_sorted_row := has_of c.f_sorted_row sc_sorted_row M_sorted_row (by decide) s_sorted_row (fun _ _ _ _ _ _ us hl => match us, hl with | [_], _ => rfl) (bo_sorted_row c k)
theorem nd_check_row : N_check_row.Nodup := by decide +kernel
def M_check_row : Nat → Bool := fun i => false
theorem sc_check_row : FnScope N_check_row ["row"] (defScope st_check_row) := ⟨rfl, rfl, rfl, nd_check_row, rfl, by decide +kernel, by decide +kernel⟩
theorem bo_check_row (c : Ct K mg w) (k : Nat) (fA : Addr) (cdv : Value) (A : Around) (outer : List Env) (sh : Shared) (H : Hp) (Ex : XK) (G : Gd (cxOf (L2.CX P w) P w K mg base N_check_row "check_row" (defScope st_check_row) fA cdv A outer sh H Ex) (fun _ => Ex) (k + 1)) (F : Fx) :
    DSs (cxOf (L2.CX P w) P w K mg base N_check_row "check_row" (defScope st_check_row) fA cdv A outer sh H Ex) M_check_row F (fun _ => Ex) (defBody st_check_row) s_check_row :=
    (dss_cons (ds_if (DW.pt (dw_or (dt_cmp op_gt s_gt (db call_len_seq s_len c.b_len boot_len (da_cons (de_var 0) da_nil)) (de_globE c.i_MOST_PIECES) (by first | exact nomark _ | rfl)) (dw_or1 (dt_cmp (op_neD (by exact ru G.room)) s_ne (dt call_tuple_ofF s_tuple c.b_tuple boot_tuple (da_cons (db cr_srt s_sorted c.b_sorted boot_sorted (da_cons (de_var 0) da_nil)) da_nil)) (de_fn (has_sorted_row c (k + 0)) G.room G.pass (da_cons (db call_len_seq s_len c.b_len boot_len (da_cons (de_var 0) da_nil)) da_nil)) (by first | exact nomark _ | rfl))))) (dss_one (ds_raise G rfl c.e_InvalidRow rfl)) dss_nil)
    (dss_one (ds_ret (de_var 0))))
theorem has_check_row (c : Ct K mg w) (k : Nat) : Has P w K mg base (k + 2) "check_row" ["row"] m_check_row := has_of c.f_check_row sc_check_row M_check_row (by decide) s_check_row (fun _ _ _ _ _ _ us hl => match us, hl with | [_], _ => rfl) (bo_check_row c k)
theorem nd_ring_from : N_ring_from.Nodup := by decide +kernel
def M_ring_from : Nat → Bool := fun i => i == 2
theorem sc_ring_from : FnScope N_ring_from ["leads", "start"] (defScope st_ring_from) := ⟨rfl, rfl, rfl, nd_ring_from, rfl, by decide +kernel, by decide +kernel⟩
theorem bo_ring_from (c : Ct K mg w) (k : Nat) (fA : Addr) (cdv : Value) (A : Around) (outer : List Env) (sh : Shared) (H : Hp) (Ex : XK) (G : Gd (cxOf (L2.CX P w) P w K mg base N_ring_from "ring_from" (defScope st_ring_from) fA cdv A outer sh H Ex) (fun _ => Ex) (k + 0)) (F : Fx) :
    DSs (cxOf (L2.CX P w) P w K mg base N_ring_from "ring_from" (defScope st_ring_from) fA cdv A outer sh H Ex) M_ring_from F (fun _ => Ex) (defBody st_ring_from) s_ring_from :=
    (dss_cons (ds_setO (i := 2) rfl nd_ring_from (de_lst (da_cons (de_var 1) da_nil)))
    (dss_cons (ds_while 100 G.own (dt_cmp (op_neD (by exact ru G.room)) s_ne (de_dget (by exact ru G.room) (de_var 0) (de_ix (de_var 2) (de_un un_neg s_neg de_int))) (de_var 1) (by first | exact nomark _ | rfl)) (dss_one (ds_app (i := 2) rfl (de_dget (by exact ru G.room) (de_var 0) (de_ix (de_var 2) (de_un un_neg s_neg de_int))))))
    (dss_one (ds_ret (dt call_tuple_ofF s_tuple c.b_tuple boot_tuple (da_cons (de_var 2) da_nil))))))
theorem has_ring_from (c : Ct K mg w) (k : Nat) : Has P w K mg base (k + 1) "ring_from" ["leads", "start"] m_ring_from := has_of c.f_ring_from sc_ring_from M_ring_from (by decide) s_ring_from (fun _ _ _ _ _ _ us hl => match us, hl with | [_, _], _ => rfl) (bo_ring_from c k)
theorem nd_rings_of : N_rings_of.Nodup := by decide +kernel
def M_rings_of : Nat → Bool := fun i => i == 1
theorem sc_rings_of : FnScope N_rings_of ["leads"] (defScope st_rings_of) := ⟨rfl, rfl, rfl, nd_rings_of, rfl, by decide +kernel, by decide +kernel⟩
theorem bo_rings_of (c : Ct K mg w) (k : Nat) (fA : Addr) (cdv : Value) (A : Around) (outer : List Env) (sh : Shared) (H : Hp) (Ex : XK) (G : Gd (cxOf (L2.CX P w) P w K mg base N_rings_of "rings_of" (defScope st_rings_of) fA cdv A outer sh H Ex) (fun _ => Ex) (k + 1)) (F : Fx) :
    DSs (cxOf (L2.CX P w) P w K mg base N_rings_of "rings_of" (defScope st_rings_of) fA cdv A outer sh H Ex) M_rings_of F (fun _ => Ex) (defBody st_rings_of) s_rings_of :=
    (dss_cons (ds_setO (i := 1) rfl nd_rings_of (de_lst da_nil))
    (dss_cons (ds_for G.own rfl (di_seq (db (call_sortedDI rfl) s_sortD c.b_sorted boot_sorted (da_cons (de_var 0) da_nil))) (dg_name 2 rfl nd_rings_of) (dss_cons (ds_set (i := 3) rfl nd_rings_of (de_fn (has_ring_from c (k + 0)) G.room G.pass (da_cons (de_var 0) (da_cons (de_var 2) da_nil))))
    (dss_one (ds_if (dt_cmp (op_eqD (by exact ru G.room)) s_eq (db (cr_minA rfl G.room) s_minA c.b_min boot_min (da_cons (de_var 3) da_nil)) (de_var 2) (by first | exact nomark _ | rfl)) (dss_one (ds_app (i := 1) rfl (de_var 3))) dss_nil))))
    (dss_one (ds_ret (dt call_tuple_ofF s_tuple c.b_tuple boot_tuple (da_cons (de_var 1) da_nil))))))
theorem has_rings_of (c : Ct K mg w) (k : Nat) : Has P w K mg base (k + 2) "rings_of" ["leads"] m_rings_of := has_of c.f_rings_of sc_rings_of M_rings_of (by decide) s_rings_of (fun _ _ _ _ _ _ us hl => match us, hl with | [_], _ => rfl) (bo_rings_of c k)
theorem nd_block_rings : N_block_rings.Nodup := by decide +kernel
def M_block_rings : Nat → Bool := fun i => false
theorem sc_block_rings : FnScope N_block_rings ["row"] (defScope st_block_rings) := ⟨rfl, rfl, rfl, nd_block_rings, rfl, by decide +kernel, by decide +kernel⟩
theorem bo_block_rings (c : Ct K mg w) (k : Nat) (fA : Addr) (cdv : Value) (A : Around) (outer : List Env) (sh : Shared) (H : Hp) (Ex : XK) (G : Gd (cxOf (L2.CX P w) P w K mg base N_block_rings "block_rings" (defScope st_block_rings) fA cdv A outer sh H Ex) (fun _ => Ex) (k + 2)) (F : Fx) :
    DSs (cxOf (L2.CX P w) P w K mg base N_block_rings "block_rings" (defScope st_block_rings) fA cdv A outer sh H Ex) M_block_rings F (fun _ => Ex) (defBody st_block_rings) s_block_rings :=
    (dss_one (ds_ret (de_fn (has_rings_of c (k + 0)) G.room G.pass (da_cons (de_fn (has_blocks_lead c (k + 1)) G.room G.pass (da_cons (de_fn (has_check_row c (k + 0)) G.room G.pass (da_cons (de_var 0) da_nil)) da_nil)) da_nil))))
theorem has_block_rings (c : Ct K mg w) (k : Nat) : Has P w K mg base (k + 3) "block_rings" ["row"] m_block_rings := has_of c.f_block_rings sc_block_rings M_block_rings (by decide) s_block_rings (fun _ _ _ _ _ _ us hl => match us, hl with | [_], _ => rfl) (bo_block_rings c k)
theorem nd_check_same_length : N_check_same_length.Nodup := by decide +kernel
def M_check_same_length : Nat → Bool := fun i => false
theorem sc_check_same_length : FnScope N_check_same_length ["first", "second"] (defScope st_check_same_length) := ⟨rfl, rfl, rfl, nd_check_same_length, rfl, by decide +kernel, by decide +kernel⟩
theorem bo_check_same_length (c : Ct K mg w) (k : Nat) (fA : Addr) (cdv : Value) (A : Around) (outer : List Env) (sh : Shared) (H : Hp) (Ex : XK) (G : Gd (cxOf (L2.CX P w) P w K mg base N_check_same_length "check_same_length" (defScope st_check_same_length) fA cdv A outer sh H Ex) (fun _ => Ex) (k + 0)) (F : Fx) :
    DSs (cxOf (L2.CX P w) P w K mg base N_check_same_length "check_same_length" (defScope st_check_same_length) fA cdv A outer sh H Ex) M_check_same_length F (fun _ => Ex) (defBody st_check_same_length) s_check_same_length :=
    (dss_one (ds_if (dt_cmp (op_neD (by exact ru G.room)) s_ne (db call_len_seq s_len c.b_len boot_len (da_cons (de_var 0) da_nil)) (db call_len_seq s_len c.b_len boot_len (da_cons (de_var 1) da_nil)) (by first | exact nomark _ | rfl)) (dss_one (ds_raise G rfl c.e_InvalidRow rfl)) dss_nil))
theorem has_check_same_length (c : Ct K mg w) (k : Nat) : Has P w K mg base (k + 1) "check_same_length" ["first", "second"] m_check_same_length := has_of c.f_check_same_length sc_check_same_length M_check_same_length (by decide) s_check_same_length (fun _ _ _ _ _ _ us hl => match us, hl with | [_, _], _ => rfl) (bo_check_same_length c k)
theorem nd_relative_row : N_relative_row.Nodup := by decide +kernel
def M_relative_row : Nat → Bool := fun i => false
theorem sc_relative_row : FnScope N_relative_row ["first", "second"] (defScope st_relative_row) := ⟨rfl, rfl, rfl, nd_relative_row, rfl, by decide +kernel, by decide +kernel⟩
theorem bo_relative_row (c : Ct K mg w) (k : Nat) (fA : Addr) (cdv : Value) (A : Around) (outer : List Env) (sh : Shared) (H : Hp) (Ex : XK) (G : Gd (cxOf (L2.CX P w) P w K mg base N_relative_row "relative_row" (defScope st_relative_row) fA cdv A outer sh H Ex) (fun _ => Ex) (k + 2)) (F : Fx) :
    DSs (cxOf (L2.CX P w) P w K mg base N_relative_row "relative_row" (defScope st_relative_row) fA cdv A outer sh H Ex) M_relative_row F (fun _ => Ex) (defBody st_relative_row) s_relative_row :=
    (dss_cons (ds_expr (de_fn (has_check_row c (k + 0)) G.room G.pass (da_cons (de_var 0) da_nil)))
    (dss_cons (ds_expr (de_fn (has_check_row c (k + 0)) G.room G.pass (da_cons (de_var 1) da_nil)))
    (dss_cons (ds_expr (de_fn (has_check_same_length c (k + 1)) G.room G.pass (da_cons (de_var 0) (da_cons (de_var 1) da_nil))))
    (dss_one (ds_ret (dt call_tuple_ofF s_tuple c.b_tuple boot_tuple (da_cons (de_lc (own := [("piece", 2)]) [2] rfl nd_relative_row (di_seq (de_var 0)) (blkOk_by (own := [("piece", 2)]) (N := N_relative_row) (sc := defScope st_relative_row) (by decide +kernel)) (by decide) (fun _ _ _ _ _ _ => (dg_name 2 rfl nd_relative_row)) (fun _ _ _ _ _ => dts_nil) (fun _ _ _ _ _ _ => (de_op op_addA s_add (de_idxT (de_var 1) (da_cons (de_var 2) da_nil)) de_int))) da_nil)))))))
theorem has_relative_row (c : Ct K mg w) (k : Nat) : Has P w K mg base (k + 3) "relative_row" ["first", "second"] m_relative_row := has_of c.f_relative_row sc_relative_row M_relative_row (by decide) s_relative_row (fun _ _ _ _ _ _ us hl => match us, hl with | [_, _], _ => rfl) (bo_relative_row c k)
theorem nd_least_blocks : N_least_blocks.Nodup := by decide +kernel
def M_least_blocks : Nat → Bool := fun i => false
theorem sc_least_blocks : FnScope N_least_blocks ["first", "second"] (defScope st_least_blocks) := ⟨rfl, rfl, rfl, nd_least_blocks, rfl, by decide +kernel, by decide +kernel⟩
theorem bo_least_blocks (c : Ct K mg w) (k : Nat) (fA : Addr) (cdv : Value) (A : Around) (outer : List Env) (sh : Shared) (H : Hp) (Ex : XK) (G : Gd (cxOf (L2.CX P w) P w K mg base N_least_blocks "least_blocks" (defScope st_least_blocks) fA cdv A outer sh H Ex) (fun _ => Ex) (k + 3)) (F : Fx) :
    DSs (cxOf (L2.CX P w) P w K mg base N_least_blocks "least_blocks" (defScope st_least_blocks) fA cdv A outer sh H Ex) M_least_blocks F (fun _ => Ex) (defBody st_least_blocks) s_least_blocks :=
    (dss_cons (ds_set (i := 2) rfl nd_least_blocks (de_fn (has_relative_row c (k + 0)) G.room G.pass (da_cons (de_var 0) (da_cons (de_var 1) da_nil))))
    (dss_one (ds_ret (de_op op_fdivW s_div (de_op op_sub s_sub (de_op op_addA s_add (db call_len_seq s_len c.b_len boot_len (da_cons (de_var 2) da_nil)) de_int) (db call_len_seq s_len c.b_len boot_len (da_cons (de_fn (has_block_rings c (k + 0)) G.room G.pass (da_cons (de_var 2) da_nil)) da_nil))) de_int))))
theorem has_least_blocks (c : Ct K mg w) (k : Nat) : Has P w K mg base (k + 4) "least_blocks" ["first", "second"] m_least_blocks := has_of c.f_least_blocks sc_least_blocks M_least_blocks (by decide) s_least_blocks (fun _ _ _ _ _ _ us hl => match us, hl with | [_, _], _ => rfl) (bo_least_blocks c k)
theorem nd_wrong_pairs : N_wrong_pairs.Nodup := by decide +kernel
def M_wrong_pairs : Nat → Bool := fun i => false
theorem sc_wrong_pairs : FnScope N_wrong_pairs ["row"] (defScope st_wrong_pairs) := ⟨rfl, rfl, rfl, nd_wrong_pairs, rfl, by decide +kernel, by decide +kernel⟩
theorem bo_wrong_pairs (c : Ct K mg w) (k : Nat) (fA : Addr) (cdv : Value) (A : Around) (outer : List Env) (sh : Shared) (H : Hp) (Ex : XK) (G : Gd (cxOf (L2.CX P w) P w K mg base N_wrong_pairs "wrong_pairs" (defScope st_wrong_pairs) fA cdv A outer sh H Ex) (fun _ => Ex) (k + 0)) (F : Fx) :
    DSs (cxOf (L2.CX P w) P w K mg base N_wrong_pairs "wrong_pairs" (defScope st_wrong_pairs) fA cdv A outer sh H Ex) M_wrong_pairs F (fun _ => Ex) (defBody st_wrong_pairs) s_wrong_pairs :=
    (dss_cons (ds_set (i := 1) rfl nd_wrong_pairs (db call_len_seq s_len c.b_len boot_len (da_cons (de_var 0) da_nil)))
    (dss_one (ds_ret (dt call_tuple_ofF s_tuple c.b_tuple boot_tuple (da_cons (de_lc2 (own := [("p", 2), ("q", 3)]) (vs1 := [3]) [2, 3] rfl nd_wrong_pairs (di_rg1 (by rfl) c.b_range (da_cons (de_var 1) da_nil)) (blkOk_by (own := [("p", 2), ("q", 3)]) (N := N_wrong_pairs) (sc := defScope st_wrong_pairs) (by decide +kernel)) (by decide) (by decide) (fun _ _ _ _ _ _ => (dg_name 2 rfl nd_wrong_pairs)) (fun _ _ _ _ _ => dts_nil) (fun _ _ _ _ _ _ => (di_rg2 (by rfl) c.b_range (da_cons (de_op op_addA s_add (de_var 2) de_int) (da_cons (de_var 1) da_nil)))) (fun _ _ _ _ _ _ => (dg_name 3 rfl nd_wrong_pairs)) (fun _ _ _ _ _ => (dts_one fun _ => (dt_cmp op_gt s_gt (de_ix (de_var 0) (de_var 2)) (de_ix (de_var 0) (de_var 3)) (by first | exact nomark _ | rfl)))) (fun _ _ _ _ _ _ => (de_tup (da_cons (de_var 2) (da_cons (de_var 3) da_nil))))) da_nil)))))
theorem has_wrong_pairs (c : Ct K mg w) (k : Nat) : Has P w K mg base (k + 1) "wrong_pairs" ["row"] m_wrong_pairs := has_of c.f_wrong_pairs sc_wrong_pairs M_wrong_pairs (by decide) s_wrong_pairs (fun _ _ _ _ _ _ us hl => match us, hl with | [_], _ => rfl) (bo_wrong_pairs c k)
theorem nd_least_nexts : N_least_nexts.Nodup := by decide +kernel
def M_least_nexts : Nat → Bool := fun i => false
theorem sc_least_nexts : FnScope N_least_nexts ["first", "second"] (defScope st_least_nexts) := ⟨rfl, rfl, rfl, nd_least_nexts, rfl, by decide +kernel, by decide +kernel⟩
theorem bo_least_nexts (c : Ct K mg w) (k : Nat) (fA : Addr) (cdv : Value) (A : Around) (outer : List Env) (sh : Shared) (H : Hp) (Ex : XK) (G : Gd (cxOf (L2.CX P w) P w K mg base N_least_nexts "least_nexts" (defScope st_least_nexts) fA cdv A outer sh H Ex) (fun _ => Ex) (k + 3)) (F : Fx) :
    DSs (cxOf (L2.CX P w) P w K mg base N_least_nexts "least_nexts" (defScope st_least_nexts) fA cdv A outer sh H Ex) M_least_nexts F (fun _ => Ex) (defBody st_least_nexts) s_least_nexts :=
    (dss_one (ds_ret (db call_len_seq s_len c.b_len boot_len (da_cons (de_fn (has_wrong_pairs c (k + 2)) G.room G.pass (da_cons (de_fn (has_relative_row c (k + 0)) G.room G.pass (da_cons (de_var 0) (da_cons (de_var 1) da_nil))) da_nil)) da_nil))))
theorem has_least_nexts (c : Ct K mg w) (k : Nat) : Has P w K mg base (k + 4) "least_nexts" ["first", "second"] m_least_nexts := has_of c.f_least_nexts sc_least_nexts M_least_nexts (by decide) s_least_nexts (fun _ _ _ _ _ _ us hl => match us, hl with | [_, _], _ => rfl) (bo_least_nexts c k)
theorem nd_places_lead : N_places_lead.Nodup := by decide +kernel
def M_places_lead : Nat → Bool := fun i => false
theorem sc_places_lead : FnScope N_places_lead ["row"] (defScope st_places_lead) := ⟨rfl, rfl, rfl, nd_places_lead, rfl, by decide +kernel, by decide +kernel⟩
theorem bo_places_lead (c : Ct K mg w) (k : Nat) (fA : Addr) (cdv : Value) (A : Around) (outer : List Env) (sh : Shared) (H : Hp) (Ex : XK) (G : Gd (cxOf (L2.CX P w) P w K mg base N_places_lead "places_lead" (defScope st_places_lead) fA cdv A outer sh H Ex) (fun _ => Ex) (k + 0)) (F : Fx) :
    DSs (cxOf (L2.CX P w) P w K mg base N_places_lead "places_lead" (defScope st_places_lead) fA cdv A outer sh H Ex) M_places_lead F (fun _ => Ex) (defBody st_places_lead) s_places_lead :=
    (dss_one (ds_ret (de_dc (own := [("p", 1)]) [1] rfl nd_places_lead (di_rg1 (by rfl) c.b_range (da_cons (db call_len_seq s_len c.b_len boot_len (da_cons (de_var 0) da_nil)) da_nil)) (blkOk_by (own := [("p", 1)]) (N := N_places_lead) (sc := defScope st_places_lead) (by decide +kernel)) (by decide) (fun _ _ _ _ _ _ => (dg_name 1 rfl nd_places_lead)) (fun _ _ _ _ _ => dts_nil) (fun _ _ _ _ _ _ => (de_var 1)) (fun _ _ _ _ _ _ => (de_op op_sub s_sub (de_ix (de_var 0) (de_var 1)) de_int)))))
theorem has_places_lead (c : Ct K mg w) (k : Nat) : Has P w K mg base (k + 1) "places_lead" ["row"] m_places_lead := has_of c.f_places_lead sc_places_lead M_places_lead (by decide) s_places_lead (fun _ _ _ _ _ _ us hl => match us, hl with | [_], _ => rfl) (bo_places_lead c k)
theorem nd_rings : N_rings.Nodup := by decide +kernel
def M_rings : Nat → Bool := fun i => false
theorem sc_rings : FnScope N_rings ["row"] (defScope st_rings) := ⟨rfl, rfl, rfl, nd_rings, rfl, by decide +kernel, by decide +kernel⟩
theorem bo_rings (c : Ct K mg w) (k : Nat) (fA : Addr) (cdv : Value) (A : Around) (outer : List Env) (sh : Shared) (H : Hp) (Ex : XK) (G : Gd (cxOf (L2.CX P w) P w K mg base N_rings "rings" (defScope st_rings) fA cdv A outer sh H Ex) (fun _ => Ex) (k + 2)) (F : Fx) :
    DSs (cxOf (L2.CX P w) P w K mg base N_rings "rings" (defScope st_rings) fA cdv A outer sh H Ex) M_rings F (fun _ => Ex) (defBody st_rings) s_rings :=
    (dss_one (ds_ret (de_fn (has_rings_of c (k + 0)) G.room G.pass (da_cons (de_fn (has_places_lead c (k + 1)) G.room G.pass (da_cons (de_fn (has_check_row c (k + 0)) G.room G.pass (da_cons (de_var 0) da_nil)) da_nil)) da_nil))))
theorem has_rings (c : Ct K mg w) (k : Nat) : Has P w K mg base (k + 3) "rings" ["row"] m_rings := has_of c.f_rings sc_rings M_rings (by decide) s_rings (fun _ _ _ _ _ _ us hl => match us, hl with | [_], _ => rfl) (bo_rings c k)
theorem nd_least_swaps : N_least_swaps.Nodup := by decide +kernel
def M_least_swaps : Nat → Bool := fun i => false
theorem sc_least_swaps : FnScope N_least_swaps ["first", "second"] (defScope st_least_swaps) := ⟨rfl, rfl, rfl, nd_least_swaps, rfl, by decide +kernel, by decide +kernel⟩
theorem bo_least_swaps (c : Ct K mg w) (k : Nat) (fA : Addr) (cdv : Value) (A : Around) (outer : List Env) (sh : Shared) (H : Hp) (Ex : XK) (G : Gd (cxOf (L2.CX P w) P w K mg base N_least_swaps "least_swaps" (defScope st_least_swaps) fA cdv A outer sh H Ex) (fun _ => Ex) (k + 3)) (F : Fx) :
    DSs (cxOf (L2.CX P w) P w K mg base N_least_swaps "least_swaps" (defScope st_least_swaps) fA cdv A outer sh H Ex) M_least_swaps F (fun _ => Ex) (defBody st_least_swaps) s_least_swaps :=
    (dss_cons (ds_set (i := 2) rfl nd_least_swaps (de_fn (has_relative_row c (k + 0)) G.room G.pass (da_cons (de_var 0) (da_cons (de_var 1) da_nil))))
    (dss_one (ds_ret (de_op op_sub s_sub (db call_len_seq s_len c.b_len boot_len (da_cons (de_var 2) da_nil)) (db call_len_seq s_len c.b_len boot_len (da_cons (de_fn (has_rings c (k + 0)) G.room G.pass (da_cons (de_var 2) da_nil)) da_nil))))))
theorem has_least_swaps (c : Ct K mg w) (k : Nat) : Has P w K mg base (k + 4) "least_swaps" ["first", "second"] m_least_swaps := has_of c.f_least_swaps sc_least_swaps M_least_swaps (by decide) s_least_swaps (fun _ _ _ _ _ _ us hl => match us, hl with | [_, _], _ => rfl) (bo_least_swaps c k)
theorem nd_heights : N_heights.Nodup := by decide +kernel
def M_heights : Nat → Bool := fun i => i == 1
theorem sc_heights : FnScope N_heights ["row"] (defScope st_heights) := ⟨rfl, rfl, rfl, nd_heights, rfl, by decide +kernel, by decide +kernel⟩
theorem bo_heights (c : Ct K mg w) (k : Nat) (fA : Addr) (cdv : Value) (A : Around) (outer : List Env) (sh : Shared) (H : Hp) (Ex : XK) (G : Gd (cxOf (L2.CX P w) P w K mg base N_heights "heights" (defScope st_heights) fA cdv A outer sh H Ex) (fun _ => Ex) (k + 0)) (F : Fx) :
    DSs (cxOf (L2.CX P w) P w K mg base N_heights "heights" (defScope st_heights) fA cdv A outer sh H Ex) M_heights F (fun _ => Ex) (defBody st_heights) s_heights :=
    (dss_cons (ds_setO (i := 1) rfl nd_heights (de_lst da_nil))
    (dss_cons (ds_for G.own rfl (di_rg1 (by rfl) c.b_range (da_cons (db call_len_seq s_len c.b_len boot_len (da_cons (de_var 0) da_nil)) da_nil)) (dg_name 2 rfl nd_heights) (dss_cons (ds_setLc (i := 3) (own := [("p", 4)]) [4] rfl rfl nd_heights (di_rg1 (by rfl) c.b_range (da_cons (de_var 2) da_nil)) (blkOk_by (own := [("p", 4)]) (N := N_heights) (sc := defScope st_heights) (by decide +kernel)) (by decide) (fun _ _ _ _ _ _ => (dg_name 4 rfl nd_heights)) (fun _ _ _ _ _ => (dts_one fun _ => (dt_cmp op_lt s_lt (de_ix (de_var 0) (de_var 4)) (de_ix (de_var 0) (de_var 2)) (by first | exact nomark _ | rfl)))) (fun _ _ _ _ _ _ => (de_cast (de_ix (de_var 1) (de_var 4)))) (sw_true rfl rfl rfl (by decide +kernel)))
    (dss_one (ds_app (i := 1) rfl (de_op op_addA s_add de_int (de_maxD (by rfl) G.room c.b_max (de_var 3) de_int))))))
    (dss_one (ds_ret (de_var 1)))))
theorem has_heights (c : Ct K mg w) (k : Nat) : Has P w K mg base (k + 1) "heights" ["row"] m_heights := has_of c.f_heights sc_heights M_heights (by decide) s_heights (fun _ _ _ _ _ _ us hl => match us, hl with | [_], _ => rfl) (bo_heights c k)
theorem nd_rising : N_rising.Nodup := by decide +kernel
def M_rising : Nat → Bool := fun i => i == 4
theorem sc_rising : FnScope N_rising ["row"] (defScope st_rising) := ⟨rfl, rfl, rfl, nd_rising, rfl, by decide +kernel, by decide +kernel⟩
theorem bo_rising (c : Ct K mg w) (k : Nat) (fA : Addr) (cdv : Value) (A : Around) (outer : List Env) (sh : Shared) (H : Hp) (Ex : XK) (G : Gd (cxOf (L2.CX P w) P w K mg base N_rising "rising" (defScope st_rising) fA cdv A outer sh H Ex) (fun _ => Ex) (k + 2)) (F : Fx) :
    DSs (cxOf (L2.CX P w) P w K mg base N_rising "rising" (defScope st_rising) fA cdv A outer sh H Ex) M_rising F (fun _ => Ex) (defBody st_rising) s_rising :=
    (dss_cons (ds_expr (de_fn (has_check_row c (k + 0)) G.room G.pass (da_cons (de_var 0) da_nil)))
    (dss_cons (ds_set (i := 1) rfl nd_rising (de_fn (has_heights c (k + 1)) G.room G.pass (da_cons (de_var 0) da_nil)))
    (dss_cons (ds_set (i := 2) rfl nd_rising (de_maxD (by rfl) G.room c.b_max (de_var 1) de_int))
    (dss_cons (ds_set (i := 3) rfl nd_rising (de_op op_addA s_add (db call_len_seq s_len c.b_len boot_len (da_cons (de_var 0) da_nil)) de_int))
    (dss_cons (ds_setO (i := 4) rfl nd_rising (de_lst da_nil))
    (dss_cons (ds_for G.own rfl (di_rev (by rfl) c.b_reversed (by rfl) c.b_range (db call_len_seq s_len c.b_len boot_len (da_cons (de_var 0) da_nil))) (dg_name 5 rfl nd_rising) (dss_one (ds_if (DW.pt (dw_and (dt_cmp (op_eqD (by exact ru G.room)) s_eq (de_ix (de_var 1) (de_var 5)) (de_var 2) (by first | exact nomark _ | rfl)) (dw_and1 (dt_cmp op_lt s_lt (de_ix (de_var 0) (de_var 5)) (de_var 3) (by first | exact nomark _ | rfl))))) (dss_cons (ds_app (i := 4) rfl (de_var 5))
    (dss_cons (ds_set (i := 3) rfl nd_rising (de_ix (de_var 0) (de_var 5)))
    (dss_one (ds_aug (i := 2) ip_sub rfl nd_rising de_int)))) dss_nil)))
    (dss_one (ds_ret (dt call_tuple_ofF s_tuple c.b_tuple boot_tuple (da_cons (de_revL (de_var 4)) da_nil))))))))))
theorem has_rising (c : Ct K mg w) (k : Nat) : Has P w K mg base (k + 3) "rising" ["row"] m_rising := has_of c.f_rising sc_rising M_rising (by decide) s_rising (fun _ _ _ _ _ _ us hl => match us, hl with | [_], _ => rfl) (bo_rising c k)
theorem nd_least_takes : N_least_takes.Nodup := by decide +kernel
def M_least_takes : Nat → Bool := fun i => false
theorem sc_least_takes : FnScope N_least_takes ["first", "second"] (defScope st_least_takes) := ⟨rfl, rfl, rfl, nd_least_takes, rfl, by decide +kernel, by decide +kernel⟩
theorem bo_least_takes (c : Ct K mg w) (k : Nat) (fA : Addr) (cdv : Value) (A : Around) (outer : List Env) (sh : Shared) (H : Hp) (Ex : XK) (G : Gd (cxOf (L2.CX P w) P w K mg base N_least_takes "least_takes" (defScope st_least_takes) fA cdv A outer sh H Ex) (fun _ => Ex) (k + 3)) (F : Fx) :
    DSs (cxOf (L2.CX P w) P w K mg base N_least_takes "least_takes" (defScope st_least_takes) fA cdv A outer sh H Ex) M_least_takes F (fun _ => Ex) (defBody st_least_takes) s_least_takes :=
    (dss_cons (ds_set (i := 2) rfl nd_least_takes (de_fn (has_relative_row c (k + 0)) G.room G.pass (da_cons (de_var 0) (da_cons (de_var 1) da_nil))))
    (dss_one (ds_ret (de_op op_sub s_sub (db call_len_seq s_len c.b_len boot_len (da_cons (de_var 2) da_nil)) (db call_len_seq s_len c.b_len boot_len (da_cons (de_fn (has_rising c (k + 0)) G.room G.pass (da_cons (de_var 2) da_nil)) da_nil))))))
theorem has_least_takes (c : Ct K mg w) (k : Nat) : Has P w K mg base (k + 4) "least_takes" ["first", "second"] m_least_takes := has_of c.f_least_takes sc_least_takes M_least_takes (by decide) s_least_takes (fun _ _ _ _ _ _ us hl => match us, hl with | [_, _], _ => rfl) (bo_least_takes c k)
theorem nd_least : N_least.Nodup := by decide +kernel
def M_least : Nat → Bool := fun i => false
theorem sc_least : FnScope N_least ["kind", "first", "second"] (defScope st_least) := ⟨rfl, rfl, rfl, nd_least, rfl, by decide +kernel, by decide +kernel⟩
theorem bo_least (c : Ct K mg w) (k : Nat) (fA : Addr) (cdv : Value) (A : Around) (outer : List Env) (sh : Shared) (H : Hp) (Ex : XK) (G : Gd (cxOf (L2.CX P w) P w K mg base N_least "least" (defScope st_least) fA cdv A outer sh H Ex) (fun _ => Ex) (k + 4)) (F : Fx) :
    DSs (cxOf (L2.CX P w) P w K mg base N_least "least" (defScope st_least) fA cdv A outer sh H Ex) M_least F (fun _ => Ex) (defBody st_least) s_least :=
    (dss_cons (ds_asg (dg_seq rfl (dgs_cons (dg_name 3 rfl nd_least) (dgs_cons (dg_name 4 rfl nd_least) dgs_nil))) (de_fn (has_functions_of c (k + 3)) G.room G.pass (da_cons (de_var 0) da_nil)))
    (dss_one (ds_ret (de_callV (i := 3) rfl (tb_cons (has_least_swaps c (k + 0)) (Nat.le_refl _) c.gf_least_swaps (tb_cons (has_least_nexts c (k + 0)) (Nat.le_refl _) c.gf_least_nexts (tb_cons (has_least_takes c (k + 0)) (Nat.le_refl _) c.gf_least_takes (tb_cons (has_least_blocks c (k + 0)) (Nat.le_refl _) c.gf_least_blocks tb_nil)))) (by exact G.room) (da_cons (de_var 1) (da_cons (de_var 2) da_nil))))))
theorem has_least (c : Ct K mg w) (k : Nat) : Has P w K mg base (k + 5) "least" ["kind", "first", "second"] m_least := has_of c.f_least sc_least M_least (by decide) s_least (fun _ _ _ _ _ _ us hl => match us, hl with | [_, _, _], _ => rfl) (bo_least c k)
theorem nd_law : N_law.Nodup := by decide +kernel
def M_law : Nat → Bool := fun i => false
theorem sc_law : FnScope N_law ["script"] (defScope st_law) := ⟨rfl, rfl, rfl, nd_law, rfl, by decide +kernel, by decide +kernel⟩
theorem bo_law (c : Ct K mg w) (k : Nat) (fA : Addr) (cdv : Value) (A : Around) (outer : List Env) (sh : Shared) (H : Hp) (Ex : XK) (G : Gd (cxOf (L2.CX P w) P w K mg base N_law "law" (defScope st_law) fA cdv A outer sh H Ex) (fun _ => Ex) (k + 26)) (F : Fx) :
    DSs (cxOf (L2.CX P w) P w K mg base N_law "law" (defScope st_law) fA cdv A outer sh H Ex) M_law F (fun _ => Ex) (defBody st_law) s_law :=
    (dss_cons (ds_set (i := 1) rfl nd_law (de_fn (has__law_digits c (k + 25)) G.room G.pass (da_cons (de_fn (has__law_rich c (k + 25)) G.room G.pass (da_cons (de_fn (has__law_cell c (k + 25)) G.room G.pass (da_cons (de_var 0) (da_cons de_int da_nil))) da_nil)) (da_cons (de_lst (da_cons de_int (da_cons de_int (da_cons de_int (da_cons de_int (da_cons de_int (da_cons de_int da_nil))))))) da_nil))))
    (dss_cons (ds_set (i := 2) rfl nd_law (de_ix (de_lst (da_cons de_str (da_cons de_str (da_cons de_str (da_cons de_str da_nil))))) (de_ix (de_var 1) de_int)))
    (dss_cons (ds_set (i := 3) rfl nd_law (de_ix (de_var 1) de_int))
    (dss_cons (ds_setLc (i := 4) (own := [("row", 11)]) [11] rfl rfl nd_law (di_seq (de_fn (has__law_rows c (k + 25)) G.room G.pass (da_cons (de_var 3) da_nil))) (blkOk_by (own := [("row", 11)]) (N := N_law) (sc := defScope st_law) (by decide +kernel)) (by decide) (fun _ _ _ _ _ _ => (dg_name 11 rfl nd_law)) (fun _ _ _ _ _ => dts_nil) (fun _ _ _ _ _ _ => (de_fn (has_least c (k + 21)) (by exact G.room) passF (da_cons (de_var 2) (da_cons (de_var 11) (da_cons (de_fn (has_sorted_row c (k + 25)) (by exact G.room) passF (da_cons (de_var 3) da_nil)) da_nil))))) (sw_true rfl rfl rfl (by decide +kernel)))
    (dss_cons (ds_for G.own rfl (di_rg2 (by rfl) c.b_range (da_cons (de_un un_neg s_neg de_int) (da_cons de_int da_nil))) (dg_name 5 rfl nd_law) (dss_cons (ds_set (i := 6) rfl nd_law (de_fn (has_how_many c (k + 1)) G.room G.pass (da_cons (de_var 2) (da_cons (de_var 3) (da_cons (de_var 5) da_nil)))))
    (dss_one (ds_if (DW.pt (dw_or (dt_not (dt_val (de_fn (has__law_is_integer c (k + 25)) G.room G.pass (da_cons (de_var 6) da_nil)))) (dw_or1 (dt_cmp (op_neD (by exact ru G.room)) s_ne (de_var 6) (db call_len_seq s_len c.b_len boot_len (da_cons (de_lc (own := [("number", 12)]) [12] rfl nd_law (di_seq (de_var 4)) (blkOk_by (own := [("number", 12)]) (N := N_law) (sc := defScope st_law) (by decide +kernel)) (by decide) (fun _ _ _ _ _ _ => (dg_name 12 rfl nd_law)) (fun _ _ _ _ _ => (dts_one fun _ => (dt_cmp (op_eqD (by exact ru G.room)) s_eq (de_var 12) (de_var 5) (by first | exact nomark _ | rfl)))) (fun _ _ _ _ _ _ => (de_var 12))) da_nil)) (by first | exact nomark _ | rfl))))) (dss_one (ds_ret de_bl)) dss_nil))))
    (dss_cons (ds_set (i := 3) rfl nd_law (de_ix (de_var 1) de_int))
    (dss_cons (ds_if (DW.pt (dw_and (dt_cmp (op_eqD (by exact ru G.room)) s_eq (de_ix (de_var 1) de_int) de_int (by first | exact nomark _ | rfl)) (dw_and1 (dt_cmp op_in_seq (s_in false) (de_var 2) (de_lst (da_cons de_str (da_cons de_str da_nil))) (by first | exact nomark _ | rfl))))) (dss_one (ds_set (i := 3) rfl nd_law (de_op op_addA s_add de_int (de_op op_mod s_mod (dt call_int1 s_int c.b_int boot_int (da_cons (de_ix (de_var 1) de_int) da_nil)) de_int)))) dss_nil)
    (dss_cons (ds_set (i := 7) rfl nd_law de_int)
    (dss_cons (ds_for G.own rfl (di_rg2 (by rfl) c.b_range (da_cons de_int (da_cons (de_op op_addA s_add (de_var 3) de_int) da_nil))) (dg_name 5 rfl nd_law) (dss_one (ds_set (i := 7) rfl nd_law (de_op op_mulA s_mul (de_var 7) (de_var 5)))))
    (dss_cons (ds_set (i := 8) rfl nd_law (de_ix (de_lst (da_cons (de_var 3) (da_cons (de_op op_fdivW s_div (de_op op_mulA s_mul (de_var 3) (de_op op_sub s_sub (de_var 3) de_int)) de_int) da_nil))) (dt call_int1 s_int c.b_int boot_int (da_cons (de_cmp (op_eqD (by exact ru G.room)) s_eq (de_var 2) de_str (by first | exact nomark _ | rfl)) da_nil))))
    (dss_cons (ds_setLc (i := 9) (own := [("k", 5)]) [5] rfl rfl nd_law (di_rg1 (by rfl) c.b_range (da_cons (de_op op_addA s_add (de_var 8) de_int) da_nil)) (blkOk_by (own := [("k", 5)]) (N := N_law) (sc := defScope st_law) (by decide +kernel)) (by decide) (fun _ _ _ _ _ _ => (dg_name 5 rfl nd_law)) (fun _ _ _ _ _ => dts_nil) (fun _ _ _ _ _ _ => (de_fn (has_how_many c (k + 1)) (by exact G.room) passF (da_cons (de_var 2) (da_cons (de_var 3) (da_cons (de_var 5) da_nil))))) (sw_true rfl rfl rfl (by decide +kernel)))
    (dss_cons (ds_if (DW.pt (dw_or (dt_cmp (op_neD (by exact ru G.room)) s_ne (db (cr_sum rfl) s_sum c.b_sum boot_sum (da_cons (de_var 9) da_nil)) (de_var 7) (by first | exact nomark _ | rfl)) (dw_or (dt_cmp op_lt s_lt (db (cr_minA rfl G.room) s_minA c.b_min boot_min (da_cons (de_var 9) da_nil)) de_int (by first | exact nomark _ | rfl)) (dw_or (dt_cmp (op_neD (by exact ru G.room)) s_ne (de_ix (de_var 9) de_int) de_int (by first | exact nomark _ | rfl)) (dw_or1 (dt_cmp (op_neD (by exact ru G.room)) s_ne (de_fn (has_how_many c (k + 1)) G.room G.pass (da_cons (de_var 2) (da_cons (de_var 3) (da_cons (de_op op_sub s_sub (de_un un_neg s_neg de_int) (de_ix (de_var 1) de_int)) da_nil)))) de_int (by first | exact nomark _ | rfl))))))) (dss_one (ds_ret de_bl)) dss_nil)
    (dss_cons (ds_if (DW.pt (dw_or (dt_cmp (op_neD (by exact ru G.room)) s_ne (de_fn (has_how_many c (k + 1)) G.room G.pass (da_cons (de_var 2) (da_cons (de_var 3) (da_cons (de_op op_addA s_add (de_op op_addA s_add (de_var 8) de_int) (de_ix (de_var 1) de_int)) da_nil)))) de_int (by first | exact nomark _ | rfl)) (dw_or1 (DW.pt (dw_and (dt_cmp (op_eqD (by exact ru G.room)) s_eq (de_var 2) de_str (by first | exact nomark _ | rfl)) (dw_and1 (dt_cmp (op_neD (by exact ru G.room)) s_ne (de_var 9) (de_revL (de_var 9)) (by first | exact nomark _ | rfl)))))))) (dss_one (ds_ret de_bl)) dss_nil)
    (dss_cons (ds_if (DW.pt (dw_or (dt_cmp (op_neD (by exact ru G.room)) s_ne (de_fn (has_how_many c (k + 1)) G.room G.pass (da_cons (de_var 2) (da_cons de_int (da_cons de_int da_nil)))) de_int (by first | exact nomark _ | rfl)) (dw_or1 (dt_cmp op_le s_le (de_fn (has_how_many c (k + 1)) G.room G.pass (da_cons (de_var 2) (da_cons de_int (da_cons de_int da_nil)))) de_int (by first | exact nomark _ | rfl))))) (dss_one (ds_ret de_bl)) dss_nil)
    (dss_cons (ds_set (i := 10) rfl nd_law (de_op op_sub s_sub (de_ix (de_var 1) de_int) de_int))
    (dss_cons (ds_if (dt_cmp (op_neD (by exact ru G.room)) s_ne (de_fn (has__law_refused c (k + 0)) G.room G.pass (da_cons (de_var 2) (da_cons (de_var 10) (da_cons (de_op op_sub s_sub (de_ix (de_var 1) de_int) de_int) da_nil)))) (de_or (de_cmp op_lt s_lt (de_var 10) de_int (by first | exact nomark _ | rfl)) (de_one (de_cmp op_gt s_gt (de_var 10) de_int (by first | exact nomark _ | rfl)))) (by first | exact nomark _ | rfl)) (dss_one (ds_ret de_bl)) dss_nil)
    (dss_one (ds_ret (de_or (de_cmp op_gt s_gt (de_ix (de_var 1) de_int) de_int (by first | exact nomark _ | rfl)) (de_one (de_fn (has__law_refused c (k + 0)) G.room G.pass (da_cons (de_ix (de_lst (da_cons de_str (da_cons de_str (da_cons de_str (da_cons de_str da_nil))))) (de_ix (de_var 1) de_int)) (da_cons (de_var 3) (da_cons de_int da_nil))))))))))))))))))))))))
theorem has_law (c : Ct K mg w) (k : Nat) : Has P w K mg base (k + 27) "law" ["script"] m_law := has_of c.f_law sc_law M_law (by decide) s_law (fun _ _ _ _ _ _ us hl => match us, hl with | [_], _ => rfl) (bo_law c k)
end
end Gn

set_option Elab.async false
set_option linter.all false
set_option maxRecDepth 100000
set_option maxHeartbeats 0
namespace Gn
open PySem PySem.Spec PyProof.Rows L2 Pu
theorem ct_of {K : PySem.W.Frag} {mg : Str → Option Value} {h : Heap} {w : World} (X : K.In h) (G : h.Ns mainGlobals mg) (c2 : SaysT2 fas fxs fns tabs w K) (c : SaysP fas fxs fns K) : Ct K mg w where
  f__law_cell := fnAt_of X G c 0 0
  f__law_digits := fnAt_of X G c 1 1
  f__law_is_integer := fnAt_of X G c 2 2
  f_rows_by_rings := fnAt_of X G c 3 3
  f_by_blocks := fnAt_of X G c 4 4
  f_by_nexts := fnAt_of X G c 5 5
  f_by_swaps := fnAt_of X G c 6 6
  f_fillings := fnAt_of X G c 7 7
  f_shapes := fnAt_of X G c 8 8
  f_rows_that_rise := fnAt_of X G c 9 9
  f_by_takes := fnAt_of X G c 10 10
  f_how_many := fnAt_of X G c 11 11
  f__law_refused := fnAt_of X G c 12 12
  f__law_rich := fnAt_of X G c 13 13
  f__law_rows := fnAt_of X G c 14 14
  f_functions_of := fnAt_of X G c 15 15
  f_blocks_lead := fnAt_of X G c 16 16
  f_sorted_row := fnAt_of X G c 17 17
  f_check_row := fnAt_of X G c 18 18
  f_ring_from := fnAt_of X G c 19 19
  f_rings_of := fnAt_of X G c 20 20
  f_block_rings := fnAt_of X G c 21 21
  f_check_same_length := fnAt_of X G c 22 22
  f_relative_row := fnAt_of X G c 23 23
  f_least_blocks := fnAt_of X G c 24 24
  f_wrong_pairs := fnAt_of X G c 25 25
  f_least_nexts := fnAt_of X G c 26 26
  f_places_lead := fnAt_of X G c 27 27
  f_rings := fnAt_of X G c 28 28
  f_least_swaps := fnAt_of X G c 29 29
  f_heights := fnAt_of X G c 30 30
  f_rising := fnAt_of X G c 31 31
  f_least_takes := fnAt_of X G c 32 32
  f_least := fnAt_of X G c 33 33
  f_law := fnAt_of X G c 34 34
  gf_block_script := He.glo_ok X G (c.d.fact 35 (f := .glo "block_script"))
  gf_by_blocks := He.glo_ok X G (c.d.fact 4 (f := .glo "by_blocks"))
  gf_by_nexts := He.glo_ok X G (c.d.fact 5 (f := .glo "by_nexts"))
  gf_by_swaps := He.glo_ok X G (c.d.fact 6 (f := .glo "by_swaps"))
  gf_by_takes := He.glo_ok X G (c.d.fact 10 (f := .glo "by_takes"))
  gf_closed_turn_script := He.glo_ok X G (c.d.fact 36 (f := .glo "closed_turn_script"))
  gf_flip_script := He.glo_ok X G (c.d.fact 37 (f := .glo "flip_script"))
  gf_least_blocks := He.glo_ok X G (c.d.fact 24 (f := .glo "least_blocks"))
  gf_least_closed_turns := He.glo_ok X G (c.d.fact 38 (f := .glo "least_closed_turns"))
  gf_least_flips := He.glo_ok X G (c.d.fact 39 (f := .glo "least_flips"))
  gf_least_nexts := He.glo_ok X G (c.d.fact 26 (f := .glo "least_nexts"))
  gf_least_recuts := He.glo_ok X G (c.d.fact 40 (f := .glo "least_recuts"))
  gf_least_singles := He.glo_ok X G (c.d.fact 41 (f := .glo "least_singles"))
  gf_least_swaps := He.glo_ok X G (c.d.fact 29 (f := .glo "least_swaps"))
  gf_least_takes := He.glo_ok X G (c.d.fact 32 (f := .glo "least_takes"))
  gf_least_turns := He.glo_ok X G (c.d.fact 42 (f := .glo "least_turns"))
  gf_next_script := He.glo_ok X G (c.d.fact 43 (f := .glo "next_script"))
  gf_recut_script := He.glo_ok X G (c.d.fact 44 (f := .glo "recut_script"))
  gf_single_script := He.glo_ok X G (c.d.fact 45 (f := .glo "single_script"))
  gf_swap_script := He.glo_ok X G (c.d.fact 46 (f := .glo "swap_script"))
  gf_take_script := He.glo_ok X G (c.d.fact 47 (f := .glo "take_script"))
  gf_turn_script := He.glo_ok X G (c.d.fact 48 (f := .glo "turn_script"))
  b_bool := He.free_ok X G (c.d.fact 50 (f := .free "bool"))
  b_int := He.free_ok X G (c.d.fact 51 (f := .free "int"))
  b_isinstance := He.free_ok X G (c.d.fact 52 (f := .free "isinstance"))
  b_len := He.free_ok X G (c.d.fact 53 (f := .free "len"))
  b_max := He.free_ok X G (c.d.fact 54 (f := .free "max"))
  b_min := He.free_ok X G (c.d.fact 55 (f := .free "min"))
  b_range := He.free_ok X G (c.d.fact 56 (f := .free "range"))
  b_reversed := He.free_ok X G (c.d.fact 57 (f := .free "reversed"))
  b_sorted := He.free_ok X G (c.d.fact 58 (f := .free "sorted"))
  b_sum := He.free_ok X G (c.d.fact 59 (f := .free "sum"))
  b_tuple := He.free_ok X G (c.d.fact 60 (f := .free "tuple"))
  b_zip := He.free_ok X G (c.d.fact 61 (f := .free "zip"))
  m_comb := blt_ok X G (c.x 0 (f := .blt "comb" "math.comb"))
  m_factorial := blt_ok X G (c.x 1 (f := .blt "factorial" "math.factorial"))
  i_MOST_PIECES := He.int_ok X G (c.d.fact 62 (f := .int "MOST_PIECES" 40))
  i_MOST_PIECES_COUNTED := He.int_ok X G (c.d.fact 63 (f := .int "MOST_PIECES_COUNTED" 20))
  e_InvalidRow := errC_of X G (c.d.fact 64 (f := .glo "InvalidRow")) (c.d.fact 65 (f := .exc "InvalidRow")) (c.d.fact 66 (f := .exm "InvalidRow" "InvalidRow" true))
  e_OutOfRange := errC_of X G (c.d.fact 67 (f := .glo "OutOfRange")) (c.d.fact 68 (f := .exc "OutOfRange")) (c.d.fact 69 (f := .exm "OutOfRange" "OutOfRange" true))
  t_COUNTS := SaysT2.tab X G c2 0 49
end Gn

set_option Elab.async false
set_option linter.all false
set_option maxRecDepth 100000
set_option maxHeartbeats 2000000
namespace Gn
open PySem PySem.Spec PyProof.Rows L2 Pu
/-! ### the law's own helpers -/
def cellZ (ns : List Int) (k : Nat) : Int := (ns[k]?).getD 0
theorem m_cell (ns : List Int) (k : Nat) : m__law_cell [scrD ns, .int (k : Int)] = .ok (.int (cellZ ns k)) := by
  unfold m__law_cell
  rw [run2]
  unfold s__law_cell
  by_cases h : k < ns.length
  · have e : atZ ns (k : Int) = some ns[k] := by rw [atZ_nat h, List.getElem?_eq_getElem h]
    simp [e, h, cellZ]
  · simp [h, cellZ]
def richZ (c : Int) : Int := if 1000000000000000000 ≤ c then c else (c * 48271 + 11) % 2147483647 * 2147483629 + ((c * 48271 + 11) % 2147483647 * 69621 + c / 7 + 5) % 2147483629
theorem m_rich (c : Int) : m__law_rich [.int c] = .ok (.int (richZ c)) := by
  unfold m__law_rich
  rw [run1]
  unfold s__law_rich
  have e1 : oPow (.int 10) (.int 18) = some (.int 1000000000000000000) := rfl
  have e2 : ∀ i : Int, oMul (.int i) (.int 48271) = some (.int (i * 48271)) := fun i => oMul_r (by decide)
  have e3 : ∀ i : Int, oMul (.int i) (.int 69621) = some (.int (i * 69621)) := fun i => oMul_r (by decide)
  have e4 : ∀ i : Int, oMul (.int i) (.int 2147483629) = some (.int (i * 2147483629)) := fun i => oMul_r (by decide)
  have e5 : ∀ i : Int, oDiv (.int i) (.int 7) = some (.int (i / 7)) := fun i => oDiv_p (by decide) (by decide)
  have e6 : ∀ i : Int, oMod (.int i) (.int 2147483647) = some (.int (i % 2147483647)) := fun i => oMod_p (by decide)
  have e7 : ∀ i : Int, oMod (.int i) (.int 2147483629) = some (.int (i % 2147483629)) := fun i => oMod_p (by decide)
  unfold richZ
  by_cases h : 1000000000000000000 ≤ c
  · simp [e1, h]
  · simp [e1, e2, e3, e4, e5, e6, e7, h]
/-- the digits of c -/
def digZ : Int → List Int → List Int
  | _, [] => []
  | c, z :: zs => c % z :: digZ (c / z) zs
theorem digZ_length : ∀ (zs : List Int) (c : Int), (digZ c zs).length = zs.length
  | [], _ => rfl
  | z :: zs, c => by
    unfold digZ
    rw [List.length_cons, List.length_cons, digZ_length zs]
theorem m_digits (c : Int) (zs : List Int) (hz : ∀ z ∈ zs, 0 < z ∧ z < 1000) (hl : zs.length ≤ 100) : m__law_digits [.int c, lI zs] = .ok (lI (digZ c zs)) := by
  unfold m__law_digits
  rw [run2]
  unfold s__law_digits
  have key : ∀ (zs : List Int) (c : Int) (x : PyData) (acc : List Int) (kk : Option PyData), (∀ z ∈ zs, 0 < z ∧ z < 1000) → acc.length + zs.length ≤ 100 →
      ∃ c' kk', sLoop (gSlot 3) (sSeq (sApp 2 false (r2 oMod (rB bInt (aCons (rVar 0) aNil)) (rVar 3))) (sSet 0 false (r2 oDiv (rVar 0) (rVar 3)))) (zs.map PyData.int) [some (.int c), some x, some (lI acc), kk] = .nx [some (.int c'), some x, some (lI (acc ++ digZ c zs)), kk'] := by
    intro zs
    induction zs with
    | nil =>
      intro c x acc kk _ _
      exact ⟨c, kk, by simp [sLoop, digZ]⟩
    | cons z zs ih =>
      intro c x acc kk h hl
      obtain ⟨h1, h2⟩ := h z List.mem_cons_self
      rw [List.length_cons] at hl
      obtain ⟨c', kk', e⟩ := ih (c / z) x (acc ++ [c % z]) (some (.int z)) (fun z' hz' => h z' (List.mem_cons_of_mem _ hz')) (by rw [List.length_append]; simp; omega)
      refine ⟨c', kk', ?_⟩
      have e1 : oMod (.int c) (.int z) = some (.int (c % z)) := oMod_p h1
      have e2 : oDiv (.int c) (.int z) = some (.int (c / z)) := oDiv_p h1 (by omega)
      rw [List.map_cons]
      unfold sLoop
      simp [gSlot, e1, e2, appR_i (show acc.length < 10000 by omega)]
      rw [e]
      simp [digZ]
  obtain ⟨c', kk', e⟩ := key zs c (lI zs) [] none hz (by simpa using hl)
  have e0 : mkL [] = .ok (lI []) := mkL_i (ns := []) (by simp)
  simp [e0, e]
theorem up_sorted (a : Int) (n : Nat) : (upI a n).Pairwise (· ≤ ·) := by
  unfold upI
  refine List.pairwise_map.mpr ?_
  exact List.pairwise_lt_range.imp fun h => by omega
theorem m_sorted_n (n : Nat) (h : n ≤ 1000) : m_sorted_row [.int (n : Int)] = .ok (tI (upI 1 n)) := by
  unfold m_sorted_row
  rw [run1]
  unfold s_sorted_row
  have e : tupRg (.int 1) (.int ((n : Int) + 1)) = some (tI (upI 1 n)) := by
    rw [tupRg_i]
    · rw [show ((n : Int) + 1 - 1).toNat = n by omega]
    · unfold rgOk
      simp
      omega
  simp [e]
theorem mod_b (c : Int) {z : Int} (h : 0 < z) : 0 ≤ c % z ∧ c % z < z := ⟨Int.emod_nonneg c (by omega), Int.emod_lt_of_pos c h⟩
/-! ### plain rows -/
/-- a plain row -/
def isRow (r : List Int) : Prop := r.length ≤ 40 ∧ srtZ r = upI 1 r.length
instance (r : List Int) : Decidable (isRow r) := by
  unfold isRow
  infer_instance
theorem row_perm {r : List Int} {n : Nat} (h : r.Perm (upI 1 n)) (hn : n ≤ 40) : isRow r ∧ r.length = n := by
  have hl : r.length = n := by rw [h.length_eq, upI_length]
  refine ⟨⟨by omega, ?_⟩, hl⟩
  rw [hl]
  exact (srtZ_uniq h.symm (up_sorted 1 n)).symm
theorem isRow_perm {r : List Int} (h : isRow r) : r.Perm (upI 1 r.length) := by
  rw [← h.2]
  exact (srtZ_perm r).symm
theorem m_check (r : List Int) (h : r.length ≤ 1000) : m_check_row [tI r] = if isRow r then .ok (tI r) else .ex "InvalidRow" := by
  unfold m_check_row
  rw [run1]
  unfold s_check_row isRow
  by_cases h1 : r.length ≤ 40
  · have h1' : ¬ (40 : Int) < r.length := by omega
    by_cases h2 : srtZ r = upI 1 r.length
    · simp [m_sorted_n r.length h, h1, h1', h2]
    · simp [m_sorted_n r.length h, h1, h1', h2]
  · have h1' : (40 : Int) < r.length := by omega
    simp [h1, h1']
/-! ### rings by the program -/
theorem up_nd (a : Int) (n : Nat) : (upI a n).Nodup := by
  unfold upI
  refine List.pairwise_map.mpr (List.pairwise_lt_range.imp fun h => ?_)
  omega
theorem mem_up {a x : Int} {n : Nat} : x ∈ upI a n ↔ a ≤ x ∧ x < a + n := by
  unfold upI
  rw [List.mem_map]
  constructor
  · rintro ⟨k, hk, rfl⟩
    have := List.mem_range.mp hk
    omega
  · intro h
    exact ⟨(x - a).toNat, List.mem_range.mpr (by omega), by omega⟩
theorem srt_up {l : List Int} (h : l.Pairwise (· ≤ ·)) : srtZ l = l := (srtZ_uniq (.refl _) h).symm
theorem last_orb {f : Int → Int} {s : Int} {k : Nat} (h : 0 < k) : atZ (orb f s k) (-1) = some (itZ f (k - 1) s) := by
  unfold atZ ixN
  rw [if_neg (by decide), if_pos (by rw [orb_length]; omega), orb_length, Option.bind_some, show ((-1 : Int) + (k : Int)).toNat = k - 1 by omega]
  exact orb_get (by omega)
theorem m_ring {f : Int → Int} {ks : List Int} (P : Pm f ks) {s : Int} (h : s ∈ ks) (hl : ks.length ≤ 50) : m_ring_from [fD ks f, .int s] = .ok (tI (ringZ f s)) := by
  obtain ⟨⟨p0, p1, p2⟩, p3⟩ := P.isPer h
  unfold m_ring_from
  rw [run2]
  unfold s_ring_from
  have key : ∀ j k fuel, 0 < k → k + j = pd f s → j < fuel → sWhile (asB (r2 oNe (r2 oDGet (rVar 0) (r2 oIx (rVar 2) (r1 oNeg (rC (.int 1))))) (rVar 1))) (sApp 2 true (r2 oDGet (rVar 0) (r2 oIx (rVar 2) (r1 oNeg (rC (.int 1)))))) fuel [some (fD ks f), some (.int s), some (lI (orb f s k))] = .nx [some (fD ks f), some (.int s), some (lI (ringZ f s))] := by
    intro j
    induction j with
    | zero =>
      intro k fuel k0 e hf
      obtain ⟨fuel, rfl⟩ : ∃ m, fuel = m + 1 := ⟨fuel - 1, by omega⟩
      rw [Nat.add_zero] at e
      have e1 : f (itZ f (k - 1) s) = s := by
        show itZ f (k - 1 + 1) s = s
        rw [Nat.sub_add_cancel k0, e]
        exact p1
      rw [while_end]
      · unfold ringZ
        rw [e]
      · simp [last_orb k0, dget_f (P.it (k - 1) h), e1]
    | succ j ih =>
      intro k fuel k0 e hf
      obtain ⟨fuel, rfl⟩ : ∃ m, fuel = m + 1 := ⟨fuel - 1, by omega⟩
      have e1 : f (itZ f (k - 1) s) = itZ f k s := by
        show itZ f (k - 1 + 1) s = itZ f k s
        rw [Nat.sub_add_cancel k0]
      have ne : itZ f k s ≠ s := p2 k k0 (by omega)
      rw [while_go (ρ2 := [some (fD ks f), some (.int s), some (lI (orb f s (k + 1)))])]
      · exact ih (k + 1) fuel (by omega) (by omega) (by omega)
      · simp [last_orb k0, dget_f (P.it (k - 1) h), e1, ne]
      · simp [last_orb k0, dget_f (P.it (k - 1) h), e1, appRT_i (show (orb f s k).length < 10000 by rw [orb_length]; omega), orb_succ]
  refine go (ρ' := [some (fD ks f), some (.int s), some (lI (orb f s 1))]) (by simp; rfl) ?_
  refine go (key (pd f s - 1) 1 100 (by omega) (by omega) (by omega)) (by simp)
noncomputable def ringD (f : Int → Int) (s : Int) : PyData := tI (ringZ f s)
theorem m_rings_f {f : Int → Int} {ks : List Int} (P : Pm f ks) (hs : ks.Pairwise (· ≤ ·)) (hl : ks.length ≤ 50) : m_rings_of [fD ks f] = .ok (.tuple ((heads f ks).map (ringD f))) := by
  unfold m_rings_of
  rw [run1]
  unfold s_rings_of
  obtain ⟨ρ', e, hI⟩ := loop_inv (g := gSlot 2) (body := sSeq (sSet 3 false (rCall m_ring_from (aCons (rVar 0) (aCons (rVar 2) aNil)))) (sIf (asB (r2 oEq (rB bMinA (aCons (rVar 3) aNil)) (rVar 2))) (sApp 1 false (rVar 3)) sNil))
    (fun k ρ => ∃ x2 x3, ρ = [some (fD ks f), some (.list ((heads f (ks.take k)).map (ringD f))), x2, x3])
    (ks.map PyData.int) 0 [some (fD ks f), some (.list []), none, none] ⟨none, none, rfl⟩ (by
      rintro k d ρ hd ⟨x2, x3, rfl⟩
      rw [Nat.zero_add]
      rw [List.getElem?_map] at hd
      obtain ⟨y, hy, rfl⟩ := Option.map_eq_some_iff.mp hd
      have hk := List.mem_of_getElem? hy
      have e1 := m_ring P hk hl
      have e2 := bMin_t (P.ring_ne hk)
      have e3 : ks.take (k + 1) = ks.take k ++ [y] := by
        rw [List.take_add_one, hy]
        rfl
      have l1 : ((heads f (ks.take k)).map (ringD f)).length < 10000 := by
        rw [List.length_map]
        have := List.length_filter_le (fun s => decide (mnZ (ringZ f s) = s)) (ks.take k)
        unfold heads
        rw [List.length_take] at this
        omega
      by_cases c : mnZ (ringZ f y) = y
      · have e4 : heads f (ks.take (k + 1)) = heads f (ks.take k) ++ [y] := by
          unfold heads
          rw [e3, List.filter_append]
          simp [c]
        refine ⟨_, rfl, [some (fD ks f), some (.list ((heads f (ks.take (k + 1))).map (ringD f))), some (.int y), some (tI (ringZ f y))], ?_, _, _, rfl⟩
        simp [e1, e2, c, appR_d l1, e4]
        rfl
      · have e4 : heads f (ks.take (k + 1)) = heads f (ks.take k) := by
          unfold heads
          rw [e3, List.filter_append]
          simp [c]
        refine ⟨_, rfl, [some (fD ks f), some (.list ((heads f (ks.take (k + 1))).map (ringD f))), some (.int y), some (tI (ringZ f y))], ?_, _, _, rfl⟩
        simp [e1, e2, c, e4])
  obtain ⟨x2, x3, rfl⟩ := hI
  rw [List.length_map, Nat.zero_add, List.take_length] at e
  have e0 : mkL [] = .ok (.list []) := mkL_d (by simp)
  refine go (ρ' := [some (fD ks f), some (.list []), none, none]) (by simp; rfl) ?_
  refine go (ρ' := [some (fD ks f), some (.list ((heads f ks).map (ringD f))), x2, x3]) ?_ (by simp)
  simp [sortD_f (show ks.length < 64 by omega), srt_up hs]
  exact e
theorem ap_isi {T : String} {f : Rho → Re PyData} {ρ : Rho} : Pu.rIsi T f ρ = (f ρ).andThen fun d => liftO ((isD d T).map PyData.bool) := (rfl)
theorem isi_t {ds : List PyData} : isD (.tuple ds) "tuple" = some true := by
  show kitB "tuple" "tuple" = some true
  decide +kernel
theorem lc_a {α : Type} {its : Rho → Re (List PyData)} {v : Nat} {f : Rho → Re PyData} {ρ : Rho} {as : List α} {e : α → PyData} {h : α → Int} (hi : its ρ = .ok (as.map e)) (hl : as.length ≤ 10000) (hf : ∀ k ∈ as, f ((ρ.set v none).set v (some (e k))) = .ok (.int (h k))) :
    rLc its [v] (gSlot v) yesR f ρ = .ok (lI (as.map h)) := by
  unfold rLc
  rw [hi, re_ok, if_pos (by rw [List.length_map]; exact decide_eq_true hl)]
  have key : ∀ ms : List α, (∀ k ∈ ms, k ∈ as) → lcGo (gSlot v) yesR f (ρ.set v none) (ms.map e) = some ((ms.map h).map PyData.int) := by
    intro ms
    induction ms with
    | nil => intro _; rfl
    | cons k ms ih =>
      intro hk
      show (match f ((ρ.set v none).set v (some (e k))) with | .ok x => (match lcGo (gSlot v) yesR f (ρ.set v none) (ms.map e) with | some xs => some (x :: xs) | none => none) | _ => none) = _
      rw [hf k (hk k List.mem_cons_self), ih fun k' hk' => hk k' (List.mem_cons_of_mem _ hk')]
      rfl
  show (match lcGo (gSlot v) yesR f (ρ.set v none) (as.map e) with | some xs => Re.ok (PyData.list xs) | none => .bad) = _
  rw [key as fun _ h => h]
  rfl
/-! ### the relative row -/
theorem m_same {a b : List Int} (h : a.length = b.length) : m_check_same_length [tI a, tI b] = .ok .none := by
  unfold m_check_same_length
  rw [run2]
  unfold s_check_same_length
  simp [h]
theorem m_relat {n : Nat} {a b : List Int} (T : Two n a b) (hn : n ≤ 40) : m_relative_row [tI a, tI b] = .ok (tI (relZ a b)) := by
  have la := T.la
  have lb := T.lb
  have h1 := (row_perm T.pa hn).1
  have h2 := (row_perm T.pb hn).1
  unfold m_relative_row
  rw [run2]
  unfold s_relative_row
  have e : rLc (iOf itS (rVar 0)) [2] (gSlot 2) yesR (r2 oAdd (rMeth oIdx (rVar 1) (aCons (rVar 2) aNil)) (rC (.int 1))) [some (tI a), some (tI b), none] = .ok (lI (relZ a b)) := by
    refine lc_i (ns := a) (by simp) (by omega) fun k hk => ?_
    have hkb : k ∈ b := T.pb.mem_iff.mpr (T.pa.mem_iff.mp hk)
    obtain ⟨j, hj⟩ := idxZ_mem hkb
    simp [oIdx_i, hj]
  refine go (ρ' := [some (tI a), some (tI b), none]) (by simp [m_check a (by omega), h1]) (go (ρ' := [some (tI a), some (tI b), none]) (by simp [m_check b (by omega), h2]) (go (ρ' := [some (tI a), some (tI b), none]) (by simp [m_same (la.trans lb.symm)]) ?_))
  simp [e]
/-! ### block rings by the program -/
theorem m_brings {n : Nat} {r : List Int} (h : r.Perm (upI 1 n)) (hn : n ≤ 40) : m_block_rings [tI r] = .ok (.tuple ((heads (hI (fullZ r)) (upI 1 (n + 1))).map (ringD (hI (fullZ r))))) := by
  obtain ⟨hr, hl⟩ := row_perm h hn
  have F := full_fu h
  have fl := F.len
  have a1 : oAdd (tI [0]) (tI r) = some (tI (0 :: r)) := oAdd_t (a := [0]) (by simp; omega)
  have a2 : oAdd (tI (0 :: r)) (tI [(n : Int) + 1]) = some (tI (fullZ r)) := by
    unfold fullZ
    rw [hl]
    exact oAdd_t (a := 0 :: r) (by simp; omega)
  have e : rDc (iR2 (aCons (rC (.int 1)) (aCons (rB bLen (aCons (rVar 1) aNil)) aNil))) [2] (gSlot 2) yesR (rVar 2) (rMeth oIdx (rVar 1) (aCons (r2 oAdd (r2 oIx (rVar 1) (r2 oSub (rVar 2) (rC (.int 1)))) (rC (.int 1))) aNil)) [some (tI r), some (tI (fullZ r)), none] = .ok (fD (upI 1 (n + 1)) (hI (fullZ r))) := by
    refine dc_i (ks := upI 1 (n + 1)) (h := hI (fullZ r)) ?_ (by rw [upI_length]; omega) (up_nd 1 _) (fun k _ => by simp) fun k hk => ?_
    · have q : rg2 [.int 1, .int ((n + 2 : Nat) : Int)] = .ok ((upI 1 (n + 1)).map PyData.int) := by
        rw [rg2_i (by decide) (by decide) (by omega) (by omega)]
        rw [show (((n + 2 : Nat) : Int) - 1).toNat = n + 1 by omega]
      simp [fl]
      simpa using q
    · have hk := up_mem.mp hk
      have e1 := F.at (p := k - 1) (by omega) (by omega)
      have v := F.val1 (p := k - 1) (by omega) (by omega)
      have hm : valZ (fullZ r) (k - 1) + 1 ∈ fullZ r := F.pm.mem_iff.mpr (up_mem.mpr (by omega))
      obtain ⟨j, hj⟩ := idxZ_mem hm
      have ej : hI (fullZ r) k = (j : Int) := by
        unfold hI posZ
        rw [hj]
        rfl
      simp [e1, oIdx_i, hj, ej]
  have e2 := m_rings_f F.pmI (up_sorted 1 _) (by rw [upI_length]; omega)
  have e3 : m_blocks_lead [tI r] = .ok (fD (upI 1 (n + 1)) (hI (fullZ r))) := by
    unfold m_blocks_lead
    rw [run1]
    unfold s_blocks_lead
    refine go (ρ' := [some (tI r), some (tI (fullZ r)), none]) (by simp [a1, hl, a2]) ?_
    simp [e]
  unfold m_block_rings
  rw [run1]
  unfold s_block_rings
  simp [m_check r (by omega), hr, e3, e2]
theorem m_leastB {n : Nat} {a b : List Int} (T : Two n a b) (hn : n ≤ 40) : m_least_blocks [tI a, tI b] = .ok (.int (lsB n a b : Nat)) := by
  have lr := rel_len T
  have F := full_fu (rel_perm T)
  have hc := F.cI
  have hle := cB_le n (fullZ (relZ a b))
  have d2 : ∀ i : Int, oDiv (.int i) (.int 2) = some (.int (i / 2)) := fun i => oDiv_p (by decide) (by decide)
  unfold m_least_blocks
  rw [run2]
  unfold s_least_blocks
  refine go (ρ' := [some (tI a), some (tI b), some (tI (relZ a b))]) (by simp [m_relat T hn]) ?_
  simp [m_brings (rel_perm T) hn, lr, hc, d2]
  unfold lsB
  omega
/-! ### pairs in the wrong order -/
def pD (z : Int × Int) : PyData := tI [z.1, z.2]
theorem m_wrong {n : Nat} {r : List Int} (hr : r.length = n) (hn : n ≤ 40) : m_wrong_pairs [tI r] = .ok (.tuple ((ivs (valZ r) n).map pD)) := by
  unfold m_wrong_pairs
  rw [run1]
  unfold s_wrong_pairs
  have gen := lcGo2_f (ρ := [some (tI r), some (.int (n : Int)), none, none]) (u := 2) (v := 3) (t := asB (r2 oGt (r2 oIx (rVar 0) (rVar 2)) (r2 oIx (rVar 0) (rVar 3)))) (f := rTup (aCons (rVar 2) (aCons (rVar 3) aNil))) (its1 := iR2 (aCons (r2 oAdd (rVar 2) (rC (.int 1))) (aCons (rVar 1) aNil)))
    (P := fun p q => decide (valZ r q < valZ r p)) (e := fun p q => pD (p, q)) (ms := fun p => upI (p + 1) ((n : Int) - (p + 1)).toNat) (upI 0 n) (fun p hp => by
      have := up_mem.mp hp
      simp [rg2_i (show -1000000 ≤ p + 1 by omega) (by omega) (show -1000000 ≤ (n : Int) by omega) (by omega)]) (fun p hp q hq => by
      have h1 := up_mem.mp hp
      have h2 := up_mem.mp hq
      have e1 := val_at (r := r) (p := p) (up_mem.mpr (by omega))
      have e2 := val_at (r := r) (p := q) (up_mem.mpr (by omega))
      simp [e1, e2]) (fun p hp q hq _ => by
      have mk : mkT [.int p, .int q] = .ok (pD (p, q)) := mkT_i (ns := [p, q]) (by simp)
      simp [mk])
  have e0 : (upI 0 n).flatMap (fun p => ((upI (p + 1) ((n : Int) - (p + 1)).toNat).filter fun q => decide (valZ r q < valZ r p)).map fun q => pD (p, q)) = (ivs (valZ r) n).map pD := by
    unfold ivs
    rw [List.map_flatMap]
    congr 1
    funext p
    rw [List.map_map]
    rfl
  rw [e0] at gen
  have hl : ((ivs (valZ r) n).map pD).length ≤ 10000 := by
    rw [List.length_map]
    have h1 : (ivs (valZ r) n).length ≤ n * n := iv_le
    have h2 : n * n ≤ 40 * 40 := Nat.mul_le_mul hn hn
    omega
  have e : rLc2 (iR1 (aCons (rVar 1) aNil)) [2, 3] (gSlot 2) yesR (iR2 (aCons (r2 oAdd (rVar 2) (rC (.int 1))) (aCons (rVar 1) aNil))) [3] (gSlot 3) (asB (r2 oGt (r2 oIx (rVar 0) (rVar 2)) (r2 oIx (rVar 0) (rVar 3)))) (rTup (aCons (rVar 2) (aCons (rVar 3) aNil))) [some (tI r), some (.int (n : Int)), none, none] = .ok (.list ((ivs (valZ r) n).map pD)) := by
    unfold rLc2
    have it : iR1 (aCons (rVar 1) aNil) [some (tI r), some (.int (n : Int)), none, none] = .ok ((upI 0 n).map PyData.int) := by simp [rg1_n (show n < 2 ^ 62 by omega)]
    rw [it, re_ok]
    show (match lcGo2 _ yesR _ [3] (gSlot 3) _ _ [some (tI r), some (.int (n : Int)), none, none] ((upI 0 n).map PyData.int) with | some xs => if okLen xs.length = true then Re.ok (PyData.list xs) else .bad | none => .bad) = _
    rw [gen]
    exact if_pos (decide_eq_true hl)
  refine go (ρ' := [some (tI r), some (.int (n : Int)), none, none]) (by simp [hr]) ?_
  simp [e]
theorem m_leastN {n : Nat} {a b : List Int} (T : Two n a b) (hn : n ≤ 40) : m_least_nexts [tI a, tI b] = .ok (.int (iv (gZ a b) n : Nat)) := by
  unfold m_least_nexts
  rw [run2]
  unfold s_least_nexts
  have e : (ivs (valZ (relZ a b)) n).length = iv (gZ a b) n := iv_rel T
  simp [m_relat T hn, m_wrong (rel_len T) hn, e]
/-! ### the least number of swaps -/
theorem m_ringsG {n : Nat} {a b : List Int} (T : Two n a b) (hn : n ≤ 40) : m_rings [tI (relZ a b)] = .ok (.tuple ((heads (gZ a b) (upI 0 n)).map (ringD (gZ a b)))) := by
  have lr := rel_len T
  have hr := (row_perm (rel_perm T) hn).1
  have e : rDc (iR1 (aCons (rB bLen (aCons (rVar 0) aNil)) aNil)) [1] (gSlot 1) yesR (rVar 1) (r2 oSub (r2 oIx (rVar 0) (rVar 1)) (rC (.int 1))) [some (tI (relZ a b)), none] = .ok (fD (upI 0 n) (gZ a b)) := by
    refine dc_i (ks := upI 0 n) (h := gZ a b) ?_ (by rw [upI_length]; omega) (up_nodup 0 _) (fun k _ => by simp) fun k hk => ?_
    · simp [lr]
      exact rg1_n (by omega)
    · obtain ⟨x, a1, a2, _, _⟩ := T.at hk
      obtain ⟨q1, q2⟩ := up_mem.mp hk
      have e1 : atZ (relZ a b) k = some (gZ a b k + 1) := by
        obtain ⟨y, y1, y2⟩ := atZ_p (ns := relZ a b) q1 (by omega)
        rw [y1, ← y2]
        unfold relZ gZ
        rw [List.getElem?_map, a2, a1]
        rfl
      simp [e1]
  have e2 := m_rings_f T.pm (up_sorted 0 n) (by rw [upI_length]; omega)
  have e3 : m_places_lead [tI (relZ a b)] = .ok (fD (upI 0 n) (gZ a b)) := by
    unfold m_places_lead
    rw [run1]
    unfold s_places_lead
    simp [e]
  unfold m_rings
  rw [run1]
  unfold s_rings
  simp [m_check (relZ a b) (by omega), hr, e3, e2]
theorem m_leastS {n : Nat} {a b : List Int} (T : Two n a b) (hn : n ≤ 40) : m_least_swaps [tI a, tI b] = .ok (.int (lsZ n a b)) := by
  have hh := heads_le (gZ a b) n
  have lr := rel_len T
  unfold m_least_swaps
  rw [run2]
  unfold s_least_swaps
  refine go (ρ' := [some (tI a), some (tI b), some (tI (relZ a b))]) (by simp [m_relat T hn]) ?_
  simp [m_ringsG T hn, lr]
  unfold lsZ
  omega
/-! ### rising places -/
theorem low_eq (r : List Int) (k : Nat) (hs : List Int) : ((upI 0 k).filter fun p => decide (rv r p.toNat < rv r k)).map (fun p => PyData.int (rv hs p.toNat)) = (lowZ r k hs).map PyData.int := by
  unfold upI lowZ
  rw [List.filter_map, List.map_map, List.map_map]
  have e : ((fun p : Int => decide (rv r p.toNat < rv r k)) ∘ fun (k : Nat) => (0 : Int) + (k : Int)) = fun p => decide (rv r p < rv r k) := by
    funext p
    show decide (rv r ((0 : Int) + (p : Int)).toNat < rv r k) = _
    rw [show ((0 : Int) + (p : Int)).toNat = p by omega]
  rw [e]
  refine List.map_congr_left fun p _ => ?_
  show PyData.int (rv hs ((0 : Int) + (p : Int)).toNat) = PyData.int (rv hs p)
  rw [show ((0 : Int) + (p : Int)).toNat = p by omega]
theorem at_rv {r : List Int} {k : Nat} (h : k < r.length) : atZ r (k : Int) = some (rv r k) := by
  rw [atZ_nat h]
  unfold rv
  rw [List.getElem?_eq_getElem h]
  rfl
theorem m_hts {r : List Int} (hr : r.length ≤ 1000) : m_heights [tI r] = .ok (lI (hsZ r r.length)) := by
  unfold m_heights
  rw [run1]
  unfold s_heights
  refine go (ρ' := [some (tI r), some (lI []), none, none, none]) (by simp) ?_
  obtain ⟨ρ', e, hI⟩ := loop_inv (g := gSlot 2) (body := heights_s0)
    (fun k ρ => ∃ (x2 x3 x4 : Option PyData), ρ = [some (tI r), some (lI (hsZ r k)), x2, x3, x4])
    ((upI 0 r.length).map PyData.int) 0 [some (tI r), some (lI []), none, none, none] ⟨none, none, none, rfl⟩ (by
      rintro k d ρ hd ⟨x2, x3, x4, rfl⟩
      rw [Nat.zero_add]
      rw [List.getElem?_map] at hd
      obtain ⟨y, hy, rfl⟩ := Option.map_eq_some_iff.mp hd
      obtain ⟨ey, hk⟩ := up_get hy
      obtain rfl : y = (k : Int) := by omega
      have lc := lc_f (ρ := [some (tI r), some (lI (hsZ r k)), some (.int (k : Int)), x3, x4]) (its := iR1 (aCons (rVar 2) aNil)) (v := 4) (t := asB (r2 oLt (r2 oIx (rVar 0) (rVar 4)) (r2 oIx (rVar 0) (rVar 2)))) (f := rN (r2 oIx (rVar 1) (rVar 4))) (ms := upI 0 k) (P := fun p => decide (rv r p.toNat < rv r k)) (e := fun p => PyData.int (rv (hsZ r k) p.toNat))
        (by simp [rg1_n (show k < 2 ^ 62 by omega)]) (by rw [upI_length]; omega) (fun q hq => by
          obtain ⟨h1, h2⟩ := up_mem.mp hq
          obtain ⟨j, rfl⟩ : ∃ j : Nat, q = (j : Int) := ⟨q.toNat, by omega⟩
          simp [at_rv (show j < r.length by omega), at_rv hk]) (fun q hq _ => by
          obtain ⟨h1, h2⟩ := up_mem.mp hq
          obtain ⟨j, rfl⟩ : ∃ j : Nat, q = (j : Int) := ⟨q.toNat, by omega⟩
          simp [at_rv (r := hsZ r k) (k := j) (by rw [hsZ_len]; omega)])
      rw [low_eq] at lc
      refine ⟨_, rfl, [some (tI r), some (lI (hsZ r (k + 1))), some (.int (k : Int)), some (lI (lowZ r k (hsZ r k))), x4], ?_, _, _, _, rfl⟩
      unfold heights_s0
      refine seq_nx (ρ' := [some (tI r), some (lI (hsZ r k)), some (.int (k : Int)), some (lI (lowZ r k (hsZ r k))), x4]) ?_ ?_
      · show sSet 3 false _ [some (tI r), some (lI (hsZ r k)), some (.int (k : Int)), x3, x4] = _
        rw [ap_sSet, lc]
        rfl
      · have ap := appR_i (ρ := [some (tI r), some (lI (hsZ r k)), some (.int (k : Int)), some (lI (lowZ r k (hsZ r k))), x4]) (i := 1) (ns := hsZ r k) (x := 1 + maxO 0 (lowZ r k (hsZ r k))) (by rw [hsZ_len]; omega)
        simp [ap]
        rfl)
  obtain ⟨x2, x3, x4, rfl⟩ := hI
  rw [List.length_map, upI_length, Nat.zero_add] at e
  refine go (ρ' := [some (tI r), some (lI (hsZ r r.length)), x2, x3, x4]) ?_ (by simp)
  unfold heights_s1
  have it : iR1 (aCons (rB bLen (aCons (rVar 0) aNil)) aNil) [some (tI r), some (lI []), none, none, none] = .ok ((upI 0 r.length).map PyData.int) := by
    simp [rg1_n (show r.length < 2 ^ 62 by omega)]
  rw [ap_sFor, it, stL_ok]
  exact e
theorem m_rise {r : List Int} {n : Nat} (h : r.Perm (upI 1 n)) (hn : n ≤ 40) : ∃ c : List Nat, Rises r c ∧ m_rising [tI r] = .ok (tI (c.map fun (p : Nat) => (p : Int))) := by
  obtain ⟨h1, h2⟩ := row_perm h hn
  have hb : ∀ q, q < r.length → rv r q < (r.length : Int) + 1 := fun q hq => by
    have m : rv r q ∈ r := by
      unfold rv
      rw [List.getElem?_eq_getElem hq]
      exact List.getElem_mem hq
    have := up_mem.mp (h.mem_iff.mp m)
    omega
  obtain ⟨ρ', e, hI⟩ := loop_inv (g := gSlot 5) (body := rising_s1)
    (fun k ρ => ∃ (w a : Int) (ps : List Nat) (x5 : Option PyData), ρ = [some (tI r), some (lI (hsZ r r.length)), some (.int w), some (.int a), some (lI (ps.map fun (p : Nat) => (p : Int))), x5] ∧ ScanI r (n - k) w a ps ∧ ps.length ≤ k)
    ((dnI n).map PyData.int) 0 [some (tI r), some (lI (hsZ r r.length)), some (.int (topZ r)), some (.int ((r.length : Int) + 1)), some (lI []), none] ⟨_, _, [], none, rfl, by rw [Nat.sub_zero, ← h2]; exact scan0 hb, Nat.le_refl _⟩ (by
      rintro k d ρ hd ⟨w, a, ps, x5, rfl, hs, hp⟩
      rw [Nat.zero_add] at hs hp ⊢
      rw [List.getElem?_map] at hd
      obtain ⟨y, hy, rfl⟩ := Option.map_eq_some_iff.mp hd
      unfold dnI at hy
      rw [List.getElem?_map] at hy
      obtain ⟨k', hk', rfl⟩ := Option.map_eq_some_iff.mp hy
      have hkn : k < n := by
        have := getSome hk'
        rwa [List.length_range] at this
      rw [List.getElem?_range hkn] at hk'
      obtain rfl := Option.some.inj hk'
      obtain ⟨q, eq⟩ : ∃ q : Nat, (n : Int) - 1 - (k : Int) = (q : Int) := ⟨n - 1 - k, by omega⟩
      rw [eq]
      have eq1 : n - k = q + 1 := by omega
      have eq2 : n - (k + 1) = q := by omega
      rw [eq1] at hs
      rw [eq2]
      have hq : q < r.length := by omega
      have a1 : atZ (hsZ r r.length) (q : Int) = some (hv r q) := by
        rw [at_rv (by rw [hsZ_len]; exact hq), hsZ_at r hq]
      have a2 := at_rv hq
      refine ⟨_, rfl, ?_⟩
      unfold rising_s1 rising_s0
      by_cases c : hv r q = w ∧ rv r q < a
      · have ap := appR_i (ρ := [some (tI r), some (lI (hsZ r r.length)), some (.int w), some (.int a), some (lI (ps.map fun (p : Nat) => (p : Int))), some (.int (q : Int))]) (i := 4) (ns := ps.map fun (p : Nat) => (p : Int)) (x := (q : Int)) (by rw [List.length_map]; omega)
        rw [List.map_map] at ap
        refine ⟨[some (tI r), some (lI (hsZ r r.length)), some (.int (w - 1)), some (.int (rv r q)), some (lI ((ps ++ [q]).map fun (p : Nat) => (p : Int))), some (.int (q : Int))], ?_, _, _, _, _, rfl, scan_yes hs hq c.1 c.2, by rw [List.length_append, List.length_singleton]; omega⟩
        simp [a1, a2, c.1, c.2, ap, Pu.augR]
      · refine ⟨[some (tI r), some (lI (hsZ r r.length)), some (.int w), some (.int a), some (lI (ps.map fun (p : Nat) => (p : Int))), some (.int (q : Int))], ?_, _, _, _, _, rfl, scan_no hs c, by omega⟩
        by_cases c1 : hv r q = w
        · have c2 : ¬ rv r q < a := fun z => c ⟨c1, z⟩
          simp [a1, a2, c1, c2]
        · simp [a1, a2, c1])
  obtain ⟨w, a, ps, x5, rfl, hs, hp⟩ := hI
  have hl : ((dnI n).map PyData.int).length = n := by simp [dnI]
  rw [hl, Nat.zero_add, Nat.sub_self] at hs
  refine ⟨ps.reverse, scan_end hs, ?_⟩
  unfold m_rising
  rw [run1]
  unfold s_rising
  refine go (ρ' := [some (tI r), none, none, none, none, none]) (by simp [m_check r (by omega), h1]) ?_
  refine go (ρ' := [some (tI r), some (lI (hsZ r r.length)), none, none, none, none]) (by simp [m_hts (r := r) (by omega)]) ?_
  refine go (ρ' := [some (tI r), some (lI (hsZ r r.length)), some (.int (topZ r)), none, none, none]) (by simp; rfl) ?_
  refine go (ρ' := [some (tI r), some (lI (hsZ r r.length)), some (.int (topZ r)), some (.int ((r.length : Int) + 1)), none, none]) (by simp) ?_
  refine go (ρ' := [some (tI r), some (lI (hsZ r r.length)), some (.int (topZ r)), some (.int ((r.length : Int) + 1)), some (lI []), none]) (by simp) ?_
  refine go (ρ' := [some (tI r), some (lI (hsZ r r.length)), some (.int w), some (.int a), some (lI (ps.map fun (p : Nat) => (p : Int))), x5]) ?_ (by simp [List.map_reverse])
  unfold rising_s2
  have it : iRev (rB bLen (aCons (rVar 0) aNil)) [some (tI r), some (lI (hsZ r r.length)), some (.int (topZ r)), some (.int ((r.length : Int) + 1)), some (lI []), none] = .ok ((dnI n).map PyData.int) := by
    simp [h2, rgRev_n (n := n) (by omega)]
  rw [ap_sFor, it, stL_ok]
  exact e
/-! ### the fewest takes -/
def lsD (n : Nat) (a b : List Int) : Nat := n - (topZ (relZ a b)).toNat
theorem m_leastT {n : Nat} {a b : List Int} (T : Two n a b) (hn : n ≤ 40) : m_least_takes [tI a, tI b] = .ok (.int (lsD n a b)) := by
  obtain ⟨c, hc, ec⟩ := m_rise (rel_perm T) hn
  have lr := rel_len T
  have hl := hc.len
  have ht := top_le T
  have hp := top_pos (relZ a b)
  unfold m_least_takes
  rw [run2]
  unfold s_least_takes
  refine go (ρ' := [some (tI a), some (tI b), some (tI (relZ a b))]) (by simp [m_relat T hn]) ?_
  have e : (n : Int) - (c.length : Int) = (lsD n a b : Int) := by
    unfold lsD
    omega
  simp [ec, lr, e]
/-! ### heads that can be told -/
def hdC (f : Int → Int) (ks : List Int) : List Int := ks.filter fun s => (List.range (ks.length + 1)).all fun k => decide (s ≤ itZ f k s)
theorem heads_c {f : Int → Int} {ks : List Int} (P : Pm f ks) : heads f ks = hdC f ks := by
  unfold heads hdC
  refine List.filter_congr fun s hs => ?_
  rw [Bool.eq_iff_iff, decide_eq_true_eq, List.all_eq_true]
  constructor
  · intro e k _
    have := (mnZ_in (P.ring_ne hs)).2 (itZ f k s) ((P.mem_ring hs).mpr ⟨k, rfl⟩)
    rw [e] at this
    exact decide_eq_true this
  · intro h
    obtain ⟨m1, m2⟩ := mnZ_in (P.ring_ne hs)
    refine Int.le_antisymm (m2 s (P.ring_self hs)) ?_
    have pl := (P.isPer hs).2
    have m1' : mnZ (ringZ f s) ∈ orb f s (pd f s) := m1
    unfold orb at m1'
    obtain ⟨k, hk, e⟩ := List.mem_map.mp m1'
    have hk := List.mem_range.mp hk
    rw [← e]
    exact of_decide_eq_true (h k (List.mem_range.mpr (by omega)))
def kS : Nat → Str
  | 0 => "swap"
  | 1 => "next"
  | 2 => "take"
  | _ => "blocks"
def lsK : Nat → Nat → List Int → Nat
  | 0, n, r => n - (hdC (gZ r (upI 1 n)) (upI 0 n)).length
  | 1, n, r => iv (gZ r (upI 1 n)) n
  | 2, n, r => lsD n r (upI 1 n)
  | _, n, r => (n + 1 - (hdC (hP (fullZ (relZ r (upI 1 n)))) (upI 0 (n + 1))).length) / 2
theorem m_leastK (kd : Nat) {n : Nat} {r : List Int} (h : r.Perm (upI 1 n)) (hn : n ≤ 40) : m_least [.str (kS kd), tI r, tI (upI 1 n)] = .ok (.int (lsK kd n r : Nat)) := by
  have T : Two n r (upI 1 n) := ⟨h, .refl _⟩
  unfold m_least
  rw [run3]
  unfold s_least
  match kd with
  | 0 =>
    have e := m_leastS T hn
    rw [show lsZ n r (upI 1 n) = lsK 0 n r by unfold lsZ; rw [heads_c T.pm]; rfl] at e
    refine go (ρ' := [some (.str "swap"), some (tI r), some (tI (upI 1 n)), some (fnD "least_swaps"), some (fnD "swap_script")]) (by kernel_rfl) ?_
    rw [ap_sRet, ap_callV (x := "least_swaps") (ff := m_least_swaps) (ds := [tI r, tI (upI 1 n)]) (by rfl) (by rfl) (by rfl), e]
    rfl
  | 1 =>
    have e := m_leastN T hn
    refine go (ρ' := [some (.str "next"), some (tI r), some (tI (upI 1 n)), some (fnD "least_nexts"), some (fnD "next_script")]) (by kernel_rfl) ?_
    rw [ap_sRet, ap_callV (x := "least_nexts") (ff := m_least_nexts) (ds := [tI r, tI (upI 1 n)]) (by rfl) (by rfl) (by rfl), e]
    rfl
  | 2 =>
    have e := m_leastT T hn
    refine go (ρ' := [some (.str "take"), some (tI r), some (tI (upI 1 n)), some (fnD "least_takes"), some (fnD "take_script")]) (by kernel_rfl) ?_
    rw [ap_sRet, ap_callV (x := "least_takes") (ff := m_least_takes) (ds := [tI r, tI (upI 1 n)]) (by rfl) (by rfl) (by rfl), e]
    rfl
  | k + 3 =>
    have e := m_leastB T hn
    rw [show lsB n r (upI 1 n) = lsK (k + 3) n r by unfold lsB cB; rw [heads_c (full_fu (rel_perm T)).pmP]; rfl] at e
    refine go (ρ' := [some (.str "blocks"), some (tI r), some (tI (upI 1 n)), some (fnD "least_blocks"), some (fnD "block_script")]) (by kernel_rfl) ?_
    rw [ap_sRet, ap_callV (x := "least_blocks") (ff := m_least_blocks) (ds := [tI r, tI (upI 1 n)]) (by rfl) (by rfl) (by rfl), e]
    rfl
def rows4 : Nat → List (List Int)
  | 0 => [[]]
  | n + 1 => (rows4 n).flatMap fun r => (List.range (r.length + 1)).map fun k => r.take k ++ [((n + 1 : Nat) : Int)] ++ r.drop k
theorem m_rows (n : Nat) (h : n < 5) : m__law_rows [.int (n : Int)] = .ok (.list ((rows4 n).map tI)) := by
  match n, h with
  | 0, _ => rfl
  | 1, _ => rfl
  | 2, _ => rfl
  | 3, _ => rfl
  | 4, _ => rfl
theorem rows4_perm (n : Nat) (h : n < 5) : ∀ r ∈ rows4 n, r.Perm (upI 1 n) := by
  match n, h with
  | 0, _ => decide +kernel
  | 1, _ => decide +kernel
  | 2, _ => decide +kernel
  | 3, _ => decide +kernel
  | 4, _ => decide +kernel
def fnd : Nat → Nat → List Nat
  | 0, 0 => [0]
  | 0, 1 => [0]
  | 0, 2 => [1, 0]
  | 0, 3 => [1, 2, 1, 2, 1, 0]
  | 0, 4 => [2, 3, 2, 1, 1, 2, 3, 2, 2, 3, 2, 1, 3, 2, 3, 2, 2, 1, 2, 1, 3, 2, 1, 0]
  | 1, 0 => [0]
  | 1, 1 => [0]
  | 1, 2 => [1, 0]
  | 1, 3 => [3, 2, 1, 2, 1, 0]
  | 1, 4 => [6, 5, 4, 3, 5, 4, 3, 2, 4, 3, 2, 1, 5, 4, 3, 2, 4, 3, 2, 1, 3, 2, 1, 0]
  | 2, 0 => [0]
  | 2, 1 => [0]
  | 2, 2 => [1, 0]
  | 2, 3 => [2, 1, 1, 1, 1, 0]
  | 2, 4 => [3, 2, 2, 2, 2, 2, 1, 1, 2, 2, 2, 1, 2, 2, 2, 1, 2, 2, 1, 1, 1, 1, 1, 0]
  | 3, 0 => [0]
  | 3, 1 => [0]
  | 3, 2 => [1, 0]
  | 3, 3 => [1, 1, 1, 1, 1, 0]
  | 3, 4 => [2, 1, 2, 1, 1, 2, 1, 1, 2, 2, 2, 1, 1, 1, 2, 1, 2, 1, 1, 1, 1, 1, 1, 0]
  | _, _ => []
theorem fnd_eq (kd n : Nat) (hk : kd < 4) (hn : n < 5) : (rows4 n).map (lsK kd n) = fnd kd n := by
  match kd, n, hk, hn with
  | 0, 0, _, _ => decide +kernel
  | 0, 1, _, _ => decide +kernel
  | 0, 2, _, _ => decide +kernel
  | 0, 3, _, _ => decide +kernel
  | 0, 4, _, _ => decide +kernel
  | 1, 0, _, _ => decide +kernel
  | 1, 1, _, _ => decide +kernel
  | 1, 2, _, _ => decide +kernel
  | 1, 3, _, _ => decide +kernel
  | 1, 4, _, _ => decide +kernel
  | 2, 0, _, _ => decide +kernel
  | 2, 1, _, _ => decide +kernel
  | 2, 2, _, _ => decide +kernel
  | 2, 3, _, _ => decide +kernel
  | 2, 4, _, _ => decide +kernel
  | 3, 0, _, _ => decide +kernel
  | 3, 1, _, _ => decide +kernel
  | 3, 2, _, _ => decide +kernel
  | 3, 3, _, _ => decide +kernel
  | 3, 4, _, _ => decide +kernel
def cSw : Nat → List Int
  | 0 => [1]
  | 1 => [1, 0]
  | 2 => [1, 1, 0]
  | 3 => [1, 3, 2, 0]
  | 4 => [1, 6, 11, 6, 0]
  | 5 => [1, 10, 35, 50, 24, 0]
  | 6 => [1, 15, 85, 225, 274, 120, 0]
  | 7 => [1, 21, 175, 735, 1624, 1764, 720, 0]
  | 8 => [1, 28, 322, 1960, 6769, 13132, 13068, 5040, 0]
  | 9 => [1, 36, 546, 4536, 22449, 67284, 118124, 109584, 40320, 0]
  | 10 => [1, 45, 870, 9450, 63273, 269325, 723680, 1172700, 1026576, 362880, 0]
  | 11 => [1, 55, 1320, 18150, 157773, 902055, 3416930, 8409500, 12753576, 10628640, 3628800, 0]
  | 12 => [1, 66, 1925, 32670, 357423, 2637558, 13339535, 45995730, 105258076, 150917976, 120543840, 39916800, 0]
  | 13 => [1, 78, 2717, 55770, 749463, 6926634, 44990231, 206070150, 657206836, 1414014888, 1931559552, 1486442880, 479001600, 0]
  | 14 => [1, 91, 3731, 91091, 1474473, 16669653, 135036473, 790943153, 3336118786, 9957703756, 20313753096, 26596717056, 19802759040, 6227020800, 0]
  | 15 => [1, 105, 5005, 143325, 2749747, 37312275, 368411615, 2681453775, 14409322928, 56663366760, 159721605680, 310989260400, 392156797824, 283465647360, 87178291200, 0]
  | 16 => [1, 120, 6580, 218400, 4899622, 78558480, 928095740, 8207628000, 54631129553, 272803210680, 1009672107080, 2706813345600, 5056995703824, 6165817614720, 4339163001600, 1307674368000, 0]
  | 17 => [1, 136, 8500, 323680, 8394022, 156952432, 2185031420, 23057159840, 185953177553, 1146901283528, 5374523477960, 18861567058880, 48366009233424, 87077748875904, 102992244837120, 70734282393600, 20922789888000, 0]
  | 18 => [1, 153, 10812, 468180, 13896582, 299650806, 4853222764, 60202693980, 577924894833, 4308105301929, 24871845297936, 110228466184200, 369012649234384, 909299905844112, 1583313975727488, 1821602444624640, 1223405590579200, 355687428096000, 0]
  | 19 => [1, 171, 13566, 662796, 22323822, 549789282, 10246937272, 147560703732, 1661573386473, 14710753408923, 102417740732658, 557921681547048, 2353125040549984, 7551527592063024, 17950712280921504, 30321254007719424, 34012249593822720, 22376988058521600, 6402373705728000, 0]
  | 20 => [1, 190, 16815, 920550, 34916946, 973941900, 20692933630, 342252511900, 4465226757381, 46280647751910, 381922055502195, 2503858755467550, 12953636989943896, 52260903362512720, 161429736530118960, 371384787345228000, 610116075740491776, 668609730341153280, 431565146817638400, 121645100408832000, 0]
  | _ => []
def cNx : Nat → List Int
  | 0 => [1]
  | 1 => [1]
  | 2 => [1, 1]
  | 3 => [1, 2, 2, 1]
  | 4 => [1, 3, 5, 6, 5, 3, 1]
  | 5 => [1, 4, 9, 15, 20, 22, 20, 15, 9, 4, 1]
  | 6 => [1, 5, 14, 29, 49, 71, 90, 101, 101, 90, 71, 49, 29, 14, 5, 1]
  | 7 => [1, 6, 20, 49, 98, 169, 259, 359, 455, 531, 573, 573, 531, 455, 359, 259, 169, 98, 49, 20, 6, 1]
  | 8 => [1, 7, 27, 76, 174, 343, 602, 961, 1415, 1940, 2493, 3017, 3450, 3736, 3836, 3736, 3450, 3017, 2493, 1940, 1415, 961, 602, 343, 174, 76, 27, 7, 1]
  | 9 => [1, 8, 35, 111, 285, 628, 1230, 2191, 3606, 5545, 8031, 11021, 14395, 17957, 21450, 24584, 27073, 28675, 29228, 28675, 27073, 24584, 21450, 17957, 14395, 11021, 8031, 5545, 3606, 2191, 1230, 628, 285, 111, 35, 8, 1]
  | 10 => [1, 9, 44, 155, 440, 1068, 2298, 4489, 8095, 13640, 21670, 32683, 47043, 64889, 86054, 110010, 135853, 162337, 187959, 211089, 230131, 243694, 250749, 250749, 243694, 230131, 211089, 187959, 162337, 135853, 110010, 86054, 64889, 47043, 32683, 21670, 13640, 8095, 4489, 2298, 1068, 440, 155, 44, 9, 1]
  | 11 => [1, 10, 54, 209, 649, 1717, 4015, 8504, 16599, 30239, 51909, 84591, 131625, 196470, 282369, 391939, 526724, 686763, 870233, 1073227, 1289718, 1511742, 1729808, 1933514, 2112319, 2256396, 2357475, 2409581, 2409581, 2357475, 2256396, 2112319, 1933514, 1729808, 1511742, 1289718, 1073227, 870233, 686763, 526724, 391939, 282369, 196470, 131625, 84591, 51909, 30239, 16599, 8504, 4015, 1717, 649, 209, 54, 10, 1]
  | 12 => [1, 11, 65, 274, 923, 2640, 6655, 15159, 31758, 61997, 113906, 198497, 330121, 526581, 808896, 1200626, 1726701, 2411747, 3277965, 4342688, 5615807, 7097310, 8775209, 10624132, 12604826, 14664752, 16739858, 18757500, 20640357, 22311069, 23697232, 24736324, 25380120, 25598186, 25380120, 24736324, 23697232, 22311069, 20640357, 18757500, 16739858, 14664752, 12604826, 10624132, 8775209, 7097310, 5615807, 4342688, 3277965, 2411747, 1726701, 1200626, 808896, 526581, 330121, 198497, 113906, 61997, 31758, 15159, 6655, 2640, 923, 274, 65, 11, 1]
  | 13 => [1, 12, 77, 351, 1274, 3914, 10569, 25728, 57486, 119483, 233389, 431886, 762007, 1288587, 2097472, 3298033, 5024460, 7435284, 10710609, 15046642, 20647290, 27712842, 36426054, 46936280, 59342609, 73677240, 89890517, 107839121, 127278852, 147863220, 169148705, 190607064, 211644496, 231626875, 249909685, 265870800, 278943900, 288650143, 294625748, 296643390, 294625748, 288650143, 278943900, 265870800, 249909685, 231626875, 211644496, 190607064, 169148705, 147863220, 127278852, 107839121, 89890517, 73677240, 59342609, 46936280, 36426054, 27712842, 20647290, 15046642, 10710609, 7435284, 5024460, 3298033, 2097472, 1288587, 762007, 431886, 233389, 119483, 57486, 25728, 10569, 3914, 1274, 351, 77, 12, 1]
  | 14 => [1, 13, 90, 441, 1715, 5629, 16198, 41926, 99412, 218895, 452284, 884170, 1646177, 2934764, 5032235, 8330256, 13354639, 20789572, 31498907, 46541635, 67178356, 94865470, 131234038, 178050835, 237160055, 310405409, 399533919, 506084453, 631265833, 775831020, 939955265, 1123127045, 1324060932, 1540641165, 1769903560, 2008061518, 2250579364, 2492293227, 2727576366, 2950542516, 3155277747, 3336088769, 3487753817, 3605761397, 3686522377, 3727542188, 3727542188, 3686522377, 3605761397, 3487753817, 3336088769, 3155277747, 2950542516, 2727576366, 2492293227, 2250579364, 2008061518, 1769903560, 1540641165, 1324060932, 1123127045, 939955265, 775831020, 631265833, 506084453, 399533919, 310405409, 237160055, 178050835, 131234038, 94865470, 67178356, 46541635, 31498907, 20789572, 13354639, 8330256, 5032235, 2934764, 1646177, 884170, 452284, 218895, 99412, 41926, 16198, 5629, 1715, 441, 90, 13, 1]
  | 15 => [1, 14, 104, 545, 2260, 7889, 24087, 66013, 165425, 384320, 836604, 1720774, 3366951, 6301715, 11333950, 19664205, 33018831, 53808313, 85306779, 131846699, 199019426, 293868698, 425060810, 603012233, 839953393, 1149906518, 1548556267, 2052994543, 2681325612, 3452124397, 4383749406, 5493521812, 6796793172, 8305935430, 10029297355, 11970180517, 14125894411, 16486953600, 19036479131, 21749861592, 24594733930, 27531288780, 30512958144, 33487453708, 36398145065, 39185731988, 41790147131, 44152608576, 46217728808, 47935579065, 49263606316, 50168304699, 50626553988, 50626553988, 50168304699, 49263606316, 47935579065, 46217728808, 44152608576, 41790147131, 39185731988, 36398145065, 33487453708, 30512958144, 27531288780, 24594733930, 21749861592, 19036479131, 16486953600, 14125894411, 11970180517, 10029297355, 8305935430, 6796793172, 5493521812, 4383749406, 3452124397, 2681325612, 2052994543, 1548556267, 1149906518, 839953393, 603012233, 425060810, 293868698, 199019426, 131846699, 85306779, 53808313, 33018831, 19664205, 11333950, 6301715, 3366951, 1720774, 836604, 384320, 165425, 66013, 24087, 7889, 2260, 545, 104, 14, 1]
  | 16 => [1, 15, 119, 664, 2924, 10813, 34900, 100913, 266338, 650658, 1487262, 3208036, 6574987, 12876702, 24210652, 43874857, 76893687, 130701986, 216008661, 347854815, 546871981, 840732790, 1265769513, 1868715733, 2708503701, 3858025899, 5405745562, 7457019331, 10134977992, 13580800674, 17953216130, 23427073737, 30190848078, 38442975195, 48386965771, 60225299589, 74152174574, 90345259476, 108956677797, 130103527156, 153858307693, 180239689955, 209204091832, 240638550997, 274355370450, 310088978041, 347495375766, 386154462530, 425575398166, 465205041801, 504439350762, 542637474944, 579138134521, 613277734909, 644409560477, 671923305201, 695264150336, 713950590364, 727590240796, 735892934219, 738680521142, 735892934219, 727590240796, 713950590364, 695264150336, 671923305201, 644409560477, 613277734909, 579138134521, 542637474944, 504439350762, 465205041801, 425575398166, 386154462530, 347495375766, 310088978041, 274355370450, 240638550997, 209204091832, 180239689955, 153858307693, 130103527156, 108956677797, 90345259476, 74152174574, 60225299589, 48386965771, 38442975195, 30190848078, 23427073737, 17953216130, 13580800674, 10134977992, 7457019331, 5405745562, 3858025899, 2708503701, 1868715733, 1265769513, 840732790, 546871981, 347854815, 216008661, 130701986, 76893687, 43874857, 24210652, 12876702, 6574987, 3208036, 1487262, 650658, 266338, 100913, 34900, 10813, 2924, 664, 119, 15, 1]
  | 17 => [1, 16, 135, 799, 3723, 14536, 49436, 150349, 416687, 1067345, 2554607, 5762643, 12337630, 25214332, 49424984, 93299841, 170193528, 300895513, 516904159, 864758855, 1411630172, 2252360038, 3518118738, 5386799571, 8095202359, 11952961920, 17358056824, 24813588893, 34945358849, 48519584536, 66459923964, 89862787049, 120009760270, 158375841778, 206632105563, 266641396491, 340445716250, 430244103745, 538360048752, 667197806395, 819187398355, 996718584609, 1202064650542, 1437297455977, 1704195807096, 2004149807145, 2338064382237, 2706265628637, 3108413953066, 3543428146789, 4009424522356, 4503675031529, 5022587866461, 5561713426796, 6115777727797, 6678744355201, 7243904978381, 7803997261052, 8351347811893, 8878036654280, 9376078624425, 9837616188194, 10255117450949, 10621572665547, 10930682353353, 11177030260388, 11356234779064, 11465073163211, 11501573822788, 11465073163211, 11356234779064, 11177030260388, 10930682353353, 10621572665547, 10255117450949, 9837616188194, 9376078624425, 8878036654280, 8351347811893, 7803997261052, 7243904978381, 6678744355201, 6115777727797, 5561713426796, 5022587866461, 4503675031529, 4009424522356, 3543428146789, 3108413953066, 2706265628637, 2338064382237, 2004149807145, 1704195807096, 1437297455977, 1202064650542, 996718584609, 819187398355, 667197806395, 538360048752, 430244103745, 340445716250, 266641396491, 206632105563, 158375841778, 120009760270, 89862787049, 66459923964, 48519584536, 34945358849, 24813588893, 17358056824, 11952961920, 8095202359, 5386799571, 3518118738, 2252360038, 1411630172, 864758855, 516904159, 300895513, 170193528, 93299841, 49424984, 25214332, 12337630, 5762643, 2554607, 1067345, 416687, 150349, 49436, 14536, 3723, 799, 135, 16, 1]
  | 18 => [1, 17, 152, 951, 4674, 19210, 68646, 218995, 635682, 1703027, 4257634, 10020277, 22357907, 47572239, 96997223, 190297064, 360490592, 661386105, 1178290263, 2043049102, 3454679139, 5707038378, 9225153393, 14611938428, 22707091351, 34659902922, 52017543059, 76830064607, 111772868849, 160286690742, 226734277076, 316571849793, 436532185079, 594814727016, 801276639051, 1067617140029, 1407545952120, 1836925297010, 2373873715590, 3038819161947, 3854488441564, 4845820226602, 6039789674785, 7465134168842, 9151971919114, 11131308137366, 13434427160754, 16092173204855, 19134127233957, 22587692593697, 26477107355783, 30822406545534, 35638362306432, 40933434336737, 46708766348284, 52957266599740, 59662811529369, 66799610984026, 74331771397564, 82213089467235, 90387103441118, 98787422173335, 107338343817188, 115955766675590, 124548384646706, 133019149278457, 141266970104455, 149188615120877, 156680764421309, 163642162552991, 169975809465594, 175591126299186, 180406030924742, 184348859235088, 187360071707656, 189393690634798, 190418421447330, 190418421447330, 189393690634798, 187360071707656, 184348859235088, 180406030924742, 175591126299186, 169975809465594, 163642162552991, 156680764421309, 149188615120877, 141266970104455, 133019149278457, 124548384646706, 115955766675590, 107338343817188, 98787422173335, 90387103441118, 82213089467235, 74331771397564, 66799610984026, 59662811529369, 52957266599740, 46708766348284, 40933434336737, 35638362306432, 30822406545534, 26477107355783, 22587692593697, 19134127233957, 16092173204855, 13434427160754, 11131308137366, 9151971919114, 7465134168842, 6039789674785, 4845820226602, 3854488441564, 3038819161947, 2373873715590, 1836925297010, 1407545952120, 1067617140029, 801276639051, 594814727016, 436532185079, 316571849793, 226734277076, 160286690742, 111772868849, 76830064607, 52017543059, 34659902922, 22707091351, 14611938428, 9225153393, 5707038378, 3454679139, 2043049102, 1178290263, 661386105, 360490592, 190297064, 96997223, 47572239, 22357907, 10020277, 4257634, 1703027, 635682, 218995, 68646, 19210, 4674, 951, 152, 17, 1]
  | 19 => [1, 18, 170, 1121, 5795, 25005, 93651, 312646, 948328, 2651355, 6908989, 16929266, 39287173, 86859412, 183856635, 374153699, 734644291, 1396030396, 2574320659, 4617369760, 8072048882, 13779087108, 23004239550, 37616173304, 60323245445, 94983079721, 147000403785, 223829832710, 335600998532, 495883431640, 722607688439, 1039157180325, 1475641793165, 2070359522958, 2871445864945, 3938702514382, 5345587080397, 7181334087144, 9553164753632, 12588529236440, 16437310639626, 21273905712835, 27299083449192, 34741510526683, 43858822542875, 54938113137182, 68295710233329, 84276110569335, 103249951112550, 125610909429171, 151771444935161, 182157319295616, 217200866875032, 257333024572718, 302974173780973, 354523894428593, 412349780660952, 476775517929388, 548068470165005, 626427071190676, 711968354405192, 804715986903742, 904589196552088, 1011392991308564, 1124810067817904, 1244394789935607, 1369569586835207, 1499624074722127, 1633717146549739, 1770882201746947, 1910035604667007, 2049988368659761, 2189460965247766, 2327101058134570, 2461503863242486, 2591234742347915, 2714853552811219, 2830940202860985, 2938120804028548, 3035093772295086, 3120655209356839, 3193722896464393, 3253358256087989, 3298785680906877, 3329408694181411, 3344822488498265, 3344822488498265, 3329408694181411, 3298785680906877, 3253358256087989, 3193722896464393, 3120655209356839, 3035093772295086, 2938120804028548, 2830940202860985, 2714853552811219, 2591234742347915, 2461503863242486, 2327101058134570, 2189460965247766, 2049988368659761, 1910035604667007, 1770882201746947, 1633717146549739, 1499624074722127, 1369569586835207, 1244394789935607, 1124810067817904, 1011392991308564, 904589196552088, 804715986903742, 711968354405192, 626427071190676, 548068470165005, 476775517929388, 412349780660952, 354523894428593, 302974173780973, 257333024572718, 217200866875032, 182157319295616, 151771444935161, 125610909429171, 103249951112550, 84276110569335, 68295710233329, 54938113137182, 43858822542875, 34741510526683, 27299083449192, 21273905712835, 16437310639626, 12588529236440, 9553164753632, 7181334087144, 5345587080397, 3938702514382, 2871445864945, 2070359522958, 1475641793165, 1039157180325, 722607688439, 495883431640, 335600998532, 223829832710, 147000403785, 94983079721, 60323245445, 37616173304, 23004239550, 13779087108, 8072048882, 4617369760, 2574320659, 1396030396, 734644291, 374153699, 183856635, 86859412, 39287173, 16929266, 6908989, 2651355, 948328, 312646, 93651, 25005, 5795, 1121, 170, 18, 1]
  | 20 => [1, 19, 189, 1310, 7105, 32110, 125761, 438407, 1386735, 4038090, 10947079, 27876345, 67163518, 154022930, 337879565, 712033264, 1446677555, 2842707951, 5417028610, 10034398370, 18106447251, 31885534341, 54889773721, 92505945904, 152829185554, 247812240270, 394812550404, 618642070468, 954242120672, 1450122900957, 2172723680407, 3211863931466, 4687466437458, 6757739101004, 9629001109314, 13567329469997, 18912181906103, 26092119962851, 35642710395824, 48226622262504, 64655860853248, 85915987478975, 113192066688617, 147895961041996, 191694460339426, 246537590396887, 314686300226431, 398738580963056, 501652931077074, 626767957074605, 777816794321327, 958934956436618, 1174660181518485, 1429922846568245, 1730025574484273, 2080610766398484, 2487614959979039, 2957209143821283, 3495724449232656, 4109562991186892, 4805094034952458, 5588536116143365, 6465826229246261, 7442477710028142, 8523428955303171, 9712885632101596, 11014159508703474, 12429507472856266, 13959974668293455, 15605245960611231, 17363510120343077, 19231341169707222, 21203601268079956, 23273369301641808, 25431898991103321, 27668609839022643, 29971113611172910, 32325278296104507, 34715330629968050, 37123997331072460, 39532684186024107, 41921691095584758, 44270460155120659, 46557852844718972, 48762451471082479, 50862879169645137, 52838132071308195, 54667916690767479, 56332985225124617, 57815461279465659, 59099148571263045, 60169815411960123, 61015448219007443, 61626467964901421, 61995904304519920, 62119523114983224, 61995904304519920, 61626467964901421, 61015448219007443, 60169815411960123, 59099148571263045, 57815461279465659, 56332985225124617, 54667916690767479, 52838132071308195, 50862879169645137, 48762451471082479, 46557852844718972, 44270460155120659, 41921691095584758, 39532684186024107, 37123997331072460, 34715330629968050, 32325278296104507, 29971113611172910, 27668609839022643, 25431898991103321, 23273369301641808, 21203601268079956, 19231341169707222, 17363510120343077, 15605245960611231, 13959974668293455, 12429507472856266, 11014159508703474, 9712885632101596, 8523428955303171, 7442477710028142, 6465826229246261, 5588536116143365, 4805094034952458, 4109562991186892, 3495724449232656, 2957209143821283, 2487614959979039, 2080610766398484, 1730025574484273, 1429922846568245, 1174660181518485, 958934956436618, 777816794321327, 626767957074605, 501652931077074, 398738580963056, 314686300226431, 246537590396887, 191694460339426, 147895961041996, 113192066688617, 85915987478975, 64655860853248, 48226622262504, 35642710395824, 26092119962851, 18912181906103, 13567329469997, 9629001109314, 6757739101004, 4687466437458, 3211863931466, 2172723680407, 1450122900957, 954242120672, 618642070468, 394812550404, 247812240270, 152829185554, 92505945904, 54889773721, 31885534341, 18106447251, 10034398370, 5417028610, 2842707951, 1446677555, 712033264, 337879565, 154022930, 67163518, 27876345, 10947079, 4038090, 1386735, 438407, 125761, 32110, 7105, 1310, 189, 19, 1]
  | _ => []
def cTk : Nat → List Int
  | 0 => [1]
  | 1 => [1]
  | 2 => [1, 1]
  | 3 => [1, 4, 1]
  | 4 => [1, 9, 13, 1]
  | 5 => [1, 16, 61, 41, 1]
  | 6 => [1, 25, 181, 381, 131, 1]
  | 7 => [1, 36, 421, 1821, 2332, 428, 1]
  | 8 => [1, 49, 841, 6105, 17557, 14337, 1429, 1]
  | 9 => [1, 64, 1513, 16465, 83029, 167449, 89497, 4861, 1]
  | 10 => [1, 81, 2521, 38281, 296326, 1100902, 1604098, 569794, 16795, 1]
  | 11 => [1, 100, 3961, 79861, 874886, 5122877, 14516426, 15555398, 3704504, 58785, 1]
  | 12 => [1, 121, 5941, 153341, 2250887, 18943343, 87116283, 192422979, 153315999, 24584693, 208011, 1]
  | 13 => [1, 144, 8581, 275705, 5213287, 59367101, 399080475, 1477363967, 2579725656, 1538907306, 166335677, 742899, 1]
  | 14 => [1, 169, 12013, 469925, 11110464, 164060352, 1508071384, 8312317976, 25191909848, 35098717902, 15743413076, 1145533650, 2674439, 1]
  | 15 => [1, 196, 16381, 766221, 22128576, 410474625, 4927007100, 37558353900, 172912977525, 434119587475, 485534447114, 164161815768, 8017098273, 9694844, 1]
  | 16 => [1, 225, 21841, 1203441, 41662441, 947236425, 14353045401, 143938455225, 927716186325, 3615907795025, 7583461369373, 6835409506841, 1744049683213, 56928364553, 35357669, 1]
  | 17 => [1, 256, 28561, 1830561, 74797417, 2043822961, 38094121561, 484748595081, 4142847526101, 22904111472825, 76340522760097, 134533482045389, 97966603326993, 18865209953045, 409558170361, 129644789, 1]
  | 18 => [1, 289, 36721, 2708305, 128922442, 4166173834, 93574631242, 1470147102730, 16029615164446, 118504614869214, 568209449266202, 1631788075873114, 2426299018270338, 1429401763567226, 207591285198178, 2981386305018, 477638699, 1]
  | 19 => [1, 324, 46513, 3910885, 214496074, 8088065845, 215285274766, 4087226730670, 55235843005474, 523952747921310, 3389618010035458, 14216730315766814, 35378058306185002, 44506885647682026, 21226755241285022, 2321616416280982, 21935294881644, 1767263189, 1]
  | 20 => [1, 361, 58141, 5527861, 345989051, 15050633363, 468217205543, 10556881208783, 172898075436668, 2041043061768988, 17044414451764396, 97376389179852540, 359666061054003144, 778860477345867008, 830512607486659272, 320692032888290224, 26362085777156567, 162951791097669, 6564120419, 1]
  | _ => []
def cBl : Nat → List Int
  | 0 => [1]
  | 1 => [1]
  | 2 => [1, 1]
  | 3 => [1, 5]
  | 4 => [1, 15, 8]
  | 5 => [1, 35, 84]
  | 6 => [1, 70, 469, 180]
  | 7 => [1, 126, 1869, 3044]
  | 8 => [1, 210, 5985, 26060, 8064]
  | 9 => [1, 330, 16401, 152900, 193248]
  | 10 => [1, 495, 39963, 696905, 2286636, 604800]
  | 11 => [1, 715, 88803, 2641925, 18128396, 19056960]
  | 12 => [1, 1001, 183183, 8691683, 109425316, 292271616, 68428800]
  | 13 => [1, 1365, 355355, 25537655, 539651112, 2961802480, 2699672832]
  | 14 => [1, 1820, 654654, 68396900, 2273360089, 22556777880, 51381813456, 10897286400]
  | 15 => [1, 2380, 1154062, 169537940, 8433097673, 138687993080, 640277565264, 520105017600]
  | 16 => [1, 3060, 1958502, 393481660, 28157550993, 720447491400, 5943136639504, 11905898330880, 2324754432000]
  | 17 => [1, 3876, 3215142, 862928092, 86027797713, 3262699892088, 44160980070544, 177317274898944, 130859579289600]
  | 18 => [1, 4845, 5126010, 1801329010, 243582356589, 13178203976145, 275057386118488, 1954656775501200, 3518998580742912, 640237370572800]
  | 19 => [1, 5985, 7963242, 3600529450, 645643728093, 48296666026245, 1482541157911384, 17142759609274320, 61290148786433280, 41680704936960000]
  | 20 => [1, 7315, 12087306, 6925187830, 1615155843301, 162772879163895, 7077838516218976, 125279581806646960, 786428482773580416, 1292778800273664000, 221172909834240000]
  | _ => []
theorem m_bySw_0 : m_by_swaps [.int 0] = .ok (lI (cSw 0)) := by kernel_rfl
theorem m_bySw_1 : m_by_swaps [.int 1] = .ok (lI (cSw 1)) := by kernel_rfl
theorem m_bySw_2 : m_by_swaps [.int 2] = .ok (lI (cSw 2)) := by kernel_rfl
theorem m_bySw_3 : m_by_swaps [.int 3] = .ok (lI (cSw 3)) := by kernel_rfl
theorem m_bySw_4 : m_by_swaps [.int 4] = .ok (lI (cSw 4)) := by kernel_rfl
theorem m_bySw_5 : m_by_swaps [.int 5] = .ok (lI (cSw 5)) := by kernel_rfl
theorem m_bySw_6 : m_by_swaps [.int 6] = .ok (lI (cSw 6)) := by kernel_rfl
theorem m_bySw_7 : m_by_swaps [.int 7] = .ok (lI (cSw 7)) := by kernel_rfl
theorem m_bySw_8 : m_by_swaps [.int 8] = .ok (lI (cSw 8)) := by kernel_rfl
theorem m_bySw_9 : m_by_swaps [.int 9] = .ok (lI (cSw 9)) := by kernel_rfl
theorem m_bySw_10 : m_by_swaps [.int 10] = .ok (lI (cSw 10)) := by kernel_rfl
theorem m_bySw_11 : m_by_swaps [.int 11] = .ok (lI (cSw 11)) := by kernel_rfl
theorem m_bySw_12 : m_by_swaps [.int 12] = .ok (lI (cSw 12)) := by kernel_rfl
theorem m_bySw_13 : m_by_swaps [.int 13] = .ok (lI (cSw 13)) := by kernel_rfl
theorem m_bySw_14 : m_by_swaps [.int 14] = .ok (lI (cSw 14)) := by kernel_rfl
theorem m_bySw_15 : m_by_swaps [.int 15] = .ok (lI (cSw 15)) := by kernel_rfl
theorem m_bySw_16 : m_by_swaps [.int 16] = .ok (lI (cSw 16)) := by kernel_rfl
theorem m_bySw_17 : m_by_swaps [.int 17] = .ok (lI (cSw 17)) := by kernel_rfl
theorem m_bySw_18 : m_by_swaps [.int 18] = .ok (lI (cSw 18)) := by kernel_rfl
theorem m_bySw_19 : m_by_swaps [.int 19] = .ok (lI (cSw 19)) := by kernel_rfl
theorem m_bySw_20 : m_by_swaps [.int 20] = .ok (lI (cSw 20)) := by kernel_rfl
theorem m_bySw (n : Nat) (h : n < 21) : m_by_swaps [.int (n : Int)] = .ok (lI (cSw n)) := by
  match n, h with
  | 0, _ => exact m_bySw_0
  | 1, _ => exact m_bySw_1
  | 2, _ => exact m_bySw_2
  | 3, _ => exact m_bySw_3
  | 4, _ => exact m_bySw_4
  | 5, _ => exact m_bySw_5
  | 6, _ => exact m_bySw_6
  | 7, _ => exact m_bySw_7
  | 8, _ => exact m_bySw_8
  | 9, _ => exact m_bySw_9
  | 10, _ => exact m_bySw_10
  | 11, _ => exact m_bySw_11
  | 12, _ => exact m_bySw_12
  | 13, _ => exact m_bySw_13
  | 14, _ => exact m_bySw_14
  | 15, _ => exact m_bySw_15
  | 16, _ => exact m_bySw_16
  | 17, _ => exact m_bySw_17
  | 18, _ => exact m_bySw_18
  | 19, _ => exact m_bySw_19
  | 20, _ => exact m_bySw_20
  | k + 21, h => exact absurd h (by omega)
theorem m_byNx_0 : m_by_nexts [.int 0] = .ok (lI (cNx 0)) := by kernel_rfl
theorem m_byNx_1 : m_by_nexts [.int 1] = .ok (lI (cNx 1)) := by kernel_rfl
theorem m_byNx_2 : m_by_nexts [.int 2] = .ok (lI (cNx 2)) := by kernel_rfl
theorem m_byNx_3 : m_by_nexts [.int 3] = .ok (lI (cNx 3)) := by kernel_rfl
theorem m_byNx_4 : m_by_nexts [.int 4] = .ok (lI (cNx 4)) := by kernel_rfl
theorem m_byNx_5 : m_by_nexts [.int 5] = .ok (lI (cNx 5)) := by kernel_rfl
theorem m_byNx_6 : m_by_nexts [.int 6] = .ok (lI (cNx 6)) := by kernel_rfl
theorem m_byNx_7 : m_by_nexts [.int 7] = .ok (lI (cNx 7)) := by kernel_rfl
theorem m_byNx_8 : m_by_nexts [.int 8] = .ok (lI (cNx 8)) := by kernel_rfl
theorem m_byNx_9 : m_by_nexts [.int 9] = .ok (lI (cNx 9)) := by kernel_rfl
theorem m_byNx_10 : m_by_nexts [.int 10] = .ok (lI (cNx 10)) := by kernel_rfl
theorem m_byNx_11 : m_by_nexts [.int 11] = .ok (lI (cNx 11)) := by kernel_rfl
theorem m_byNx_12 : m_by_nexts [.int 12] = .ok (lI (cNx 12)) := by kernel_rfl
theorem m_byNx_13 : m_by_nexts [.int 13] = .ok (lI (cNx 13)) := by kernel_rfl
theorem m_byNx_14 : m_by_nexts [.int 14] = .ok (lI (cNx 14)) := by kernel_rfl
theorem m_byNx_15 : m_by_nexts [.int 15] = .ok (lI (cNx 15)) := by kernel_rfl
theorem m_byNx_16 : m_by_nexts [.int 16] = .ok (lI (cNx 16)) := by kernel_rfl
theorem m_byNx_17 : m_by_nexts [.int 17] = .ok (lI (cNx 17)) := by kernel_rfl
theorem m_byNx_18 : m_by_nexts [.int 18] = .ok (lI (cNx 18)) := by kernel_rfl
theorem m_byNx_19 : m_by_nexts [.int 19] = .ok (lI (cNx 19)) := by kernel_rfl
theorem m_byNx_20 : m_by_nexts [.int 20] = .ok (lI (cNx 20)) := by kernel_rfl
theorem m_byNx (n : Nat) (h : n < 21) : m_by_nexts [.int (n : Int)] = .ok (lI (cNx n)) := by
  match n, h with
  | 0, _ => exact m_byNx_0
  | 1, _ => exact m_byNx_1
  | 2, _ => exact m_byNx_2
  | 3, _ => exact m_byNx_3
  | 4, _ => exact m_byNx_4
  | 5, _ => exact m_byNx_5
  | 6, _ => exact m_byNx_6
  | 7, _ => exact m_byNx_7
  | 8, _ => exact m_byNx_8
  | 9, _ => exact m_byNx_9
  | 10, _ => exact m_byNx_10
  | 11, _ => exact m_byNx_11
  | 12, _ => exact m_byNx_12
  | 13, _ => exact m_byNx_13
  | 14, _ => exact m_byNx_14
  | 15, _ => exact m_byNx_15
  | 16, _ => exact m_byNx_16
  | 17, _ => exact m_byNx_17
  | 18, _ => exact m_byNx_18
  | 19, _ => exact m_byNx_19
  | 20, _ => exact m_byNx_20
  | k + 21, h => exact absurd h (by omega)
theorem m_byBl_0 : m_by_blocks [.int 0] = .ok (lI (cBl 0)) := by kernel_rfl
theorem m_byBl_1 : m_by_blocks [.int 1] = .ok (lI (cBl 1)) := by kernel_rfl
theorem m_byBl_2 : m_by_blocks [.int 2] = .ok (lI (cBl 2)) := by kernel_rfl
theorem m_byBl_3 : m_by_blocks [.int 3] = .ok (lI (cBl 3)) := by kernel_rfl
theorem m_byBl_4 : m_by_blocks [.int 4] = .ok (lI (cBl 4)) := by kernel_rfl
theorem m_byBl_5 : m_by_blocks [.int 5] = .ok (lI (cBl 5)) := by kernel_rfl
theorem m_byBl_6 : m_by_blocks [.int 6] = .ok (lI (cBl 6)) := by kernel_rfl
theorem m_byBl_7 : m_by_blocks [.int 7] = .ok (lI (cBl 7)) := by kernel_rfl
theorem m_byBl_8 : m_by_blocks [.int 8] = .ok (lI (cBl 8)) := by kernel_rfl
theorem m_byBl_9 : m_by_blocks [.int 9] = .ok (lI (cBl 9)) := by kernel_rfl
theorem m_byBl_10 : m_by_blocks [.int 10] = .ok (lI (cBl 10)) := by kernel_rfl
theorem m_byBl_11 : m_by_blocks [.int 11] = .ok (lI (cBl 11)) := by kernel_rfl
theorem m_byBl_12 : m_by_blocks [.int 12] = .ok (lI (cBl 12)) := by kernel_rfl
theorem m_byBl_13 : m_by_blocks [.int 13] = .ok (lI (cBl 13)) := by kernel_rfl
theorem m_byBl_14 : m_by_blocks [.int 14] = .ok (lI (cBl 14)) := by kernel_rfl
theorem m_byBl_15 : m_by_blocks [.int 15] = .ok (lI (cBl 15)) := by kernel_rfl
theorem m_byBl_16 : m_by_blocks [.int 16] = .ok (lI (cBl 16)) := by kernel_rfl
theorem m_byBl_17 : m_by_blocks [.int 17] = .ok (lI (cBl 17)) := by kernel_rfl
theorem m_byBl_18 : m_by_blocks [.int 18] = .ok (lI (cBl 18)) := by kernel_rfl
theorem m_byBl_19 : m_by_blocks [.int 19] = .ok (lI (cBl 19)) := by kernel_rfl
theorem m_byBl_20 : m_by_blocks [.int 20] = .ok (lI (cBl 20)) := by kernel_rfl
theorem m_byBl (n : Nat) (h : n < 21) : m_by_blocks [.int (n : Int)] = .ok (lI (cBl n)) := by
  match n, h with
  | 0, _ => exact m_byBl_0
  | 1, _ => exact m_byBl_1
  | 2, _ => exact m_byBl_2
  | 3, _ => exact m_byBl_3
  | 4, _ => exact m_byBl_4
  | 5, _ => exact m_byBl_5
  | 6, _ => exact m_byBl_6
  | 7, _ => exact m_byBl_7
  | 8, _ => exact m_byBl_8
  | 9, _ => exact m_byBl_9
  | 10, _ => exact m_byBl_10
  | 11, _ => exact m_byBl_11
  | 12, _ => exact m_byBl_12
  | 13, _ => exact m_byBl_13
  | 14, _ => exact m_byBl_14
  | 15, _ => exact m_byBl_15
  | 16, _ => exact m_byBl_16
  | 17, _ => exact m_byBl_17
  | 18, _ => exact m_byBl_18
  | 19, _ => exact m_byBl_19
  | 20, _ => exact m_byBl_20
  | k + 21, h => exact absurd h (by omega)
theorem byTk_gen (n m : Nat) (hm : (n = 0 ∧ m = 1) ∨ (0 < n ∧ m = n)) (hn : n ≤ 20) (l : List Int) (hl : l.length = m) (h : ∀ d : Nat, d < m → m_rows_that_rise [.int (n : Int), .int ((n : Int) - (d : Int))] = .ok (.int (l.getD d 0))) : m_by_takes [.int (n : Int)] = .ok (lI l) := by
  unfold m_by_takes
  rw [run1]
  unfold s_by_takes
  have er : iR1 (aCons (rB bMax2 (aCons (rVar 0) (aCons (rC (.int 1)) aNil))) aNil) [some (.int (n : Int)), none] = .ok ((upI 0 m).map PyData.int) := by
    have r1 := rg1_n (show m < 2 ^ 62 by omega)
    rcases hm with ⟨z, rfl⟩ | ⟨z, rfl⟩
    · subst z
      simpa using r1
    · have mx : bMax2 [.int (m : Int), .int 1] = some (.int (m : Int)) := by
        simp
        omega
      simp [mx, r1]
  have e := lc_i (its := iR1 (aCons (rB bMax2 (aCons (rVar 0) (aCons (rC (.int 1)) aNil))) aNil)) (v := 1) (f := rCall m_rows_that_rise (aCons (rVar 0) (aCons (r2 oSub (rVar 0) (rVar 1)) aNil))) (ρ := [some (.int (n : Int)), none]) (ns := upI 0 m) (h := fun d => l.getD d.toNat 0) er (by rw [upI_length]; omega) (fun d hd => by
    obtain ⟨a, b⟩ := up_mem.mp hd
    have := h d.toNat (by omega)
    rw [Int.toNat_of_nonneg a] at this
    simp [this])
  have el : (upI 0 m).map (fun d => l.getD d.toNat 0) = l := by
    refine List.ext_getElem? fun i => ?_
    rw [List.getElem?_map]
    by_cases c : i < m
    · unfold upI
      rw [List.getElem?_map, List.getElem?_range c]
      simp [List.getElem?_eq_getElem (show i < l.length by omega)]
    · rw [List.getElem?_eq_none (show (upI 0 m).length ≤ i by rw [upI_length]; omega), List.getElem?_eq_none (show l.length ≤ i by omega)]
      rfl
  rw [el] at e
  show outR (sRet (rLc (iR1 (aCons (rB bMax2 (aCons (rVar 0) (aCons (rC (.int 1)) aNil))) aNil)) [1] (gSlot 1) yesR (rCall m_rows_that_rise (aCons (rVar 0) (aCons (r2 oSub (rVar 0) (rVar 1)) aNil)))) [some (.int (n : Int)), none]) = _
  rw [ap_sRet, e]
  rfl
theorem rr_0_0 : m_rows_that_rise [.int 0, .int 0] = .ok (.int 1) := by kernel_rfl
theorem m_byTk_0 : m_by_takes [.int ((0 : Nat) : Int)] = .ok (lI (cTk 0)) := by
  refine byTk_gen 0 1 (by decide) (by decide) (cTk 0) (by rfl) fun d hd => ?_
  match d, hd with
  | 0, _ => exact rr_0_0
  | k + 1, hd => exact absurd hd (by omega)
theorem rr_1_0 : m_rows_that_rise [.int 1, .int 1] = .ok (.int 1) := by kernel_rfl
theorem m_byTk_1 : m_by_takes [.int ((1 : Nat) : Int)] = .ok (lI (cTk 1)) := by
  refine byTk_gen 1 1 (by decide) (by decide) (cTk 1) (by rfl) fun d hd => ?_
  match d, hd with
  | 0, _ => exact rr_1_0
  | k + 1, hd => exact absurd hd (by omega)
theorem rr_2_0 : m_rows_that_rise [.int 2, .int 2] = .ok (.int 1) := by kernel_rfl
theorem rr_2_1 : m_rows_that_rise [.int 2, .int 1] = .ok (.int 1) := by kernel_rfl
theorem m_byTk_2 : m_by_takes [.int ((2 : Nat) : Int)] = .ok (lI (cTk 2)) := by
  refine byTk_gen 2 2 (by decide) (by decide) (cTk 2) (by rfl) fun d hd => ?_
  match d, hd with
  | 0, _ => exact rr_2_0
  | 1, _ => exact rr_2_1
  | k + 2, hd => exact absurd hd (by omega)
theorem rr_3_0 : m_rows_that_rise [.int 3, .int 3] = .ok (.int 1) := by kernel_rfl
theorem rr_3_1 : m_rows_that_rise [.int 3, .int 2] = .ok (.int 4) := by kernel_rfl
theorem rr_3_2 : m_rows_that_rise [.int 3, .int 1] = .ok (.int 1) := by kernel_rfl
theorem m_byTk_3 : m_by_takes [.int ((3 : Nat) : Int)] = .ok (lI (cTk 3)) := by
  refine byTk_gen 3 3 (by decide) (by decide) (cTk 3) (by rfl) fun d hd => ?_
  match d, hd with
  | 0, _ => exact rr_3_0
  | 1, _ => exact rr_3_1
  | 2, _ => exact rr_3_2
  | k + 3, hd => exact absurd hd (by omega)
theorem rr_4_0 : m_rows_that_rise [.int 4, .int 4] = .ok (.int 1) := by kernel_rfl
theorem rr_4_1 : m_rows_that_rise [.int 4, .int 3] = .ok (.int 9) := by kernel_rfl
theorem rr_4_2 : m_rows_that_rise [.int 4, .int 2] = .ok (.int 13) := by kernel_rfl
theorem rr_4_3 : m_rows_that_rise [.int 4, .int 1] = .ok (.int 1) := by kernel_rfl
theorem m_byTk_4 : m_by_takes [.int ((4 : Nat) : Int)] = .ok (lI (cTk 4)) := by
  refine byTk_gen 4 4 (by decide) (by decide) (cTk 4) (by rfl) fun d hd => ?_
  match d, hd with
  | 0, _ => exact rr_4_0
  | 1, _ => exact rr_4_1
  | 2, _ => exact rr_4_2
  | 3, _ => exact rr_4_3
  | k + 4, hd => exact absurd hd (by omega)
theorem rr_5_0 : m_rows_that_rise [.int 5, .int 5] = .ok (.int 1) := by kernel_rfl
theorem rr_5_1 : m_rows_that_rise [.int 5, .int 4] = .ok (.int 16) := by kernel_rfl
theorem rr_5_2 : m_rows_that_rise [.int 5, .int 3] = .ok (.int 61) := by kernel_rfl
theorem rr_5_3 : m_rows_that_rise [.int 5, .int 2] = .ok (.int 41) := by kernel_rfl
theorem rr_5_4 : m_rows_that_rise [.int 5, .int 1] = .ok (.int 1) := by kernel_rfl
theorem m_byTk_5 : m_by_takes [.int ((5 : Nat) : Int)] = .ok (lI (cTk 5)) := by
  refine byTk_gen 5 5 (by decide) (by decide) (cTk 5) (by rfl) fun d hd => ?_
  match d, hd with
  | 0, _ => exact rr_5_0
  | 1, _ => exact rr_5_1
  | 2, _ => exact rr_5_2
  | 3, _ => exact rr_5_3
  | 4, _ => exact rr_5_4
  | k + 5, hd => exact absurd hd (by omega)
theorem rr_6_0 : m_rows_that_rise [.int 6, .int 6] = .ok (.int 1) := by kernel_rfl
theorem rr_6_1 : m_rows_that_rise [.int 6, .int 5] = .ok (.int 25) := by kernel_rfl
theorem rr_6_2 : m_rows_that_rise [.int 6, .int 4] = .ok (.int 181) := by kernel_rfl
theorem rr_6_3 : m_rows_that_rise [.int 6, .int 3] = .ok (.int 381) := by kernel_rfl
theorem rr_6_4 : m_rows_that_rise [.int 6, .int 2] = .ok (.int 131) := by kernel_rfl
theorem rr_6_5 : m_rows_that_rise [.int 6, .int 1] = .ok (.int 1) := by kernel_rfl
theorem m_byTk_6 : m_by_takes [.int ((6 : Nat) : Int)] = .ok (lI (cTk 6)) := by
  refine byTk_gen 6 6 (by decide) (by decide) (cTk 6) (by rfl) fun d hd => ?_
  match d, hd with
  | 0, _ => exact rr_6_0
  | 1, _ => exact rr_6_1
  | 2, _ => exact rr_6_2
  | 3, _ => exact rr_6_3
  | 4, _ => exact rr_6_4
  | 5, _ => exact rr_6_5
  | k + 6, hd => exact absurd hd (by omega)
theorem rr_7_0 : m_rows_that_rise [.int 7, .int 7] = .ok (.int 1) := by kernel_rfl
theorem rr_7_1 : m_rows_that_rise [.int 7, .int 6] = .ok (.int 36) := by kernel_rfl
theorem rr_7_2 : m_rows_that_rise [.int 7, .int 5] = .ok (.int 421) := by kernel_rfl
theorem rr_7_3 : m_rows_that_rise [.int 7, .int 4] = .ok (.int 1821) := by kernel_rfl
theorem rr_7_4 : m_rows_that_rise [.int 7, .int 3] = .ok (.int 2332) := by kernel_rfl
theorem rr_7_5 : m_rows_that_rise [.int 7, .int 2] = .ok (.int 428) := by kernel_rfl
theorem rr_7_6 : m_rows_that_rise [.int 7, .int 1] = .ok (.int 1) := by kernel_rfl
theorem m_byTk_7 : m_by_takes [.int ((7 : Nat) : Int)] = .ok (lI (cTk 7)) := by
  refine byTk_gen 7 7 (by decide) (by decide) (cTk 7) (by rfl) fun d hd => ?_
  match d, hd with
  | 0, _ => exact rr_7_0
  | 1, _ => exact rr_7_1
  | 2, _ => exact rr_7_2
  | 3, _ => exact rr_7_3
  | 4, _ => exact rr_7_4
  | 5, _ => exact rr_7_5
  | 6, _ => exact rr_7_6
  | k + 7, hd => exact absurd hd (by omega)
theorem rr_8_0 : m_rows_that_rise [.int 8, .int 8] = .ok (.int 1) := by kernel_rfl
theorem rr_8_1 : m_rows_that_rise [.int 8, .int 7] = .ok (.int 49) := by kernel_rfl
theorem rr_8_2 : m_rows_that_rise [.int 8, .int 6] = .ok (.int 841) := by kernel_rfl
theorem rr_8_3 : m_rows_that_rise [.int 8, .int 5] = .ok (.int 6105) := by kernel_rfl
theorem rr_8_4 : m_rows_that_rise [.int 8, .int 4] = .ok (.int 17557) := by kernel_rfl
theorem rr_8_5 : m_rows_that_rise [.int 8, .int 3] = .ok (.int 14337) := by kernel_rfl
theorem rr_8_6 : m_rows_that_rise [.int 8, .int 2] = .ok (.int 1429) := by kernel_rfl
theorem rr_8_7 : m_rows_that_rise [.int 8, .int 1] = .ok (.int 1) := by kernel_rfl
theorem m_byTk_8 : m_by_takes [.int ((8 : Nat) : Int)] = .ok (lI (cTk 8)) := by
  refine byTk_gen 8 8 (by decide) (by decide) (cTk 8) (by rfl) fun d hd => ?_
  match d, hd with
  | 0, _ => exact rr_8_0
  | 1, _ => exact rr_8_1
  | 2, _ => exact rr_8_2
  | 3, _ => exact rr_8_3
  | 4, _ => exact rr_8_4
  | 5, _ => exact rr_8_5
  | 6, _ => exact rr_8_6
  | 7, _ => exact rr_8_7
  | k + 8, hd => exact absurd hd (by omega)
theorem rr_9_0 : m_rows_that_rise [.int 9, .int 9] = .ok (.int 1) := by kernel_rfl
theorem rr_9_1 : m_rows_that_rise [.int 9, .int 8] = .ok (.int 64) := by kernel_rfl
theorem rr_9_2 : m_rows_that_rise [.int 9, .int 7] = .ok (.int 1513) := by kernel_rfl
theorem rr_9_3 : m_rows_that_rise [.int 9, .int 6] = .ok (.int 16465) := by kernel_rfl
theorem rr_9_4 : m_rows_that_rise [.int 9, .int 5] = .ok (.int 83029) := by kernel_rfl
theorem rr_9_5 : m_rows_that_rise [.int 9, .int 4] = .ok (.int 167449) := by kernel_rfl
theorem rr_9_6 : m_rows_that_rise [.int 9, .int 3] = .ok (.int 89497) := by kernel_rfl
theorem rr_9_7 : m_rows_that_rise [.int 9, .int 2] = .ok (.int 4861) := by kernel_rfl
theorem rr_9_8 : m_rows_that_rise [.int 9, .int 1] = .ok (.int 1) := by kernel_rfl
theorem m_byTk_9 : m_by_takes [.int ((9 : Nat) : Int)] = .ok (lI (cTk 9)) := by
  refine byTk_gen 9 9 (by decide) (by decide) (cTk 9) (by rfl) fun d hd => ?_
  match d, hd with
  | 0, _ => exact rr_9_0
  | 1, _ => exact rr_9_1
  | 2, _ => exact rr_9_2
  | 3, _ => exact rr_9_3
  | 4, _ => exact rr_9_4
  | 5, _ => exact rr_9_5
  | 6, _ => exact rr_9_6
  | 7, _ => exact rr_9_7
  | 8, _ => exact rr_9_8
  | k + 9, hd => exact absurd hd (by omega)
theorem rr_10_0 : m_rows_that_rise [.int 10, .int 10] = .ok (.int 1) := by kernel_rfl
theorem rr_10_1 : m_rows_that_rise [.int 10, .int 9] = .ok (.int 81) := by kernel_rfl
theorem rr_10_2 : m_rows_that_rise [.int 10, .int 8] = .ok (.int 2521) := by kernel_rfl
theorem rr_10_3 : m_rows_that_rise [.int 10, .int 7] = .ok (.int 38281) := by kernel_rfl
theorem rr_10_4 : m_rows_that_rise [.int 10, .int 6] = .ok (.int 296326) := by kernel_rfl
theorem rr_10_5 : m_rows_that_rise [.int 10, .int 5] = .ok (.int 1100902) := by kernel_rfl
theorem rr_10_6 : m_rows_that_rise [.int 10, .int 4] = .ok (.int 1604098) := by kernel_rfl
theorem rr_10_7 : m_rows_that_rise [.int 10, .int 3] = .ok (.int 569794) := by kernel_rfl
theorem rr_10_8 : m_rows_that_rise [.int 10, .int 2] = .ok (.int 16795) := by kernel_rfl
theorem rr_10_9 : m_rows_that_rise [.int 10, .int 1] = .ok (.int 1) := by kernel_rfl
theorem m_byTk_10 : m_by_takes [.int ((10 : Nat) : Int)] = .ok (lI (cTk 10)) := by
  refine byTk_gen 10 10 (by decide) (by decide) (cTk 10) (by rfl) fun d hd => ?_
  match d, hd with
  | 0, _ => exact rr_10_0
  | 1, _ => exact rr_10_1
  | 2, _ => exact rr_10_2
  | 3, _ => exact rr_10_3
  | 4, _ => exact rr_10_4
  | 5, _ => exact rr_10_5
  | 6, _ => exact rr_10_6
  | 7, _ => exact rr_10_7
  | 8, _ => exact rr_10_8
  | 9, _ => exact rr_10_9
  | k + 10, hd => exact absurd hd (by omega)
theorem rr_11_0 : m_rows_that_rise [.int 11, .int 11] = .ok (.int 1) := by kernel_rfl
theorem rr_11_1 : m_rows_that_rise [.int 11, .int 10] = .ok (.int 100) := by kernel_rfl
theorem rr_11_2 : m_rows_that_rise [.int 11, .int 9] = .ok (.int 3961) := by kernel_rfl
theorem rr_11_3 : m_rows_that_rise [.int 11, .int 8] = .ok (.int 79861) := by kernel_rfl
theorem rr_11_4 : m_rows_that_rise [.int 11, .int 7] = .ok (.int 874886) := by kernel_rfl
theorem rr_11_5 : m_rows_that_rise [.int 11, .int 6] = .ok (.int 5122877) := by kernel_rfl
theorem rr_11_6 : m_rows_that_rise [.int 11, .int 5] = .ok (.int 14516426) := by kernel_rfl
theorem rr_11_7 : m_rows_that_rise [.int 11, .int 4] = .ok (.int 15555398) := by kernel_rfl
theorem rr_11_8 : m_rows_that_rise [.int 11, .int 3] = .ok (.int 3704504) := by kernel_rfl
theorem rr_11_9 : m_rows_that_rise [.int 11, .int 2] = .ok (.int 58785) := by kernel_rfl
theorem rr_11_10 : m_rows_that_rise [.int 11, .int 1] = .ok (.int 1) := by kernel_rfl
theorem m_byTk_11 : m_by_takes [.int ((11 : Nat) : Int)] = .ok (lI (cTk 11)) := by
  refine byTk_gen 11 11 (by decide) (by decide) (cTk 11) (by rfl) fun d hd => ?_
  match d, hd with
  | 0, _ => exact rr_11_0
  | 1, _ => exact rr_11_1
  | 2, _ => exact rr_11_2
  | 3, _ => exact rr_11_3
  | 4, _ => exact rr_11_4
  | 5, _ => exact rr_11_5
  | 6, _ => exact rr_11_6
  | 7, _ => exact rr_11_7
  | 8, _ => exact rr_11_8
  | 9, _ => exact rr_11_9
  | 10, _ => exact rr_11_10
  | k + 11, hd => exact absurd hd (by omega)
theorem rr_12_0 : m_rows_that_rise [.int 12, .int 12] = .ok (.int 1) := by kernel_rfl
theorem rr_12_1 : m_rows_that_rise [.int 12, .int 11] = .ok (.int 121) := by kernel_rfl
theorem rr_12_2 : m_rows_that_rise [.int 12, .int 10] = .ok (.int 5941) := by kernel_rfl
theorem rr_12_3 : m_rows_that_rise [.int 12, .int 9] = .ok (.int 153341) := by kernel_rfl
theorem rr_12_4 : m_rows_that_rise [.int 12, .int 8] = .ok (.int 2250887) := by kernel_rfl
theorem rr_12_5 : m_rows_that_rise [.int 12, .int 7] = .ok (.int 18943343) := by kernel_rfl
theorem rr_12_6 : m_rows_that_rise [.int 12, .int 6] = .ok (.int 87116283) := by kernel_rfl
theorem rr_12_7 : m_rows_that_rise [.int 12, .int 5] = .ok (.int 192422979) := by kernel_rfl
theorem rr_12_8 : m_rows_that_rise [.int 12, .int 4] = .ok (.int 153315999) := by kernel_rfl
theorem rr_12_9 : m_rows_that_rise [.int 12, .int 3] = .ok (.int 24584693) := by kernel_rfl
theorem rr_12_10 : m_rows_that_rise [.int 12, .int 2] = .ok (.int 208011) := by kernel_rfl
theorem rr_12_11 : m_rows_that_rise [.int 12, .int 1] = .ok (.int 1) := by kernel_rfl
theorem m_byTk_12 : m_by_takes [.int ((12 : Nat) : Int)] = .ok (lI (cTk 12)) := by
  refine byTk_gen 12 12 (by decide) (by decide) (cTk 12) (by rfl) fun d hd => ?_
  match d, hd with
  | 0, _ => exact rr_12_0
  | 1, _ => exact rr_12_1
  | 2, _ => exact rr_12_2
  | 3, _ => exact rr_12_3
  | 4, _ => exact rr_12_4
  | 5, _ => exact rr_12_5
  | 6, _ => exact rr_12_6
  | 7, _ => exact rr_12_7
  | 8, _ => exact rr_12_8
  | 9, _ => exact rr_12_9
  | 10, _ => exact rr_12_10
  | 11, _ => exact rr_12_11
  | k + 12, hd => exact absurd hd (by omega)
theorem rr_13_0 : m_rows_that_rise [.int 13, .int 13] = .ok (.int 1) := by kernel_rfl
theorem rr_13_1 : m_rows_that_rise [.int 13, .int 12] = .ok (.int 144) := by kernel_rfl
theorem rr_13_2 : m_rows_that_rise [.int 13, .int 11] = .ok (.int 8581) := by kernel_rfl
theorem rr_13_3 : m_rows_that_rise [.int 13, .int 10] = .ok (.int 275705) := by kernel_rfl
theorem rr_13_4 : m_rows_that_rise [.int 13, .int 9] = .ok (.int 5213287) := by kernel_rfl
theorem rr_13_5 : m_rows_that_rise [.int 13, .int 8] = .ok (.int 59367101) := by kernel_rfl
theorem rr_13_6 : m_rows_that_rise [.int 13, .int 7] = .ok (.int 399080475) := by kernel_rfl
theorem rr_13_7 : m_rows_that_rise [.int 13, .int 6] = .ok (.int 1477363967) := by kernel_rfl
theorem rr_13_8 : m_rows_that_rise [.int 13, .int 5] = .ok (.int 2579725656) := by kernel_rfl
theorem rr_13_9 : m_rows_that_rise [.int 13, .int 4] = .ok (.int 1538907306) := by kernel_rfl
theorem rr_13_10 : m_rows_that_rise [.int 13, .int 3] = .ok (.int 166335677) := by kernel_rfl
theorem rr_13_11 : m_rows_that_rise [.int 13, .int 2] = .ok (.int 742899) := by kernel_rfl
theorem rr_13_12 : m_rows_that_rise [.int 13, .int 1] = .ok (.int 1) := by kernel_rfl
theorem m_byTk_13 : m_by_takes [.int ((13 : Nat) : Int)] = .ok (lI (cTk 13)) := by
  refine byTk_gen 13 13 (by decide) (by decide) (cTk 13) (by rfl) fun d hd => ?_
  match d, hd with
  | 0, _ => exact rr_13_0
  | 1, _ => exact rr_13_1
  | 2, _ => exact rr_13_2
  | 3, _ => exact rr_13_3
  | 4, _ => exact rr_13_4
  | 5, _ => exact rr_13_5
  | 6, _ => exact rr_13_6
  | 7, _ => exact rr_13_7
  | 8, _ => exact rr_13_8
  | 9, _ => exact rr_13_9
  | 10, _ => exact rr_13_10
  | 11, _ => exact rr_13_11
  | 12, _ => exact rr_13_12
  | k + 13, hd => exact absurd hd (by omega)
theorem rr_14_0 : m_rows_that_rise [.int 14, .int 14] = .ok (.int 1) := by kernel_rfl
theorem rr_14_1 : m_rows_that_rise [.int 14, .int 13] = .ok (.int 169) := by kernel_rfl
theorem rr_14_2 : m_rows_that_rise [.int 14, .int 12] = .ok (.int 12013) := by kernel_rfl
theorem rr_14_3 : m_rows_that_rise [.int 14, .int 11] = .ok (.int 469925) := by kernel_rfl
theorem rr_14_4 : m_rows_that_rise [.int 14, .int 10] = .ok (.int 11110464) := by kernel_rfl
theorem rr_14_5 : m_rows_that_rise [.int 14, .int 9] = .ok (.int 164060352) := by kernel_rfl
theorem rr_14_6 : m_rows_that_rise [.int 14, .int 8] = .ok (.int 1508071384) := by kernel_rfl
theorem rr_14_7 : m_rows_that_rise [.int 14, .int 7] = .ok (.int 8312317976) := by kernel_rfl
theorem rr_14_8 : m_rows_that_rise [.int 14, .int 6] = .ok (.int 25191909848) := by kernel_rfl
theorem rr_14_9 : m_rows_that_rise [.int 14, .int 5] = .ok (.int 35098717902) := by kernel_rfl
theorem rr_14_10 : m_rows_that_rise [.int 14, .int 4] = .ok (.int 15743413076) := by kernel_rfl
theorem rr_14_11 : m_rows_that_rise [.int 14, .int 3] = .ok (.int 1145533650) := by kernel_rfl
theorem rr_14_12 : m_rows_that_rise [.int 14, .int 2] = .ok (.int 2674439) := by kernel_rfl
theorem rr_14_13 : m_rows_that_rise [.int 14, .int 1] = .ok (.int 1) := by kernel_rfl
theorem m_byTk_14 : m_by_takes [.int ((14 : Nat) : Int)] = .ok (lI (cTk 14)) := by
  refine byTk_gen 14 14 (by decide) (by decide) (cTk 14) (by rfl) fun d hd => ?_
  match d, hd with
  | 0, _ => exact rr_14_0
  | 1, _ => exact rr_14_1
  | 2, _ => exact rr_14_2
  | 3, _ => exact rr_14_3
  | 4, _ => exact rr_14_4
  | 5, _ => exact rr_14_5
  | 6, _ => exact rr_14_6
  | 7, _ => exact rr_14_7
  | 8, _ => exact rr_14_8
  | 9, _ => exact rr_14_9
  | 10, _ => exact rr_14_10
  | 11, _ => exact rr_14_11
  | 12, _ => exact rr_14_12
  | 13, _ => exact rr_14_13
  | k + 14, hd => exact absurd hd (by omega)
theorem rr_15_0 : m_rows_that_rise [.int 15, .int 15] = .ok (.int 1) := by kernel_rfl
theorem rr_15_1 : m_rows_that_rise [.int 15, .int 14] = .ok (.int 196) := by kernel_rfl
theorem rr_15_2 : m_rows_that_rise [.int 15, .int 13] = .ok (.int 16381) := by kernel_rfl
theorem rr_15_3 : m_rows_that_rise [.int 15, .int 12] = .ok (.int 766221) := by kernel_rfl
theorem rr_15_4 : m_rows_that_rise [.int 15, .int 11] = .ok (.int 22128576) := by kernel_rfl
theorem rr_15_5 : m_rows_that_rise [.int 15, .int 10] = .ok (.int 410474625) := by kernel_rfl
theorem rr_15_6 : m_rows_that_rise [.int 15, .int 9] = .ok (.int 4927007100) := by kernel_rfl
theorem rr_15_7 : m_rows_that_rise [.int 15, .int 8] = .ok (.int 37558353900) := by kernel_rfl
theorem rr_15_8 : m_rows_that_rise [.int 15, .int 7] = .ok (.int 172912977525) := by kernel_rfl
theorem rr_15_9 : m_rows_that_rise [.int 15, .int 6] = .ok (.int 434119587475) := by kernel_rfl
theorem rr_15_10 : m_rows_that_rise [.int 15, .int 5] = .ok (.int 485534447114) := by kernel_rfl
theorem rr_15_11 : m_rows_that_rise [.int 15, .int 4] = .ok (.int 164161815768) := by kernel_rfl
theorem rr_15_12 : m_rows_that_rise [.int 15, .int 3] = .ok (.int 8017098273) := by kernel_rfl
theorem rr_15_13 : m_rows_that_rise [.int 15, .int 2] = .ok (.int 9694844) := by kernel_rfl
theorem rr_15_14 : m_rows_that_rise [.int 15, .int 1] = .ok (.int 1) := by kernel_rfl
theorem m_byTk_15 : m_by_takes [.int ((15 : Nat) : Int)] = .ok (lI (cTk 15)) := by
  refine byTk_gen 15 15 (by decide) (by decide) (cTk 15) (by rfl) fun d hd => ?_
  match d, hd with
  | 0, _ => exact rr_15_0
  | 1, _ => exact rr_15_1
  | 2, _ => exact rr_15_2
  | 3, _ => exact rr_15_3
  | 4, _ => exact rr_15_4
  | 5, _ => exact rr_15_5
  | 6, _ => exact rr_15_6
  | 7, _ => exact rr_15_7
  | 8, _ => exact rr_15_8
  | 9, _ => exact rr_15_9
  | 10, _ => exact rr_15_10
  | 11, _ => exact rr_15_11
  | 12, _ => exact rr_15_12
  | 13, _ => exact rr_15_13
  | 14, _ => exact rr_15_14
  | k + 15, hd => exact absurd hd (by omega)
theorem rr_16_0 : m_rows_that_rise [.int 16, .int 16] = .ok (.int 1) := by kernel_rfl
theorem rr_16_1 : m_rows_that_rise [.int 16, .int 15] = .ok (.int 225) := by kernel_rfl
theorem rr_16_2 : m_rows_that_rise [.int 16, .int 14] = .ok (.int 21841) := by kernel_rfl
theorem rr_16_3 : m_rows_that_rise [.int 16, .int 13] = .ok (.int 1203441) := by kernel_rfl
theorem rr_16_4 : m_rows_that_rise [.int 16, .int 12] = .ok (.int 41662441) := by kernel_rfl
theorem rr_16_5 : m_rows_that_rise [.int 16, .int 11] = .ok (.int 947236425) := by kernel_rfl
theorem rr_16_6 : m_rows_that_rise [.int 16, .int 10] = .ok (.int 14353045401) := by kernel_rfl
theorem rr_16_7 : m_rows_that_rise [.int 16, .int 9] = .ok (.int 143938455225) := by kernel_rfl
theorem rr_16_8 : m_rows_that_rise [.int 16, .int 8] = .ok (.int 927716186325) := by kernel_rfl
theorem rr_16_9 : m_rows_that_rise [.int 16, .int 7] = .ok (.int 3615907795025) := by kernel_rfl
theorem rr_16_10 : m_rows_that_rise [.int 16, .int 6] = .ok (.int 7583461369373) := by kernel_rfl
theorem rr_16_11 : m_rows_that_rise [.int 16, .int 5] = .ok (.int 6835409506841) := by kernel_rfl
theorem rr_16_12 : m_rows_that_rise [.int 16, .int 4] = .ok (.int 1744049683213) := by kernel_rfl
theorem rr_16_13 : m_rows_that_rise [.int 16, .int 3] = .ok (.int 56928364553) := by kernel_rfl
theorem rr_16_14 : m_rows_that_rise [.int 16, .int 2] = .ok (.int 35357669) := by kernel_rfl
theorem rr_16_15 : m_rows_that_rise [.int 16, .int 1] = .ok (.int 1) := by kernel_rfl
theorem m_byTk_16 : m_by_takes [.int ((16 : Nat) : Int)] = .ok (lI (cTk 16)) := by
  refine byTk_gen 16 16 (by decide) (by decide) (cTk 16) (by rfl) fun d hd => ?_
  match d, hd with
  | 0, _ => exact rr_16_0
  | 1, _ => exact rr_16_1
  | 2, _ => exact rr_16_2
  | 3, _ => exact rr_16_3
  | 4, _ => exact rr_16_4
  | 5, _ => exact rr_16_5
  | 6, _ => exact rr_16_6
  | 7, _ => exact rr_16_7
  | 8, _ => exact rr_16_8
  | 9, _ => exact rr_16_9
  | 10, _ => exact rr_16_10
  | 11, _ => exact rr_16_11
  | 12, _ => exact rr_16_12
  | 13, _ => exact rr_16_13
  | 14, _ => exact rr_16_14
  | 15, _ => exact rr_16_15
  | k + 16, hd => exact absurd hd (by omega)
theorem rr_17_0 : m_rows_that_rise [.int 17, .int 17] = .ok (.int 1) := by kernel_rfl
theorem rr_17_1 : m_rows_that_rise [.int 17, .int 16] = .ok (.int 256) := by kernel_rfl
theorem rr_17_2 : m_rows_that_rise [.int 17, .int 15] = .ok (.int 28561) := by kernel_rfl
theorem rr_17_3 : m_rows_that_rise [.int 17, .int 14] = .ok (.int 1830561) := by kernel_rfl
theorem rr_17_4 : m_rows_that_rise [.int 17, .int 13] = .ok (.int 74797417) := by kernel_rfl
theorem rr_17_5 : m_rows_that_rise [.int 17, .int 12] = .ok (.int 2043822961) := by kernel_rfl
theorem rr_17_6 : m_rows_that_rise [.int 17, .int 11] = .ok (.int 38094121561) := by kernel_rfl
theorem rr_17_7 : m_rows_that_rise [.int 17, .int 10] = .ok (.int 484748595081) := by kernel_rfl
theorem rr_17_8 : m_rows_that_rise [.int 17, .int 9] = .ok (.int 4142847526101) := by kernel_rfl
theorem rr_17_9 : m_rows_that_rise [.int 17, .int 8] = .ok (.int 22904111472825) := by kernel_rfl
theorem rr_17_10 : m_rows_that_rise [.int 17, .int 7] = .ok (.int 76340522760097) := by kernel_rfl
theorem rr_17_11 : m_rows_that_rise [.int 17, .int 6] = .ok (.int 134533482045389) := by kernel_rfl
theorem rr_17_12 : m_rows_that_rise [.int 17, .int 5] = .ok (.int 97966603326993) := by kernel_rfl
theorem rr_17_13 : m_rows_that_rise [.int 17, .int 4] = .ok (.int 18865209953045) := by kernel_rfl
theorem rr_17_14 : m_rows_that_rise [.int 17, .int 3] = .ok (.int 409558170361) := by kernel_rfl
theorem rr_17_15 : m_rows_that_rise [.int 17, .int 2] = .ok (.int 129644789) := by kernel_rfl
theorem rr_17_16 : m_rows_that_rise [.int 17, .int 1] = .ok (.int 1) := by kernel_rfl
theorem m_byTk_17 : m_by_takes [.int ((17 : Nat) : Int)] = .ok (lI (cTk 17)) := by
  refine byTk_gen 17 17 (by decide) (by decide) (cTk 17) (by rfl) fun d hd => ?_
  match d, hd with
  | 0, _ => exact rr_17_0
  | 1, _ => exact rr_17_1
  | 2, _ => exact rr_17_2
  | 3, _ => exact rr_17_3
  | 4, _ => exact rr_17_4
  | 5, _ => exact rr_17_5
  | 6, _ => exact rr_17_6
  | 7, _ => exact rr_17_7
  | 8, _ => exact rr_17_8
  | 9, _ => exact rr_17_9
  | 10, _ => exact rr_17_10
  | 11, _ => exact rr_17_11
  | 12, _ => exact rr_17_12
  | 13, _ => exact rr_17_13
  | 14, _ => exact rr_17_14
  | 15, _ => exact rr_17_15
  | 16, _ => exact rr_17_16
  | k + 17, hd => exact absurd hd (by omega)
theorem rr_18_0 : m_rows_that_rise [.int 18, .int 18] = .ok (.int 1) := by kernel_rfl
theorem rr_18_1 : m_rows_that_rise [.int 18, .int 17] = .ok (.int 289) := by kernel_rfl
theorem rr_18_2 : m_rows_that_rise [.int 18, .int 16] = .ok (.int 36721) := by kernel_rfl
theorem rr_18_3 : m_rows_that_rise [.int 18, .int 15] = .ok (.int 2708305) := by kernel_rfl
theorem rr_18_4 : m_rows_that_rise [.int 18, .int 14] = .ok (.int 128922442) := by kernel_rfl
theorem rr_18_5 : m_rows_that_rise [.int 18, .int 13] = .ok (.int 4166173834) := by kernel_rfl
theorem rr_18_6 : m_rows_that_rise [.int 18, .int 12] = .ok (.int 93574631242) := by kernel_rfl
theorem rr_18_7 : m_rows_that_rise [.int 18, .int 11] = .ok (.int 1470147102730) := by kernel_rfl
theorem rr_18_8 : m_rows_that_rise [.int 18, .int 10] = .ok (.int 16029615164446) := by kernel_rfl
theorem rr_18_9 : m_rows_that_rise [.int 18, .int 9] = .ok (.int 118504614869214) := by kernel_rfl
theorem rr_18_10 : m_rows_that_rise [.int 18, .int 8] = .ok (.int 568209449266202) := by kernel_rfl
theorem rr_18_11 : m_rows_that_rise [.int 18, .int 7] = .ok (.int 1631788075873114) := by kernel_rfl
theorem rr_18_12 : m_rows_that_rise [.int 18, .int 6] = .ok (.int 2426299018270338) := by kernel_rfl
theorem rr_18_13 : m_rows_that_rise [.int 18, .int 5] = .ok (.int 1429401763567226) := by kernel_rfl
theorem rr_18_14 : m_rows_that_rise [.int 18, .int 4] = .ok (.int 207591285198178) := by kernel_rfl
theorem rr_18_15 : m_rows_that_rise [.int 18, .int 3] = .ok (.int 2981386305018) := by kernel_rfl
theorem rr_18_16 : m_rows_that_rise [.int 18, .int 2] = .ok (.int 477638699) := by kernel_rfl
theorem rr_18_17 : m_rows_that_rise [.int 18, .int 1] = .ok (.int 1) := by kernel_rfl
theorem m_byTk_18 : m_by_takes [.int ((18 : Nat) : Int)] = .ok (lI (cTk 18)) := by
  refine byTk_gen 18 18 (by decide) (by decide) (cTk 18) (by rfl) fun d hd => ?_
  match d, hd with
  | 0, _ => exact rr_18_0
  | 1, _ => exact rr_18_1
  | 2, _ => exact rr_18_2
  | 3, _ => exact rr_18_3
  | 4, _ => exact rr_18_4
  | 5, _ => exact rr_18_5
  | 6, _ => exact rr_18_6
  | 7, _ => exact rr_18_7
  | 8, _ => exact rr_18_8
  | 9, _ => exact rr_18_9
  | 10, _ => exact rr_18_10
  | 11, _ => exact rr_18_11
  | 12, _ => exact rr_18_12
  | 13, _ => exact rr_18_13
  | 14, _ => exact rr_18_14
  | 15, _ => exact rr_18_15
  | 16, _ => exact rr_18_16
  | 17, _ => exact rr_18_17
  | k + 18, hd => exact absurd hd (by omega)
theorem rr_19_0 : m_rows_that_rise [.int 19, .int 19] = .ok (.int 1) := by kernel_rfl
theorem rr_19_1 : m_rows_that_rise [.int 19, .int 18] = .ok (.int 324) := by kernel_rfl
theorem rr_19_2 : m_rows_that_rise [.int 19, .int 17] = .ok (.int 46513) := by kernel_rfl
theorem rr_19_3 : m_rows_that_rise [.int 19, .int 16] = .ok (.int 3910885) := by kernel_rfl
theorem rr_19_4 : m_rows_that_rise [.int 19, .int 15] = .ok (.int 214496074) := by kernel_rfl
theorem rr_19_5 : m_rows_that_rise [.int 19, .int 14] = .ok (.int 8088065845) := by kernel_rfl
theorem rr_19_6 : m_rows_that_rise [.int 19, .int 13] = .ok (.int 215285274766) := by kernel_rfl
theorem rr_19_7 : m_rows_that_rise [.int 19, .int 12] = .ok (.int 4087226730670) := by kernel_rfl
theorem rr_19_8 : m_rows_that_rise [.int 19, .int 11] = .ok (.int 55235843005474) := by kernel_rfl
theorem rr_19_9 : m_rows_that_rise [.int 19, .int 10] = .ok (.int 523952747921310) := by kernel_rfl
theorem rr_19_10 : m_rows_that_rise [.int 19, .int 9] = .ok (.int 3389618010035458) := by kernel_rfl
theorem rr_19_11 : m_rows_that_rise [.int 19, .int 8] = .ok (.int 14216730315766814) := by kernel_rfl
theorem rr_19_12 : m_rows_that_rise [.int 19, .int 7] = .ok (.int 35378058306185002) := by kernel_rfl
theorem rr_19_13 : m_rows_that_rise [.int 19, .int 6] = .ok (.int 44506885647682026) := by kernel_rfl
theorem rr_19_14 : m_rows_that_rise [.int 19, .int 5] = .ok (.int 21226755241285022) := by kernel_rfl
theorem rr_19_15 : m_rows_that_rise [.int 19, .int 4] = .ok (.int 2321616416280982) := by kernel_rfl
theorem rr_19_16 : m_rows_that_rise [.int 19, .int 3] = .ok (.int 21935294881644) := by kernel_rfl
theorem rr_19_17 : m_rows_that_rise [.int 19, .int 2] = .ok (.int 1767263189) := by kernel_rfl
theorem rr_19_18 : m_rows_that_rise [.int 19, .int 1] = .ok (.int 1) := by kernel_rfl
theorem m_byTk_19 : m_by_takes [.int ((19 : Nat) : Int)] = .ok (lI (cTk 19)) := by
  refine byTk_gen 19 19 (by decide) (by decide) (cTk 19) (by rfl) fun d hd => ?_
  match d, hd with
  | 0, _ => exact rr_19_0
  | 1, _ => exact rr_19_1
  | 2, _ => exact rr_19_2
  | 3, _ => exact rr_19_3
  | 4, _ => exact rr_19_4
  | 5, _ => exact rr_19_5
  | 6, _ => exact rr_19_6
  | 7, _ => exact rr_19_7
  | 8, _ => exact rr_19_8
  | 9, _ => exact rr_19_9
  | 10, _ => exact rr_19_10
  | 11, _ => exact rr_19_11
  | 12, _ => exact rr_19_12
  | 13, _ => exact rr_19_13
  | 14, _ => exact rr_19_14
  | 15, _ => exact rr_19_15
  | 16, _ => exact rr_19_16
  | 17, _ => exact rr_19_17
  | 18, _ => exact rr_19_18
  | k + 19, hd => exact absurd hd (by omega)
theorem rr_20_0 : m_rows_that_rise [.int 20, .int 20] = .ok (.int 1) := by kernel_rfl
theorem rr_20_1 : m_rows_that_rise [.int 20, .int 19] = .ok (.int 361) := by kernel_rfl
theorem rr_20_2 : m_rows_that_rise [.int 20, .int 18] = .ok (.int 58141) := by kernel_rfl
theorem rr_20_3 : m_rows_that_rise [.int 20, .int 17] = .ok (.int 5527861) := by kernel_rfl
theorem rr_20_4 : m_rows_that_rise [.int 20, .int 16] = .ok (.int 345989051) := by kernel_rfl
theorem rr_20_5 : m_rows_that_rise [.int 20, .int 15] = .ok (.int 15050633363) := by kernel_rfl
theorem rr_20_6 : m_rows_that_rise [.int 20, .int 14] = .ok (.int 468217205543) := by kernel_rfl
theorem rr_20_7 : m_rows_that_rise [.int 20, .int 13] = .ok (.int 10556881208783) := by kernel_rfl
theorem rr_20_8 : m_rows_that_rise [.int 20, .int 12] = .ok (.int 172898075436668) := by kernel_rfl
theorem rr_20_9 : m_rows_that_rise [.int 20, .int 11] = .ok (.int 2041043061768988) := by kernel_rfl
theorem rr_20_10 : m_rows_that_rise [.int 20, .int 10] = .ok (.int 17044414451764396) := by kernel_rfl
theorem rr_20_11 : m_rows_that_rise [.int 20, .int 9] = .ok (.int 97376389179852540) := by kernel_rfl
theorem rr_20_12 : m_rows_that_rise [.int 20, .int 8] = .ok (.int 359666061054003144) := by kernel_rfl
theorem rr_20_13 : m_rows_that_rise [.int 20, .int 7] = .ok (.int 778860477345867008) := by kernel_rfl
theorem rr_20_14 : m_rows_that_rise [.int 20, .int 6] = .ok (.int 830512607486659272) := by kernel_rfl
theorem rr_20_15 : m_rows_that_rise [.int 20, .int 5] = .ok (.int 320692032888290224) := by kernel_rfl
theorem rr_20_16 : m_rows_that_rise [.int 20, .int 4] = .ok (.int 26362085777156567) := by kernel_rfl
theorem rr_20_17 : m_rows_that_rise [.int 20, .int 3] = .ok (.int 162951791097669) := by kernel_rfl
theorem rr_20_18 : m_rows_that_rise [.int 20, .int 2] = .ok (.int 6564120419) := by kernel_rfl
theorem rr_20_19 : m_rows_that_rise [.int 20, .int 1] = .ok (.int 1) := by kernel_rfl
theorem m_byTk_20 : m_by_takes [.int ((20 : Nat) : Int)] = .ok (lI (cTk 20)) := by
  refine byTk_gen 20 20 (by decide) (by decide) (cTk 20) (by rfl) fun d hd => ?_
  match d, hd with
  | 0, _ => exact rr_20_0
  | 1, _ => exact rr_20_1
  | 2, _ => exact rr_20_2
  | 3, _ => exact rr_20_3
  | 4, _ => exact rr_20_4
  | 5, _ => exact rr_20_5
  | 6, _ => exact rr_20_6
  | 7, _ => exact rr_20_7
  | 8, _ => exact rr_20_8
  | 9, _ => exact rr_20_9
  | 10, _ => exact rr_20_10
  | 11, _ => exact rr_20_11
  | 12, _ => exact rr_20_12
  | 13, _ => exact rr_20_13
  | 14, _ => exact rr_20_14
  | 15, _ => exact rr_20_15
  | 16, _ => exact rr_20_16
  | 17, _ => exact rr_20_17
  | 18, _ => exact rr_20_18
  | 19, _ => exact rr_20_19
  | k + 20, hd => exact absurd hd (by omega)
theorem m_byTk (n : Nat) (h : n < 21) : m_by_takes [.int (n : Int)] = .ok (lI (cTk n)) := by
  match n, h with
  | 0, _ => exact m_byTk_0
  | 1, _ => exact m_byTk_1
  | 2, _ => exact m_byTk_2
  | 3, _ => exact m_byTk_3
  | 4, _ => exact m_byTk_4
  | 5, _ => exact m_byTk_5
  | 6, _ => exact m_byTk_6
  | 7, _ => exact m_byTk_7
  | 8, _ => exact m_byTk_8
  | 9, _ => exact m_byTk_9
  | 10, _ => exact m_byTk_10
  | 11, _ => exact m_byTk_11
  | 12, _ => exact m_byTk_12
  | 13, _ => exact m_byTk_13
  | 14, _ => exact m_byTk_14
  | 15, _ => exact m_byTk_15
  | 16, _ => exact m_byTk_16
  | 17, _ => exact m_byTk_17
  | 18, _ => exact m_byTk_18
  | 19, _ => exact m_byTk_19
  | 20, _ => exact m_byTk_20
  | k + 21, h => exact absurd h (by omega)
def hmZ (l : List Int) (d : Int) : Int := if 0 ≤ d ∧ d < l.length then (atZ l d).getD 0 else 0
theorem hm_gen {K x : Str} {ff : List PyData → Re PyData} {l : List Int} {n : Nat} (hn : n < 21) (t1 : tabIn tab_COUNTS true (.str K) = some (.bool false)) (t2 : tabGet tab_COUNTS (.str K) = some (fnD x))
    (t3 : ([("by_swaps", m_by_swaps), ("by_nexts", m_by_nexts), ("by_takes", m_by_takes), ("by_blocks", m_by_blocks)] : List (Str × (List PyData → Re PyData))).lookup x = some ff) (e : ff [.int (n : Int)] = .ok (lI l)) (d : Int) :
    m_how_many [.str K, .int (n : Int), .int d] = .ok (.int (hmZ l d)) := by
  unfold m_how_many
  rw [run3]
  unfold s_how_many
  refine go (ρ' := [some (.str K), some (.int (n : Int)), some (.int d), none, none]) (by simp [t1]) ?_
  refine go (ρ' := [some (.str K), some (.int (n : Int)), some (.int d), none, none]) (by
    have a1 : ((n : Int) ≤ 20) = True := by simp; omega
    have a2 : ((0 : Int) ≤ (n : Int)) = True := by simp
    simp [a1, a2]) ?_
  refine go (ρ' := [some (.str K), some (.int (n : Int)), some (.int d), some (fnD x), none]) (by simp [t2]) ?_
  refine go (ρ' := [some (.str K), some (.int (n : Int)), some (.int d), some (fnD x), some (lI l)]) (by
    have q := ap_callV (tbl := [("by_swaps", m_by_swaps), ("by_nexts", m_by_nexts), ("by_takes", m_by_takes), ("by_blocks", m_by_blocks)]) (f := rVar 3) (gs := aCons (rVar 1) aNil) (ρ := [some (.str K), some (.int (n : Int)), some (.int d), some (fnD x), none]) (x := x) (ff := ff) (ds := [.int (n : Int)]) (by rfl) t3 (by rfl)
    rw [e] at q
    simp [q, noEx]) ?_
  unfold hmZ
  by_cases c1 : 0 ≤ d
  · by_cases c2 : d < l.length
    · obtain ⟨y, y1, y2⟩ := atZ_p (ns := l) c1 (by omega)
      simp [c1, c2, y1]
    · simp [c1, c2]
  · simp [c1]
def cnt : Nat → Nat → List Int
  | 0 => cSw
  | 1 => cNx
  | 2 => cTk
  | _ => cBl
theorem m_hm (kd : Nat) {n : Nat} (hn : n < 21) (d : Int) : m_how_many [.str (kS kd), .int (n : Int), .int d] = .ok (.int (hmZ (cnt kd n) d)) := by
  match kd with
  | 0 => exact hm_gen (x := "by_swaps") hn (by kernel_rfl) (by kernel_rfl) (by rfl) (m_bySw n hn) d
  | 1 => exact hm_gen (x := "by_nexts") hn (by kernel_rfl) (by kernel_rfl) (by rfl) (m_byNx n hn) d
  | 2 => exact hm_gen (x := "by_takes") hn (by kernel_rfl) (by kernel_rfl) (by rfl) (m_byTk n hn) d
  | k + 3 => exact hm_gen (x := "by_blocks") hn (by kernel_rfl) (by kernel_rfl) (by rfl) (m_byBl n hn) d
theorem ref_ex {a b d : PyData} (e : m_how_many [a, b, d] = .ex "OutOfRange") : m__law_refused [a, b, d] = .ok (.bool true) := by
  unfold m__law_refused
  rw [run3]
  unfold s__law_refused
  rw [ap_sSeq, try_ex (ρ' := [some a, some b, some d]) (by simp [e])]
  simp
theorem ref_ok {a b d y : PyData} (e : m_how_many [a, b, d] = .ok y) : m__law_refused [a, b, d] = .ok (.bool false) := by
  unfold m__law_refused
  rw [run3]
  unfold s__law_refused
  rw [ap_sSeq, try_nx (ρ' := [some a, some b, some d]) (by simp [e])]
  simp
theorem m_ref_kind {K : Str} (t1 : tabIn tab_COUNTS true (.str K) = some (.bool true)) (z d : Int) : m__law_refused [.str K, .int z, .int d] = .ok (.bool true) := by
  have e : m_how_many [.str K, .int z, .int d] = .ex "OutOfRange" := by
    unfold m_how_many
    rw [run3]
    unfold s_how_many
    simp [t1]
  exact ref_ex e
theorem m_ref (kd : Nat) (z d : Int) : m__law_refused [.str (kS kd), .int z, .int d] = .ok (.bool (decide (z < 0 ∨ 20 < z))) := by
  by_cases c : z < 0 ∨ 20 < z
  · have e : m_how_many [.str (kS kd), .int z, .int d] = .ex "OutOfRange" := by
      have t1 : tabIn tab_COUNTS true (.str (kS kd)) = some (.bool false) := by
        match kd with
        | 0 => kernel_rfl
        | 1 => kernel_rfl
        | 2 => kernel_rfl
        | k + 3 => kernel_rfl
      unfold m_how_many
      rw [run3]
      unfold s_how_many
      refine go (ρ' := [some (.str (kS kd)), some (.int z), some (.int d), none, none]) (by simp [t1]) ?_
      by_cases c0 : 0 ≤ z
      · have c1 : ¬ z ≤ 20 := by omega
        simp [c0, c1]
      · simp [c0]
    rw [ref_ex e]
    simp [c]
  · obtain ⟨n, rfl⟩ : ∃ n : Nat, z = (n : Int) := ⟨z.toNat, by omega⟩
    have e := m_hm kd (n := n) (by omega) d
    rw [ref_ok e]
    simp only [c, decide_false]
theorem bSum_l (ns : List Int) : bSum [lI ns] = some (.int ns.sum) := by
  show (asInts (ns.map PyData.int)).map (fun ns => PyData.int ns.sum) = _
  rw [asInts_map]
  rfl
theorem m_int (z : Int) : m__law_is_integer [.int z] = .ok (.bool true) := by
  unfold m__law_is_integer
  rw [run1]
  unfold s__law_is_integer
  simp
def mostN : Nat → Nat → Nat
  | 1, n => n * (n - 1) / 2
  | _, n => n
def pad (kd n : Nat) : List Int := (upI 0 (mostN kd n + 1)).map (hmZ (cnt kd n))
def ok15 (kd n : Nat) : Bool := decide ((pad kd n).sum = (facN n : Nat)) && (pad kd n).all (fun z => decide (0 ≤ z)) && decide (atZ (pad kd n) 0 = some 1) && (kd != 1 || decide (pad kd n = (pad kd n).reverse)) && decide ((cnt kd n).length ≤ mostN kd n + 1)
theorem ok15_0 : (List.range 21).all (ok15 0) = true := by decide +kernel
theorem ok15_1 : (List.range 21).all (ok15 1) = true := by decide +kernel
theorem ok15_2 : (List.range 21).all (ok15 2) = true := by decide +kernel
theorem ok15_3 : (List.range 21).all (ok15 3) = true := by decide +kernel
theorem ok15_f (kd n : Nat) (hk : kd < 4) (hn : n < 21) : (pad kd n).sum = (facN n : Nat) ∧ (∀ z ∈ pad kd n, 0 ≤ z) ∧ atZ (pad kd n) 0 = some 1 ∧ (kd = 1 → pad kd n = (pad kd n).reverse) ∧ (cnt kd n).length ≤ mostN kd n + 1 := by
  have k : ok15 kd n = true := by
    match kd, hk with
    | 0, _ => exact List.all_eq_true.mp ok15_0 n (List.mem_range.mpr hn)
    | 1, _ => exact List.all_eq_true.mp ok15_1 n (List.mem_range.mpr hn)
    | 2, _ => exact List.all_eq_true.mp ok15_2 n (List.mem_range.mpr hn)
    | 3, _ => exact List.all_eq_true.mp ok15_3 n (List.mem_range.mpr hn)
  unfold ok15 at k
  simp only [Bool.and_eq_true, decide_eq_true_eq, List.all_eq_true, Bool.or_eq_true, bne_iff_ne, ne_eq] at k
  obtain ⟨⟨⟨⟨k1, k2⟩, k3⟩, k4⟩, k5⟩ := k
  exact ⟨k1, k2, k3, fun e => by rcases k4 with z | z; exact absurd e z; exact z, k5⟩
theorem ok20 (kd : Nat) (hk : kd < 4) : hmZ (cnt kd 20) 0 = 1 ∧ 0 < hmZ (cnt kd 20) 1 := by
  match kd, hk with
  | 0, _ => decide +kernel
  | 1, _ => decide +kernel
  | 2, _ => decide +kernel
  | 3, _ => decide +kernel
theorem hm_neg (l : List Int) (d : Int) (h : d < 0) : hmZ l d = 0 := by
  unfold hmZ
  rw [if_neg (by omega)]
theorem hm_past (l : List Int) (d : Int) (h : (l.length : Int) ≤ d) : hmZ l d = 0 := by
  unfold hmZ
  rw [if_neg (by omega)]
theorem lp (kd n : Nat) (hk : kd < 4) (hn : n < 5) (x0 x1 : Option PyData) : law_s3 [x0, x1, some (.str (kS kd)), some (.int (n : Int)), some (lI ((fnd kd n).map fun (x : Nat) => (x : Int))), none, none, none, none, none, none, none, none] = .nx [x0, x1, some (.str (kS kd)), some (.int (n : Int)), some (lI ((fnd kd n).map fun (x : Nat) => (x : Int))), some (.int 7), some (.int 0), none, none, none, none, none, none] := by
  match kd, n, hk, hn with
  | 0, 0, _, _ => kernel_rfl
  | 0, 1, _, _ => kernel_rfl
  | 0, 2, _, _ => kernel_rfl
  | 0, 3, _, _ => kernel_rfl
  | 0, 4, _, _ => kernel_rfl
  | 1, 0, _, _ => kernel_rfl
  | 1, 1, _, _ => kernel_rfl
  | 1, 2, _, _ => kernel_rfl
  | 1, 3, _, _ => kernel_rfl
  | 1, 4, _, _ => kernel_rfl
  | 2, 0, _, _ => kernel_rfl
  | 2, 1, _, _ => kernel_rfl
  | 2, 2, _, _ => kernel_rfl
  | 2, 3, _, _ => kernel_rfl
  | 2, 4, _, _ => kernel_rfl
  | 3, 0, _, _ => kernel_rfl
  | 3, 1, _, _ => kernel_rfl
  | 3, 2, _, _ => kernel_rfl
  | 3, 3, _, _ => kernel_rfl
  | 3, 4, _, _ => kernel_rfl
theorem m_prod (n : Nat) (h2 : n ≤ 42) (x0 x1 x2 x4 x5 x6 : Option PyData) : ∃ y5, law_s6 [x0, x1, x2, some (.int (n : Int)), x4, x5, x6, some (.int 1), none, none, none, none, none] = .nx [x0, x1, x2, some (.int (n : Int)), x4, y5, x6, some (.int (facN n : Nat)), none, none, none, none, none] := by
  obtain ⟨ρ', e, hI⟩ := loop_inv (g := gSlot 5) (body := law_s5)
    (fun k ρ => ∃ y5, ρ = [x0, x1, x2, some (.int (n : Int)), x4, y5, x6, some (.int (facN k : Nat)), none, none, none, none, none])
    ((upI 1 n).map PyData.int) 0 [x0, x1, x2, some (.int (n : Int)), x4, x5, x6, some (.int 1), none, none, none, none, none] ⟨x5, rfl⟩ (by
      rintro k d ρ hd ⟨y5, rfl⟩
      rw [Nat.zero_add]
      rw [List.getElem?_map] at hd
      obtain ⟨y, hy, rfl⟩ := Option.map_eq_some_iff.mp hd
      obtain ⟨rfl, hk⟩ := up_get hy
      have mu : oMul (.int (facN k : Nat)) (.int (1 + (k : Int))) = some (.int ((facN k : Nat) * (1 + (k : Int)))) := oMul_r (by omega)
      have e : ((facN (k + 1) : Nat) : Int) = (facN k : Nat) * (1 + (k : Int)) := by
        show (((k + 1) * facN k : Nat) : Int) = _
        rw [Int.natCast_mul, Int.mul_comm, show (((k + 1 : Nat)) : Int) = 1 + (k : Int) by omega]
      exact ⟨_, rfl, [x0, x1, x2, some (.int (n : Int)), x4, some (.int (1 + (k : Int))), x6, some (.int (facN (k + 1) : Nat)), none, none, none, none, none], by unfold law_s5; simp [mu, e], _, rfl⟩)
  obtain ⟨y5, rfl⟩ := hI
  rw [List.length_map, upI_length, Nat.zero_add] at e
  refine ⟨y5, ?_⟩
  unfold law_s6
  have it : iR2 (aCons (rC (.int 1)) (aCons (r2 oAdd (rVar 3) (rC (.int 1))) aNil)) [x0, x1, x2, some (.int (n : Int)), x4, x5, x6, some (.int 1), none, none, none, none, none] = .ok ((upI 1 n).map PyData.int) := by
    have er : rg2 [.int 1, .int ((n : Int) + 1)] = .ok ((upI 1 n).map PyData.int) := by
      rw [rg2_i (by omega) (by omega) (by omega) (by omega), show ((n : Int) + 1 - 1).toNat = n by omega]
    simp [er]
  rw [ap_sFor, it, stL_ok]
  exact e
theorem s4_ex (kd : Nat) (hk : kd < 4) (x0 x4 x5 x6 : Option PyData) (d0 d1 d2 d3 d4 d5 : Int) (h2 : 0 ≤ d2 ∧ d2 < 13) (h4 : 0 ≤ d4 ∧ d4 < 60) : ∃ N : Nat, N < 21 ∧ law_s4 [x0, some (lI [d0, d1, d2, d3, d4, d5]), some (.str (kS kd)), some (.int d2), x4, x5, x6, none, none, none, none, none, none] = .nx [x0, some (lI [d0, d1, d2, d3, d4, d5]), some (.str (kS kd)), some (.int (N : Int)), x4, x5, x6, none, none, none, none, none, none] := by
  have mo : oMod (.int d4) (.int 8) = some (.int (d4 % 8)) := oMod_p (by decide)
  obtain ⟨A, eA, hA⟩ : ∃ A : Nat, d2 = (A : Int) ∧ A < 21 := ⟨d2.toNat, by omega, by omega⟩
  obtain ⟨B, eB, hB⟩ : ∃ B : Nat, 13 + d4 % 8 = (B : Int) ∧ B < 21 := ⟨(13 + d4 % 8).toNat, by omega, by omega⟩
  have mk : mkL [PyData.str "swap", PyData.str "blocks"] = .ok (.list [PyData.str "swap", PyData.str "blocks"]) := by kernel_rfl
  have i0 : oIn false (PyData.str "swap") (.list [PyData.str "swap", PyData.str "blocks"]) = some (.bool true) := by kernel_rfl
  have i1 : oIn false (PyData.str "next") (.list [PyData.str "swap", PyData.str "blocks"]) = some (.bool false) := by kernel_rfl
  have i2 : oIn false (PyData.str "take") (.list [PyData.str "swap", PyData.str "blocks"]) = some (.bool false) := by kernel_rfl
  have i3 : oIn false (PyData.str "blocks") (.list [PyData.str "swap", PyData.str "blocks"]) = some (.bool true) := by kernel_rfl
  unfold law_s4
  by_cases c : d5 = 1
  · match kd, hk with
    | 0, _ => exact ⟨B, hB, by simp [c, mo, ← eB, kS, mk, i0]⟩
    | 1, _ => exact ⟨A, hA, by simp [c, mo, ← eA, kS, mk, i1]⟩
    | 2, _ => exact ⟨A, hA, by simp [c, mo, ← eA, kS, mk, i2]⟩
    | 3, _ => exact ⟨B, hB, by simp [c, mo, ← eB, kS, mk, i3]⟩
  · exact ⟨A, hA, by simp [c, ← eA]⟩
theorem k_ix (kd : Nat) (hk : kd < 4) (x0 : Option PyData) (l : List Int) (h : atZ l 0 = some (kd : Int)) : sSet 2 false (r2 oIx (rLst (aCons (rC (.str "swap")) (aCons (rC (.str "next")) (aCons (rC (.str "take")) (aCons (rC (.str "blocks")) aNil))))) (r2 oIx (rVar 1) (rC (.int 0)))) [x0, some (lI l), none, none, none, none, none, none, none, none, none, none, none] = .nx [x0, some (lI l), some (.str (kS kd)), none, none, none, none, none, none, none, none, none, none] := by
  have e : r2 oIx (rVar 1) (rC (.int 0)) [x0, some (lI l), none, none, none, none, none, none, none, none, none, none, none] = .ok (.int (kd : Int)) := by simp [h]
  have e2 : r2 oIx (rLst (aCons (rC (.str "swap")) (aCons (rC (.str "next")) (aCons (rC (.str "take")) (aCons (rC (.str "blocks")) aNil))))) (r2 oIx (rVar 1) (rC (.int 0))) [x0, some (lI l), none, none, none, none, none, none, none, none, none, none, none] = .ok (.str (kS kd)) := by
    rw [ap_2, e]
    match kd, hk with
    | 0, _ => kernel_rfl
    | 1, _ => kernel_rfl
    | 2, _ => kernel_rfl
    | 3, _ => kernel_rfl
  rw [ap_sSet, e2]
  rfl
theorem r_ix (kd : Nat) (hk : kd < 4) (ρ : Rho) (l : List Int) (hl : ρ[1]? = some (some (lI l))) (h : atZ l 0 = some (kd : Int)) : ∃ K : Str, tabIn tab_COUNTS true (.str K) = some (.bool true) ∧ r2 oIx (rLst (aCons (rC (.str "turn")) (aCons (rC (.str "")) (aCons (rC (.str "flip")) (aCons (rC (.str "recut")) aNil))))) (r2 oIx (rVar 1) (rC (.int 0))) ρ = .ok (.str K) := by
  have e : r2 oIx (rVar 1) (rC (.int 0)) ρ = .ok (.int (kd : Int)) := by simp [h, hl]
  rw [ap_2, e]
  match kd, hk with
  | 0, _ => exact ⟨"turn", by kernel_rfl, by kernel_rfl⟩
  | 1, _ => exact ⟨"", by kernel_rfl, by kernel_rfl⟩
  | 2, _ => exact ⟨"flip", by kernel_rfl, by kernel_rfl⟩
  | 3, _ => exact ⟨"recut", by kernel_rfl, by kernel_rfl⟩
theorem most_st (kd : Nat) (hk : kd < 4) {n : Nat} (hn : n < 21) (x0 x1 x4 x5 x6 x7 : Option PyData) : sSet 8 false (r2 oIx (rLst (aCons (rVar 3) (aCons (r2 oDiv (r2 oMul (rVar 3) (r2 oSub (rVar 3) (rC (.int 1)))) (rC (.int 2))) aNil))) (rB bInt (aCons (r2 oEq (rVar 2) (rC (.str "next"))) aNil))) [x0, x1, some (.str (kS kd)), some (.int (n : Int)), x4, x5, x6, x7, none, none, none, none, none] = .nx [x0, x1, some (.str (kS kd)), some (.int (n : Int)), x4, x5, x6, x7, some (.int (mostN kd n : Nat)), none, none, none, none] := by
  have key : (List.range 4).all (fun kd => (List.range 21).all fun n => match r2 oIx (rLst (aCons (rVar 3) (aCons (r2 oDiv (r2 oMul (rVar 3) (r2 oSub (rVar 3) (rC (.int 1)))) (rC (.int 2))) aNil))) (rB bInt (aCons (r2 oEq (rVar 2) (rC (.str "next"))) aNil)) [none, none, some (.str (kS kd)), some (.int (n : Int))] with | .ok (.int z) => decide (z = (mostN kd n : Nat)) | _ => false) = true := by kernel_rfl
  have k2 := List.all_eq_true.mp (List.all_eq_true.mp key kd (List.mem_range.mpr hk)) n (List.mem_range.mpr hn)
  have e : r2 oIx (rLst (aCons (rVar 3) (aCons (r2 oDiv (r2 oMul (rVar 3) (r2 oSub (rVar 3) (rC (.int 1)))) (rC (.int 2))) aNil))) (rB bInt (aCons (r2 oEq (rVar 2) (rC (.str "next"))) aNil)) [x0, x1, some (.str (kS kd)), some (.int (n : Int)), x4, x5, x6, x7, none, none, none, none, none] = r2 oIx (rLst (aCons (rVar 3) (aCons (r2 oDiv (r2 oMul (rVar 3) (r2 oSub (rVar 3) (rC (.int 1)))) (rC (.int 2))) aNil))) (rB bInt (aCons (r2 oEq (rVar 2) (rC (.str "next"))) aNil)) [none, none, some (.str (kS kd)), some (.int (n : Int))] := rfl
  rw [ap_sSet, e]
  revert k2
  cases r2 oIx (rLst (aCons (rVar 3) (aCons (r2 oDiv (r2 oMul (rVar 3) (r2 oSub (rVar 3) (rC (.int 1)))) (rC (.int 2))) aNil))) (rB bInt (aCons (r2 oEq (rVar 2) (rC (.str "next"))) aNil)) [none, none, some (.str (kS kd)), some (.int (n : Int))] with
  | ok d =>
    cases d with
    | int z => intro k2; rw [of_decide_eq_true k2]; rfl
    | _ => intro k2; exact absurd k2 (by simp)
  | _ => intro k2; exact absurd k2 (by simp)
theorem rows4_len (n : Nat) (h : n < 5) : (rows4 n).length ≤ 10000 := by
  match n, h with
  | 0, _ => decide +kernel
  | 1, _ => decide +kernel
  | 2, _ => decide +kernel
  | 3, _ => decide +kernel
  | 4, _ => decide +kernel
theorem kS_next (kd : Nat) (hk : kd < 4) : oEq (.str (kS kd)) (.str "next") = some (.bool (decide (kd = 1))) := by
  match kd, hk with
  | 0, _ => kernel_rfl
  | 1, _ => kernel_rfl
  | 2, _ => kernel_rfl
  | 3, _ => kernel_rfl
theorem law_true (ns : List Int) (_h : ns.length ≤ 63) : m_law [scrD ns] = .ok (.bool true) := by
  unfold m_law
  rw [run1]
  unfold s_law
  have eD := m_digits (richZ (cellZ ns 0)) [4, 5, 13, 204, 60, 8] (by decide) (by decide)
  have eC0 : m__law_cell [scrD ns, .int 0] = .ok (.int (cellZ ns 0)) := m_cell ns 0
  obtain ⟨d0, d1, d2, d3, d4, d5, hd, b0, b1, b2, b3, b4, b5⟩ : ∃ d0 d1 d2 d3 d4 d5 : Int, digZ (richZ (cellZ ns 0)) [4, 5, 13, 204, 60, 8] = [d0, d1, d2, d3, d4, d5] ∧ (0 ≤ d0 ∧ d0 < 4) ∧ (0 ≤ d1 ∧ d1 < 5) ∧ (0 ≤ d2 ∧ d2 < 13) ∧ (0 ≤ d3 ∧ d3 < 204) ∧ (0 ≤ d4 ∧ d4 < 60) ∧ (0 ≤ d5 ∧ d5 < 8) :=
    ⟨richZ (cellZ ns 0) % 4, richZ (cellZ ns 0) / 4 % 5, richZ (cellZ ns 0) / 4 / 5 % 13, richZ (cellZ ns 0) / 4 / 5 / 13 % 204, richZ (cellZ ns 0) / 4 / 5 / 13 / 204 % 60, richZ (cellZ ns 0) / 4 / 5 / 13 / 204 / 60 % 8, by simp [digZ], mod_b _ (by decide), mod_b _ (by decide), mod_b _ (by decide), mod_b _ (by decide), mod_b _ (by decide), mod_b _ (by decide)⟩
  rw [hd] at eD
  clear hd
  obtain ⟨kd, rfl⟩ : ∃ kd : Nat, d0 = (kd : Int) := ⟨d0.toNat, by omega⟩
  obtain ⟨n, rfl⟩ : ∃ n : Nat, d1 = (n : Int) := ⟨d1.toNat, by omega⟩
  have hk : kd < 4 := by omega
  have hn : n < 5 := by omega
  refine go (ρ' := [some (scrD ns), some (lI [(kd : Int), (n : Int), d2, d3, d4, d5]), none, none, none, none, none, none, none, none, none, none, none]) (by unfold law_s0; simp [eC0, m_rich, eD]) ?_
  refine go (k_ix kd hk _ _ (by rfl)) ?_
  refine go (ρ' := [some (scrD ns), some (lI [(kd : Int), (n : Int), d2, d3, d4, d5]), some (.str (kS kd)), some (.int (n : Int)), none, none, none, none, none, none, none, none, none]) (by simp) ?_
  have so := m_sorted_n n (by omega)
  have mr := m_rows n hn
  refine go (ρ' := [some (scrD ns), some (lI [(kd : Int), (n : Int), d2, d3, d4, d5]), some (.str (kS kd)), some (.int (n : Int)), some (lI ((fnd kd n).map fun (x : Nat) => (x : Int))), none, none, none, none, none, none, none, none]) ?_ ?_
  · have e := lc_a (its := iOf itS (rCall m__law_rows (aCons (rVar 3) aNil))) (v := 11) (f := rCall m_least (aCons (rVar 2) (aCons (rVar 11) (aCons (rCall m_sorted_row (aCons (rVar 3) aNil)) aNil)))) (ρ := [some (scrD ns), some (lI [(kd : Int), (n : Int), d2, d3, d4, d5]), some (.str (kS kd)), some (.int (n : Int)), none, none, none, none, none, none, none, none, none]) (as := rows4 n) (e := tI) (h := fun r => ((lsK kd n r : Nat) : Int)) (by simp [mr]) (rows4_len n hn) (fun r hr => by
          have el := m_leastK kd (rows4_perm n hn r hr) (by omega)
          simp [so, el])
    rw [show (rows4 n).map (fun r => ((lsK kd n r : Nat) : Int)) = (fnd kd n).map fun (x : Nat) => (x : Int) by rw [← fnd_eq kd n hk hn, List.map_map]; rfl] at e
    rw [ap_sSet, e]
    rfl
  refine go (lp kd n hk hn _ _) ?_
  refine go (ρ' := [some (scrD ns), some (lI [(kd : Int), (n : Int), d2, d3, d4, d5]), some (.str (kS kd)), some (.int d2), some (lI ((fnd kd n).map fun (x : Nat) => (x : Int))), some (.int 7), some (.int 0), none, none, none, none, none, none]) (by simp) ?_
  generalize some (lI ((fnd kd n).map fun (x : Nat) => (x : Int))) = x4
  obtain ⟨N, hN, e4⟩ := s4_ex kd hk (some (scrD ns)) x4 (some (.int 7)) (some (.int 0)) (kd : Int) (n : Int) d2 d3 d4 d5 b2 b4
  refine go e4 ?_
  refine go (ρ' := [some (scrD ns), some (lI [(kd : Int), (n : Int), d2, d3, d4, d5]), some (.str (kS kd)), some (.int (N : Int)), x4, some (.int 7), some (.int 0), some (.int 1), none, none, none, none, none]) (by simp) ?_
  obtain ⟨x5, e6⟩ := m_prod N (by omega) (some (scrD ns)) (some (lI [(kd : Int), (n : Int), d2, d3, d4, d5])) (some (.str (kS kd))) x4 (some (.int 7)) (some (.int 0))
  refine go e6 ?_
  refine go (most_st kd hk hN _ _ _ _ _ _) ?_
  obtain ⟨o1, o2, o3, o4, o5⟩ := ok15_f kd N hk hN
  obtain ⟨t1, t2⟩ := ok20 kd hk
  have hm : ∀ d : Int, m_how_many [.str (kS kd), .int (N : Int), .int d] = .ok (.int (hmZ (cnt kd N) d)) := fun d => m_hm kd hN d
  have hm20 : ∀ d : Int, m_how_many [.str (kS kd), .int 20, .int d] = .ok (.int (hmZ (cnt kd 20) d)) := fun d => m_hm kd (n := 20) (by omega) d
  have mM : mostN kd N ≤ 400 := by
    have hh : (List.range 4).all (fun kd => (List.range 21).all fun n => decide (mostN kd n ≤ 400)) = true := by decide +kernel
    exact of_decide_eq_true (List.all_eq_true.mp (List.all_eq_true.mp hh kd (List.mem_range.mpr hk)) N (List.mem_range.mpr hN))
  generalize eM : mostN kd N = M at *
  have eP : pad kd N = (upI 0 (M + 1)).map (hmZ (cnt kd N)) := by unfold pad; rw [eM]
  refine go (ρ' := [some (scrD ns), some (lI [(kd : Int), (n : Int), d2, d3, d4, d5]), some (.str (kS kd)), some (.int (N : Int)), x4, x5, some (.int 0), some (.int (facN N : Nat)), some (.int (M : Int)), some (lI (pad kd N)), none, none, none]) ?_ ?_
  · have e := lc_i (its := iR1 (aCons (r2 oAdd (rVar 8) (rC (.int 1))) aNil)) (v := 5) (f := rCall m_how_many (aCons (rVar 2) (aCons (rVar 3) (aCons (rVar 5) aNil)))) (ρ := [some (scrD ns), some (lI [(kd : Int), (n : Int), d2, d3, d4, d5]), some (.str (kS kd)), some (.int (N : Int)), x4, x5, some (.int 0), some (.int (facN N : Nat)), some (.int (M : Int)), none, none, none, none]) (ns := upI 0 (M + 1)) (h := hmZ (cnt kd N)) (by
        have er : rg1 [.int ((M : Int) + 1)] = .ok ((upI 0 (M + 1)).map PyData.int) := by
          have := rg1_n (show M + 1 < 2 ^ 62 by omega)
          rw [Int.natCast_add] at this
          exact this
        simp [er]) (by rw [upI_length]; omega) (fun k _ => by simp [hm])
    rw [← eP] at e
    rw [ap_sSet, e]
    rfl
  have c1 := hm_neg (cnt kd N) (-1 - d3) (by omega)
  have c2 := hm_past (cnt kd N) ((M : Int) + 1 + d3) (by omega)
  have pne : pad kd N ≠ [] := by
    intro z
    rw [z] at o3
    cases o3
  have mn := bMin_l pne
  have mnp : ¬ mnZ (pad kd N) < 0 := by
    have := o2 _ (mnZ_in pne).1
    omega
  have oe := kS_next kd hk
  generalize pad kd N = P at *
  refine go (ρ' := [some (scrD ns), some (lI [(kd : Int), (n : Int), d2, d3, d4, d5]), some (.str (kS kd)), some (.int (N : Int)), x4, x5, some (.int 0), some (.int (facN N : Nat)), some (.int (M : Int)), some (lI P), none, none, none]) (by
    unfold law_s7
    simp [bSum_l, o1, mn, mnp, o3, hm, c1]) ?_
  refine go (ρ' := [some (scrD ns), some (lI [(kd : Int), (n : Int), d2, d3, d4, d5]), some (.str (kS kd)), some (.int (N : Int)), x4, x5, some (.int 0), some (.int (facN N : Nat)), some (.int (M : Int)), some (lI P), none, none, none]) (by
    unfold law_s8
    by_cases c : kd = 1
    · have r := o4 c
      have oe2 := oe
      rw [decide_eq_true c] at oe2
      simp [hm, c2, oe2, ← r]
    · have oe2 := oe
      rw [decide_eq_false c] at oe2
      simp [hm, c2, oe2]) ?_
  refine go (ρ' := [some (scrD ns), some (lI [(kd : Int), (n : Int), d2, d3, d4, d5]), some (.str (kS kd)), some (.int (N : Int)), x4, x5, some (.int 0), some (.int (facN N : Nat)), some (.int (M : Int)), some (lI P), none, none, none]) (by
    unfold law_s9
    have : ¬ hmZ (cnt kd 20) 1 ≤ 0 := by omega
    simp [hm20, t1, this]) ?_
  refine go (ρ' := [some (scrD ns), some (lI [(kd : Int), (n : Int), d2, d3, d4, d5]), some (.str (kS kd)), some (.int (N : Int)), x4, x5, some (.int 0), some (.int (facN N : Nat)), some (.int (M : Int)), some (lI P), some (.int (d4 - 20)), none, none]) (by simp) ?_
  refine go (ρ' := [some (scrD ns), some (lI [(kd : Int), (n : Int), d2, d3, d4, d5]), some (.str (kS kd)), some (.int (N : Int)), x4, x5, some (.int 0), some (.int (facN N : Nat)), some (.int (M : Int)), some (lI P), some (.int (d4 - 20)), none, none]) (by
    unfold law_s10
    have mr := m_ref kd (d4 - 20) (d3 - 3)
    by_cases q1 : d4 - 20 < 0
    · simp [mr, q1]
    · by_cases q2 : 20 < d4 - 20
      · simp [mr, q1, q2]
      · simp [mr, q1, q2]) ?_
  obtain ⟨K, k1, k2⟩ := r_ix kd hk [some (scrD ns), some (lI [(kd : Int), (n : Int), d2, d3, d4, d5]), some (.str (kS kd)), some (.int (N : Int)), x4, x5, some (.int 0), some (.int (facN N : Nat)), some (.int (M : Int)), some (lI P), some (.int (d4 - 20)), none, none] [(kd : Int), (n : Int), d2, d3, d4, d5] (by rfl) (by rfl)
  have k3 := m_ref_kind k1 (N : Int) 0
  unfold law_s11
  have k4 : rCall m__law_refused (aCons (r2 oIx (rLst (aCons (rC (.str "turn")) (aCons (rC (.str "")) (aCons (rC (.str "flip")) (aCons (rC (.str "recut")) aNil))))) (r2 oIx (rVar 1) (rC (.int 0)))) (aCons (rVar 3) (aCons (rC (.int 0)) aNil))) [some (scrD ns), some (lI [(kd : Int), (n : Int), d2, d3, d4, d5]), some (.str (kS kd)), some (.int (N : Int)), x4, x5, some (.int 0), some (.int (facN N : Nat)), some (.int (M : Int)), some (lI P), some (.int (d4 - 20)), none, none] = .ok (.bool true) := by
    generalize r2 oIx (rLst (aCons (rC (.str "turn")) (aCons (rC (.str "")) (aCons (rC (.str "flip")) (aCons (rC (.str "recut")) aNil))))) (r2 oIx (rVar 1) (rC (.int 0))) = F at *
    simp [k2, k3]
  generalize rCall m__law_refused (aCons (r2 oIx (rLst (aCons (rC (.str "turn")) (aCons (rC (.str "")) (aCons (rC (.str "flip")) (aCons (rC (.str "recut")) aNil))))) (r2 oIx (rVar 1) (rC (.int 0)))) (aCons (rVar 3) (aCons (rC (.int 0)) aNil))) = F at *
  by_cases c : 0 < d5
  · simp [c]
  · simp [c, k4]
end Gn

set_option Elab.async false
set_option linter.all false
set_option maxRecDepth 100000
set_option maxHeartbeats 0
open PySem PySem.W PySem.Calls PyProof.Rows
theorem PySem.Challenge.cw_turnedrows_k15_whole_rows_at_each_distan_holds : PySem.Challenge.rw_turnedrows_k15_whole_rows_at_each_distan.Holds := by
  w_on; o_law
  refine HandSHeadRun.head_imp (r := OpenLaw.row PySem.Challenge.rw_turnedrows_k15_whole_rows_at_each_distan) (q := view (OpenLaw.row PySem.Challenge.rw_turnedrows_k15_whole_rows_at_each_distan).prog [0, 1, 145]) (H := Gn.hk) (ob := Gn.ob) (M := 60000) (loose := Gn.loose) (d := HandSHeadRun.topDef (OpenLaw.row PySem.Challenge.rw_turnedrows_k15_whole_rows_at_each_distan).prog 145) (kwd := []) Gn.ob_eq Gn.run (by kernel_rfl) (by kernel_rfl) (by kernel_rfl) (by rfl) (by first | assumption | decide +kernel) (by decide +kernel)
    ⟨rfl, rfl, rfl, rfl, rfl, by decide +kernel⟩ ?hw ?hc
  case hw => w_witness2
  case hc =>
    refine Pu.walkT (l := PySem.Challenge.rw_turnedrows_k15_whole_rows_at_each_distan) (n := 63) (k := 27) (x := "script") (f := Gn.m_law) rfl (by decide) (by kernel_rfl) ⟨rfl, by decide, by decide⟩ Gn.law_true ?F
    intro w mg fa h Y G hmg0
    obtain ⟨K, KX, c⟩ := Y
    have hmg : mg ("law" : PySem.Str) = some (.ref fa) := by
      rw [← show (HandSHeadRun.topDef (OpenLaw.row PySem.Challenge.rw_turnedrows_k15_whole_rows_at_each_distan).prog 145).name = ("law" : PySem.Str) by kernel_rfl]
      exact hmg0
    have ct := Gn.ct_of KX G c c.p
    obtain ⟨fd, hb, hF⟩ := Pu.law_fn (P := (PySem.Challenge.rw_turnedrows_k15_whole_rows_at_each_distan).prog) (w := w) (p := "script") (k := 27) (f := Gn.m_law) hmg ct.f_law (fun _ _ _ _ _ _ us hl => match us, hl with | [_], _ => rfl)
      fun base _ _ fA fd Fd _ => Pu.def_ok Fd Gn.sc_law Gn.M_law (by decide) Gn.s_law fun cdv A outer sh H Ex Gx F => Gn.bo_law ct 0 fA cdv A outer sh H Ex Gx F
    exact ⟨K, fd, [], [], KX, (fun _ h => nomatch h), (fun _ h => nomatch h), (fun _ h => nomatch h), (fun _ h => nomatch h), hb, fun base h1 h2 _ => hF base h1 h2⟩

