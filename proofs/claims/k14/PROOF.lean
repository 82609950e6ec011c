import PyProof.Rows.All
import Wide.All
import OpenK.AllK
import Wide.FinOn
import HandS.ForMost
import HandS.Conv
import HandS.TupAny
import HandS.Lambda
import KE.KDictKeyed
import HandS.HeadHook1
import HandS.Exc
import HandS.TryOnly
import HandS.ExcOwn
import HandS.WordsExc
import HandS.Wide
import HandS.SortInts
import HandS.More
import HandS.ExcIs
import HandS.Defaults
import HandS.HeadHook2
import HandS.HeadEnd
import HandS.Strs
import HandS.IsInst
import KE.DataMinMax
import HandS.Head0
import HandS.Head1
import HandS.Head2
import HandS.EndTab
import HandS.DictComp
import PyProof.CollectIter
import PyProof.WalksMore
import HandS.HeadHook3
import HandS.Gcd
import HandS.RevRange
import HandS.SortKw
import HandS.Style
import HandS.Iter
import KE.KDictDisplayH
import PyProof.Rows.TupDisplay
import PySem.Challenge.RW_turnedrows_k14_ways_of_nexts
set_option Elab.async false
set_option linter.all false
set_option maxRecDepth 100000
set_option maxHeartbeats 2000000
/-! tuples whose object is known to bear no dict of its own -/
namespace Pu
open PySem PySem.Spec PyProof.Rows L2
def TupD (K : PySem.W.Frag) (H : Hp) (a : Addr) (xs : List V) : Prop := (∃ o : Obj, H a = some (.frz o (.tup xs)) ∧ o.dict = none) ∨
  ∃ (o : Obj) (its : Array Value) (n : Nat), K.lookup a = some o ∧ o.cls = .type "tuple" ∧ o.dict = none ∧ o.data = .seq its n ∧ its.size ≤ sizeLine ∧ Vals xs its.toList
theorem TupD.sq {K : PySem.W.Frag} {H : Hp} {a : Addr} {xs : List V} (h : TupD K H a xs) : SqT K H a xs := by
  rcases h with ⟨o, h, _⟩ | ⟨o, its, n, h1, h2, _, h3, h4, h5⟩
  · exact .inl (.inr ⟨o, h⟩)
  · exact .inr ⟨o, its, n, h1, h2, h3, h4, h5⟩
/-- a new tuple at p -/
abbrev NewT (Q : VK) (H : Hp) (xs : List V) : Prop := ∀ (p : Addr) (o : Obj), H p = none → o.dict = none → Q (.ref p) (upd H p (.frz o (.tup xs)))
section
variable {X : Cx} {pins : List (Addr × Obj)} {σ : L2.St} {H : Hp} {s : Shared}
theorem Inv.tupNew {h' : Heap} {its : List Value} {xs : List V} {Q : VK} {tk : Nat} (I1 : Inv X pins σ H { s with heap := h', toks := tk }) (r : Vals xs its) (hz : xs.length ≤ sizeLine) (q : NewT Q H xs) :
    EP X pins σ Q (.ref h'.objs.size) { s with heap := h'.push { cls := .type "tuple", data := .seq its.toArray }, toks := tk } := by
  refine ⟨.ref h'.objs.size, upd H h'.objs.size (.frz { cls := .type "tuple", data := .seq its.toArray } (.tup xs)), ?_, rfl, q _ _ (I1.hok.fresh (Nat.le_refl _)) rfl⟩
  exact I1.laid (t' := tk) (fun b o e => Heap.get?_push_of_some _ e) (Nat.le_refl _) ⟨Heap.get?_push_size _ rfl, hz, its, r, IsTup.new _ _⟩
def tTupF (t : TA) : TE := fun σ H Q => t σ H fun xs H1 => xs.length ≤ sizeLine ∧ NewT Q H1 xs
theorem pe_tupF {es : List Expr} {x1 : Nat} {pos : Pos} {t : TA} (h : PA X es t) : PE X (.Tuple es x1 pos) (tTupF t) := by
  refine ⟨fun pins s σ H Q I hq => wpAny_Tuple_spliced (thn (h.run pos pins s σ H _ I hq) ?_)⟩
  rintro us s1 ⟨xs, H1, I1, r, z, q⟩
  exact ⟨by rw [← r.length]; exact z, Inv.tupNew (h' := s1.heap) (tk := s1.toks) I1 r z q⟩
def rSlF (K : PySem.W.Frag) : V → Option Int → Option Int → Hp → VK → Prop := fun x lo hi H Q => ∃ a xs, x = .ref a ∧ SqT K H a xs ∧
  ((HT.sIx xs.length 0 lo = 0 ∧ HT.sIx xs.length xs.length hi = xs.length) → Q (.ref a) H) ∧ (¬ (HT.sIx xs.length 0 lo = 0 ∧ HT.sIx xs.length xs.length hi = xs.length) → NewT Q H (cutV xs lo hi))
theorem sl_tupF : SlR X (rSlF X.K) := by
  intro pins s σ H x v vl vu lo hi sl Q I rx hs pl pu h
  obtain ⟨a, xs, rfl, hx, q1, q2⟩ := h
  cases rx
  obtain ⟨its, r, ht, hz⟩ := I.tuple hx
  have hlen : its.toArray.size = xs.length := by
    rw [List.size_toArray]
    exact r.length.symm
  refine ⟨"tuple", _, PyProof.Rows.slot_tuple_getitem.lookup, ht.typeIs, ?_⟩
  by_cases hw : HT.sIx xs.length 0 lo = 0 ∧ HT.sIx xs.length xs.length hi = xs.length
  · exact getItem_tuple_whole ht hs pl pu (by rw [hlen]; exact hw) ⟨.ref a, H, I, rfl, q1 hw⟩
  · refine HT.getItem_tuple_cut ht hs pl pu (by rw [hlen]; exact hw) ?_ (by rw [hlen]; exact hz)
    rw [hlen]
    exact Inv.tupNew (h' := s.heap) (tk := s.toks) I ((r.drop (HT.sIx xs.length 0 lo)).take _) (Nat.le_trans (cutV_length xs lo hi) hz) (q2 hw)
def rCatF (K : PySem.W.Frag) : R2 := fun x y H Q => ∃ a b xs ys, x = .ref a ∧ y = .ref b ∧ SqT K H a xs ∧ SqT K H b ys ∧ xs.length + ys.length ≤ sizeLine ∧
  (xs = [] → Q (.ref b) H) ∧ (xs ≠ [] → ys = [] → Q (.ref a) H) ∧ (xs ≠ [] → ys ≠ [] → NewT Q H (xs ++ ys))
theorem op_catF : OpR X (binaryOp .Add) (rCatF X.K) := by
  intro pins s σ H x y v u Q I rx ry h
  obtain ⟨a, b, xs, ys, rfl, rfl, ha, hb, hz, q0, q1, q2⟩ := h
  cases rx
  cases ry
  obtain ⟨its, r1, p1, _⟩ := I.tuple ha
  obtain ⟨jts, r2, p2, _⟩ := I.tuple hb
  by_cases hx : xs = []
  · subst hx
    cases r1
    exact cat_tup0 p1 p2 ⟨.ref b, H, I, rfl, q0 rfl⟩
  · refine HT.cat_tup p1 p2 (fun z => hx (r1.nil_iff.mp z)) (fun z => ⟨.ref a, H, I, rfl, q1 hx (r2.nil_iff.mp z)⟩) (fun z => ?_) (by rw [← r1.length, ← r2.length]; exact hz)
    exact Inv.tupNew (h' := s.heap) (tk := s.toks) I (r1.append r2) (by rw [List.length_append]; exact hz) (q2 hx fun w => z (r2.nil_iff.mpr w))
def rTupOfF (K : PySem.W.Frag) : List V → Hp → VK → Prop := fun xs H Q => ∃ p ys, xs = [.ref p] ∧ ((SqL K H p ys ∧ NewT Q H ys) ∨ (SqT K H p ys ∧ Q (.ref p) H))
theorem call_tuple_ofF : CallR X (.type "tuple") (rTupOfF X.K) := by
  intro pins s σ H xs us Q I r h
  obtain ⟨p, ys, rfl, h⟩ := h
  obtain ⟨u, rfl, rx⟩ := vals1 r
  cases rx
  rcases h with ⟨hq, q⟩ | ⟨hq, q⟩
  · obtain ⟨its, r1, pl, hz⟩ := I.list hq
    have hlen := r1.length
    refine call_tuple_list pl.isList (fun h1 kp => ?_) (by rw [List.size_toArray]; omega)
    exact Inv.tupNew (h' := h1) (tk := s.toks) (I.kept (t' := s.toks) kp) r1 hz q
  · obtain ⟨its, r1, pl, hz⟩ := I.tuple hq
    exact call_tuple_same pl ⟨.ref p, H, I, rfl, q⟩
def tTupRgF (te : L2.St → Hp → (Int → Int → Hp → Prop) → Prop) : TE := fun σ H Q => te σ H fun a b H1 => RgOk a b ∧ NewT Q H1 (rgV a b)
theorem pe_tupRgF {e : Expr} {te : L2.St → Hp → (Int → Int → Hp → Prop) → Prop} {p pos : Pos} (hc : X.calm = true) (hg : Gl X "tuple") (hm : X.mg "tuple" = none) (he : PRg X e te) (na : starEach [e] X.env = (false, eval e X.env) :: starEach [] X.env := by rfl) : PE X (.Call (.Name "tuple" p) [e] [] pos) (tTupRgF te) := by
  refine ⟨fun pins s σ H Q I h => Call_ (ld_blt I hg hm (show bootBuiltins "tuple" = some (.type "tuple") by decide +kernel) (PyProof.Rows.callWith_type1 (args_cons (thn (he pins s σ H _ I h) ?_) na) na))⟩
  rintro x s1 ⟨r, a, b, t, u, v, H1, rfl, hr, I1, ⟨b1, b2, b3, b4, b5⟩, q⟩
  refine args_nil (call_tuple_range (n := (b - a).toNat) (I1.ok.hd hc) hr (small_one b1 b2 b3 b4) (rangeSize_nat a b) b5 fun h1 tk acc hk hi => ?_)
  have ea : acc = acc.toList.toArray := by simp
  rw [ea]
  exact Inv.tupNew (h' := h1) (tk := tk) (I1.kept hk) (vals_rg hi) (by rw [rgV_length, sizeLine_eq]; omega) q
def rDmF : List V → Hp → VK → Prop := fun xs H Q => ∃ i j, xs = [.int i, .int j] ∧ CDiv i j ∧ NewT Q H [.int (i / j), .int (i % j)]
/-- o.m(..) of a built-in type, its kind told by one's own words -/
def tBMG (ty : V → Hp → Prop) (r : V → List V → Hp → VK → Prop) (to : TE) (t : TA) : TE := fun σ H Q => to σ H fun x H1 => ty x H1 ∧ t σ H1 fun xs H2 => r x xs H2 Q
theorem pe_bmG {T id : String} {name : Str} {o e : Expr} {es : List Expr} {to : TE} {t : TA} {apos cpos : Pos} {r : V → List V → Hp → VK → Prop} {ty : V → Hp → Prop}
    (hk : ∀ (pins : List (Addr × Obj)) (σ : L2.St) (H : Hp) (s : Shared) (x : V) (v : Value), Inv X pins σ H s → RelV x v → ty x H → s.TypeIs v T ∧ ∀ a, v = .ref a → ∃ ob, s.heap.get? a = some ob ∧ ob.dict = none)
    (pa : PlainAttrs T) (slot : Slot T name id) (hty : typeOf (.builtin id) = pure (.type "method_descriptor")) (hm : MtR X id r) (ho : PE X o to) (ha : PA X (e :: es) t)
    (hbase : attributeBase o name X.env (eval o X.env) = eval o X.env)
    (hfew : ((backTo cpos (starEach (e :: es) X.env)).all (fun x => !x.1) && (backToKw cpos (keywordEach [] X.env)).all (fun x => x.1.isSome) && decide ((e :: es).length + ([] : List Keyword).length + (if ([] : List Keyword).isEmpty then 0 else 1) < 30)) = true)
    (hline : (apos.endLine == cpos.line) = true) (hs : starEach (e :: es) X.env = (false, eval e X.env) :: starEach es X.env) (hplain : (backTo cpos (starEach es X.env)).any (·.1) = false) :
    PE X (.Call (.Attribute o name apos) (e :: es) [] cpos) (tBMG ty r to t) := by
  refine ⟨fun pins s σ H Q I h => wpAny_Call_method_late hbase hfew hline rfl (thn (ho.run pins s σ H _ I h) ?_)⟩
  rintro v s1 ⟨x, H1, I1, r1, tyx, q1⟩
  have hA := ha.run cpos pins s1 σ H1 _ I1 q1
  obtain ⟨k1, k2⟩ := hk pins σ H1 s1 x v I1 r1 tyx
  refine ⟨T, id, pa, slot, hty, k1, k2, ?_⟩
  rw [hs] at hA ⊢
  refine Calls.callWith_builtin (show (false || (backTo cpos (starEach es X.env)).any (·.1)) = false by rw [hplain]; rfl) (Calls.evalArgs_plain (thn hA ?_))
  rintro us s2 ⟨vs, H2, I2, r2, q2⟩
  exact hm pins s2 σ H2 x vs v us Q I2 r1 r2 q2
/-- a tuple of ours -/
theorem ty_tupD : ∀ (pins : List (Addr × Obj)) (σ : L2.St) (H : Hp) (s : Shared) (x : V) (v : Value), Inv X pins σ H s → RelV x v → (∃ a xs, x = .ref a ∧ TupD X.K H a xs) → s.TypeIs v "tuple" ∧ ∀ a, v = .ref a → ∃ ob, s.heap.get? a = some ob ∧ ob.dict = none := by
  rintro pins σ H s x v I rx ⟨a, xs, rfl, h⟩
  cases rx
  rcases h with ⟨o, h, hd⟩ | ⟨o, its, n, h1, h2, hd, _⟩
  · obtain ⟨e, _, jts, _, o2, e2, c2, _⟩ := I.hok a _ h
    rw [e] at e2
    cases e2
    exact ⟨⟨o, e, c2⟩, fun b z => by
      cases z
      exact ⟨o, e, hd⟩⟩
  · exact ⟨⟨o, I.kIn a o h1, h2⟩, fun b z => by
      cases z
      exact ⟨o, I.kIn a o h1, hd⟩⟩
end
end Pu

set_option Elab.async false
set_option linter.all false
set_option maxRecDepth 100000
set_option maxHeartbeats 2000000
/-! dicts from tuples of numbers to numbers, told of their one object -/
namespace Pu
open PySem PySem.Spec PyProof.Rows L2
/-- key, where the key's tuple stands, value -/
abbrev DEn := List (List Int × Addr × Int)
def VL (L : DEn) (xs : List (List Int × Addr × Value)) : Prop := Paired (fun (p : List Int × Addr × Int) (q : List Int × Addr × Value) => p.1 = q.1 ∧ p.2.1 = q.2.1 ∧ ∃ t, q.2.2 = Value.int p.2.2 t) L xs
def dctP (a : Addr) (L : DEn) (h : Heap) : Prop := (a == sysModules) = false ∧ L.length ≤ sizeLine ∧ (L.map (·.1)).Nodup ∧ ∃ (o : Obj) (es : Array DictEntry) (ep : Nat) (xs : List (List Int × Addr × Value)), h.get? a = some o ∧ o.ExactDict ∧ o.data = .dict es ep ∧ VL L xs ∧
  ∀ (P : Program) (w : World), es.toList = xs.map (entryOfKey (tupleKind (intKind P w)))
def DctO (a : Addr) (L : DEn) : HO := .ext (dctP a L)
theorem dct_ne_tbl {a : Addr} {L : DEn} (ps : Array Value) : DctO a L ≠ .tbl ps := fun z => by
  unfold DctO at z
  cases z
theorem dct_ne_frz {a : Addr} {L : DEn} {o : Obj} {u : HO} : DctO a L ≠ .frz o u := fun z => by
  unfold DctO at z
  cases z
theorem dct_inj {a : Addr} {L : DEn} {c : Addr} {q : Str} : DctO a L ≠ LamX.CodeO c q := fun z => by
  unfold DctO LamX.CodeO at z
  injection z with z
  let ob : Obj := { cls := .none, data := .fields #[.none, .str q 1] }
  let h0 : Heap := { objs := Array.replicate (c + 1) ob }
  have g : ∀ b o, h0.get? b = some o → o = ob := fun b o e => by
    unfold Heap.get? at e
    have key : ∀ x : Option Obj, h0.objs[b]? = x → (∀ y, x = some y → y = ob) := fun x hx y hy => by
      rw [hy] at hx
      have hx : (Array.replicate (c + 1) ob)[b]? = some y := hx
      rw [Array.getElem?_replicate] at hx
      split at hx
      · exact (Option.some.inj hx).symm
      · cases hx
    split at e
    · cases e
    · exact key _ rfl _ e
  have gc : h0.get? c = some ob := by
    unfold Heap.get?
    have e : h0.objs[c]? = some ob := by
      show (Array.replicate (c + 1) ob)[c]? = some ob
      rw [Array.getElem?_replicate, if_pos (by omega)]
    rw [e]
  have h2 : (fun h : Heap => ∃ (oc : Obj) (vs : Array Value) (t : Tok), h.get? c = some oc ∧ oc.data = .fields vs ∧ vs[1]? = some (.str q t)) h0 := ⟨ob, _, 1, gc, rfl, rfl⟩
  rw [← z] at h2
  obtain ⟨_, _, _, o, es, ep, xs, e1, _, e3, _⟩ := h2
  rw [g a o e1] at e3
  cases e3
end Pu

set_option Elab.async false
set_option linter.all false
set_option maxRecDepth 100000
set_option maxHeartbeats 2000000
/-! Pu: a layer over HandS in which a piece of syntax is read as a function of plain data; no heap is seen above it. -/
namespace Pu
open PySem PySem.Spec PyProof.Rows L2

/-- the tables of code objects that may be written, each with the name that its code objects bear -/
class TabL where
  T : List (Addr × Str)
instance (priority := low) tabNil : TabL := ⟨[]⟩
def NT (u : HO) : Prop := ∀ ps, u ≠ .tbl ps
/-- a known thing that is no table -/
def Nn (H : Hp) (a : Addr) : Prop := ∃ u, H a = some u ∧ NT u
theorem Nn.not {H : Hp} {a : Addr} (h : Nn H a) (z : H a = none) : False := by
  obtain ⟨u, e, _⟩ := h
  rw [z] at e
  cases e
variable [TabL]
/-- all is kept but the tables, which stay tables -/
structure Same (H H' : Hp) : Prop where
  k : ∀ a u, H a = some u → NT u → H' a = some u
  free : ∀ {a}, H' a = none → H a = none
  tab : LamX.Tabs TabL.T H → LamX.Tabs TabL.T H'
  t : ∀ a ps, H a = some (.tbl ps) → ∃ qs, H' a = some (.tbl qs)
theorem Same.app {H H' : Hp} (s : Same H H') (a : Addr) (u : HO) (h : H a = some u) (n : NT u := by first | assumption | exact fun _ z => nomatch z) : H' a = some u := s.k a u h n
instance {H H' : Hp} : CoeFun (Same H H') fun _ => ∀ a u, H a = some u → (n : NT u := by first | assumption | exact fun _ z => nomatch z) → H' a = some u := ⟨fun s => @Same.app _ _ _ s⟩
theorem Same.of {H H' : Hp} (h : L2.Same H H') : Same H H' := ⟨fun a u e _ => h a u e, fun e => h.free e, fun t => t.ext h, fun a ps e => ⟨ps, h a _ e⟩⟩
theorem Same.refl (H : Hp) : Same H H := .of (L2.Same.refl H)
theorem Same.trans {H H1 H2 : Hp} (a : Same H H1) (b : Same H1 H2) : Same H H2 := ⟨fun c o h n => b c o (a c o h n) n, fun e => a.free (b.free e), fun t => b.tab (a.tab t), fun c ps e => by
  obtain ⟨qs, e2⟩ := a.t c ps e
  exact b.t c qs e2⟩
theorem Same.nil {H : Hp} (h : LamX.Tabs TabL.T H) : Same (fun _ => Option.none) H := ⟨fun a u q => (nomatch q), fun _ => rfl, fun _ => h, fun a ps q => (nomatch q)⟩
/-- neither a table nor a thing told of the heap -/
def Plain (u : HO) : Prop := (∀ ps, u ≠ .tbl ps) ∧ ∀ (c : Addr) (q : Str), u ≠ LamX.CodeO c q
theorem no_code {u : HO} (h : ∀ f, u ≠ .ext f) : ∀ (c : Addr) (q : Str), u ≠ LamX.CodeO c q := fun _ _ => h _
theorem plain_dct {a : Addr} {L : DEn} : Plain (DctO a L) := ⟨dct_ne_tbl, fun _ _ => dct_inj⟩
theorem plain_lst {xs : List V} : Plain (.lst xs) := ⟨fun _ z => (nomatch z), no_code fun _ z => nomatch z⟩
theorem plain_frz {o : Obj} {u : HO} : Plain (.frz o u) := ⟨fun _ z => (nomatch z), no_code fun _ z => nomatch z⟩
theorem plain_dK {kvs : List (Key × V)} : Plain (.dK kvs) := ⟨fun _ z => (nomatch z), no_code fun _ z => nomatch z⟩
theorem plain_ins {C dx : Addr} {fs : List (Str × V)} : Plain (.ins C dx fs) := ⟨fun _ z => (nomatch z), no_code fun _ z => nomatch z⟩
theorem tab_upd {H : Hp} {pp : Addr} {u o : HO} (t : LamX.Tabs TabL.T H) (h : H pp = some u) (hu : Plain u) : LamX.Tabs TabL.T (upd H pp o) := fun p hp => by
  obtain ⟨ps, h1, h2, h3⟩ := t p hp
  refine ⟨ps, ?_, h2, fun pos cv e => ?_⟩
  · rw [upd_ne]
    · exact h1
    · intro z
      rw [z, h] at h1
      exact hu.1 ps (Option.some.inj h1)
  · obtain ⟨c, e1, e2⟩ := h3 pos cv e
    refine ⟨c, e1, ?_⟩
    rw [upd_ne]
    · exact e2
    · intro z
      rw [z, h] at e2
      exact hu.2 _ _ (Option.some.inj e2)
theorem Same.put {H0 H : Hp} {pp : Addr} {u o : HO} (s : Same H0 H) (h0 : H0 pp = none) (h : H pp = some u) (hu : Plain u) : Same H0 (upd H pp o) := ⟨fun a v q n => by
    rw [upd_ne]
    · exact s a v q n
    · intro z
      exact absurd q (by rw [z, h0]; simp), fun {a} q => by
    by_cases z : a = pp
    · rw [z, upd_same] at q
      cases q
    · rw [upd_ne z] at q
      exact s.free q, fun t => tab_upd (s.tab t) h hu, fun a ps q => by
    rw [upd_ne]
    · exact s.t a ps q
    · intro z
      rw [z, h0] at q
      cases q⟩
/-- all is kept but what stands at Dd (and the tables) -/
structure SameX (Dd : Addr) (H H' : Hp) : Prop where
  k : ∀ a u, a ≠ Dd → H a = some u → NT u → H' a = some u
  free : ∀ {a}, a ≠ Dd → H' a = none → H a = none
  tab : LamX.Tabs TabL.T H → LamX.Tabs TabL.T H'
  t : ∀ a ps, a ≠ Dd → H a = some (.tbl ps) → ∃ qs, H' a = some (.tbl qs)
theorem SameX.refl {Dd : Addr} {H : Hp} : SameX Dd H H := ⟨fun _ _ _ h _ => h, fun _ h => h, fun t => t, fun _ ps _ h => ⟨ps, h⟩⟩
theorem SameX.trans {Dd : Addr} {H H1 H2 : Hp} (a : SameX Dd H H1) (b : SameX Dd H1 H2) : SameX Dd H H2 := ⟨fun x u n h w => b.k x u n (a.k x u n h w) w, fun n h => a.free n (b.free n h), fun t => b.tab (a.tab t), fun c ps n h => by
  obtain ⟨qs, e⟩ := a.t c ps n h
  exact b.t c qs n e⟩
theorem SameX.of {Dd : Addr} {H H' : Hp} (s : Same H H') : SameX Dd H H' := ⟨fun a u _ h w => s.k a u h w, fun _ h => s.free h, s.tab, fun a ps _ h => s.t a ps h⟩
theorem SameX.put {Dd : Addr} {H H' : Hp} {u o : HO} (s : SameX Dd H H') (h : H' Dd = some u) (hu : Plain u) : SameX Dd H (upd H' Dd o) := ⟨fun a v n q w => by
    rw [upd_ne n]
    exact s.k a v n q w, fun n q => by
    rw [upd_ne n] at q
    exact s.free n q, fun t => tab_upd (s.tab t) h hu, fun a ps n q => by
    rw [upd_ne n]
    exact s.t a ps n q⟩
theorem SameX.back {Dd : Addr} {H1 H2 : Hp} {o : HO} (hD : H1 Dd = none) (b : SameX Dd (upd H1 Dd o) H2) : Same H1 H2 := by
  have up : ∀ a, a ≠ Dd → upd H1 Dd o a = H1 a := fun a n => upd_ne n
  refine ⟨fun a u h n => ?_, fun {a} h => ?_, fun t => b.tab (t.ext fun a u h => ?_), fun a ps h => ?_⟩
  · have ne : a ≠ Dd := fun z => by
      rw [z, hD] at h
      cases h
    exact b.k a u ne ((up a ne).trans h) n
  · by_cases z : a = Dd
    · rw [z]
      exact hD
    · exact (up a z).symm.trans (b.free z h)
  · have ne : a ≠ Dd := fun z => by
      rw [z, hD] at h
      cases h
    exact (up a ne).trans h
  · have ne : a ≠ Dd := fun z => by
      rw [z, hD] at h
      cases h
    exact b.t a ps ne ((up a ne).trans h)
theorem NT.mut {u : HO} (h : Mut (some u)) : NT u := fun ps e => by
  subst e
  exact h
abbrev Rho := List (Option PyData)
/-- an outcome: a value, an own error of that name, or nothing that is promised -/
inductive Re (α : Type) where
  | ok (a : α)
  | ex (c : Str)
  | bad
def Re.andThen {α β : Type} : Re α → (α → Re β) → Re β
  | .ok a, f => f a
  | .ex c, _ => .ex c
  | .bad, _ => .bad
/-! data that holds no list and no dict -/
mutual
def imm : PyData → Bool
  | .list _ => false
  | .dict _ => false
  | .tuple xs => immAll xs
  | _ => true
def immAll : List PyData → Bool
  | [] => true
  | x :: xs => imm x && immAll xs
end
/-- a key as data -/
def kD : Key → PyData
  | .inl i => .int i
  | .inr s => .str s
/-- a key that is a tuple -/
def ktD (k : List Key) : PyData := .tuple (k.map kD)
/-- a list that is only read -/
def FzL (K : PySem.W.Frag) (H : Hp) (S : Addr → Prop) (a : Addr) (xs : List V) : Prop := (H a = some (.lst xs) ∧ S a) ∨ (∃ o, H a = some (.frz o (.lst xs))) ∨ ∀ H' : Hp, SqL K H' a xs
/-- a dict from tuples of numbers to numbers, or one that is locked -/
def DctF (H : Hp) (S : Addr → Prop) (a : Addr) (L : DEn) : Prop := (H a = some (DctO a L) ∧ S a) ∨ ∃ o, H a = some (.frz o (DctO a L))
/-- the keys' tuples are known -/
def DctK (K : PySem.W.Frag) (H : Hp) (L : DEn) : Prop := ∀ p ∈ L, TupD K H p.2.1 (p.1.map V.int)
/-- the entries as data -/
def dctD (L : DEn) : List (PyData × PyData) := L.map fun p => (.tuple (p.1.map .int), .int p.2.2)
/-! the value v is the data d; the lists and dicts in it stand at addresses of S -/
mutual
inductive Rp (K : PySem.W.Frag) (H : Hp) (S : Addr → Prop) : V → PyData → Prop
  | non : Rp K H S .non .none
  | bl (b : Bool) : Rp K H S (.bl b) (.bool b)
  | int (i : Int) : Rp K H S (.int i) (.int i)
  | str (x : Str) : Rp K H S (.str x) (.str x)
  | tup {a : Addr} {xs : List V} {ds : List PyData} : TupD K H a xs → RpA K H S xs ds → Rp K H S (.ref a) (.tuple ds)
  | lst {a : Addr} {xs : List V} {ds : List PyData} : H a = some (.lst xs) → S a → RpA K H S xs ds → Rp K H S (.ref a) (.list ds)
  | scr {a : Addr} {xs : List V} {ds : List PyData} : FzL K H S a xs → RpA K H S xs ds → Rp K H S (.ref a) (.dict [(.none, .list ds)])
  | dic {a : Addr} {ks : List Key} {xs : List V} {ds : List PyData} : H a = some (.dK (ks.zip xs)) → S a → ks.length = xs.length → RpA K H S xs ds → Rp K H S (.ref a) (.dict ((.bool true, .none) :: (ks.map kD).zip ds))
  | dit {a dx : Addr} {c : Str} {tag : PyData} {ks : List Str} {xs : List V} {ds : List PyData} : H a = some (.ins (He.ga K c) dx (ks.zip xs)) → S a → ks.length = xs.length → RpA K H S xs ds → Rp K H S (.ref a) (.dict ((.bool false, .tuple [.str c, tag]) :: (ks.map PyData.str).zip ds))
  | rng {a : Addr} {i j : Int} : H a = some (.rng i j) → Rp K H S (.ref a) (.dict [(.int i, .int j)])
  | dct {a : Addr} {L : DEn} : DctF H S a L → DctK K H L → True → True → Rp K H S (.ref a) (.dict ((.bool true, .bool true) :: dctD L))
  | dif {a : Addr} {o : Obj} {ks : List Key} {xs : List V} {ds : List PyData} : H a = some (.frz o (.dK (ks.zip xs))) → ks.length = xs.length → RpA K H S xs ds → Rp K H S (.ref a) (.dict ((.bool true, .none) :: (ks.map kD).zip ds))
inductive RpA (K : PySem.W.Frag) (H : Hp) (S : Addr → Prop) : List V → List PyData → Prop
  | nil : RpA K H S [] []
  | cons {v : V} {vs : List V} {d : PyData} {ds : List PyData} : Rp K H S v d → RpA K H S vs ds → RpA K H S (v :: vs) (d :: ds)
end

section
variable {K : PySem.W.Frag} {H H' H1 H2 : Hp} {S S' : Addr → Prop} {a : Addr}
theorem tupD_keep {xs : List V} (h : TupD K H a xs) (k : ∀ u, H a = some u → ¬ Mut (some u) → NT u → H' a = some u) : TupD K H' a xs := by
  rcases h with ⟨o, h, hd⟩ | h
  · exact .inl ⟨o, k _ h (fun z => z) (by first | assumption | exact fun _ z => nomatch z), hd⟩
  · exact .inr h
theorem FzL.sq {xs : List V} (h : FzL K H S a xs) : SqL K H a xs := by
  rcases h with ⟨h, _⟩ | ⟨o, h⟩ | h
  · exact .inl (.inl h)
  · exact .inl (.inr ⟨o, h⟩)
  · exact h H
theorem fzL_keep {xs : List V} (h : FzL K H S a xs) (k : ∀ u, H a = some u → (S a ∨ ¬ Mut (some u)) → NT u → H' a = some u) (hs : ∀ u, S a → H a = some u → NT u → S' a) : FzL K H' S' a xs := by
  rcases h with ⟨h, z⟩ | ⟨o, h⟩ | h
  · exact .inl ⟨k _ h (.inl z) (by first | assumption | exact fun _ z => nomatch z), hs _ z h (by first | assumption | exact fun _ z => nomatch z)⟩
  · exact .inr (.inl ⟨o, k _ h (.inr fun z => z) (by first | assumption | exact fun _ z => nomatch z)⟩)
  · exact .inr (.inr h)
theorem dctF_keep {L : DEn} (h : DctF H S a L) (k : ∀ u, H a = some u → (S a ∨ ¬ Mut (some u)) → NT u → H' a = some u) (hs : ∀ u, S a → H a = some u → NT u → S' a) : DctF H' S' a L := by
  rcases h with ⟨h, z⟩ | ⟨o, h⟩
  · exact .inl ⟨k _ h (.inl z) dct_ne_tbl, hs _ z h dct_ne_tbl⟩
  · exact .inr ⟨o, k _ h (.inr fun z => z) fun _ z => nomatch z⟩
theorem dctK_keep {L : DEn} (h : DctK K H L) (k : ∀ a u, H a = some u → ¬ Mut (some u) → NT u → H' a = some u) : DctK K H' L := fun p hp => tupD_keep (h p hp) (k p.2.1)
/-- what keeps the data: the addresses of S and all that can't be written -/
structure Kp (S : Addr → Prop) (H H' : Hp) : Prop where
  k : ∀ a u, H a = some u → (S a ∨ ¬ Mut (some u)) → NT u → H' a = some u
omit [TabL] in
theorem Kp.app {S : Addr → Prop} {H H' : Hp} (s : Kp S H H') (a : Addr) (u : HO) (h : H a = some u) (c : S a ∨ ¬ Mut (some u)) (n : NT u := by first | assumption | exact fun _ z => nomatch z) : H' a = some u := s.k a u h c n
instance {S : Addr → Prop} {H H' : Hp} : CoeFun (Kp S H H') fun _ => ∀ a u, H a = some u → (S a ∨ ¬ Mut (some u)) → (n : NT u := by first | assumption | exact fun _ z => nomatch z) → H' a = some u := ⟨fun s => @Kp.app _ _ _ s⟩
theorem kp_same (e : Same H H') : Kp S H H' := ⟨fun a u h _ n => e a u h n⟩
mutual
theorem Rp.keep (k : Kp S H H') (hs : ∀ a u, S a → H a = some u → NT u → S' a) : ∀ {d : PyData} {v : V}, Rp K H S v d → Rp K H' S' v d
  | _, _, .non => .non
  | _, _, .bl b => .bl b
  | _, _, .int i => .int i
  | _, _, .str x => .str x
  | _, _, .tup h1 h2 => .tup (tupD_keep h1 fun u e nm n => k _ u e (.inr nm) n) (RpA.keep k hs h2)
  | _, _, .lst h1 h2 h3 => .lst (k _ _ h1 (.inl h2)) (hs _ _ h2 h1 (by first | assumption | exact fun _ z => nomatch z)) (RpA.keep k hs h3)
  | _, _, .scr h1 h3 => .scr (fzL_keep h1 (fun u e c n => k _ u e c n) fun u z e n => hs _ u z e n) (RpA.keep k hs h3)
  | _, _, .dic h1 h2 h3 h4 => .dic (k _ _ h1 (.inl h2)) (hs _ _ h2 h1 (by first | assumption | exact fun _ z => nomatch z)) h3 (RpA.keep k hs h4)
  | _, _, .dct h1 h2 h3 h4 => .dct (dctF_keep h1 (fun u e c n => k _ u e c n) fun u z e n => hs _ u z e n) (dctK_keep h2 fun a u e nm n => k a u e (.inr nm) n) h3 h4
  | _, _, .dit h1 h2 h3 h4 => .dit (k _ _ h1 (.inl h2)) (hs _ _ h2 h1 (by first | assumption | exact fun _ z => nomatch z)) h3 (RpA.keep k hs h4)
  | _, _, .dif h1 h3 h4 => .dif (k _ _ h1 (.inr fun z => z)) h3 (RpA.keep k hs h4)
  | _, _, .rng h1 => .rng (k _ _ h1 (.inr fun z => z))
theorem RpA.keep (k : Kp S H H') (hs : ∀ a u, S a → H a = some u → NT u → S' a) : ∀ {ds : List PyData} {vs : List V}, RpA K H S vs ds → RpA K H' S' vs ds
  | _, _, .nil => .nil
  | _, _, .cons h1 h2 => .cons (Rp.keep k hs h1) (RpA.keep k hs h2)
end
theorem Rp.same {d : PyData} {v : V} (r : Rp K H S v d) (e : Same H H') : Rp K H' S v d := r.keep (kp_same e) fun _ _ h _ _ => h
theorem RpA.same {d : List PyData} {v : List V} (r : RpA K H S v d) (e : Same H H') : RpA K H' S v d := r.keep (kp_same e) fun _ _ h _ _ => h
theorem Rp.wide {d : PyData} {v : V} (r : Rp K H S v d) (h : ∀ a, S a → S' a) : Rp K H S' v d := r.keep (kp_same (Same.refl H)) fun a _ x _ _ => h a x
theorem RpA.wide {d : List PyData} {v : List V} (r : RpA K H S v d) (h : ∀ a, S a → S' a) : RpA K H S' v d := r.keep (kp_same (Same.refl H)) fun a _ x _ _ => h a x
theorem imm_tup {xs : List PyData} : imm (.tuple xs) = immAll xs := by rw [imm]
theorem imm_lst {xs : List PyData} : imm (.list xs) = false := by rw [imm]
theorem imm_dic {xs : List (PyData × PyData)} : imm (.dict xs) = false := by rw [imm]
theorem immAll_cons {x : PyData} {xs : List PyData} : immAll (x :: xs) = (imm x && immAll xs) := by rw [immAll]
theorem imm_no {A : Prop} {b : Bool} (e : b = false) (h : b = true) : A := by
  rw [e] at h
  cases h
/-! plain data wants no address -/
mutual
theorem Rp.noAddr : ∀ {d : PyData} {v : V}, Rp K H S v d → imm d = true → Rp K H S' v d
  | _, _, .non, _ => .non
  | _, _, .bl b, _ => .bl b
  | _, _, .int i, _ => .int i
  | _, _, .str x, _ => .str x
  | _, _, .tup h1 h2, h => .tup h1 (RpA.noAddr h2 (imm_tup.symm.trans h))
  | _, _, .lst h1 h2 h3, h => imm_no imm_lst h
  | _, _, .scr h1 h3, h => imm_no imm_dic h
  | _, _, .dic h1 h2 h3 h4, h => imm_no imm_dic h
  | _, _, .dct h1 h2 h3 h4, h => imm_no imm_dic h
  | _, _, .dit h1 h2 h3 h4, h => imm_no imm_dic h
  | _, _, .dif h1 h3 h4, h => imm_no imm_dic h
  | _, _, .rng h1, h => imm_no imm_dic h
theorem RpA.noAddr : ∀ {ds : List PyData} {vs : List V}, RpA K H S vs ds → immAll ds = true → RpA K H S' vs ds
  | _, _, .nil, _ => .nil
  | _, _, .cons h1 h2, h => .cons (Rp.noAddr h1 (Bool.and_eq_true_iff.mp (immAll_cons.symm.trans h)).1) (RpA.noAddr h2 (Bool.and_eq_true_iff.mp (immAll_cons.symm.trans h)).2)
end
theorem RpA.length : ∀ {ds : List PyData} {vs : List V}, RpA K H S vs ds → vs.length = ds.length
  | _, _, .nil => rfl
  | _, _, .cons _ h2 => by rw [List.length_cons, List.length_cons, RpA.length h2]
theorem RpA.get : ∀ {ds : List PyData} {vs : List V} {i : Nat} {v : V}, RpA K H S vs ds → vs[i]? = some v → ∃ d, ds[i]? = some d ∧ Rp K H S v d
  | _, _, _, _, .nil, e => by simp at e
  | _, _, 0, _, .cons h1 _, e => by
    simp at e
    subst e
    exact ⟨_, rfl, h1⟩
  | _, _, i + 1, v, .cons _ h2, e => by
    obtain ⟨d, h3, h4⟩ := RpA.get (i := i) (v := v) h2 (by simpa using e)
    exact ⟨d, by simpa using h3, h4⟩
theorem RpA.get' : ∀ {ds : List PyData} {vs : List V} {i : Nat} {d : PyData}, RpA K H S vs ds → ds[i]? = some d → ∃ v, vs[i]? = some v ∧ Rp K H S v d
  | _, _, _, _, .nil, e => by simp at e
  | _, _, 0, _, .cons h1 _, e => by
    simp at e
    subst e
    exact ⟨_, rfl, h1⟩
  | _, _, i + 1, v, .cons _ h2, e => by
    obtain ⟨d, h3, h4⟩ := RpA.get' (i := i) (d := v) h2 (by simpa using e)
    exact ⟨d, by simpa using h3, h4⟩
theorem RpA.append : ∀ {ds es : List PyData} {vs us : List V}, RpA K H S vs ds → RpA K H S us es → RpA K H S (vs ++ us) (ds ++ es)
  | _, _, _, _, .nil, r => r
  | _, _, _, _, .cons h1 h2, r => .cons h1 (RpA.append h2 r)
theorem RpA.take : ∀ {ds : List PyData} {vs : List V} (n : Nat), RpA K H S vs ds → RpA K H S (vs.take n) (ds.take n)
  | _, _, 0, _ => .nil
  | _, _, _ + 1, .nil => .nil
  | _, _, n + 1, .cons h1 h2 => .cons h1 (RpA.take n h2)
theorem RpA.drop : ∀ {ds : List PyData} {vs : List V} (n : Nat), RpA K H S vs ds → RpA K H S (vs.drop n) (ds.drop n)
  | _, _, 0, r => r
  | _, _, _ + 1, .nil => .nil
  | _, _, n + 1, .cons _ h2 => RpA.drop n h2
theorem RpA.set {v : V} {d : PyData} (r : Rp K H S v d) : ∀ {ds : List PyData} {vs : List V} (i : Nat), RpA K H S vs ds → RpA K H S (vs.set i v) (ds.set i d)
  | _, _, _, .nil => .nil
  | _, _, 0, .cons _ h2 => .cons r h2
  | _, _, i + 1, .cons h1 h2 => .cons h1 (RpA.set r i h2)
theorem RpA.erase : ∀ {ds : List PyData} {vs : List V} (i : Nat), RpA K H S vs ds → RpA K H S (vs.eraseIdx i) (ds.eraseIdx i)
  | _, _, _, .nil => .nil
  | _, _, 0, .cons _ h2 => h2
  | _, _, i + 1, .cons h1 h2 => .cons h1 (RpA.erase i h2)
theorem RpA.rev : ∀ {ds : List PyData} {vs : List V}, RpA K H S vs ds → RpA K H S vs.reverse ds.reverse
  | _, _, .nil => .nil
  | _, _, .cons h1 h2 => by
    rw [List.reverse_cons, List.reverse_cons]
    exact (RpA.rev h2).append (.cons h1 .nil)
theorem RpA.ints : ∀ (ns : List Int), RpA K H S (ns.map V.int) (ns.map PyData.int)
  | [] => .nil
  | n :: ns => .cons (.int n) (RpA.ints ns)
theorem RpA.of_ints : ∀ {ns : List Int} {vs : List V}, RpA K H S vs (ns.map PyData.int) → vs = ns.map V.int
  | [], _, .nil => rfl
  | n :: ns, _, .cons h1 h2 => by
    cases h1
    rw [RpA.of_ints h2]
    rfl
/-- every address of the data is tracked -/
theorem Rp.thru {d : PyData} {v : V} (r : Rp K H S v d) : Rp K H (fun a => S a ∧ Nn H a) v d := r.keep (kp_same (Same.refl H)) fun a u h e n => ⟨h, _, e, n⟩
theorem RpA.thru {d : List PyData} {v : List V} (r : RpA K H S v d) : RpA K H (fun a => S a ∧ Nn H a) v d := r.keep (kp_same (Same.refl H)) fun a u h e n => ⟨h, _, e, n⟩
end

/-! ### a frame's slots as data -/
/-- H0: the heap at the entry; S0: where lists and dicts of others may stand; M: the slots that hold lists and dicts of the frame's own, which no other value reaches -/
structure Fx where
  H0 : Hp
  S0 : Addr → Prop
def OwnA (M : Nat → Bool) (σ : L2.St) (ρ : Rho) (a : Addr) : Prop := ∃ i d, M i = true ∧ ρ[i]? = some (some d) ∧ σ[i]? = some (some (.ref a))
/-- an own list or dict -/
inductive OwR (K : PySem.W.Frag) (H : Hp) (S : Addr → Prop) (p : Addr) : PyData → Prop
  | lst {xs : List V} {ds : List PyData} : H p = some (.lst xs) → RpA K H S xs ds → OwR K H S p (.list ds)
  | dic {ks : List Key} {xs : List V} {ds : List PyData} : H p = some (.dK (ks.zip xs)) → ks.length = xs.length → RpA K H S xs ds → OwR K H S p (.dict ((.bool true, .none) :: (ks.map kD).zip ds))
  | dct {L : DEn} : H p = some (DctO p L) → DctK K H L → True → OwR K H S p (.dict ((.bool true, .bool true) :: dctD L))
  | dit {dx : Addr} {c : Str} {ks : List Str} {xs : List V} {ds : List PyData} : (H p = some (.ins (He.ga K c) dx (ks.zip xs)) ∧ H dx = some (.own p)) → ks.length = xs.length → RpA K H S xs ds → OwR K H S p (.dict ((.bool false, .tuple [.str c, .int (dx : Nat)]) :: (ks.map PyData.str).zip ds))
/-- where a value's lists may stand: lk tells whether it may reach an own list -/
def RS (M : Nat → Bool) (F : Fx) (σ : L2.St) (ρ : Rho) (lk : Bool) : Addr → Prop := fun a => F.S0 a ∧ (lk = false → ¬ OwnA M σ ρ a)
structure ER (K : PySem.W.Frag) (M : Nat → Bool) (F : Fx) (σ : L2.St) (H : Hp) (ρ : Rho) : Prop where
  len : ρ.length = σ.length
  old : Same F.H0 H
  new : ∀ a, H a = none → F.S0 a
  tab : LamX.Tabs TabL.T H
  im : ∀ i d, ρ[i]? = some (some d) → M i = false → ∃ v, σ[i]? = some (some v) ∧ Rp K H (RS M F σ ρ false) v d
  ow : ∀ i d, ρ[i]? = some (some d) → M i = true → ∃ p, σ[i]? = some (some (.ref p)) ∧ (F.H0 p = none ∧ F.S0 p) ∧ OwR K H (RS M F σ ρ false) p d
  ap : ∀ i j d e p, M i = true → M j = true → ρ[i]? = some (some d) → ρ[j]? = some (some e) → σ[i]? = some (some (.ref p)) → σ[j]? = some (some (.ref p)) → i = j

section
variable {K : PySem.W.Frag} {M : Nat → Bool} {F : Fx} {σ σ' : L2.St} {H H' : Hp} {ρ ρ' : Rho} {S S' : Addr → Prop} {p : Addr} {d : PyData}
theorem OwR.there (h : OwR K H S p d) : ∃ u, H p = some u ∧ Mut (some u) := by
  cases h with
  | lst h _ => exact ⟨_, h, trivial⟩
  | dic h _ _ => exact ⟨_, h, trivial⟩
  | dct h _ _ => exact ⟨_, h, by unfold DctO; trivial⟩
  | dit h _ _ => exact ⟨_, h.1, trivial⟩
theorem OwR.plain (h : OwR K H S p d) : ∃ u, H p = some u ∧ Plain u := by
  cases h with
  | lst h _ => exact ⟨_, h, plain_lst⟩
  | dic h _ _ => exact ⟨_, h, plain_dK⟩
  | dct h _ _ => exact ⟨_, h, plain_dct⟩
  | dit h _ _ => exact ⟨_, h.1, plain_ins⟩
theorem OwR.keep (h : OwR K H S p d) (k : Kp S H H') (hs : ∀ a u, S a → H a = some u → NT u → S' a) (hp : ∀ u, H p = some u → NT u → H' p = some u) : OwR K H' S' p d := by
  cases h with
  | lst h r => exact .lst (hp _ h (by first | assumption | exact fun _ z => nomatch z)) (r.keep k hs)
  | dic h l r => exact .dic (hp _ h (by first | assumption | exact fun _ z => nomatch z)) l (r.keep k hs)
  | dct h l r => exact .dct (hp _ h dct_ne_tbl) (dctK_keep l fun a u e nm n => k a u e (.inr nm) n) r
  | dit h l r => exact .dit ⟨hp _ h.1 (by first | assumption | exact fun _ z => nomatch z), k _ _ h.2 (.inr fun z => z)⟩ l (r.keep k hs)
theorem OwR.rp (h : OwR K H S p d) (hp : S p) : Rp K H S (.ref p) d := by
  cases h with
  | lst h r => exact .lst h hp r
  | dic h l r => exact .dic h hp l r
  | dct h l r => exact .dct (.inl ⟨h, hp⟩) l r r
  | dit h l r => exact .dit h.1 hp l r
theorem ER.own (e : ER K M F σ H ρ) {a : Addr} (o : OwnA M σ ρ a) : F.H0 a = none ∧ F.S0 a ∧ ∃ u, H a = some u := by
  obtain ⟨i, d, m, r, s⟩ := o
  obtain ⟨p, s', z, w⟩ := e.ow i d r m
  rw [s] at s'
  cases s'
  obtain ⟨u, hu, _⟩ := w.there
  exact ⟨z.1, z.2, u, hu⟩
theorem ER.fresh (e : ER K M F σ H ρ) {a : Addr} (h : H a = none) : F.H0 a = none ∧ ¬ OwnA M σ ρ a := by
  refine ⟨e.old.free h, fun o => ?_⟩
  obtain ⟨_, _, u, hu⟩ := e.own o
  rw [h] at hu
  cases hu
theorem ER.freshS (e : ER K M F σ H ρ) {lk : Bool} : ∀ a, H a = none → RS M F σ ρ lk a := fun a h => ⟨e.new a h, fun _ => (e.fresh h).2⟩
/-- new objects alone -/
theorem ER.same (e : ER K M F σ H ρ) (h : Same H H') : ER K M F σ H' ρ where
  len := e.len
  old := e.old.trans h
  new := fun a q => e.new a (h.free q)
  tab := h.tab e.tab
  im := fun i d r m => by
    obtain ⟨v, s, r⟩ := e.im i d r m
    exact ⟨v, s, r.same h⟩
  ow := fun i d r m => by
    obtain ⟨p, s, z, w⟩ := e.ow i d r m
    exact ⟨p, s, z, w.keep (kp_same h) (fun _ _ x _ _ => x) fun u q n => h _ _ q n⟩
  ap := e.ap
/-- a slot's value -/
theorem ER.get (e : ER K M F σ H ρ) {i : Nat} (r : ρ[i]? = some (some d)) : ∃ v, σ[i]? = some (some v) ∧ Rp K H (RS M F σ ρ (M i)) v d := by
  cases m : M i with
  | false => exact e.im i d r m
  | true =>
    obtain ⟨p, s, z, w⟩ := e.ow i d r m
    exact ⟨_, s, (w.keep (S' := RS M F σ ρ true) (kp_same (Same.refl H)) (fun a _ x _ _ => ⟨x.1, fun q => nomatch q⟩) fun _ q _ => q).rp ⟨z.2, fun q => nomatch q⟩⟩
theorem getSome {α : Type} {l : List α} {i : Nat} {x : α} (h : l[i]? = some x) : i < l.length := (List.getElem?_eq_some_iff.mp h).1
/-- own addresses behind a store into a slot that is not own -/
theorem own_set {i : Nat} {v : V} {d' : Option PyData} (m : M i = false) {a : Addr} : OwnA M (σ.set i (some v)) (ρ.set i d') a ↔ OwnA M σ ρ a := by
  constructor
  · rintro ⟨j, e, mj, r, s⟩
    have hj : i ≠ j := fun z => by
      subst z
      rw [m] at mj
      cases mj
    rw [List.getElem?_set_ne hj] at r s
    exact ⟨j, e, mj, r, s⟩
  · rintro ⟨j, e, mj, r, s⟩
    have hj : i ≠ j := fun z => by
      subst z
      rw [m] at mj
      cases mj
    exact ⟨j, e, mj, by rw [List.getElem?_set_ne hj]; exact r, by rw [List.getElem?_set_ne hj]; exact s⟩
theorem rs_set {i : Nat} {v : V} {d' : Option PyData} (m : M i = false) {lk : Bool} : RS M F (σ.set i (some v)) (ρ.set i d') lk = RS M F σ ρ lk := by
  funext a
  unfold RS
  rw [propext (own_set (v := v) (d' := d') (σ := σ) (ρ := ρ) (a := a) m)]
theorem ER.set (e : ER K M F σ H ρ) {i : Nat} {v : V} (m : M i = false) (r : Rp K H (RS M F σ ρ false) v d) : ER K M F (σ.set i (some v)) H (ρ.set i (some d)) where
  len := by rw [List.length_set, List.length_set]; exact e.len
  old := e.old
  new := e.new
  tab := e.tab
  im := fun j d' q mj => by
    rw [rs_set m]
    by_cases hj : i = j
    · subst hj
      have hi : i < ρ.length := by
        have := getSome q
        rwa [List.length_set] at this
      rw [List.getElem?_set_self hi] at q
      cases q
      exact ⟨v, List.getElem?_set_self (by rw [← e.len]; exact hi), r⟩
    · rw [List.getElem?_set_ne hj] at q
      obtain ⟨v', s, r'⟩ := e.im j d' q mj
      exact ⟨v', by rw [List.getElem?_set_ne hj]; exact s, r'⟩
  ow := fun j d' q mj => by
    rw [rs_set m]
    have hj : i ≠ j := fun z => by
      subst z
      rw [m] at mj
      cases mj
    rw [List.getElem?_set_ne hj] at q
    obtain ⟨p, s, z, w⟩ := e.ow j d' q mj
    exact ⟨p, by rw [List.getElem?_set_ne hj]; exact s, z, w⟩
  ap := fun j k d' e' p mj mk q1 q2 s1 s2 => by
    have hj : i ≠ j := fun z => by
      subst z
      rw [m] at mj
      cases mj
    have hk : i ≠ k := fun z => by
      subst z
      rw [m] at mk
      cases mk
    rw [List.getElem?_set_ne hj] at q1 s1
    rw [List.getElem?_set_ne hk] at q2 s2
    exact e.ap j k d' e' p mj mk q1 q2 s1 s2
/-- what is not own stays as it is and does not become own -/
def Evo (M : Nat → Bool) (σ : L2.St) (H : Hp) (ρ : Rho) (σ' : L2.St) (H' : Hp) (ρ' : Rho) : Prop := ∀ a u, H a = some u → ¬ OwnA M σ ρ a → NT u → H' a = some u ∧ ¬ OwnA M σ' ρ' a
theorem Evo.refl : Evo M σ H ρ σ H ρ := fun _ _ h n _ => ⟨h, n⟩
theorem Evo.trans {σ1 : L2.St} {H1 : Hp} {ρ1 : Rho} (a : Evo M σ H ρ σ1 H1 ρ1) (b : Evo M σ1 H1 ρ1 σ' H' ρ') : Evo M σ H ρ σ' H' ρ' := fun x u h n w => by
  obtain ⟨h1, n1⟩ := a x u h n w
  exact b x u h1 n1 w
theorem Evo.same (h : Same H H') : Evo M σ H ρ σ H' ρ := fun a u q n w => ⟨h a u q w, n⟩
theorem Evo.kp (e : ER K M F σ H ρ) (v : Evo M σ H ρ σ' H' ρ') : Kp (RS M F σ ρ false) H H' := by
  refine ⟨fun a u h x w => ?_⟩
  rcases x with x | x
  · exact (v a u h (x.2 rfl) w).1
  · refine (v a u h (fun o => ?_) w).1
    obtain ⟨i, d, m, r, s⟩ := o
    obtain ⟨p, s', z, w⟩ := e.ow i d r m
    rw [s] at s'
    cases s'
    obtain ⟨u', hu, mu⟩ := w.there
    rw [h] at hu
    cases hu
    exact x mu
theorem Evo.rs (v : Evo M σ H ρ σ' H' ρ') : ∀ a u, RS M F σ ρ false a → H a = some u → NT u → RS M F σ' ρ' false a := fun a u x h w => ⟨x.1, fun _ => (v a u h (x.2 rfl) w).2⟩
end
end Pu

set_option Elab.async false
set_option linter.all false
set_option maxRecDepth 100000
set_option maxHeartbeats 2000000
namespace Pu
open PySem PySem.Spec PyProof.Rows L2
variable [TabL]

/-! ### expressions -/
def Frs (K : PySem.W.Frag) (S : Addr → Prop) (H H' : Hp) (v : V) (d : PyData) : Prop := ∃ p, v = .ref p ∧ H p = none ∧ OwR K H' (fun a => S a ∧ a ≠ p) p d
def WE (X : Cx) (M : Nat → Bool) (F : Fx) (E : L2.St → XK) (lk fr : Bool) (σ : L2.St) (ρ : Rho) (H : Hp) (r : Re PyData) (Q : VK) : Prop :=
  match r with
  | .ok d => ∀ v H', Same H H' → Rp X.K H' (RS M F σ ρ lk) v d → (fr = true → Frs X.K (RS M F σ ρ lk) H H' v d) → Q v H'
  | .ex c => ∀ C H', X.mg c = some (.ref C) → Same H H' → E σ (.ref C) none H'
  | .bad => False
def DE (X : Cx) (M : Nat → Bool) (F : Fx) (E : L2.St → XK) (lk fr : Bool) (e : Expr) (f : Rho → Re PyData) : Prop :=
  ∃ t : TE, PE X e t ∧ ∀ σ H ρ, ER X.K M F σ H ρ → ∀ Q, WE X M F E lk fr σ ρ H (f ρ) Q → t σ H Q
def WT (X : Cx) (E : L2.St → XK) (σ : L2.St) (H : Hp) (r : Re Bool) (Q : Bool → Hp → Prop) : Prop :=
  match r with
  | .ok b => ∀ H', Same H H' → Q b H'
  | .ex c => ∀ C H', X.mg c = some (.ref C) → Same H H' → E σ (.ref C) none H'
  | .bad => False
def DT (X : Cx) (M : Nat → Bool) (F : Fx) (E : L2.St → XK) (e : Expr) (f : Rho → Re Bool) : Prop :=
  ∃ t : TT, PT X e t ∧ ∀ σ H ρ, ER X.K M F σ H ρ → ∀ Q, WT X E σ H (f ρ) Q → t σ H Q
def DW (X : Cx) (M : Nat → Bool) (F : Fx) (E : L2.St → XK) (e : Expr) (f : Rho → Re Bool) : Prop :=
  ∃ t : TT, PW X e t ∧ ∀ σ H ρ, ER X.K M F σ H ρ → ∀ Q, WT X E σ H (f ρ) Q → t σ H Q
def WA (X : Cx) (M : Nat → Bool) (F : Fx) (E : L2.St → XK) (lk : Bool) (σ : L2.St) (ρ : Rho) (H : Hp) (r : Re (List PyData)) (Q : List V → Hp → Prop) : Prop :=
  match r with
  | .ok ds => ∀ vs H', Same H H' → RpA X.K H' (RS M F σ ρ lk) vs ds → Q vs H'
  | .ex c => ∀ C H', X.mg c = some (.ref C) → Same H H' → E σ (.ref C) none H'
  | .bad => False
def DA (X : Cx) (M : Nat → Bool) (F : Fx) (E : L2.St → XK) (lk : Bool) (es : List Expr) (f : Rho → Re (List PyData)) : Prop :=
  ∃ t : TA, PA X es t ∧ ∀ σ H ρ, ER X.K M F σ H ρ → ∀ Q, WA X M F E lk σ ρ H (f ρ) Q → t σ H Q

section
variable {X : Cx} {M : Nat → Bool} {F : Fx} {E : L2.St → XK} {σ : L2.St} {ρ : Rho} {H H' H1 : Hp}
theorem rs_or1 {a b : Bool} : ∀ x, RS M F σ ρ a x → RS M F σ ρ (a || b) x := fun x h => ⟨h.1, fun q => h.2 (by cases a <;> simp_all)⟩
theorem rs_or2 {a b : Bool} : ∀ x, RS M F σ ρ b x → RS M F σ ρ (a || b) x := fun x h => ⟨h.1, fun q => h.2 (by cases a <;> simp_all)⟩
theorem rs_t {a : Bool} : ∀ x, RS M F σ ρ a x → RS M F σ ρ true x := fun x h => ⟨h.1, fun q => nomatch q⟩
theorem Frs.of (h : Frs X.K (RS M F σ ρ true) H H1 v d) (s : Same H' H) {v : V} {d : PyData} : True := trivial
/-- weaken -/
theorem DE.lk {lk fr : Bool} {e : Expr} {f : Rho → Re PyData} (h : DE X M F E lk fr e f) : DE X M F E true false e f := by
  obtain ⟨t, p, h⟩ := h
  refine ⟨t, p, fun σ H ρ er Q w => h σ H ρ er Q ?_⟩
  cases q : f ρ with
  | ok d =>
    rw [q] at w
    exact fun v H' s r _ => w v H' s (r.wide rs_t) fun z => nomatch z
  | ex c =>
    rw [q] at w
    exact w
  | bad =>
    rw [q] at w
    exact w
/-- the continuation of a part -/
theorem we_step {lk fr lk' fr' : Bool} {r : Re PyData} {Q : VK} {g : PyData → Re PyData} {K : VK} (w : WE X M F E lk fr σ ρ H (r.andThen g) Q)
    (h : ∀ d v H', r = .ok d → Same H H' → Rp X.K H' (RS M F σ ρ lk') v d → (fr' = true → Frs X.K (RS M F σ ρ lk') H H' v d) → WE X M F E lk fr σ ρ H' (g d) Q → K v H') : WE X M F E lk' fr' σ ρ H r K := by
  cases r with
  | ok d =>
    refine fun v H' s rr ff => h d v H' rfl s rr ff ?_
    show WE X M F E lk fr σ ρ H' (g d) Q
    have w : WE X M F E lk fr σ ρ H (g d) Q := w
    cases q : g d with
    | ok z =>
      rw [q] at w
      refine fun v2 H2 s2 r2 f2 => w v2 H2 (s.trans s2) r2 fun z2 => ?_
      obtain ⟨p, e1, e2, e3⟩ := f2 z2
      exact ⟨p, e1, s.free e2, e3⟩
    | ex c =>
      rw [q] at w
      exact fun C H2 m s2 => w C H2 m (s.trans s2)
    | bad =>
      rw [q] at w
      exact w
  | ex c => exact w
  | bad => exact w
theorem wt_step {r : Re PyData} {lk' fr' : Bool} {Q : Bool → Hp → Prop} {g : PyData → Re Bool} {K : VK} (w : WT X E σ H (r.andThen g) Q)
    (h : ∀ d v H', r = .ok d → Same H H' → Rp X.K H' (RS M F σ ρ lk') v d → (fr' = true → Frs X.K (RS M F σ ρ lk') H H' v d) → WT X E σ H' (g d) Q → K v H') : WE X M F E lk' fr' σ ρ H r K := by
  cases r with
  | ok d =>
    refine fun v H' s rr ff => h d v H' rfl s rr ff ?_
    have w : WT X E σ H (g d) Q := w
    cases q : g d with
    | ok z =>
      rw [q] at w
      exact fun H2 s2 => w H2 (s.trans s2)
    | ex c =>
      rw [q] at w
      exact fun C H2 m s2 => w C H2 m (s.trans s2)
    | bad =>
      rw [q] at w
      exact w
  | ex c => exact w
  | bad => exact w
theorem we_stepT {lk fr : Bool} {r : Re Bool} {Q : VK} {g : Bool → Re PyData} {K : Bool → Hp → Prop} (w : WE X M F E lk fr σ ρ H (r.andThen g) Q)
    (h : ∀ d H', r = .ok d → Same H H' → WE X M F E lk fr σ ρ H' (g d) Q → K d H') : WT X E σ H r K := by
  cases r with
  | ok d =>
    refine fun H' s => h d H' rfl s ?_
    have w : WE X M F E lk fr σ ρ H (g d) Q := w
    cases q : g d with
    | ok z =>
      rw [q] at w
      refine fun v2 H2 s2 r2 f2 => w v2 H2 (s.trans s2) r2 fun z2 => ?_
      obtain ⟨p, e1, e2, e3⟩ := f2 z2
      exact ⟨p, e1, s.free e2, e3⟩
    | ex c =>
      rw [q] at w
      exact fun C H2 m s2 => w C H2 m (s.trans s2)
    | bad =>
      rw [q] at w
      exact w
  | ex c => exact w
  | bad => exact w
theorem wt_stepT {r : Re Bool} {Q : Bool → Hp → Prop} {g : Bool → Re Bool} {K : Bool → Hp → Prop} (w : WT X E σ H (r.andThen g) Q)
    (h : ∀ d H', r = .ok d → Same H H' → WT X E σ H' (g d) Q → K d H') : WT X E σ H r K := by
  cases r with
  | ok d =>
    refine fun H' s => h d H' rfl s ?_
    have w : WT X E σ H (g d) Q := w
    cases q : g d with
    | ok z =>
      rw [q] at w
      exact fun H2 s2 => w H2 (s.trans s2)
    | ex c =>
      rw [q] at w
      exact fun C H2 m s2 => w C H2 m (s.trans s2)
    | bad =>
      rw [q] at w
      exact w
  | ex c => exact w
  | bad => exact w
theorem we_stepA {lk fr lk' : Bool} {r : Re (List PyData)} {Q : VK} {g : List PyData → Re PyData} {K : List V → Hp → Prop} (w : WE X M F E lk fr σ ρ H (r.andThen g) Q)
    (h : ∀ ds vs H', r = .ok ds → Same H H' → RpA X.K H' (RS M F σ ρ lk') vs ds → WE X M F E lk fr σ ρ H' (g ds) Q → K vs H') : WA X M F E lk' σ ρ H r K := by
  cases r with
  | ok d =>
    refine fun vs H' s rr => h d vs H' rfl s rr ?_
    have w : WE X M F E lk fr σ ρ H (g d) Q := w
    cases q : g d with
    | ok z =>
      rw [q] at w
      refine fun v2 H2 s2 r2 f2 => w v2 H2 (s.trans s2) r2 fun z2 => ?_
      obtain ⟨p, e1, e2, e3⟩ := f2 z2
      exact ⟨p, e1, s.free e2, e3⟩
    | ex c =>
      rw [q] at w
      exact fun C H2 m s2 => w C H2 m (s.trans s2)
    | bad =>
      rw [q] at w
      exact w
  | ex c => exact w
  | bad => exact w

/-! names, constants -/
def rVar (i : Nat) : Rho → Re PyData := fun ρ => match ρ[i]? with | some (some d) => .ok d | _ => .bad
theorem de_var (i : Nat) {x : Str} {pos : Pos} (hN : X.N[i]? = some x := by rfl) (hv : Vis X.env.scope x := by first | exact Or.inl rfl | exact Or.inr (Or.inl rfl) | exact Or.inr (Or.inr rfl)) (hd : (x == ("__debug__" : Str)) = false := by decide)
    (hcd : (x == ("__classdict__" : Str)) = false := by decide) : DE X M F E (M i) false (.Name x pos) (rVar i) := by
  refine ⟨_, pe_var hN hv hd hcd, fun σ H ρ er Q w => ?_⟩
  unfold rVar at w
  split at w
  · rename_i d hd
    obtain ⟨v, s, r⟩ := er.get hd
    exact ⟨v, s, w v H (Same.refl H) r fun z => nomatch z⟩
  · exact w.elim
def rC (d : PyData) : Rho → Re PyData := fun _ => .ok d
theorem de_int {i : Int} {j pos} : DE X M F E false false (.Constant (.int i) j pos) (rC (.int i)) := ⟨_, pe_int, fun σ H ρ er Q w => w _ H (Same.refl H) (.int i) fun z => nomatch z⟩
theorem de_bl {i : Bool} {j pos} : DE X M F E false false (.Constant (.bool i) j pos) (rC (.bool i)) := ⟨_, pe_bl, fun σ H ρ er Q w => w _ H (Same.refl H) (.bl i) fun z => nomatch z⟩
theorem de_non {j pos} : DE X M F E false false (.Constant .none j pos) (rC .none) := ⟨_, pe_non, fun σ H ρ er Q w => w _ H (Same.refl H) .non fun z => nomatch z⟩
theorem de_str {i : Str} {j pos} : DE X M F E false false (.Constant (.str i) j pos) (rC (.str i)) := ⟨_, pe_str, fun σ H ρ er Q w => w _ H (Same.refl H) (.str i) fun z => nomatch z⟩
/-- a module's constant -/
theorem de_glob {x : Str} {i : Int} {t : Tok} {pos : Pos} (hg : Gl X x) (hm : X.mg x = some (.int i t)) (hd : (x == ("__debug__" : Str)) = false := by decide) : DE X M F E false false (.Name x pos) (rC (.int i)) :=
  ⟨_, pe_glob (v := .int i) hg hm ⟨t, rfl⟩ hd, fun σ H ρ er Q w => w _ H (Same.refl H) (.int i) fun z => nomatch z⟩

/-! operators, by values -/
/-- the rule r reckons g -/
def SemB (K : PySem.W.Frag) (r : R2) (fr : Bool) (g : PyData → PyData → Option PyData) : Prop :=
  ∀ (S : Addr → Prop) (H : Hp) (x y : V) (d e z : PyData) (Q : VK), (∀ a, H a = none → S a) → Rp K H S x d → Rp K H S y e → g d e = some z →
    (∀ v H', Same H H' → Rp K H' S v z → (fr = true → Frs K S H H' v z) → Q v H') → r x y H Q
def SemU (K : PySem.W.Frag) (r : V → Hp → VK → Prop) (fr : Bool) (g : PyData → Option PyData) : Prop :=
  ∀ (S : Addr → Prop) (H : Hp) (x : V) (d z : PyData) (Q : VK), (∀ a, H a = none → S a) → Rp K H S x d → g d = some z →
    (∀ v H', Same H H' → Rp K H' S v z → (fr = true → Frs K S H H' v z) → Q v H') → r x H Q
def SemL (K : PySem.W.Frag) (r : List V → Hp → VK → Prop) (fr : Bool) (g : List PyData → Option PyData) : Prop :=
  ∀ (S : Addr → Prop) (H : Hp) (xs : List V) (ds : List PyData) (z : PyData) (Q : VK), (∀ a, H a = none → S a) → RpA K H S xs ds → g ds = some z →
    (∀ v H', Same H H' → Rp K H' S v z → (fr = true → Frs K S H H' v z) → Q v H') → r xs H Q
def liftO {α : Type} : Option α → Re α
  | some a => .ok a
  | none => .bad
def r2 (g : PyData → PyData → Option PyData) (fa fb : Rho → Re PyData) : Rho → Re PyData := fun ρ => (fa ρ).andThen fun x => (fb ρ).andThen fun y => liftO (g x y)
def r1 (g : PyData → Option PyData) (fa : Rho → Re PyData) : Rho → Re PyData := fun ρ => (fa ρ).andThen fun x => liftO (g x)
def asB (f : Rho → Re PyData) : Rho → Re Bool := fun ρ => (f ρ).andThen fun d => match d with | .bool b => .ok b | _ => .bad
variable {la lb fa fb : Bool} {a b : Expr} {f g : Rho → Re PyData} {pos : Pos}
/-- two parts, then a rule upon values -/
theorem two_run {ta tb : TE} {r : R2} {gg : PyData → PyData → Option PyData} {fr : Bool} (ha : ∀ σ H ρ, ER X.K M F σ H ρ → ∀ Q, WE X M F E la fa σ ρ H (f ρ) Q → ta σ H Q) (hb : ∀ σ H ρ, ER X.K M F σ H ρ → ∀ Q, WE X M F E lb fb σ ρ H (g ρ) Q → tb σ H Q)
    (hg : SemB X.K r fr gg) (er : ER X.K M F σ H ρ) {Q : VK} (w : WE X M F E (la || lb) fr σ ρ H (r2 gg f g ρ) Q) : tOp r ta tb σ H Q := by
  refine ha σ H ρ er _ (we_step w fun d v H1 e1 s1 q1 _ w1 => ?_)
  refine hb σ H1 ρ (er.same s1) _ (we_step w1 fun e u H2 e2 s2 q2 _ w2 => ?_)
  cases q : gg d e with
  | none =>
    rw [q] at w2
    exact w2.elim
  | some z =>
    rw [q] at w2
    exact hg (RS M F σ ρ (la || lb)) H2 v u d e z Q ((er.same s1).same s2).freshS ((q1.same s2).wide rs_or1) (q2.wide rs_or2) q fun v' H' s' r' f' => w2 v' H' s' r' f'
theorem de_op {op : Operator} {r : R2} {fr : Bool} {gg : PyData → PyData → Option PyData} (ho : OpR X (binaryOp op) r) (hg : SemB X.K r fr gg) (ha : DE X M F E la fa a f) (hb : DE X M F E lb fb b g) : DE X M F E (la || lb) fr (.BinOp a op b pos) (r2 gg f g) := by
  obtain ⟨ta, pa, ha⟩ := ha
  obtain ⟨tb, pb, hb⟩ := hb
  exact ⟨_, pe_op ho pa pb, fun σ H ρ er Q w => two_run ha hb hg er w⟩
theorem de_un {op : UnaryOp} {r : V → Hp → VK → Prop} {fr : Bool} {gg : PyData → Option PyData} (ho : UnR X (unaryOp op) r) (hg : SemU X.K r fr gg) (ha : DE X M F E la fa a f) : DE X M F E la fr (.UnaryOp op a pos) (r1 gg f) := by
  obtain ⟨ta, pa, ha⟩ := ha
  refine ⟨_, pe_un ho pa, fun σ H ρ er Q w => ?_⟩
  refine ha σ H ρ er _ (we_step w fun d v H1 e1 s1 q1 _ w1 => ?_)
  cases q : gg d with
  | none =>
    rw [q] at w1
    exact w1.elim
  | some z =>
    rw [q] at w1
    exact hg (RS M F σ ρ la) H1 v d z Q (er.same s1).freshS q1 q fun v' H' s' r' f' => w1 v' H' s' r' f'
theorem de_cmp {op : CmpOp} {r : R2} {gg : PyData → PyData → Option PyData} (ho : OpR X (compareOp op) r) (hg : SemB X.K r false gg) (ha : DE X M F E la fa a f) (hb : DE X M F E lb fb b g) (hm : behindInMarks op b = false) : DE X M F E (la || lb) false (.Compare a [op] [b] pos) (r2 gg f g) := by
  obtain ⟨ta, pa, ha⟩ := ha
  obtain ⟨tb, pb, hb⟩ := hb
  exact ⟨_, pe_cmpR ho pa pb hm, fun σ H ρ er Q w => two_run ha hb hg er w⟩
theorem wt_asB {t : TE} {lk fr : Bool} {h : Rho → Re PyData} (ht : ∀ σ H ρ, ER X.K M F σ H ρ → ∀ Q, WE X M F E lk fr σ ρ H (h ρ) Q → t σ H Q) (er : ER X.K M F σ H ρ) {Q : Bool → Hp → Prop} (w : WT X E σ H (asB h ρ) Q) : t σ H fun x H' => ∃ k, x = .bl k ∧ Q k H' := by
  refine ht σ H ρ er _ (wt_step w fun d v H1 e1 s1 q1 _ w1 => ?_)
  cases q1 with
  | bl k => exact ⟨k, rfl, w1 H1 (Same.refl _)⟩
  | non => exact w1.elim
  | int _ => exact w1.elim
  | str _ => exact w1.elim
  | tup _ _ => exact w1.elim
  | lst _ _ _ => exact w1.elim
  | scr _ _ => exact w1.elim
  | dic _ _ _ _ => exact w1.elim
  | dit _ _ _ _ => exact w1.elim
  | dif _ _ _ => exact w1.elim
  | rng _ => exact w1.elim
  | dct _ _ _ _ => exact w1.elim
theorem dt_cmp {op : CmpOp} {r : R2} {gg : PyData → PyData → Option PyData} (ho : OpR X (compareOp op) r) (hg : SemB X.K r false gg) (ha : DE X M F E la fa a f) (hb : DE X M F E lb fb b g) (hm : behindInMarks op b = false) : DT X M F E (.Compare a [op] [b] pos) (asB (r2 gg f g)) := by
  obtain ⟨ta, pa, ha⟩ := ha
  obtain ⟨tb, pb, hb⟩ := hb
  exact ⟨_, pt_cmpR ho pa pb hm, fun σ H ρ er Q w => wt_asB (fun σ H ρ er Q w => two_run ha hb hg er w) er w⟩
theorem dt_val (ha : DE X M F E la fa a f) (he : ∀ whole, isTrue a X.env whole = (do let v ← whole; standAt a.pos; holding [v] (truthy v)) := by intro _; rfl) : DT X M F E a (asB f) := by
  obtain ⟨ta, pa, ha⟩ := ha
  exact ⟨_, pt_val pa he, fun σ H ρ er Q w => wt_asB ha er w⟩

/-! tests -/
def tAndR (f g : Rho → Re Bool) : Rho → Re Bool := fun ρ => (f ρ).andThen fun c => if c = true then g ρ else .ok false
def tOrR (f g : Rho → Re Bool) : Rho → Re Bool := fun ρ => (f ρ).andThen fun c => if c = true then .ok true else g ρ
def tNotR (f : Rho → Re Bool) : Rho → Re Bool := fun ρ => (f ρ).andThen fun c => .ok (!c)
section
variable {c c' : Expr} {rest : List Expr} {p q : Rho → Re Bool}
theorem DW.pt {e : Expr} (h : DW X M F E e p) : DT X M F E e p := by
  obtain ⟨t, h, w⟩ := h
  exact ⟨t, h.pt, w⟩
theorem dw_and1 (h : DT X M F E c p) : DW X M F E (.BoolOp .And [c] pos) p := by
  obtain ⟨t, h, w⟩ := h
  exact ⟨t, pw_and1 h, w⟩
theorem dw_or1 (h : DT X M F E c p) : DW X M F E (.BoolOp .Or [c] pos) p := by
  obtain ⟨t, h, w⟩ := h
  exact ⟨t, pw_or1 h, w⟩
theorem dw_and (h : DT X M F E c p) (k : DW X M F E (.BoolOp .And (c' :: rest) pos) q) : DW X M F E (.BoolOp .And (c :: c' :: rest) pos) (tAndR p q) := by
  obtain ⟨t, h, w⟩ := h
  obtain ⟨u, k, y⟩ := k
  refine ⟨_, pw_and h k, fun σ H ρ er Q z => ?_⟩
  refine w σ H ρ er _ (wt_stepT z fun d H1 e s z1 => ?_)
  cases d with
  | true => exact y σ H1 ρ (er.same s) Q z1
  | false => exact z1 H1 (Same.refl _)
theorem dw_or (h : DT X M F E c p) (k : DW X M F E (.BoolOp .Or (c' :: rest) pos) q) : DW X M F E (.BoolOp .Or (c :: c' :: rest) pos) (tOrR p q) := by
  obtain ⟨t, h, w⟩ := h
  obtain ⟨u, k, y⟩ := k
  refine ⟨_, pw_or h k, fun σ H ρ er Q z => ?_⟩
  refine w σ H ρ er _ (wt_stepT z fun d H1 e s z1 => ?_)
  cases d with
  | false => exact y σ H1 ρ (er.same s) Q z1
  | true => exact z1 H1 (Same.refl _)
theorem dt_not (h : DT X M F E c p) : DT X M F E (.UnaryOp .Not c pos) (tNotR p) := by
  obtain ⟨t, h, w⟩ := h
  refine ⟨_, pt_not h, fun σ H ρ er Q z => ?_⟩
  exact w σ H ρ er _ (wt_stepT z fun d H1 e s z1 => z1 H1 (Same.refl _))
def rIf (p : Rho → Re Bool) (f g : Rho → Re PyData) : Rho → Re PyData := fun ρ => (p ρ).andThen fun c => if c = true then f ρ else g ρ
theorem de_ifExp (hc : DT X M F E c p) (ha : DE X M F E la fa a f) (hb : DE X M F E lb fb b g) : DE X M F E (la || lb) false (.IfExp c a b pos) (rIf p f g) := by
  obtain ⟨t, hc, w⟩ := hc
  obtain ⟨ta, pa, ha⟩ := ha
  obtain ⟨tb, pb, hb⟩ := hb
  refine ⟨_, pe_ifExp hc pa pb, fun σ H ρ er Q z => ?_⟩
  refine w σ H ρ er _ (we_stepT z fun d H1 e s z1 => ?_)
  cases d with
  | true =>
    refine ha σ H1 ρ (er.same s) Q ?_
    have z1 : WE X M F E (la || lb) false σ ρ H1 (f ρ) Q := z1
    revert z1
    cases f ρ with
    | ok d => exact fun z1 v H2 s2 r2 _ => z1 v H2 s2 (r2.wide rs_or1) fun z => nomatch z
    | ex c => exact fun z1 => z1
    | bad => exact fun z1 => z1
  | false =>
    refine hb σ H1 ρ (er.same s) Q ?_
    have z1 : WE X M F E (la || lb) false σ ρ H1 (g ρ) Q := z1
    revert z1
    cases g ρ with
    | ok d => exact fun z1 v H2 s2 r2 _ => z1 v H2 s2 (r2.wide rs_or2) fun z => nomatch z
    | ex c => exact fun z1 => z1
    | bad => exact fun z1 => z1
/-- and, or, not as values of bools -/
def vB (p : Rho → Re Bool) : Rho → Re PyData := fun ρ => (p ρ).andThen fun b => .ok (.bool b)
theorem de_one {op} {t : Rho → Re PyData} (h : DE X M F E la fa a t) : DE X M F E la fa (.BoolOp op [a] pos) t := by
  obtain ⟨ta, pa, ha⟩ := h
  exact ⟨ta, pe_one pa, ha⟩
def rAnd (f g : Rho → Re PyData) : Rho → Re PyData := fun ρ => (f ρ).andThen fun d => match d with | .bool true => g ρ | .bool false => .ok (.bool false) | _ => .bad
def rOr (f g : Rho → Re PyData) : Rho → Re PyData := fun ρ => (f ρ).andThen fun d => match d with | .bool false => g ρ | .bool true => .ok (.bool true) | _ => .bad
def rNot (f : Rho → Re PyData) : Rho → Re PyData := fun ρ => (f ρ).andThen fun d => match d with | .bool b => .ok (.bool (!b)) | _ => .bad
theorem we_nofr {lk fr : Bool} {r : Re PyData} {Q : VK} (w : WE X M F E lk false σ ρ H r Q) : WE X M F E lk fr σ ρ H r Q := by
  cases r with
  | ok d => exact fun v H' s r _ => w v H' s r fun z => nomatch z
  | ex c => exact w
  | bad => exact w
theorem we_lk {lk lk' fr : Bool} {r : Re PyData} {Q : VK} (h : ∀ x, RS M F σ ρ lk x → RS M F σ ρ lk' x) (w : WE X M F E lk' false σ ρ H r Q) : WE X M F E lk fr σ ρ H r Q := by
  cases r with
  | ok d => exact fun v H' s r _ => w v H' s (r.wide h) fun z => nomatch z
  | ex c => exact w
  | bad => exact w
theorem de_and {b : Expr} {rest : List Expr} (ha : DE X M F E la fa a f) (hb : DE X M F E lb fb (.BoolOp .And (b :: rest) pos) g) : DE X M F E lb false (.BoolOp .And (a :: b :: rest) pos) (rAnd f g) := by
  obtain ⟨ta, pa, ha⟩ := ha
  obtain ⟨tb, pb, hb⟩ := hb
  refine ⟨_, pe_and pa pb, fun σ H ρ er Q z => ?_⟩
  refine ha σ H ρ er _ (we_step z fun d v H1 e s r1 _ z1 => ?_)
  cases r1 with
  | bl k =>
    refine ⟨k, rfl, ?_⟩
    cases k with
    | true => exact hb σ H1 ρ (er.same s) Q (we_nofr z1)
    | false => exact z1 _ H1 (Same.refl _) (.bl false) fun z => nomatch z
  | non => exact z1.elim
  | int _ => exact z1.elim
  | str _ => exact z1.elim
  | tup _ _ => exact z1.elim
  | lst _ _ _ => exact z1.elim
  | scr _ _ => exact z1.elim
  | dic _ _ _ _ => exact z1.elim
  | dit _ _ _ _ => exact z1.elim
  | dif _ _ _ => exact z1.elim
  | rng _ => exact z1.elim
  | dct _ _ _ _ => exact z1.elim
theorem de_or {b : Expr} {rest : List Expr} (ha : DE X M F E la fa a f) (hb : DE X M F E lb fb (.BoolOp .Or (b :: rest) pos) g) : DE X M F E lb false (.BoolOp .Or (a :: b :: rest) pos) (rOr f g) := by
  obtain ⟨ta, pa, ha⟩ := ha
  obtain ⟨tb, pb, hb⟩ := hb
  refine ⟨_, pe_or pa pb, fun σ H ρ er Q z => ?_⟩
  refine ha σ H ρ er _ (we_step z fun d v H1 e s r1 _ z1 => ?_)
  cases r1 with
  | bl k =>
    refine ⟨k, rfl, ?_⟩
    cases k with
    | false => exact hb σ H1 ρ (er.same s) Q (we_nofr z1)
    | true => exact z1 _ H1 (Same.refl _) (.bl true) fun z => nomatch z
  | non => exact z1.elim
  | int _ => exact z1.elim
  | str _ => exact z1.elim
  | tup _ _ => exact z1.elim
  | lst _ _ _ => exact z1.elim
  | scr _ _ => exact z1.elim
  | dic _ _ _ _ => exact z1.elim
  | dit _ _ _ _ => exact z1.elim
  | dif _ _ _ => exact z1.elim
  | rng _ => exact z1.elim
  | dct _ _ _ _ => exact z1.elim
theorem de_not (ha : DE X M F E la fa a f) : DE X M F E false false (.UnaryOp .Not a pos) (rNot f) := by
  obtain ⟨ta, pa, ha⟩ := ha
  refine ⟨_, pe_not pa, fun σ H ρ er Q z => ?_⟩
  refine ha σ H ρ er _ (we_step z fun d v H1 e s r1 _ z1 => ?_)
  cases r1 with
  | bl k => exact ⟨k, rfl, z1 _ H1 (Same.refl _) (.bl _) fun z => nomatch z⟩
  | non => exact z1.elim
  | int _ => exact z1.elim
  | str _ => exact z1.elim
  | tup _ _ => exact z1.elim
  | lst _ _ _ => exact z1.elim
  | scr _ _ => exact z1.elim
  | dic _ _ _ _ => exact z1.elim
  | dit _ _ _ _ => exact z1.elim
  | dif _ _ _ => exact z1.elim
  | rng _ => exact z1.elim
  | dct _ _ _ _ => exact z1.elim
end

/-! arguments, displays -/
def aNil : Rho → Re (List PyData) := fun _ => .ok []
def aCons (f : Rho → Re PyData) (g : Rho → Re (List PyData)) : Rho → Re (List PyData) := fun ρ => (f ρ).andThen fun d => (g ρ).andThen fun ds => .ok (d :: ds)
theorem da_nil : DA X M F E false [] aNil := ⟨_, pa_nil, fun σ H ρ er Q w => w [] H (Same.refl _) .nil⟩
theorem wa_step {lk lk' fr' : Bool} {r : Re PyData} {Q : List V → Hp → Prop} {g : PyData → Re (List PyData)} {K : VK} (w : WA X M F E lk σ ρ H (r.andThen g) Q)
    (h : ∀ d v H', r = .ok d → Same H H' → Rp X.K H' (RS M F σ ρ lk') v d → (fr' = true → Frs X.K (RS M F σ ρ lk') H H' v d) → WA X M F E lk σ ρ H' (g d) Q → K v H') : WE X M F E lk' fr' σ ρ H r K := by
  cases r with
  | ok d =>
    refine fun v H' s rr ff => h d v H' rfl s rr ff ?_
    have w : WA X M F E lk σ ρ H (g d) Q := w
    cases q : g d with
    | ok z =>
      rw [q] at w
      exact fun v2 H2 s2 r2 => w v2 H2 (s.trans s2) r2
    | ex c =>
      rw [q] at w
      exact fun C H2 m s2 => w C H2 m (s.trans s2)
    | bad =>
      rw [q] at w
      exact w
  | ex c => exact w
  | bad => exact w
theorem wa_stepA {lk lk' : Bool} {r : Re (List PyData)} {Q : List V → Hp → Prop} {g : List PyData → Re (List PyData)} {K : List V → Hp → Prop} (w : WA X M F E lk σ ρ H (r.andThen g) Q)
    (h : ∀ d v H', r = .ok d → Same H H' → RpA X.K H' (RS M F σ ρ lk') v d → WA X M F E lk σ ρ H' (g d) Q → K v H') : WA X M F E lk' σ ρ H r K := by
  cases r with
  | ok d =>
    refine fun v H' s rr => h d v H' rfl s rr ?_
    have w : WA X M F E lk σ ρ H (g d) Q := w
    cases q : g d with
    | ok z =>
      rw [q] at w
      exact fun v2 H2 s2 r2 => w v2 H2 (s.trans s2) r2
    | ex c =>
      rw [q] at w
      exact fun C H2 m s2 => w C H2 m (s.trans s2)
    | bad =>
      rw [q] at w
      exact w
  | ex c => exact w
  | bad => exact w
theorem da_cons {es : List Expr} {gs : Rho → Re (List PyData)} (ha : DE X M F E la fa a f) (hb : DA X M F E lb es gs) (hs : starEach (a :: es) X.env = (false, eval a X.env) :: starEach es X.env := by rfl) : DA X M F E (la || lb) (a :: es) (aCons f gs) := by
  obtain ⟨ta, pa, ha⟩ := ha
  obtain ⟨tb, pb, hb⟩ := hb
  refine ⟨_, pa_cons pa pb hs, fun σ H ρ er Q z => ?_⟩
  refine ha σ H ρ er _ (wa_step z fun d v H1 e s r1 _ z1 => ?_)
  refine hb σ H1 ρ (er.same s) _ (wa_stepA z1 fun ds vs H2 e s2 r2 z2 => ?_)
  exact z2 _ H2 (Same.refl _) (.cons ((r1.same s2).wide rs_or1) (r2.wide rs_or2))
theorem same_new {H : Hp} {p : Addr} {o : HO} (h : H p = none) : Same H (upd H p o) := .of fun b x e => by
  rw [upd_ne (ne_of_none e h)]
  exact e
/-- the line of lengths that the data may have: 10000 (Python's own is greater) -/
def okLen (n : Nat) : Bool := decide (n ≤ 10000)
theorem okLen_le {n : Nat} (h : okLen n = true) : n ≤ sizeLine := Nat.le_trans (of_decide_eq_true h) (by decide)
def mkT (ds : List PyData) : Re PyData := if okLen ds.length = true then .ok (.tuple ds) else .bad
def mkL (ds : List PyData) : Re PyData := if okLen ds.length = true then .ok (.list ds) else .bad
def rTup (g : Rho → Re (List PyData)) : Rho → Re PyData := fun ρ => (g ρ).andThen mkT
def rLst (g : Rho → Re (List PyData)) : Rho → Re PyData := fun ρ => (g ρ).andThen mkL
theorem de_tup {es : List Expr} {k : Nat} {gs : Rho → Re (List PyData)} (h : DA X M F E la es gs) : DE X M F E la false (.Tuple es k pos) (rTup gs) := by
  obtain ⟨t, p, h⟩ := h
  refine ⟨_, pe_tupF p, fun σ H ρ er Q z => ?_⟩
  refine h σ H ρ er _ (we_stepA z fun ds vs H1 e s r1 z1 => ?_)
  unfold mkT at z1
  by_cases hl : okLen ds.length = true
  · rw [if_pos hl] at z1
    refine ⟨by rw [r1.length]; exact okLen_le hl, fun p o hp hd => z1 _ _ (same_new hp) ?_ fun z => nomatch z⟩
    exact .tup (.inl ⟨o, upd_same, hd⟩) (r1.same (same_new hp))
  · rw [if_neg hl] at z1
    exact z1.elim
/-- a new list at p -/
theorem frs_new {S : Addr → Prop} {K : PySem.W.Frag} {H H1 : Hp} {p : Addr} {vs : List V} {ds : List PyData} (s : Same H H1) (hp : H1 p = none) (r : RpA K H1 S vs ds) : Frs K S H (upd H1 p (.lst vs)) (.ref p) (.list ds) := by
  refine ⟨p, rfl, s.free hp, .lst upd_same ((r.thru.same (same_new hp)).wide fun a x => ⟨x.1, fun e => ?_⟩)⟩
  rw [e] at x
  exact x.2.not hp
theorem de_lst {es : List Expr} {gs : Rho → Re (List PyData)} (h : DA X M F E la es gs) : DE X M F E la true (.List es pos) (rLst gs) := by
  obtain ⟨t, p, h⟩ := h
  refine ⟨_, pe_lst p, fun σ H ρ er Q z => ?_⟩
  refine h σ H ρ er _ (we_stepA z fun ds vs H1 e s r1 z1 => ?_)
  unfold mkL at z1
  by_cases hl : okLen ds.length = true
  · rw [if_pos hl] at z1
    refine ⟨by rw [r1.length]; exact okLen_le hl, fun p hp => z1 _ _ (same_new hp) ?_ fun _ => frs_new (Same.refl _) hp r1⟩
    exact .lst upd_same ((er.same s).freshS p hp) (r1.same (same_new hp))
  · rw [if_neg hl] at z1
    exact z1.elim

/-! calls -/
/-- a def's promise, by the function that it is -/
def spD (mg : Str → Option Value) (f : List PyData → Re PyData) (K : PySem.W.Frag) : Sp := fun vs H Q Ex => ∃ (ds : List PyData) (S : Addr → Prop), RpA K H S vs ds ∧ ((∀ a, H a = none → S a) ∧ LamX.Tabs TabL.T H) ∧
  match f ds with
  | .ok d => ∀ v H', Same H H' → Rp K H' S v d → Q v H'
  | .ex c => ∀ C H', mg c = some (.ref C) → Same H H' → Ex (.ref C) none H'
  | .bad => False
def rCall (ff : List PyData → Re PyData) (g : Rho → Re (List PyData)) : Rho → Re PyData := fun ρ => (g ρ).andThen ff
theorem de_call {k : Nat} {fAd : Addr} {fd : FuncData} {ps : List Str} {ff : List PyData → Re PyData} {x : Str} {es : List Expr} {gs : Rho → Re (List PyData)} {p : Pos} (G : FnOk X.prog X.w X.K X.mg X.base (L2.CX X.prog X.w) k fAd fd ps (spD X.mg ff X.K)) (hr : Room k X.A) (hg : Gl X x)
    (hm : X.mg x = some (.ref fAd)) (hk : PySem.W.keepIn X.K (.ref fAd) = true) (hb : Binds X.K fd ps []) (hx : ∀ σ, PassesAt (L2.CX X.prog X.w) X σ (E σ)) (ha : DA X M F E la (a :: es) gs)
    (hdb : (x == ("__debug__" : Str)) = false := by decide) (he : starEach (a :: es) X.env = (false, eval a X.env) :: starEach es X.env := by rfl) (hpl : (backTo pos (starEach es X.env)).any (·.1) = false := by rfl) :
    DE X M F E la false (.Call (.Name x p) (a :: es) [] pos) (rCall ff gs) := by
  obtain ⟨t, pa, ha⟩ := ha
  refine ⟨_, pe_callS G hr hg hm hk hb hx pa hdb he hpl, fun σ H ρ er Q z => ?_⟩
  refine ha σ H ρ er _ (we_stepA z fun ds vs H1 e s r1 z1 => ?_)
  refine ⟨ds, RS M F σ ρ la, r1, ⟨(er.same s).freshS, (er.same s).tab⟩, ?_⟩
  cases q : ff ds with
  | ok d =>
    rw [q] at z1
    exact fun v H' s' r' => z1 v H' s' r' fun z => nomatch z
  | ex c =>
    rw [q] at z1
    exact z1
  | bad =>
    rw [q] at z1
    exact z1
/-- a built-in called -/
theorem de_callB {id : String} {r : List V → Hp → VK → Prop} {fr : Bool} {gg : List PyData → Option PyData} {x : Str} {es : List Expr} {gs : Rho → Re (List PyData)} {p : Pos} (hc : CallR X (.builtin id) r) (hS : SemL X.K r fr gg) (hg : Gl X x) (hm : X.mg x = none) (hv : bootBuiltins x = some (.builtin id))
    (ha : DA X M F E la (a :: es) gs) (hn : x ≠ "__name__" := by decide) (hdb : (x == ("__debug__" : Str)) = false := by decide)
    (he : starEach (a :: es) X.env = (false, eval a X.env) :: starEach es X.env := by rfl) (hpl : (backTo pos (starEach es X.env)).any (·.1) = false := by rfl) :
    DE X M F E la fr (.Call (.Name x p) (a :: es) [] pos) (fun ρ => (gs ρ).andThen fun ds => liftO (gg ds)) := by
  obtain ⟨t, pa, ha⟩ := ha
  refine ⟨_, pe_callB hc hg hm hv pa hn hdb he hpl, fun σ H ρ er Q z => ?_⟩
  refine ha σ H ρ er _ (we_stepA z fun ds vs H1 e s r1 z1 => ?_)
  cases q : gg ds with
  | none =>
    rw [q] at z1
    exact z1.elim
  | some d =>
    rw [q] at z1
    exact hS (RS M F σ ρ la) H1 vs ds d Q (er.same s).freshS r1 q fun v' H' s' r' f' => z1 v' H' s' r' f'
theorem de_callTy {id : String} {r : List V → Hp → VK → Prop} {fr : Bool} {gg : List PyData → Option PyData} {x : Str} {es : List Expr} {gs : Rho → Re (List PyData)} {p : Pos} (hc : CallR X (.type id) r) (hS : SemL X.K r fr gg) (hg : Gl X x) (hm : X.mg x = none) (hv : bootBuiltins x = some (.type id))
    (ha : DA X M F E la (a :: es) gs) (hn : x ≠ "__name__" := by decide) (hdb : (x == ("__debug__" : Str)) = false := by decide)
    (he : starEach (a :: es) X.env = (false, eval a X.env) :: starEach es X.env := by rfl) (hpl : (backTo pos (starEach es X.env)).any (·.1) = false := by rfl) :
    DE X M F E la fr (.Call (.Name x p) (a :: es) [] pos) (fun ρ => (gs ρ).andThen fun ds => liftO (gg ds)) := by
  obtain ⟨t, pa, ha⟩ := ha
  refine ⟨_, pe_callTy hc hg hm hv pa hn hdb he hpl, fun σ H ρ er Q z => ?_⟩
  refine ha σ H ρ er _ (we_stepA z fun ds vs H1 e s r1 z1 => ?_)
  cases q : gg ds with
  | none =>
    rw [q] at z1
    exact z1.elim
  | some d =>
    rw [q] at z1
    exact hS (RS M F σ ρ la) H1 vs ds d Q (er.same s).freshS r1 q fun v' H' s' r' f' => z1 v' H' s' r' f'
end
end Pu

set_option Elab.async false
set_option linter.all false
set_option maxRecDepth 100000
set_option maxHeartbeats 2000000
namespace Pu
open PySem PySem.Spec PyProof.Rows L2
variable [TabL]

/-! ### statements -/
inductive Sr where
  | nx (ρ : Rho)
  | rt (d : PyData)
  | bk (ρ : Rho)
  | ct (ρ : Rho)
  | ex (c : Str) (ρ : Rho)
  | bad
def Re.st : Re PyData → Rho → (PyData → Sr) → Sr
  | .ok d, _, k => k d
  | .ex c, ρ, _ => .ex c ρ
  | .bad, _, _ => .bad
def Re.stT : Re Bool → Rho → (Bool → Sr) → Sr
  | .ok d, _, k => k d
  | .ex c, ρ, _ => .ex c ρ
  | .bad, _, _ => .bad
def WS (X : Cx) (M : Nat → Bool) (F : Fx) (E : L2.St → XK) (σ : L2.St) (H : Hp) (ρ : Rho) (r : Sr) (D : Ends) : Prop :=
  match r with
  | .nx ρ' => ∀ σ' H', ER X.K M F σ' H' ρ' → Evo M σ H ρ σ' H' ρ' → D.nx σ' H'
  | .rt d => ∀ v H', Same F.H0 H' → Rp X.K H' F.S0 v d → D.rt v H'
  | .bk ρ' => ∀ σ' H', ER X.K M F σ' H' ρ' → Evo M σ H ρ σ' H' ρ' → D.bk σ' H'
  | .ct ρ' => ∀ σ' H', ER X.K M F σ' H' ρ' → Evo M σ H ρ σ' H' ρ' → D.ct σ' H'
  | .ex c ρ' => ∀ C σ' H', X.mg c = some (.ref C) → ER X.K M F σ' H' ρ' → Evo M σ H ρ σ' H' ρ' → E σ' (.ref C) none H'
  | .bad => False
def DS (X : Cx) (M : Nat → Bool) (F : Fx) (E : L2.St → XK) (st : Stmt) (s : Rho → Sr) : Prop := ∃ t : TS, PS X st t ∧ ∀ σ H ρ, ER X.K M F σ H ρ → ∀ D, WS X M F E σ H ρ (s ρ) D → t D σ H
def DSs (X : Cx) (M : Nat → Bool) (F : Fx) (E : L2.St → XK) (st : List Stmt) (s : Rho → Sr) : Prop := ∃ t : TS, PSs X st t ∧ ∀ σ H ρ, ER X.K M F σ H ρ → ∀ D, WS X M F E σ H ρ (s ρ) D → t D σ H

section
variable {X : Cx} {M : Nat → Bool} {F : Fx} {E : L2.St → XK} {σ σ1 : L2.St} {ρ ρ1 : Rho} {H H' H1 : Hp} {D : Ends}
/-- from a later state -/
theorem ws_evo {r : Sr} (v : Evo M σ H ρ σ1 H1 ρ1) (w : WS X M F E σ H ρ r D) : WS X M F E σ1 H1 ρ1 r D := by
  cases r with
  | nx ρ' => exact fun σ' H' e v' => w σ' H' e (v.trans v')
  | rt d => exact w
  | bk ρ' => exact fun σ' H' e v' => w σ' H' e (v.trans v')
  | ct ρ' => exact fun σ' H' e v' => w σ' H' e (v.trans v')
  | ex c ρ' => exact fun C σ' H' m e v' => w C σ' H' m e (v.trans v')
  | bad => exact w
theorem ws_step {lk fr : Bool} {r : Re PyData} {g : PyData → Sr} {K : VK} (er : ER X.K M F σ H ρ) (w : WS X M F E σ H ρ (r.st ρ g) D)
    (h : ∀ d v H', r = .ok d → Same H H' → Rp X.K H' (RS M F σ ρ lk) v d → (fr = true → Frs X.K (RS M F σ ρ lk) H H' v d) → WS X M F E σ H' ρ (g d) D → K v H') : WE X M F E lk fr σ ρ H r K := by
  cases r with
  | ok d => exact fun v H' s r f => h d v H' rfl s r f (ws_evo (Evo.same s) w)
  | ex c => exact fun C H' m s => w C σ H' m (er.same s) (Evo.same s)
  | bad => exact w
theorem ws_stepT {r : Re Bool} {g : Bool → Sr} {K : Bool → Hp → Prop} (er : ER X.K M F σ H ρ) (w : WS X M F E σ H ρ (r.stT ρ g) D)
    (h : ∀ d H', r = .ok d → Same H H' → WS X M F E σ H' ρ (g d) D → K d H') : WT X E σ H r K := by
  cases r with
  | ok d => exact fun H' s => h d H' rfl s (ws_evo (Evo.same s) w)
  | ex c => exact fun C H' m s => w C σ H' m (er.same s) (Evo.same s)
  | bad => exact w

variable {st : Stmt} {rest : List Stmt} {s u : Rho → Sr} {la fa lb fb : Bool} {a b : Expr} {f g : Rho → Re PyData} {p : Rho → Re Bool} {pos : Pos}
def sNil : Rho → Sr := fun ρ => .nx ρ
def sSeq (s u : Rho → Sr) : Rho → Sr := fun ρ => match s ρ with | .nx ρ' => u ρ' | r => r
theorem dss_nil : DSs X M F E [] sNil := ⟨_, pss_nil, fun σ H ρ er D w => w σ H er Evo.refl⟩
theorem dss_one (h : DS X M F E st s) : DSs X M F E [st] s := by
  obtain ⟨t, p, h⟩ := h
  exact ⟨t, pss_one p, h⟩
theorem dss_cons (h : DS X M F E st s) (k : DSs X M F E rest u) : DSs X M F E (st :: rest) (sSeq s u) := by
  obtain ⟨t, p, h⟩ := h
  obtain ⟨t', p', k⟩ := k
  refine ⟨_, pss_cons p p', fun σ H ρ er D w => ?_⟩
  refine h σ H ρ er _ ?_
  unfold sSeq at w
  cases q : s ρ with
  | nx ρ' =>
    rw [q] at w
    exact fun σ' H' er' ev => k σ' H' ρ' er' D (ws_evo ev w)
  | rt d =>
    rw [q] at w
    exact w
  | bk ρ' =>
    rw [q] at w
    exact w
  | ct ρ' =>
    rw [q] at w
    exact w
  | ex c ρ' =>
    rw [q] at w
    exact w
  | bad =>
    rw [q] at w
    exact w
theorem ds_pass : DS X M F E (.Pass pos) sNil := ⟨_, ps_pass, fun σ H ρ er D w => w σ H er Evo.refl⟩
theorem ds_doc {x j pos'} : DS X M F E (.Expr (.Constant (.str x) j pos) pos') sNil := ⟨_, ps_doc, fun σ H ρ er D w => w σ H er Evo.refl⟩
theorem ds_break : DS X M F E (.Break pos) (fun ρ => .bk ρ) := ⟨_, ps_break, fun σ H ρ er D w => w σ H er Evo.refl⟩
theorem ds_continue : DS X M F E (.Continue pos) (fun ρ => .ct ρ) := ⟨_, ps_continue, fun σ H ρ er D w => w σ H er Evo.refl⟩
def sIf (p : Rho → Re Bool) (s u : Rho → Sr) : Rho → Sr := fun ρ => (p ρ).stT ρ fun b => if b = true then s ρ else u ρ
theorem ds_if {c : Expr} {x y : List Stmt} (hc : DT X M F E c p) (hx : DSs X M F E x s) (hy : DSs X M F E y u) : DS X M F E (.If c x y pos) (sIf p s u) := by
  obtain ⟨t, pc, hc⟩ := hc
  obtain ⟨t1, p1, h1⟩ := hx
  obtain ⟨t2, p2, h2⟩ := hy
  refine ⟨_, ps_if pc p1 p2, fun σ H ρ er D w => ?_⟩
  refine hc σ H ρ er _ (ws_stepT er w fun d H1 e sm w1 => ?_)
  cases d with
  | true => exact h1 σ H1 ρ (er.same sm) D w1
  | false => exact h2 σ H1 ρ (er.same sm) D w1
def sRet (f : Rho → Re PyData) : Rho → Sr := fun ρ => (f ρ).st ρ fun d => .rt d
theorem ds_ret (h : DE X M F E la fa a f) : DS X M F E (.Return (some a) pos) (sRet f) := by
  obtain ⟨t, p, h⟩ := h
  refine ⟨_, ps_ret p, fun σ H ρ er D w => ?_⟩
  exact h σ H ρ er _ (ws_step er w fun d v H1 e sm r _ w1 => w1 v H1 (er.same sm).old (r.wide fun a x => x.1))
theorem ds_retN : DS X M F E (.Return none pos) (fun _ => .rt .none) := ⟨_, ps_retN, fun σ H ρ er D w => w _ H er.old .non⟩
def sDrop (f : Rho → Re PyData) : Rho → Sr := fun ρ => (f ρ).st ρ fun _ => .nx ρ
theorem ds_expr (h : DE X M F E la fa a f) (hs : swapsWith a none pos.line X.env = pure false := by rfl) : DS X M F E (.Expr a pos) (sDrop f) := by
  obtain ⟨t, p, h⟩ := h
  refine ⟨_, ps_expr p hs, fun σ H ρ er D w => ?_⟩
  exact h σ H ρ er _ (ws_step er w fun d v H1 e sm r _ w1 => w1 σ H1 (er.same sm) Evo.refl)
/-- x = e, x no list of the frame's own -/
def sSet (i : Nat) (lk : Bool) (f : Rho → Re PyData) : Rho → Sr := fun ρ => (f ρ).st ρ fun d => if lk = true → imm d = true then .nx (ρ.set i (some d)) else .bad
theorem ds_set {i : Nat} {x : Str} {pos' : Pos} (m : M i = false) (hN : X.N.Nodup) (h : DE X M F E la fa a f) (hi : X.N[i]? = some x := by rfl) (hx : Loc X.env.scope x := by first | exact Or.inl rfl | exact Or.inr rfl)
    (hs : swapsWith a (some (.Name x pos')) pos.line X.env = pure false := by rfl) (hw : swappedStores [.Name x pos'] a X.env = pure none := by rfl) (hf : X.fn x = true ∨ X.env.scope.names.lookup x = some .local := by first | exact .inl rfl | exact .inr rfl) :
    DS X M F E (.Assign [.Name x pos'] a pos) (sSet i la f) := by
  obtain ⟨t, p, h⟩ := h
  refine ⟨_, ps_asg p (pg_name hN hi hx hf) hs hw, fun σ H ρ er D w => ?_⟩
  refine h σ H ρ er _ (ws_step er w fun d v H1 e sm r _ w1 => ?_)
  by_cases hd : la = true → imm d = true
  · rw [if_pos hd] at w1
    have r' : Rp X.K H1 (RS M F σ ρ false) v d := by
      cases la with
      | false => exact r
      | true => exact r.noAddr (hd rfl)
    exact w1 _ H1 ((er.same sm).set m r') fun a u q n _ => ⟨q, fun o => n ((own_set m).mp o)⟩
  · rw [if_neg hd] at w1
    exact w1.elim

/-! own lists -/
theorem own_upd {i : Nat} {pp : Addr} (m : M i = true) {d : PyData} {a : Addr} (hi : i < ρ.length) (hl : ρ.length = σ.length) : OwnA M (σ.set i (some (.ref pp))) (ρ.set i (some d)) a → a = pp ∨ ∃ j d, j ≠ i ∧ M j = true ∧ ρ[j]? = some (some d) ∧ σ[j]? = some (some (.ref a)) := by
  rintro ⟨j, e, mj, r, s⟩
  by_cases hj : i = j
  · subst hj
    rw [List.getElem?_set_self (by rw [← hl]; exact hi)] at s
    cases s
    exact .inl rfl
  · rw [List.getElem?_set_ne hj] at r s
    exact .inr ⟨j, e, fun z => hj z.symm, mj, r, s⟩
/-- a new own list in slot i -/
theorem ER.setOwn (e : ER X.K M F σ H ρ) {i : Nat} {pp : Addr} {d : PyData} (m : M i = true) (hi : i < ρ.length) (sm : Same H H1) (hp : H pp = none) (w : OwR X.K H1 (fun a => RS M F σ ρ false a ∧ a ≠ pp) pp d) :
    ER X.K M F (σ.set i (some (.ref pp))) H1 (ρ.set i (some d)) ∧ Evo M σ H ρ (σ.set i (some (.ref pp))) H1 (ρ.set i (some d)) := by
  have h0 : F.H0 pp = none := (e.fresh hp).1
  have key : ∀ a, OwnA M (σ.set i (some (.ref pp))) (ρ.set i (some d)) a → a = pp ∨ OwnA M σ ρ a := fun a o => by
    rcases own_upd m hi e.len o with z | ⟨j, d', _, mj, r, s⟩
    · exact .inl z
    · exact .inr ⟨j, d', mj, r, s⟩
  have rs : ∀ a, RS M F σ ρ false a → a ≠ pp → RS M F (σ.set i (some (.ref pp))) (ρ.set i (some d)) false a := fun a x ne => ⟨x.1, fun _ o => by
    rcases key a o with z | z
    · exact ne z
    · exact x.2 rfl z⟩
  have e1 := e.same sm
  refine ⟨⟨by rw [List.length_set, List.length_set]; exact e.len, e1.old, e1.new, e1.tab, fun j d' q mj => ?_, fun j d' q mj => ?_, fun j k d' e' p mj mk q1 q2 s1 s2 => ?_⟩, fun a u q n w => ⟨sm a u q w, fun o => ?_⟩⟩
  · have hj : i ≠ j := fun z => by
      subst z
      rw [m] at mj
      cases mj
    rw [List.getElem?_set_ne hj] at q
    obtain ⟨v, s, r⟩ := e.im j d' q mj
    exact ⟨v, by rw [List.getElem?_set_ne hj]; exact s, r.keep (kp_same sm) fun a u x z _ => rs a x fun q => by
      rw [q, hp] at z
      cases z⟩
  · by_cases hj : i = j
    · subst hj
      rw [List.getElem?_set_self hi] at q
      cases q
      exact ⟨pp, List.getElem?_set_self (by rw [← e.len]; exact hi), ⟨h0, e.new _ hp⟩, w.keep (kp_same (Same.refl _)) (fun a u x _ _ => rs a x.1 x.2) fun _ q _ => q⟩
    · rw [List.getElem?_set_ne hj] at q
      obtain ⟨p, s, z, w'⟩ := e.ow j d' q mj
      refine ⟨p, by rw [List.getElem?_set_ne hj]; exact s, z, w'.keep (kp_same sm) (fun a u x zz _ => rs a x fun qq => ?_) fun u q n => sm _ _ q n⟩
      rw [qq, hp] at zz
      cases zz
  · have nope : ∀ j d', i ≠ j → M j = true → (ρ.set i (some d))[j]? = some (some d') → (σ.set i (some (V.ref pp)))[j]? = some (some (.ref pp)) → False := fun j d' hj mj q s => by
      rw [List.getElem?_set_ne hj] at q s
      obtain ⟨_, _, u, hu⟩ := e.own ⟨j, d', mj, q, s⟩
      rw [hp] at hu
      cases hu
    by_cases hj : i = j
    · subst hj
      by_cases hk : i = k
      · exact hk
      · rw [List.getElem?_set_self (by rw [← e.len]; exact hi)] at s1
        cases s1
        exact (nope k e' hk mk q2 s2).elim
    · by_cases hk : i = k
      · subst hk
        rw [List.getElem?_set_self (by rw [← e.len]; exact hi)] at s2
        cases s2
        exact (nope j d' hj mj q1 s1).elim
      · rw [List.getElem?_set_ne hj] at q1 s1
        rw [List.getElem?_set_ne hk] at q2 s2
        exact e.ap j k d' e' p mj mk q1 q2 s1 s2
  · rcases key a o with z | z
    · rw [z, hp] at q
      cases q
    · exact n z
/-- items of an own list -/
def itemsImm : PyData → Bool
  | .list ds => immAll ds
  | .dict (_ :: kvs) => immAll (kvs.map (·.2))
  | _ => false
theorem zip_snd : ∀ {α β : Type} (ks : List α) (ds : List β), ks.length = ds.length → (ks.zip ds).map (·.2) = ds
  | _, _, [], [], _ => rfl
  | _, _, _ :: ks, _ :: ds, h => by
    rw [List.zip_cons_cons, List.map_cons, zip_snd ks ds (by simpa using h)]
  | _, _, [], _ :: _, h => by simp at h
  | _, _, _ :: _, [], h => by simp at h
theorem OwR.noAddr {K : PySem.W.Frag} {S S' : Addr → Prop} {H : Hp} {pp : Addr} {d : PyData} (h : OwR K H S pp d) (q : itemsImm d = true) : OwR K H S' pp d := by
  cases h with
  | lst e r => exact .lst e (r.noAddr q)
  | dic e l r => exact .dic e l (r.noAddr (by
      have q' : immAll ((_ : List (PyData × PyData)).map (·.2)) = true := q
      rw [zip_snd _ _ (by rw [List.length_map, l, r.length])] at q'
      exact q'))
  | dct e l r => exact .dct e l r
  | dit e l r => exact .dit e l (r.noAddr (by
      have q' : immAll ((_ : List (PyData × PyData)).map (·.2)) = true := q
      rw [zip_snd _ _ (by rw [List.length_map, l, r.length])] at q'
      exact q'))
def sSetO (i : Nat) (lk : Bool) (f : Rho → Re PyData) : Rho → Sr := fun ρ => (f ρ).st ρ fun d => if i < ρ.length ∧ (lk = true → itemsImm d = true) then .nx (ρ.set i (some d)) else .bad
/-- x = [..], {..}, list(..): x is a list of the frame's own -/
theorem setO_run {t : TE} {i : Nat} (m : M i = true) (h : ∀ σ H ρ, ER X.K M F σ H ρ → ∀ Q, WE X M F E la true σ ρ H (f ρ) Q → t σ H Q) (er : ER X.K M F σ H ρ) (w : WS X M F E σ H ρ (sSetO i la f ρ) D) : tAsg t (gName i) D σ H := by
  refine h σ H ρ er _ ?_
  unfold sSetO at w
  cases q : f ρ with
  | ok d =>
    rw [q] at w
    refine fun v H1 sm r fr => ?_
    obtain ⟨pp, rfl, hp, ow⟩ := fr rfl
    have w : WS X M F E σ H ρ (if i < ρ.length ∧ (la = true → itemsImm d = true) then .nx (ρ.set i (some d)) else .bad) D := w
    by_cases hd : i < ρ.length ∧ (la = true → itemsImm d = true)
    · rw [if_pos hd] at w
      have ow' : OwR X.K H1 (fun a => RS M F σ ρ false a ∧ a ≠ pp) pp d := by
        cases la with
        | false => exact ow
        | true => exact ow.noAddr (hd.2 rfl)
      obtain ⟨er', ev⟩ := er.setOwn m hd.1 sm hp ow'
      exact w _ _ er' ev
    · rw [if_neg hd] at w
      exact w.elim
  | ex c =>
    rw [q] at w
    exact fun C H' mm sm => w C σ H' mm (er.same sm) (Evo.same sm)
  | bad =>
    rw [q] at w
    exact w
theorem ds_setO {i : Nat} {x : Str} {pos' : Pos} (m : M i = true) (hN : X.N.Nodup) (h : DE X M F E la true a f) (hi : X.N[i]? = some x := by rfl) (hx : Loc X.env.scope x := by first | exact Or.inl rfl | exact Or.inr rfl)
    (hs : swapsWith a (some (.Name x pos')) pos.line X.env = pure false := by rfl) (hw : swappedStores [.Name x pos'] a X.env = pure none := by rfl) (hf : X.fn x = true ∨ X.env.scope.names.lookup x = some .local := by first | exact .inl rfl | exact .inr rfl) :
    DS X M F E (.Assign [.Name x pos'] a pos) (sSetO i la f) := by
  obtain ⟨t, p, h⟩ := h
  exact ⟨_, ps_asg p (pg_name hN hi hx hf) hs hw, fun σ H ρ er D w => setO_run m h er w⟩
/-- an own list's content changes -/
theorem ER.put (e : ER X.K M F σ H ρ) {i : Nat} {pp : Addr} {d d' : PyData} {o : HO} (m : M i = true) (hr : ρ[i]? = some (some d)) (hs : σ[i]? = some (some (.ref pp))) (ow : OwR X.K (upd H pp o) (RS M F σ ρ false) pp d') :
    ER X.K M F σ (upd H pp o) (ρ.set i (some d')) ∧ Evo M σ H ρ σ (upd H pp o) (ρ.set i (some d')) := by
  have hi := getSome hr
  have oP : OwnA M σ ρ pp := ⟨i, d, m, hr, hs⟩
  obtain ⟨h0, _, uu, hu⟩ := e.own oP
  obtain ⟨p', s', z', w'⟩ := e.ow i d hr m
  rw [hs] at s'
  cases s'
  obtain ⟨u2, hu2, mu⟩ := w'.there
  have own : ∀ a, OwnA M σ (ρ.set i (some d')) a ↔ OwnA M σ ρ a := fun a => by
    constructor
    · rintro ⟨j, x, mj, r, s⟩
      by_cases hj : i = j
      · subst hj
        exact ⟨i, d, m, hr, s⟩
      · rw [List.getElem?_set_ne hj] at r
        exact ⟨j, x, mj, r, s⟩
    · rintro ⟨j, x, mj, r, s⟩
      by_cases hj : i = j
      · subst hj
        exact ⟨i, d', m, List.getElem?_set_self hi, s⟩
      · exact ⟨j, x, mj, by rw [List.getElem?_set_ne hj]; exact r, s⟩
  have rs : RS M F σ (ρ.set i (some d')) false = RS M F σ ρ false := by
    funext a
    unfold RS
    rw [propext (own a)]
  have kp : Kp (RS M F σ ρ false) H (upd H pp o) := by
    refine ⟨fun a u q x _ => ?_⟩
    rw [upd_ne]
    · exact q
    · intro z
      subst z
      rcases x with x | x
      · exact x.2 rfl oP
      · rw [q] at hu2
        cases hu2
        exact x mu
  obtain ⟨u3, hu3, pl⟩ := w'.plain
  refine ⟨⟨by rw [List.length_set]; exact e.len, e.old.put h0 hu3 pl, fun a q => e.new a ?_, tab_upd e.tab hu3 pl, fun j x q mj => ?_, fun j x q mj => ?_, fun j k x y p mj mk q1 q2 s1 s2 => ?_⟩, fun a u q n w => ⟨?_, fun oo => n ((own a).mp oo)⟩⟩
  · by_cases z : a = pp
    · rw [z, upd_same] at q
      cases q
    · rw [upd_ne z] at q
      exact q
  · have hj : i ≠ j := fun z => by
      subst z
      rw [m] at mj
      cases mj
    rw [List.getElem?_set_ne hj] at q
    obtain ⟨v, s, r⟩ := e.im j x q mj
    rw [rs]
    exact ⟨v, s, r.keep kp fun _ _ x _ _ => x⟩
  · rw [rs]
    by_cases hj : i = j
    · subst hj
      rw [List.getElem?_set_self hi] at q
      cases q
      exact ⟨pp, hs, z', ow⟩
    · rw [List.getElem?_set_ne hj] at q
      obtain ⟨p, s, z, w2⟩ := e.ow j x q mj
      refine ⟨p, s, z, w2.keep kp (fun _ _ x _ _ => x) fun u q' _ => ?_⟩
      rw [upd_ne]
      · exact q'
      · intro zz
        rw [zz] at s
        exact hj (e.ap i j d x pp m mj hr q hs s)
  · have back : ∀ j x, (ρ.set i (some d'))[j]? = some (some x) → ∃ x', ρ[j]? = some (some x') := fun j x q => by
      by_cases hj : i = j
      · subst hj
        exact ⟨d, hr⟩
      · rw [List.getElem?_set_ne hj] at q
        exact ⟨x, q⟩
    obtain ⟨x', q1⟩ := back j x q1
    obtain ⟨y', q2⟩ := back k y q2
    exact e.ap j k x' y' p mj mk q1 q2 s1 s2
  · rw [upd_ne]
    · exact q
    · intro z
      subst z
      exact n oP
end
end Pu

set_option Elab.async false
set_option linter.all false
set_option maxRecDepth 100000
set_option maxHeartbeats 2000000
namespace Pu
open PySem PySem.Spec PyProof.Rows L2
variable [TabL]

section
variable {X : Cx} {M : Nat → Bool} {F : Fx} {E : L2.St → XK} {σ σ1 : L2.St} {ρ ρ1 : Rho} {H H' H1 : Hp} {D : Ends}
variable {st : Stmt} {rest : List Stmt} {s u : Rho → Sr} {la fa lb fb : Bool} {a b : Expr} {f g : Rho → Re PyData} {p : Rho → Re Bool} {pos : Pos}

/-! ### changes of own lists -/
def getL (ρ : Rho) (i : Nat) : Option (List PyData) := match ρ[i]? with | some (some (.list ds)) => some ds | _ => none
theorem getL_some {ds : List PyData} {i : Nat} (h : getL ρ i = some ds) : ρ[i]? = some (some (.list ds)) := by
  unfold getL at h
  split at h
  · rename_i ds' e
    cases h
    exact e
  · cases h
theorem ER.lst (er : ER X.K M F σ H ρ) {i : Nat} {ds : List PyData} (m : M i = true) (h : getL ρ i = some ds) : ∃ pp xs, σ[i]? = some (some (.ref pp)) ∧ H pp = some (.lst xs) ∧ RpA X.K H (RS M F σ ρ false) xs ds := by
  obtain ⟨pp, hs, _, w⟩ := er.ow i _ (getL_some h) m
  cases w with
  | lst e r => exact ⟨pp, _, hs, e, r⟩
/-- behind a change of an own list -/
theorem ER.putL (er : ER X.K M F σ H ρ) {i : Nat} {pp : Addr} {ds ds' : List PyData} {xs xs' : List V} (m : M i = true) (h : getL ρ i = some ds) (hs : σ[i]? = some (some (.ref pp))) (hx : H pp = some (.lst xs)) (r : RpA X.K H (RS M F σ ρ false) xs' ds') :
    ER X.K M F σ (upd H pp (.lst xs')) (ρ.set i (some (.list ds'))) ∧ Evo M σ H ρ σ (upd H pp (.lst xs')) (ρ.set i (some (.list ds'))) := by
  refine er.put m (getL_some h) hs (.lst upd_same (r.keep ⟨fun a u q x _ => ?_⟩ fun _ _ x _ _ => x))
  rw [upd_ne]
  · exact q
  · intro z
    subst z
    rcases x with x | x
    · exact x.2 rfl ⟨i, _, m, getL_some h, hs⟩
    · rw [q] at hx
      cases hx
      exact x trivial
/-- after a pure part: the slots and own lists are as they were -/
theorem sq_l {pp : Addr} {xs : List V} (h : H pp = some (.lst xs)) : tyV X.K "list" (.ref pp) H := Or.inl ⟨rfl, _, SqL.of h⟩
def sApp (i : Nat) (lk : Bool) (f : Rho → Re PyData) : Rho → Sr := fun ρ => match getL ρ i with
  | some ds => (f ρ).st ρ fun d => if okLen (ds.length + 1) = true ∧ (lk = true → imm d = true) then .nx (ρ.set i (some (.list (ds ++ [d])))) else .bad
  | none => .bad
theorem rp_lk {d : PyData} {v : V} (r : Rp X.K H (RS M F σ ρ la) v d) (h : la = true → imm d = true) : Rp X.K H (RS M F σ ρ false) v d := by
  cases la with
  | false => exact r
  | true => exact r.noAddr (h rfl)
theorem ds_app {i : Nat} {x : Str} {p1 p2 p3 : Pos} (m : M i = true) (h : DE X M F E la fa a f) (hN : X.N[i]? = some x := by rfl) (hv : Vis X.env.scope x := by first | exact Or.inl rfl | exact Or.inr (Or.inl rfl) | exact Or.inr (Or.inr rfl)) (hd : (x == ("__debug__" : Str)) = false := by decide)
    (hcd : (x == ("__classdict__" : Str)) = false := by decide)
    (hs : swapsWith (.Call (.Attribute (.Name x p1) "append" p2) [a] [] p3) none pos.line X.env = pure false := by rfl) (hbase : attributeBase (.Name x p1) "append" X.env (eval (.Name x p1) X.env) = eval (.Name x p1) X.env := by rfl)
    (hfew : ((backTo p3 (starEach (a :: []) X.env)).all (fun x => !x.1) && (backToKw p3 (keywordEach [] X.env)).all (fun x => x.1.isSome)
      && decide ((a :: ([] : List Expr)).length + ([] : List Keyword).length + (if ([] : List Keyword).isEmpty then 0 else 1) < 30)) = true := by rfl)
    (hline : (p2.endLine == p3.line) = true := by rfl) (hst : starEach (a :: []) X.env = (false, eval a X.env) :: starEach [] X.env := by rfl) (hplain : (backTo p3 (starEach [] X.env)).any (·.1) = false := by rfl) :
    DS X M F E (.Expr (.Call (.Attribute (.Name x p1) "append" p2) [a] [] p3) pos) (sApp i la f) := by
  obtain ⟨t, pa, h⟩ := h
  refine ⟨_, ps_expr (pe_bm PySem.F.plainAttrs_list PySem.F.slot_list_append PySem.F.type_list_append mt_append (pe_var hN hv hd hcd) (pa_cons pa pa_nil hst) hbase hfew hline hst hplain) hs, fun σ H ρ er D w => ?_⟩
  unfold sApp at w
  cases hl : getL ρ i with
  | none =>
    rw [hl] at w
    exact w.elim
  | some ds =>
    rw [hl] at w
    obtain ⟨pp, xs, hs', hx, rx⟩ := er.lst m hl
    refine ⟨.ref pp, hs', sq_l hx, h σ H ρ er _ (ws_step er w fun d v H1 e sm r _ w1 => ?_)⟩
    by_cases hc : okLen (ds.length + 1) = true ∧ (la = true → imm d = true)
    · rw [if_pos hc] at w1
      have er1 := er.same sm
      have hx1 := sm _ _ hx
      have hz : xs.length < sizeLine := by
        have := of_decide_eq_true hc.1
        rw [rx.length]
        exact Nat.lt_of_lt_of_le (Nat.lt_of_succ_le this) (by decide)
      obtain ⟨er2, ev2⟩ := er1.putL m hl hs' hx1 ((rx.same sm).append (.cons (rp_lk r hc.2) .nil))
      exact ⟨pp, xs, v, rfl, rfl, hx1, hz, w1 σ _ er2 ev2⟩
    · rw [if_neg hc] at w1
      exact w1.elim
/-- x.append(y.pop(e)) -/
def popAt (ρ : Rho) (j : Nat) (d : PyData) : Option (PyData × List PyData) := match getL ρ j, d with
  | some es, .int n => if okLen es.length = true then (match ixN es.length n with
    | some k => (match es[k]? with | some y => some (y, es.eraseIdx k) | none => none)
    | none => none) else none
  | _, _ => none
theorem popAt_some {j : Nat} {d y : PyData} {es' : List PyData} (h : popAt ρ j d = some (y, es')) : ∃ es n k, getL ρ j = some es ∧ d = .int n ∧ okLen es.length = true ∧ ixN es.length n = some k ∧ es[k]? = some y ∧ es' = es.eraseIdx k := by
  unfold popAt at h
  split at h
  · rename_i es n he
    split at h
    · rename_i hz
      split at h
      · rename_i k hk
        split at h
        · rename_i y' hy
          cases h
          exact ⟨es, n, k, by assumption, rfl, hz, hk, hy, rfl⟩
        · cases h
      · cases h
    · cases h
  · cases h
theorem rpop_ok {j : Nat} {pp : Addr} {xs : List V} {es : List PyData} {n : Int} {k : Nat} {y : PyData} {S : Addr → Prop} {Q : VK} (hx : H pp = some (.lst xs)) (rx : RpA X.K H S xs es) (hz : okLen es.length = true) (hk : ixN es.length n = some k) (hy : es[k]? = some y)
    (h : ∀ v, Rp X.K H S v y → xs[k]? = some v → Q v (upd H pp (.lst (xs.eraseIdx k)))) : rPopAt (.ref pp) [.int n] H Q := by
  have hlen := rx.length
  rw [← hlen] at hk hz
  obtain ⟨h1, h2, h3, h4⟩ := ixN_seq hk
  obtain ⟨v, hv, rv⟩ := rx.get' hy
  have := of_decide_eq_true hz
  exact ⟨pp, xs, n, k, v, rfl, rfl, hx, by omega, by omega, h1, hv, h v rv hv⟩
def sAppPop (i j : Nat) (f : Rho → Re PyData) : Rho → Sr := fun ρ => match getL ρ i, getL ρ j with
  | some ds, some _ => (f ρ).st ρ fun d => match popAt ρ j d with
    | some (y, es') => if okLen (ds.length + 1) = true ∧ i ≠ j then .nx ((ρ.set j (some (.list es'))).set i (some (.list (ds ++ [y])))) else .bad
    | none => .bad
  | _, _ => .bad
theorem getL_set {i j : Nat} (h : i ≠ j) {d : Option PyData} : getL (ρ.set j d) i = getL ρ i := by
  unfold getL
  rw [List.getElem?_set_ne (Ne.symm h)]
theorem ds_appPop {i j : Nat} {x y : Str} {p1 p2 p3 q1 q2 q3 : Pos} (m : M i = true) (mj : M j = true) (h : DE X M F E la fa a f) (hN : X.N[i]? = some x := by rfl) (hv : Vis X.env.scope x := by first | exact Or.inl rfl | exact Or.inr (Or.inl rfl) | exact Or.inr (Or.inr rfl)) (hd : (x == ("__debug__" : Str)) = false := by decide)
    (hcd : (x == ("__classdict__" : Str)) = false := by decide)
    (hNy : X.N[j]? = some y := by rfl) (hvy : Vis X.env.scope y := by first | exact Or.inl rfl | exact Or.inr (Or.inl rfl) | exact Or.inr (Or.inr rfl)) (hdy : (y == ("__debug__" : Str)) = false := by decide)
    (hcdy : (y == ("__classdict__" : Str)) = false := by decide)
    (hs : swapsWith (.Call (.Attribute (.Name x p1) "append" p2) [.Call (.Attribute (.Name y q1) "pop" q2) [a] [] q3] [] p3) none pos.line X.env = pure false := by rfl)
    (hbase : attributeBase (.Name x p1) "append" X.env (eval (.Name x p1) X.env) = eval (.Name x p1) X.env := by rfl)
    (hfew : ((backTo p3 (starEach (Expr.Call (.Attribute (.Name y q1) "pop" q2) [a] [] q3 :: []) X.env)).all (fun x => !x.1) && (backToKw p3 (keywordEach [] X.env)).all (fun x => x.1.isSome)
      && decide ((Expr.Call (.Attribute (.Name y q1) "pop" q2) [a] [] q3 :: ([] : List Expr)).length + ([] : List Keyword).length + (if ([] : List Keyword).isEmpty then 0 else 1) < 30)) = true := by rfl)
    (hline : (p2.endLine == p3.line) = true := by rfl) (hst : starEach (Expr.Call (.Attribute (.Name y q1) "pop" q2) [a] [] q3 :: []) X.env = (false, eval (.Call (.Attribute (.Name y q1) "pop" q2) [a] [] q3) X.env) :: starEach [] X.env := by rfl) (hplain : (backTo p3 (starEach [] X.env)).any (·.1) = false := by rfl)
    (hbase2 : attributeBase (.Name y q1) "pop" X.env (eval (.Name y q1) X.env) = eval (.Name y q1) X.env := by rfl)
    (hfew2 : ((backTo q3 (starEach (a :: []) X.env)).all (fun x => !x.1) && (backToKw q3 (keywordEach [] X.env)).all (fun x => x.1.isSome)
      && decide ((a :: ([] : List Expr)).length + ([] : List Keyword).length + (if ([] : List Keyword).isEmpty then 0 else 1) < 30)) = true := by rfl)
    (hline2 : (q2.endLine == q3.line) = true := by rfl) (hst2 : starEach (a :: []) X.env = (false, eval a X.env) :: starEach [] X.env := by rfl) (hplain2 : (backTo q3 (starEach [] X.env)).any (·.1) = false := by rfl) :
    DS X M F E (.Expr (.Call (.Attribute (.Name x p1) "append" p2) [.Call (.Attribute (.Name y q1) "pop" q2) [a] [] q3] [] p3) pos) (sAppPop i j f) := by
  obtain ⟨t, pa, h⟩ := h
  refine ⟨_, ps_expr (pe_bm PySem.F.plainAttrs_list PySem.F.slot_list_append PySem.F.type_list_append mt_append (pe_var hN hv hd hcd)
    (pa_cons (pe_bm PySem.F.plainAttrs_list PySem.F.slot_list_pop PySem.F.type_list_pop mt_popAt (pe_var hNy hvy hdy hcdy) (pa_cons pa pa_nil hst2) hbase2 hfew2 hline2 hst2 hplain2) pa_nil hst) hbase hfew hline hst hplain) hs, fun σ H ρ er D w => ?_⟩
  unfold sAppPop at w
  cases hl : getL ρ i with
  | none =>
    rw [hl] at w
    exact w.elim
  | some ds =>
    cases hl2 : getL ρ j with
    | none =>
      rw [hl, hl2] at w
      exact w.elim
    | some es =>
      rw [hl, hl2] at w
      obtain ⟨pp, xs, hs', hx, rx⟩ := er.lst m hl
      obtain ⟨qq, ys, hs2, hy, ry⟩ := er.lst mj hl2
      refine ⟨.ref pp, hs', sq_l hx, .ref qq, hs2, sq_l hy, h σ H ρ er _ (ws_step er w fun d v H1 e sm r _ w1 => ?_)⟩
      cases hp : popAt ρ j d with
      | none =>
        rw [hp] at w1
        exact w1.elim
      | some z =>
        obtain ⟨y0, es'⟩ := z
        rw [hp] at w1
        have w1 : WS X M F E σ H1 ρ (if okLen (ds.length + 1) = true ∧ i ≠ j then .nx ((ρ.set j (some (.list es'))).set i (some (.list (ds ++ [y0])))) else .bad) D := w1
        by_cases hc : okLen (ds.length + 1) = true ∧ i ≠ j
        · rw [if_pos hc] at w1
          obtain ⟨es2, n, k, g1, rfl, g2, g3, g4, rfl⟩ := popAt_some hp
          rw [hl2] at g1
          cases g1
          cases r
          have er1 := er.same sm
          refine rpop_ok (X := X) (j := j) (sm _ _ hy) (ry.same sm) g2 g3 g4 fun v rv hv' => ?_
          obtain ⟨er2, ev2⟩ := er1.putL mj hl2 hs2 (sm _ _ hy) ((ry.same sm).erase k)
          have hl3 : getL (ρ.set j (some (.list (es.eraseIdx k)))) i = some ds := by rw [getL_set hc.2]; exact hl
          have ne : pp ≠ qq := fun z => hc.2 (er.ap i j _ _ pp m mj (getL_some hl) (getL_some hl2) hs' (by rw [z]; exact hs2))
          obtain ⟨pp', xs', hs3, hx3, rx3⟩ := er2.lst m hl3
          rw [hs'] at hs3
          cases hs3
          have hx3' := hx3
          rw [upd_ne ne, sm _ _ hx] at hx3'
          cases hx3'
          have hz : xs.length < sizeLine := by
            have := of_decide_eq_true hc.1
            rw [rx.length]
            exact Nat.lt_of_lt_of_le (Nat.lt_of_succ_le this) (by decide)
          have rv' : Rp X.K (upd H1 qq (.lst (ys.eraseIdx k))) (RS M F σ (ρ.set j (some (.list (es.eraseIdx k)))) false) v y0 := rv.keep (Evo.kp er1 ev2) fun a u x q n => Evo.rs ev2 a u x q n
          obtain ⟨er4, ev4⟩ := er2.putL m hl3 hs' hx3 (rx3.append (.cons rv' .nil))
          exact ⟨pp, xs, v, rfl, rfl, hx3, hz, w1 σ _ er4 (ev2.trans ev4)⟩
        · rw [if_neg hc] at w1
          exact w1.elim
/-- x.pop(e) as a statement -/
def sPop (j : Nat) (f : Rho → Re PyData) : Rho → Sr := fun ρ => match getL ρ j with
  | some _ => (f ρ).st ρ fun d => match popAt ρ j d with
    | some (_, es') => .nx (ρ.set j (some (.list es')))
    | none => .bad
  | none => .bad
theorem ds_pop {j : Nat} {y : Str} {q1 q2 q3 : Pos} (mj : M j = true) (h : DE X M F E la fa a f) 
    (hNy : X.N[j]? = some y := by rfl) (hvy : Vis X.env.scope y := by first | exact Or.inl rfl | exact Or.inr (Or.inl rfl) | exact Or.inr (Or.inr rfl)) (hdy : (y == ("__debug__" : Str)) = false := by decide)
    (hcdy : (y == ("__classdict__" : Str)) = false := by decide)
    (hs : swapsWith (.Call (.Attribute (.Name y q1) "pop" q2) [a] [] q3) none pos.line X.env = pure false := by rfl)
    (hbase2 : attributeBase (.Name y q1) "pop" X.env (eval (.Name y q1) X.env) = eval (.Name y q1) X.env := by rfl)
    (hfew2 : ((backTo q3 (starEach (a :: []) X.env)).all (fun x => !x.1) && (backToKw q3 (keywordEach [] X.env)).all (fun x => x.1.isSome)
      && decide ((a :: ([] : List Expr)).length + ([] : List Keyword).length + (if ([] : List Keyword).isEmpty then 0 else 1) < 30)) = true := by rfl)
    (hline2 : (q2.endLine == q3.line) = true := by rfl) (hst2 : starEach (a :: []) X.env = (false, eval a X.env) :: starEach [] X.env := by rfl) (hplain2 : (backTo q3 (starEach [] X.env)).any (·.1) = false := by rfl) :
    DS X M F E (.Expr (.Call (.Attribute (.Name y q1) "pop" q2) [a] [] q3) pos) (sPop j f) := by
  obtain ⟨t, pa, h⟩ := h
  refine ⟨_, ps_expr (pe_bm PySem.F.plainAttrs_list PySem.F.slot_list_pop PySem.F.type_list_pop mt_popAt (pe_var hNy hvy hdy hcdy) (pa_cons pa pa_nil hst2) hbase2 hfew2 hline2 hst2 hplain2) hs, fun σ H ρ er D w => ?_⟩
  unfold sPop at w
  cases hl2 : getL ρ j with
  | none =>
    rw [hl2] at w
    exact w.elim
  | some es =>
    rw [hl2] at w
    obtain ⟨qq, ys, hs2, hy, ry⟩ := er.lst mj hl2
    refine ⟨.ref qq, hs2, sq_l hy, h σ H ρ er _ (ws_step er w fun d v H1 e sm r _ w1 => ?_)⟩
    cases hp : popAt ρ j d with
    | none =>
      rw [hp] at w1
      exact w1.elim
    | some z =>
      obtain ⟨y0, es'⟩ := z
      rw [hp] at w1
      have w1 : WS X M F E σ H1 ρ (.nx (ρ.set j (some (.list es')))) D := w1
      obtain ⟨es2, n, k, g1, rfl, g2, g3, g4, rfl⟩ := popAt_some hp
      rw [hl2] at g1
      cases g1
      cases r
      have er1 := er.same sm
      refine rpop_ok (X := X) (j := j) (sm _ _ hy) (ry.same sm) g2 g3 g4 fun v rv hv' => ?_
      obtain ⟨er2, ev2⟩ := er1.putL mj hl2 hs2 (sm _ _ hy) ((ry.same sm).erase k)
      exact w1 σ _ er2 ev2
/-- x[e] = v, x a list of the frame's own -/
def sPut (i : Nat) (lk : Bool) (f g : Rho → Re PyData) : Rho → Sr := fun ρ => (f ρ).st ρ fun d => (match getL ρ i with
  | some ds => (g ρ).st ρ fun e => (match e with
    | .int n => (match ixN ds.length n with
      | some k => if (lk = true → imm d = true) then .nx (ρ.set i (some (.list (ds.set k d)))) else .bad
      | none => .bad)
    | _ => .bad)
  | none => .bad)
theorem ds_put {i : Nat} {x : Str} {p1 p2 : Pos} (m : M i = true) (h : DE X M F E la fa a f) (hg : DE X M F E lb fb b g) (hN : X.N[i]? = some x := by rfl) (hv : Vis X.env.scope x := by first | exact Or.inl rfl | exact Or.inr (Or.inl rfl) | exact Or.inr (Or.inr rfl)) (hd : (x == ("__debug__" : Str)) = false := by decide)
    (hcd : (x == ("__classdict__" : Str)) = false := by decide)
    (hs : swapsWithSole [.Subscript (.Name x p1) b p2] a pos.line X.env = pure false := by rfl) (hw : swappedStores [.Subscript (.Name x p1) b p2] a X.env = pure none := by rfl)
    (ha : ∀ v, assign (.Subscript (.Name x p1) b p2) X.env v = (do
      let ov ← holding [v] (eval (.Name x p1) X.env)
      let iv ← holding [v, ov] (eval b X.env)
      standAt p2
      holding [v, ov, iv] (setItem ov iv v)
      release [v, ov, iv] []) := by intro _; rfl) :
    DS X M F E (.Assign [.Subscript (.Name x p1) b p2] a pos) (sPut i la f g) := by
  obtain ⟨t, pa, h⟩ := h
  obtain ⟨t2, pb, h2⟩ := hg
  refine ⟨_, ps_asg pa (pg_sub (pe_var hN hv hd hcd) pb set_list ha) hs hw, fun σ H ρ er D w => ?_⟩
  unfold sPut at w
  refine h σ H ρ er _ (ws_step er w fun d v H1 e sm r _ w1 => ?_)
  cases hl : getL ρ i with
  | none =>
    rw [hl] at w1
    exact w1.elim
  | some ds =>
    rw [hl] at w1
    have er1 := er.same sm
    obtain ⟨pp, xs, hs', hx, rx⟩ := er1.lst m hl
    refine ⟨.ref pp, hs', h2 σ H1 ρ er1 _ (ws_step er1 w1 fun d2 v2 H2 e2 sm2 r2 _ w2 => ?_)⟩
    cases r2 with
    | int n =>
      have w2 : WS X M F E σ H2 ρ (match ixN ds.length n with
      | some k => if (la = true → imm d = true) then .nx (ρ.set i (some (.list (ds.set k d)))) else .bad
      | none => .bad) D := w2
      cases hk : ixN ds.length n with
      | none =>
        rw [hk] at w2
        exact w2.elim
      | some k =>
        rw [hk] at w2
        have w2 : WS X M F E σ H2 ρ (if (la = true → imm d = true) then .nx (ρ.set i (some (.list (ds.set k d)))) else .bad) D := w2
        by_cases hc : la = true → imm d = true
        · rw [if_pos hc] at w2
          have er2 := er1.same sm2
          have rv : Rp X.K H2 (RS M F σ ρ false) v d := rp_lk (r.same sm2) hc
          obtain ⟨er3, ev3⟩ := er2.putL m hl hs' (sm2 _ _ hx) (RpA.set rv k (rx.same sm2))
          exact ⟨pp, xs, n, k, rfl, rfl, sm2 _ _ hx, by rw [rx.length]; exact hk, w2 σ _ er3 ev3⟩
        · rw [if_neg hc] at w2
          exact w2.elim
    | bl _ => exact w2.elim
    | non => exact w2.elim
    | str _ => exact w2.elim
    | tup _ _ => exact w2.elim
    | lst _ _ _ => exact w2.elim
    | scr _ _ => exact w2.elim
    | dic _ _ _ _ => exact w2.elim
    | dit _ _ _ _ => exact w2.elim
    | dif _ _ _ => exact w2.elim
    | rng _ => exact w2.elim
    | dct _ _ _ _ => exact w2.elim
end
end Pu

set_option Elab.async false
set_option linter.all false
set_option maxRecDepth 100000
set_option maxHeartbeats 2000000
namespace Pu
open PySem PySem.Spec PyProof.Rows L2
variable [TabL]

/-! ### targets -/
theorem wipe_set {σ : L2.St} {i : Nat} {x y : Option V} : ∀ vs : List Nat, (wipe (σ.set i x) vs).set i y = (wipe σ vs).set i y
  | [] => by
    show (σ.set i x).set i y = σ.set i y
    rw [List.set_set]
  | v :: vs => by
    show ((wipe (σ.set i x) vs).set v none).set i y = ((wipe σ vs).set v none).set i y
    by_cases h : v = i
    · subst h
      rw [List.set_set, List.set_set]
      exact wipe_set vs
    · rw [List.set_comm _ _ h, wipe_set vs, List.set_comm _ _ (Ne.symm h)]
theorem wipe_mem {σ : L2.St} {i : Nat} {x : Option V} : ∀ {vs : List Nat}, i ∈ vs → wipe (σ.set i x) vs = wipe σ vs
  | v :: vs, h => by
    show (wipe (σ.set i x) vs).set v none = (wipe σ vs).set v none
    by_cases hv : v = i
    · subst hv
      exact wipe_set vs
    · rw [wipe_mem ((List.mem_cons.mp h).resolve_left fun e => hv e.symm)]
def DG (X : Cx) (M : Nat → Bool) (F : Fx) (tg : Expr) (ts : List Nat) (g : PyData → Rho → Option Rho) : Prop :=
  ∃ t : TG, PG X tg t ∧ ∀ σ H ρ v d ρ', ER X.K M F σ H ρ → Rp X.K H (RS M F σ ρ false) v d → g d ρ = some ρ' → ∀ Q : L2.St → Hp → Prop,
    (∀ σ', ER X.K M F σ' H ρ' → Evo M σ H ρ σ' H ρ' → (∀ vs, (∀ i ∈ ts, i ∈ vs) → wipe σ' vs = wipe σ vs) → (∀ a, OwnA M σ ρ a → OwnA M σ' ρ' a) → Q σ' H) → t v σ H Q
def DGs (X : Cx) (M : Nat → Bool) (F : Fx) (tg : List Expr) (ts : List Nat) (g : List PyData → Rho → Option Rho) : Prop :=
  ∃ t : TGs, PGs X tg t ∧ ∀ σ H ρ v d ρ', ER X.K M F σ H ρ → RpA X.K H (RS M F σ ρ false) v d → g d ρ = some ρ' → ∀ Q : L2.St → Hp → Prop,
    (∀ σ', ER X.K M F σ' H ρ' → Evo M σ H ρ σ' H ρ' → (∀ vs, (∀ i ∈ ts, i ∈ vs) → wipe σ' vs = wipe σ vs) → (∀ a, OwnA M σ ρ a → OwnA M σ' ρ' a) → Q σ' H) → t v σ H Q
section
variable {X : Cx} {M : Nat → Bool} {F : Fx} {E : L2.St → XK} {σ σ1 : L2.St} {ρ ρ1 : Rho} {H H' H1 : Hp} {D : Ends}
variable {st : Stmt} {rest : List Stmt} {s u : Rho → Sr} {la fa lb fb : Bool} {a b : Expr} {f g : Rho → Re PyData} {p : Rho → Re Bool} {pos : Pos}
def gSlot (i : Nat) : PyData → Rho → Option Rho := fun d ρ => some (ρ.set i (some d))
theorem dg_name (i : Nat) {x : Str} (m : M i = false) (hN : X.N.Nodup) (hi : X.N[i]? = some x := by rfl) (hx : Loc X.env.scope x := by first | exact Or.inl rfl | exact Or.inr rfl) (hf : X.fn x = true ∨ X.env.scope.names.lookup x = some .local := by first | exact .inl rfl | exact .inr rfl) :
    DG X M F (.Name x pos) [i] (gSlot i) := by
  refine ⟨_, pg_name hN hi hx hf, fun σ H ρ v d ρ' er r e Q k => ?_⟩
  cases e
  exact k _ (er.set m r) (fun a u q n _ => ⟨q, fun o => n ((own_set m).mp o)⟩) (fun vs h => wipe_mem (h i List.mem_cons_self)) fun a o => (own_set m).mpr o
def gNone : List PyData → Rho → Option Rho := fun ds ρ => match ds with | [] => some ρ | _ => none
def gMore (g : PyData → Rho → Option Rho) (h : List PyData → Rho → Option Rho) : List PyData → Rho → Option Rho := fun ds ρ => match ds with | d :: ds => (g d ρ).bind (h ds) | [] => none
theorem dgs_nil : DGs X M F [] [] gNone := by
  refine ⟨_, pgs_nil, fun σ H ρ v d ρ' er r e Q k => ?_⟩
  unfold gNone at e
  split at e
  · cases e
    cases r
    exact ⟨rfl, k σ er Evo.refl (fun _ _ => rfl) fun _ o => o⟩
  · cases e
theorem dgs_cons {e : Expr} {es : List Expr} {ts us : List Nat} {gg : PyData → Rho → Option Rho} {gs : List PyData → Rho → Option Rho} (h : DG X M F e ts gg) (hs : DGs X M F es us gs)
    (hq : (assignEach (e :: es) X.env).map (·.2) = assign e X.env :: (assignEach es X.env).map (·.2) := by rfl) : DGs X M F (e :: es) (ts ++ us) (gMore gg gs) := by
  obtain ⟨t, pt, h⟩ := h
  obtain ⟨t', pt', h'⟩ := hs
  refine ⟨_, pgs_cons pt pt' hq, fun σ H ρ v d ρ' er r e Q k => ?_⟩
  cases r with
  | nil => cases e
  | cons r1 r2 =>
    rename_i v vs d ds
    have e : (gg d ρ).bind (gs ds) = some ρ' := e
    obtain ⟨ρ1, e1, e2⟩ := Option.bind_eq_some_iff.mp e
    refine ⟨v, vs, rfl, h σ H ρ v d ρ1 er r1 e1 _ fun σ1 er1 ev1 w1 o1 => ?_⟩
    refine h' σ1 H ρ1 vs ds ρ' er1 (r2.keep (Evo.kp er ev1) (Evo.rs ev1)) e2 _ fun σ2 er2 ev2 w2 o2 => ?_
    exact k σ2 er2 (ev1.trans ev2) (fun vs hv => by rw [w2 vs fun i hi => hv i (List.mem_append_right _ hi), w1 vs fun i hi => hv i (List.mem_append_left _ hi)]) fun a o => o2 a (o1 a o)
/-- (a, b, ..): a tuple of as many -/
def gTupD (n : Nat) (g : List PyData → Rho → Option Rho) : PyData → Rho → Option Rho := fun d ρ => match d with | .tuple ds => if ds.length = n then g ds ρ else none | _ => none
theorem dg_tup {es : List Expr} {ts : List Nat} {k : Nat} {n : Nat} {gs : List PyData → Rho → Option Rho} (hc : X.calm = true) (h : DGs X M F es ts gs) (hn : (assignEach es X.env).length = n := by rfl) (hst : (assignEach es X.env).findIdx? (·.1) = none := by rfl) :
    DG X M F (.Tuple es k pos) ts (gTupD n gs) := by
  obtain ⟨t, pt, h⟩ := h
  refine ⟨_, pg_tup hc pt hn hst, fun σ H ρ v d ρ' er r e Q kk => ?_⟩
  unfold gTupD at e
  cases r with
  | tup hs ha =>
    rename_i a xs ds
    have e : (if ds.length = n then gs ds ρ else none) = some ρ' := e
    by_cases hl : ds.length = n
    · rw [if_pos hl] at e
      exact ⟨a, xs, rfl, hs.sq, by rw [ha.length]; exact hl, h σ H ρ xs ds ρ' er ha e Q kk⟩
    · rw [if_neg hl] at e
      cases e
  | bl _ => cases e
  | non => cases e
  | int _ => cases e
  | str _ => cases e
  | lst _ _ _ => cases e
  | scr _ _ => cases e
  | dic _ _ _ _ => cases e
  | dit _ _ _ _ => cases e
  | dif _ _ _ => cases e
  | rng _ => cases e
  | dct _ _ _ _ => cases e
/-- .. a list of as many -/
def gLstD (n : Nat) (g : List PyData → Rho → Option Rho) : PyData → Rho → Option Rho := fun d ρ => match d with | .list ds => if ds.length = n then g ds ρ else none | _ => none
theorem dg_lst {es : List Expr} {ts : List Nat} {k : Nat} {n : Nat} {gs : List PyData → Rho → Option Rho} (hc : X.calm = true) (h : DGs X M F es ts gs) (hn : (assignEach es X.env).length = n := by rfl) (hst : (assignEach es X.env).findIdx? (·.1) = none := by rfl) :
    DG X M F (.Tuple es k pos) ts (gLstD n gs) := by
  obtain ⟨t, pt, h⟩ := h
  refine ⟨_, pg_lst hc pt hn hst, fun σ H ρ v d ρ' er r e Q kk => ?_⟩
  unfold gLstD at e
  cases r with
  | lst he hS ha =>
    rename_i a xs ds
    have e : (if ds.length = n then gs ds ρ else none) = some ρ' := e
    by_cases hl : ds.length = n
    · rw [if_pos hl] at e
      exact ⟨a, xs, rfl, SqL.of he, by rw [ha.length]; exact hl, h σ H ρ xs ds ρ' er ha e Q kk⟩
    · rw [if_neg hl] at e
      cases e
  | bl _ => cases e
  | non => cases e
  | int _ => cases e
  | str _ => cases e
  | tup _ _ => cases e
  | scr _ _ => cases e
  | dic _ _ _ _ => cases e
  | dit _ _ _ _ => cases e
  | dif _ _ _ => cases e
  | rng _ => cases e
  | dct _ _ _ _ => cases e
/-- target = e -/
def sAsg (lk : Bool) (g : PyData → Rho → Option Rho) (f : Rho → Re PyData) : Rho → Sr := fun ρ => (f ρ).st ρ fun d => if lk = true → imm d = true then (match g d ρ with | some ρ' => .nx ρ' | none => .bad) else .bad
theorem ds_asg {tg : Expr} {ts : List Nat} {gg : PyData → Rho → Option Rho} (hg : DG X M F tg ts gg) (h : DE X M F E la fa a f) (h1 : (assignEach [tg] X.env).map (·.2) = [assign tg X.env] := by rfl) (hs : swapsWithSole [tg] a pos.line X.env = pure false := by rfl) (hw : swappedStores [tg] a X.env = pure none := by rfl) : DS X M F E (.Assign [tg] a pos) (sAsg la gg f) := by
  obtain ⟨t, pa, h⟩ := h
  obtain ⟨t', pt, hg⟩ := hg
  refine ⟨_, ps_asg pa pt hs hw (h1 := h1), fun σ H ρ er D w => ?_⟩
  refine h σ H ρ er _ (ws_step er w fun d v H1 e sm r _ w1 => ?_)
  by_cases hd : la = true → imm d = true
  · rw [if_pos hd] at w1
    cases q : gg d ρ with
    | none =>
      rw [q] at w1
      exact w1.elim
    | some ρ' =>
      rw [q] at w1
      exact hg σ H1 ρ v d ρ' (er.same sm) (rp_lk r hd) q _ fun σ' er' ev _ _ => w1 σ' H1 er' ev
  · rw [if_neg hd] at w1
    exact w1.elim

/-! ### what a loop walks -/
def Walks (K : PySem.W.Frag) (S : Addr → Prop) (J : It) (ds : List PyData) (H1 : Hp) : Prop :=
  ∀ H2, Kp S H1 H2 → ∀ i, (∀ d, ds[i]? = some d → J.go i H2 ∧ ∀ x H', J.yld i H2 x H' → Same H2 H' ∧ Rp K H' S x d) ∧ (i = ds.length → J.stop i H2)
def WI (X : Cx) (M : Nat → Bool) (F : Fx) (E : L2.St → XK) (σ : L2.St) (ρ : Rho) (H : Hp) (r : Re (List PyData)) (R : It → Hp → Prop) : Prop :=
  match r with
  | .ok ds => ∀ J H', Same H H' → Walks X.K (fun a => RS M F σ ρ false a ∧ Nn H' a) J ds H' → R J H'
  | .ex c => ∀ C H', X.mg c = some (.ref C) → Same H H' → E σ (.ref C) none H'
  | .bad => False
def DI (X : Cx) (M : Nat → Bool) (F : Fx) (E : L2.St → XK) (tg it : Expr) (f : Rho → Re (List PyData)) : Prop := ∃ wi : TI, PI X tg it wi ∧ ∀ σ H ρ, ER X.K M F σ H ρ → ∀ R, WI X M F E σ ρ H (f ρ) R → wi σ H R
theorem wi_step {lk fr : Bool} {r : Re PyData} {R : It → Hp → Prop} {g : PyData → Re (List PyData)} {K : VK} (w : WI X M F E σ ρ H (r.andThen g) R)
    (h : ∀ d v H', r = .ok d → Same H H' → Rp X.K H' (RS M F σ ρ lk) v d → WI X M F E σ ρ H' (g d) R → K v H') : WE X M F E lk fr σ ρ H r K := by
  cases r with
  | ok d =>
    refine fun v H' s rr _ => h d v H' rfl s rr ?_
    have w : WI X M F E σ ρ H (g d) R := w
    cases q : g d with
    | ok z =>
      rw [q] at w
      exact fun J H2 s2 k => w J H2 (s.trans s2) k
    | ex c =>
      rw [q] at w
      exact fun C H2 m s2 => w C H2 m (s.trans s2)
    | bad =>
      rw [q] at w
      exact w
  | ex c => exact w
  | bad => exact w
theorem wi_stepA {lk : Bool} {r : Re (List PyData)} {R : It → Hp → Prop} {g : List PyData → Re (List PyData)} {K : List V → Hp → Prop} (w : WI X M F E σ ρ H (r.andThen g) R)
    (h : ∀ d v H', r = .ok d → Same H H' → RpA X.K H' (RS M F σ ρ lk) v d → WI X M F E σ ρ H' (g d) R → K v H') : WA X M F E lk σ ρ H r K := by
  cases r with
  | ok d =>
    refine fun v H' s rr => h d v H' rfl s rr ?_
    have w : WI X M F E σ ρ H (g d) R := w
    cases q : g d with
    | ok z =>
      rw [q] at w
      exact fun J H2 s2 k => w J H2 (s.trans s2) k
    | ex c =>
      rw [q] at w
      exact fun C H2 m s2 => w C H2 m (s.trans s2)
    | bad =>
      rw [q] at w
      exact w
  | ex c => exact w
  | bad => exact w
/-- over a list or a tuple that no own list is -/
def itL (d : PyData) : Re (List PyData) := match d with | .list ds => .ok ds | _ => .bad
def itT (d : PyData) : Re (List PyData) := match d with | .tuple ds => .ok ds | _ => .bad
def iOf (h : PyData → Re (List PyData)) (f : Rho → Re PyData) : Rho → Re (List PyData) := fun ρ => (f ρ).andThen h
theorem walk_l {S : Addr → Prop} {K : PySem.W.Frag} {aa : Addr} {xs : List V} {ds : List PyData} (e : H1 aa = some (.lst xs)) (hS : S aa) (r : RpA K H1 S xs ds) : Walks K (fun a => S a ∧ Nn H1 a) (Itl K aa) ds H1 := fun H2 kp i => by
  have e2 := kp aa _ e (.inl ⟨hS, _, e, by first | assumption | exact fun _ z => nomatch z⟩)
  refine ⟨fun d hd => ?_, fun hl => ⟨xs, SqL.of e2, by rw [r.length]; exact Nat.le_of_eq hl.symm⟩⟩
  obtain ⟨v, hv, rv⟩ := r.thru.get' hd
  refine ⟨⟨xs, v, SqL.of e2, hv⟩, fun x H' y => ?_⟩
  obtain ⟨rfl, y⟩ := y
  have := y xs (SqL.of e2)
  rw [hv] at this
  cases this
  exact ⟨Same.refl _, rv.keep kp fun _ _ x _ _ => x⟩
theorem walk_t {S : Addr → Prop} {K : PySem.W.Frag} {aa : Addr} {xs : List V} {ds : List PyData} (e : TupD K H1 aa xs) (r : RpA K H1 S xs ds) : Walks K (fun a => S a ∧ Nn H1 a) (Itt K aa) ds H1 := fun H2 kp i => by
  have e2 : SqT K H2 aa xs := (tupD_keep e fun u q m n => kp aa u q (.inr m) n).sq
  refine ⟨fun d hd => ?_, fun hl => ⟨xs, e2, by rw [r.length]; exact Nat.le_of_eq hl.symm⟩⟩
  obtain ⟨v, hv, rv⟩ := r.thru.get' hd
  refine ⟨⟨xs, v, e2, hv⟩, fun x H' y => ?_⟩
  obtain ⟨rfl, y⟩ := y
  have := y xs e2
  rw [hv] at this
  cases this
  exact ⟨Same.refl _, rv.keep kp fun _ _ x _ _ => x⟩
theorem di_list {tg : Expr} (h : DE X M F E false fa a f) : DI X M F E tg a (iOf itL f) := by
  obtain ⟨t, pa, h⟩ := h
  refine ⟨_, pi_list pa, fun σ H ρ er R w => ?_⟩
  refine h σ H ρ er _ (wi_step w fun d v H1 e sm r w1 => ?_)
  cases r with
  | lst e2 hS ha => exact ⟨_, rfl, ⟨_, SqL.of e2⟩, w1 _ H1 (Same.refl _) (walk_l e2 hS ha)⟩
  | bl _ => exact w1.elim
  | non => exact w1.elim
  | int _ => exact w1.elim
  | str _ => exact w1.elim
  | tup _ _ => exact w1.elim
  | scr _ _ => exact w1.elim
  | dic _ _ _ _ => exact w1.elim
  | dit _ _ _ _ => exact w1.elim
  | dif _ _ _ => exact w1.elim
  | rng _ => exact w1.elim
  | dct _ _ _ _ => exact w1.elim
theorem di_tup {tg : Expr} (h : DE X M F E false fa a f) : DI X M F E tg a (iOf itT f) := by
  obtain ⟨t, pa, h⟩ := h
  refine ⟨_, pi_tup pa, fun σ H ρ er R w => ?_⟩
  refine h σ H ρ er _ (wi_step w fun d v H1 e sm r w1 => ?_)
  cases r with
  | tup e2 ha => exact ⟨_, rfl, ⟨_, e2.sq⟩, w1 _ H1 (Same.refl _) (walk_t e2 ha)⟩
  | bl _ => exact w1.elim
  | non => exact w1.elim
  | int _ => exact w1.elim
  | str _ => exact w1.elim
  | lst _ _ _ => exact w1.elim
  | scr _ _ => exact w1.elim
  | dic _ _ _ _ => exact w1.elim
  | dit _ _ _ _ => exact w1.elim
  | dif _ _ _ => exact w1.elim
  | rng _ => exact w1.elim
  | dct _ _ _ _ => exact w1.elim
/-- range -/
def upFrom (lo : Int) (n : Nat) : List PyData := (List.range n).map fun (k : Nat) => PyData.int (lo + (k : Int))
def small62 (i : Int) : Bool := decide (-(2 ^ 62) ≤ i) && decide (i < 2 ^ 62)
def rg1 (ds : List PyData) : Re (List PyData) := match ds with | [.int j] => if small62 j = true then .ok (upFrom 0 j.toNat) else .bad | _ => .bad
def rg2 (ds : List PyData) : Re (List PyData) := match ds with | [.int i, .int j] => if small62 i = true ∧ small62 j = true then .ok (upFrom i (j - i).toNat) else .bad | _ => .bad
theorem walk_r {S : Addr → Prop} {K : PySem.W.Frag} {lo : Int} {n : Nat} : Walks K S (Itr lo n) (upFrom lo n) H1 := fun H2 kp i => by
  have hlen : (upFrom lo n).length = n := by simp [upFrom]
  refine ⟨fun d hd => ?_, fun hl => by rw [hlen] at hl; exact Nat.le_of_eq hl.symm⟩
  have hi : i < n := by
    have := getSome hd
    rwa [hlen] at this
  have hd' : d = .int (lo + i) := by
    unfold upFrom at hd
    rw [List.getElem?_map, List.getElem?_range hi] at hd
    exact (Option.some.inj hd).symm
  refine ⟨hi, fun x H' y => ?_⟩
  obtain ⟨rfl, rfl⟩ := y
  rw [hd']
  exact ⟨Same.refl _, .int _⟩
theorem di_rg1 {tg : Expr} {gs : Rho → Re (List PyData)} {pp : Pos} (hg : Gl X "range") (hm : X.mg "range" = none) (ha : DA X M F E la [a] gs) (hs : starEach [a] X.env = [(false, eval a X.env)] := by rfl)  :
    DI X M F E tg (.Call (.Name "range" pp) [a] [] pos) (fun ρ => (gs ρ).andThen rg1) := by
  obtain ⟨t, pa, ha⟩ := ha
  refine ⟨_, pi_range1 hg hm pa hs, fun σ H ρ er R w => ?_⟩
  refine ha σ H ρ er _ (wi_stepA w fun ds vs H1 e sm r w1 => ?_)
  unfold rg1 at w1
  split at w1
  · rename_i j
    cases r with
    | cons r1 r2 =>
      cases r1
      cases r2
      by_cases hj : small62 j = true
      · rw [if_pos hj] at w1
        unfold small62 at hj
        simp only [Bool.and_eq_true, decide_eq_true_eq] at hj
        exact ⟨j, rfl, hj.1, hj.2, w1 _ H1 (Same.refl _) walk_r⟩
      · rw [if_neg hj] at w1
        exact w1.elim
  · exact w1.elim
theorem di_rg2 {tg : Expr} {gs : Rho → Re (List PyData)} {pp : Pos} (hg : Gl X "range") (hm : X.mg "range" = none) (ha : DA X M F E la [a, b] gs) (hs : starEach [a, b] X.env = [(false, eval a X.env), (false, eval b X.env)] := by rfl) (hs2 : starEach [b] X.env = [(false, eval b X.env)] := by rfl) :
    DI X M F E tg (.Call (.Name "range" pp) [a, b] [] pos) (fun ρ => (gs ρ).andThen rg2) := by
  obtain ⟨t, pa, ha⟩ := ha
  refine ⟨_, pi_range2 hg hm pa hs hs2, fun σ H ρ er R w => ?_⟩
  refine ha σ H ρ er _ (wi_stepA w fun ds vs H1 e sm r w1 => ?_)
  unfold rg2 at w1
  split at w1
  · rename_i i j
    cases r with
    | cons r1 r2 =>
      cases r1
      cases r2 with
      | cons r2 r3 =>
        cases r2
        cases r3
        by_cases hj : small62 i = true ∧ small62 j = true
        · rw [if_pos hj] at w1
          unfold small62 at hj
          simp only [Bool.and_eq_true, decide_eq_true_eq] at hj
          exact ⟨i, j, rfl, ⟨hj.1.1, hj.1.2, hj.2.1, hj.2.2⟩, w1 _ H1 (Same.refl _) walk_r⟩
        · rw [if_neg hj] at w1
          exact w1.elim
  · exact w1.elim

/-! ### loops -/
def sLoop (g : PyData → Rho → Option Rho) (body : Rho → Sr) : List PyData → Rho → Sr
  | [], ρ => .nx ρ
  | d :: ds, ρ => match g d ρ with
    | none => .bad
    | some ρ1 => match body ρ1 with
      | .nx ρ2 => sLoop g body ds ρ2
      | .ct ρ2 => sLoop g body ds ρ2
      | .bk ρ2 => .nx ρ2
      | .rt d => .rt d
      | .ex c ρ2 => .ex c ρ2
      | .bad => .bad
def Re.stL : Re (List PyData) → Rho → (List PyData → Sr) → Sr
  | .ok d, _, k => k d
  | .ex c, ρ, _ => .ex c ρ
  | .bad, _, _ => .bad
def sFor (it : Rho → Re (List PyData)) (g : PyData → Rho → Option Rho) (body : Rho → Sr) : Rho → Sr := fun ρ => (it ρ).stL ρ fun ds => sLoop g body ds ρ
theorem drop_get {α : Type} {l : List α} {i : Nat} {x : α} (h : l[i]? = some x) : l.drop i = x :: l.drop (i + 1) := by
  obtain ⟨hi, e⟩ := List.getElem?_eq_some_iff.mp h
  rw [List.drop_eq_getElem_cons hi, e]
theorem ds_for {tg it : Expr} {ts : List Nat} {body : List Stmt} {its : Rho → Re (List PyData)} {gg : PyData → Rho → Option Rho} (hp : PassesOwn (model X.prog X.w) X.A X.env X.xe) (hc : X.calm = true) (hi : DI X M F E tg it its) (hg : DG X M F tg ts gg) (hb : DSs X M F E body s)
    (hs : ∀ x, foldedSetIterable it X.env x = pure x := by intro _; rfl) : DS X M F E (.For tg it body [] pos) (sFor its gg s) := by
  obtain ⟨wi, pi, hi⟩ := hi
  obtain ⟨t, pg, hg⟩ := hg
  obtain ⟨tb, pb, hb⟩ := hb
  refine ⟨_, ps_for hp hc pi pg pb hs, fun σ H ρ er D w => ?_⟩
  refine hi σ H ρ er _ ?_
  unfold sFor at w
  cases q : its ρ with
  | ex c =>
    rw [q] at w
    exact fun C H' m sm => w C σ H' m (er.same sm) (Evo.same sm)
  | bad =>
    rw [q] at w
    exact w
  | ok ds =>
    rw [q] at w
    refine fun J H1 sm wk => ?_
    have w : WS X M F E σ H ρ (sLoop gg s ds ρ) D := w
    have er1 := er.same sm
    have w1 := ws_evo (Evo.same sm) w
    refine ⟨fun i m σ' H' => m = ds.length - i ∧ i ≤ ds.length ∧ ∃ ρ', ER X.K M F σ' H' ρ' ∧ Evo M σ H1 ρ σ' H' ρ' ∧ WS X M F E σ' H' ρ' (sLoop gg s (ds.drop i) ρ') D, ⟨ds.length, by simp, Nat.zero_le _, ρ, er1, Evo.refl, w1⟩, ?_⟩
    rintro i m σ' H' ⟨rfl, hi', ρ', er', ev', w'⟩
    have kp : Kp (fun a => RS M F σ ρ false a ∧ Nn H1 a) H1 H' := ⟨fun a u e x n => (Evo.kp er1 ev').k a u e (x.elim (fun x => .inl x.1) .inr) n⟩
    by_cases hlt : i < ds.length
    · obtain ⟨go, yl⟩ := (wk H' kp i).1 _ (List.getElem?_eq_getElem hlt)
      refine .inr ⟨go, fun σ2 H2 => ds.length - (i + 1) = ds.length - (i + 1) ∧ i + 1 ≤ ds.length ∧ ∃ ρ2, ER X.K M F σ2 H2 ρ2 ∧ Evo M σ H1 ρ σ2 H2 ρ2 ∧ WS X M F E σ2 H2 ρ2 (sLoop gg s (ds.drop (i + 1)) ρ2) D, fun σ2 H2 x => ⟨ds.length - (i + 1), by omega, x⟩, fun x H2 y => ?_⟩
      obtain ⟨s2, rx⟩ := yl x H2 y
      rw [drop_get (List.getElem?_eq_getElem hlt)] at w'
      have w' : WS X M F E σ' H' ρ' (match gg ds[i] ρ' with
        | none => .bad
        | some ρ1 => match s ρ1 with
          | .nx ρ2 => sLoop gg s (ds.drop (i + 1)) ρ2
          | .ct ρ2 => sLoop gg s (ds.drop (i + 1)) ρ2
          | .bk ρ2 => .nx ρ2
          | .rt d => .rt d
          | .ex c ρ2 => .ex c ρ2
          | .bad => .bad) D := w'
      cases q1 : gg ds[i] ρ' with
      | none =>
        rw [q1] at w'
        exact w'.elim
      | some ρ1 =>
        rw [q1] at w'
        have er2 := er'.same s2
        have ev2 : Evo M σ H1 ρ σ' H2 ρ' := ev'.trans (Evo.same s2)
        have rx' : Rp X.K H2 (RS M F σ' ρ' false) x ds[i] := rx.keep (kp_same (Same.refl _)) fun a u z _ _ => by
          obtain ⟨u', hu', nhu'⟩ := z.2
          exact Evo.rs ev' a u' z.1 hu' nhu'
        refine hg σ' H2 ρ' x ds[i] ρ1 er2 rx' q1 _ fun σ3 er3 ev3 _ _ => ?_
        have w3 := ws_evo ((Evo.same s2).trans ev3) w'
        have w3 : WS X M F E σ3 H2 ρ1 (match s ρ1 with
          | .nx ρ2 => sLoop gg s (ds.drop (i + 1)) ρ2
          | .ct ρ2 => sLoop gg s (ds.drop (i + 1)) ρ2
          | .bk ρ2 => .nx ρ2
          | .rt d => .rt d
          | .ex c ρ2 => .ex c ρ2
          | .bad => .bad) D := w3
        have ev3' := ev2.trans ev3
        refine hb σ3 H2 ρ1 er3 _ ?_
        cases q2 : s ρ1 with
        | nx ρ2 =>
          rw [q2] at w3
          exact fun σ4 H4 er4 ev4 => ⟨rfl, hlt, ρ2, er4, ev3'.trans ev4, ws_evo ev4 w3⟩
        | ct ρ2 =>
          rw [q2] at w3
          exact fun σ4 H4 er4 ev4 => ⟨rfl, hlt, ρ2, er4, ev3'.trans ev4, ws_evo ev4 w3⟩
        | bk ρ2 =>
          rw [q2] at w3
          exact w3
        | rt d =>
          rw [q2] at w3
          exact w3
        | ex c ρ2 =>
          rw [q2] at w3
          exact w3
        | bad =>
          rw [q2] at w3
          exact w3
    · have e : i = ds.length := by omega
      subst e
      rw [List.drop_length] at w'
      exact .inl ⟨(wk H' kp _).2 rfl, w' σ' H' er' Evo.refl⟩
/-- while, at most n turns are looked at -/
def sWhile (p : Rho → Re Bool) (body : Rho → Sr) : Nat → Rho → Sr
  | 0, _ => .bad
  | n + 1, ρ => (p ρ).stT ρ fun b => if b = true then (match body ρ with
      | .nx ρ2 => sWhile p body n ρ2
      | .ct ρ2 => sWhile p body n ρ2
      | .bk ρ2 => .nx ρ2
      | .rt d => .rt d
      | .ex c ρ2 => .ex c ρ2
      | .bad => .bad) else .nx ρ
theorem ds_while {c : Expr} {body : List Stmt} (n : Nat) (hp : PassesOwn (model X.prog X.w) X.A X.env X.xe) (hc : DT X M F E c p) (hb : DSs X M F E body s) : DS X M F E (.While c body [] pos) (sWhile p s n) := by
  obtain ⟨tc, pc, hc⟩ := hc
  obtain ⟨tb, pb, hb⟩ := hb
  refine ⟨_, ps_while hp pc pb, fun σ H ρ er D w => ?_⟩
  refine ⟨fun m σ' H' => ∃ ρ', ER X.K M F σ' H' ρ' ∧ WS X M F E σ' H' ρ' (sWhile p s m ρ') D, ⟨n, ρ, er, w⟩, ?_⟩
  rintro m σ' H' ⟨ρ', er', w'⟩
  cases m with
  | zero => exact w'.elim
  | succ m =>
    refine hc σ' H' ρ' er' _ (ws_stepT er' (show WS X M F E σ' H' ρ' ((p ρ').stT ρ' _) D from w') fun b H1 e sm w1 => ?_)
    cases b with
    | false => exact w1 σ' H1 (er'.same sm) Evo.refl
    | true =>
      refine ⟨fun σ2 H2 => ∃ m', m' < m + 1 ∧ ∃ ρ2, ER X.K M F σ2 H2 ρ2 ∧ WS X M F E σ2 H2 ρ2 (sWhile p s m' ρ2) D, fun σ2 H2 x => x, ?_⟩
      refine hb σ' H1 ρ' (er'.same sm) _ ?_
      have w1 : WS X M F E σ' H1 ρ' (match s ρ' with
        | .nx ρ2 => sWhile p s m ρ2
        | .ct ρ2 => sWhile p s m ρ2
        | .bk ρ2 => .nx ρ2
        | .rt d => .rt d
        | .ex c ρ2 => .ex c ρ2
        | .bad => .bad) D := w1
      cases q2 : s ρ' with
      | nx ρ2 =>
        rw [q2] at w1
        exact fun σ4 H4 er4 ev4 => ⟨m, Nat.lt_succ_self _, ρ2, er4, ws_evo ev4 w1⟩
      | ct ρ2 =>
        rw [q2] at w1
        exact fun σ4 H4 er4 ev4 => ⟨m, Nat.lt_succ_self _, ρ2, er4, ws_evo ev4 w1⟩
      | bk ρ2 =>
        rw [q2] at w1
        exact w1
      | rt d =>
        rw [q2] at w1
        exact w1
      | ex c ρ2 =>
        rw [q2] at w1
        exact w1
      | bad =>
        rw [q2] at w1
        exact w1
end
end Pu

set_option Elab.async false
set_option linter.all false
set_option maxRecDepth 100000
set_option maxHeartbeats 2000000
namespace Pu
open PySem PySem.Spec PyProof.Rows L2
variable [TabL]

section
variable {X : Cx} {M : Nat → Bool} {F : Fx} {E : L2.St → XK} {σ σ1 : L2.St} {ρ ρ1 : Rho} {H H' H1 : Hp} {D : Ends}
variable {st : Stmt} {rest : List Stmt} {s u : Rho → Sr} {la fa lb fb : Bool} {a b : Expr} {f g : Rho → Re PyData} {p : Rho → Re Bool} {pos : Pos}

/-! ### one reading for all contexts -/
def canE (X : Cx) (M : Nat → Bool) (E : L2.St → XK) (lk fr : Bool) (f : Rho → Re PyData) : TE := fun σ H Q => ∃ (F : Fx) (ρ : Rho), ER X.K M F σ H ρ ∧ WE X M F E lk fr σ ρ H (f ρ) Q
def canT (X : Cx) (M : Nat → Bool) (E : L2.St → XK) (f : Rho → Re Bool) : TT := fun σ H Q => ∃ (F : Fx) (ρ : Rho), ER X.K M F σ H ρ ∧ WT X E σ H (f ρ) Q
def canG (X : Cx) (M : Nat → Bool) (ts : List Nat) (g : PyData → Rho → Option Rho) : TG := fun v σ H Q => ∃ (F : Fx) (ρ : Rho) (d : PyData) (ρ' : Rho), ER X.K M F σ H ρ ∧ Rp X.K H (RS M F σ ρ false) v d ∧ g d ρ = some ρ' ∧
    (∀ σ', ER X.K M F σ' H ρ' → Evo M σ H ρ σ' H ρ' → (∀ vs, (∀ i ∈ ts, i ∈ vs) → wipe σ' vs = wipe σ vs) → (∀ a, OwnA M σ ρ a → OwnA M σ' ρ' a) → Q σ' H)
theorem canE_ok {lk fr : Bool} {e : Expr} (h : ∀ F, DE X M F E lk fr e f) : PE X e (canE X M E lk fr f) := ⟨fun pins s σ H Q I ⟨F, ρ, er, w⟩ => by
  obtain ⟨t, pt, h⟩ := h F
  exact pt.run pins s σ H Q I (h σ H ρ er Q w)⟩
theorem canT_ok {e : Expr} (h : ∀ F, DT X M F E e p) : PT X e (canT X M E p) := ⟨fun pins s σ H Q I ⟨F, ρ, er, w⟩ => by
  obtain ⟨t, pt, h⟩ := h F
  exact pt.run pins s σ H Q I (h σ H ρ er Q w)⟩
theorem canG_ok {e : Expr} {ts : List Nat} {gg : PyData → Rho → Option Rho} (h : ∀ F, DG X M F e ts gg) : PG X e (canG X M ts gg) := ⟨fun pins s σ H v u Q I r ⟨F, ρ, d, ρ', er, rp, e, w⟩ => by
  obtain ⟨t, pt, h⟩ := h F
  exact pt.run pins s σ H v u Q I r (h σ H ρ v d ρ' er rp e Q w)⟩
/-- tests of a clause: none, or one -/
def DTs (X : Cx) (M : Nat → Bool) (E : L2.St → XK) (ifs : List Expr) (f : Rho → Re Bool) : Prop := PTs X ifs (canT X M E f)
def yesR : Rho → Re Bool := fun _ => .ok true
theorem dts_nil : DTs X M E [] yesR := ⟨fun pins s σ H Q I ⟨F, ρ, er, w⟩ => pts_nil.run pins s σ H Q I (w H (Same.refl _))⟩
theorem dts_one {c : Expr} (h : ∀ F, DT X M F E c p) : DTs X M E [c] p := pts_one (canT_ok h)

/-! ### list comprehensions -/
def E0s : L2.St → XK := fun _ _ _ _ => False
def wipeR (ρ : Rho) : List Nat → Rho
  | [] => ρ
  | v :: vs => (wipeR ρ vs).set v none
def lcGo (g : PyData → Rho → Option Rho) (t : Rho → Re Bool) (f : Rho → Re PyData) (ρ : Rho) : List PyData → Option (List PyData)
  | [] => some []
  | d :: ds => match g d ρ with
    | none => none
    | some ρ1 => match t ρ1 with
      | .ok true => (match f ρ1 with | .ok x => (match lcGo g t f ρ ds with | some xs => some (x :: xs) | none => none) | _ => none)
      | .ok false => lcGo g t f ρ ds
      | _ => none
def rLc (its : Rho → Re (List PyData)) (vs : List Nat) (g : PyData → Rho → Option Rho) (t : Rho → Re Bool) (f : Rho → Re PyData) : Rho → Re PyData := fun ρ => (its ρ).andThen fun ds => if okLen ds.length = true then (match lcGo g t f (wipeR ρ vs) ds with | some xs => .ok (.list xs) | none => .bad) else .bad
theorem ER.wipe1 (e : ER X.K M F σ H ρ) {i : Nat} (m : M i = false) : ER X.K M F (σ.set i none) H (ρ.set i none) ∧ ∀ lk, RS M F (σ.set i none) (ρ.set i none) lk = RS M F σ ρ lk := by
  have own : ∀ a, OwnA M (σ.set i none) (ρ.set i none) a ↔ OwnA M σ ρ a := fun a => by
    constructor
    · rintro ⟨j, x, mj, r, s⟩
      have hj : i ≠ j := fun z => by
        subst z
        rw [m] at mj
        cases mj
      rw [List.getElem?_set_ne hj] at r s
      exact ⟨j, x, mj, r, s⟩
    · rintro ⟨j, x, mj, r, s⟩
      have hj : i ≠ j := fun z => by
        subst z
        rw [m] at mj
        cases mj
      exact ⟨j, x, mj, by rw [List.getElem?_set_ne hj]; exact r, by rw [List.getElem?_set_ne hj]; exact s⟩
  have rs : ∀ lk, RS M F (σ.set i none) (ρ.set i none) lk = RS M F σ ρ lk := fun lk => by
    funext a
    unfold RS
    rw [propext (own a)]
  have back : ∀ {j : Nat} {d : PyData}, (ρ.set i none)[j]? = some (some d) → i ≠ j ∧ ρ[j]? = some (some d) := fun {j d} q => by
    have hj : i ≠ j := fun z => by
      subst z
      have hi := getSome q
      rw [List.length_set] at hi
      rw [List.getElem?_set_self hi] at q
      cases q
    rw [List.getElem?_set_ne hj] at q
    exact ⟨hj, q⟩
  refine ⟨⟨by rw [List.length_set, List.length_set]; exact e.len, e.old, e.new, e.tab, fun j d q mj => ?_, fun j d q mj => ?_, fun j k d e' p mj mk q1 q2 s1 s2 => ?_⟩, rs⟩
  · obtain ⟨hj, q⟩ := back q
    obtain ⟨v, s, r⟩ := e.im j d q mj
    rw [rs]
    exact ⟨v, by rw [List.getElem?_set_ne hj]; exact s, r⟩
  · obtain ⟨hj, q⟩ := back q
    obtain ⟨p, s, z, w⟩ := e.ow j d q mj
    rw [rs]
    exact ⟨p, by rw [List.getElem?_set_ne hj]; exact s, z, w⟩
  · obtain ⟨hj, q1⟩ := back q1
    obtain ⟨hk, q2⟩ := back q2
    rw [List.getElem?_set_ne hj] at s1
    rw [List.getElem?_set_ne hk] at s2
    exact e.ap j k d e' p mj mk q1 q2 s1 s2
theorem ER.wipe (e : ER X.K M F σ H ρ) : ∀ {vs : List Nat}, (∀ i ∈ vs, M i = false) → ER X.K M F (wipe σ vs) H (wipeR ρ vs) ∧ ∀ lk, RS M F (L2.wipe σ vs) (wipeR ρ vs) lk = RS M F σ ρ lk
  | [], _ => ⟨e, fun _ => rfl⟩
  | v :: vs, h => by
    obtain ⟨e1, r1⟩ := e.wipe (vs := vs) fun i hi => h i (List.mem_cons_of_mem _ hi)
    obtain ⟨e2, r2⟩ := e1.wipe1 (h v List.mem_cons_self)
    exact ⟨e2, fun lk => (r2 lk).trans (r1 lk)⟩
/-- within a block: the new list at Dd is no one's -/
def inBlk (F : Fx) (Dd : Addr) : Fx := ⟨fun _ => none, fun a => F.S0 a ∧ a ≠ Dd⟩
theorem ER.blk (e : ER X.K M F σ H ρ) {Dd : Addr} {o : HO} (hD : H Dd = none) (sm : Same H H') (hD' : H' Dd = some o) : ER X.K M (inBlk F Dd) σ H' ρ where
  len := e.len
  old := .nil (sm.tab e.tab)
  tab := sm.tab e.tab
  new := fun a q => ⟨e.new a (sm.free q), fun z => by
    rw [z, hD'] at q
    cases q⟩
  im := fun i d r m => by
    obtain ⟨v, s, r⟩ := e.im i d r m
    exact ⟨v, s, r.keep (kp_same sm) fun a u x q _ => ⟨⟨x.1, fun z => by
      rw [z, hD] at q
      cases q⟩, x.2⟩⟩
  ow := fun i d r m => by
    obtain ⟨p, s, z, w⟩ := e.ow i d r m
    obtain ⟨u, hu, _⟩ := w.there
    exact ⟨p, s, ⟨rfl, z.2, fun zz => by
      rw [zz, hD] at hu
      cases hu⟩, w.keep (kp_same sm) (fun a u x q _ => ⟨⟨x.1, fun z => by
      rw [z, hD] at q
      cases q⟩, x.2⟩) fun u q n => sm _ _ q n⟩
  ap := e.ap
theorem lc_run {ts vs : List Nat} {wi : TI} {its : Rho → Re (List PyData)} {gg : PyData → Rho → Option Rho} {tt : Rho → Re Bool} {lk fr : Bool} (hi : ∀ σ H ρ, ER X.K M F σ H ρ → ∀ R, WI X M F E σ ρ H (its ρ) R → wi σ H R)
    (hv : ∀ i ∈ vs, M i = false) (hts : ∀ i ∈ ts, i ∈ vs) (er : ER X.K M F σ H ρ) {Q : VK} (w : WE X M F E lk true σ ρ H (rLc its vs gg tt f ρ) Q) : tLc wi (canG X M ts gg) (canT X M E0s tt) (canE X M E0s lk fr f) vs σ H Q := by
  refine hi σ H ρ er _ ?_
  unfold rLc at w
  cases q : its ρ with
  | ex c =>
    rw [q] at w
    exact w
  | bad =>
    rw [q] at w
    exact w
  | ok ds =>
    rw [q] at w
    have w : WE X M F E lk true σ ρ H (if okLen ds.length = true then (match lcGo gg tt f (wipeR ρ vs) ds with | some xs => .ok (.list xs) | none => .bad) else .bad) Q := w
    by_cases hz : okLen ds.length = true
    · rw [if_pos hz] at w
      cases q2 : lcGo gg tt f (wipeR ρ vs) ds with
      | none =>
        rw [q2] at w
        exact w.elim
      | some tot =>
        rw [q2] at w
        refine fun J H1 sm wk Dd hD => ?_
        have er1 := er.same sm
        refine ⟨fun i m H2 => m = ds.length - i ∧ i ≤ ds.length ∧ Same H1 H2 ∧ ∃ acc accd rst, H2 Dd = some (.lst acc) ∧ RpA X.K H2 (fun a => RS M F σ ρ lk a ∧ a ≠ Dd) acc accd ∧ acc.length ≤ i ∧ lcGo gg tt f (wipeR ρ vs) (ds.drop i) = some rst ∧ tot = accd ++ rst,
          ⟨ds.length, by simp, Nat.zero_le _, same_new hD, [], [], tot, upd_same, .nil, Nat.le_refl _, q2, rfl⟩, ?_⟩
        rintro i m H2 ⟨rfl, hi', sm2, acc, accd, rst, e1, r1, l1, g1, t1⟩
        have kp : Kp (fun a => RS M F σ ρ false a ∧ Nn H1 a) H1 H2 := kp_same sm2
        by_cases hlt : i < ds.length
        · obtain ⟨go, yl⟩ := (wk H2 kp i).1 _ (List.getElem?_eq_getElem hlt)
          refine .inr ⟨go, fun H3 => ds.length - (i + 1) = ds.length - (i + 1) ∧ i + 1 ≤ ds.length ∧ Same H1 H3 ∧ ∃ acc accd rst, H3 Dd = some (.lst acc) ∧ RpA X.K H3 (fun a => RS M F σ ρ lk a ∧ a ≠ Dd) acc accd ∧ acc.length ≤ i + 1 ∧ lcGo gg tt f (wipeR ρ vs) (ds.drop (i + 1)) = some rst ∧ tot = accd ++ rst, fun H3 x => ⟨ds.length - (i + 1), by omega, x⟩, fun x H3 y => ?_⟩
          obtain ⟨s3, rx⟩ := yl x H3 y
          rw [drop_get (List.getElem?_eq_getElem hlt)] at g1
          have g1 : (match gg ds[i] (wipeR ρ vs) with
            | none => none
            | some ρ1 => match tt ρ1 with
              | .ok true => (match f ρ1 with | .ok x => (match lcGo gg tt f (wipeR ρ vs) (ds.drop (i + 1)) with | some xs => some (x :: xs) | none => none) | _ => none)
              | .ok false => lcGo gg tt f (wipeR ρ vs) (ds.drop (i + 1))
              | _ => none) = some rst := g1
          cases q3 : gg ds[i] (wipeR ρ vs) with
          | none =>
            rw [q3] at g1
            cases g1
          | some ρ1 =>
            rw [q3] at g1
            have g1 : (match tt ρ1 with
              | .ok true => (match f ρ1 with | .ok x => (match lcGo gg tt f (wipeR ρ vs) (ds.drop (i + 1)) with | some xs => some (x :: xs) | none => none) | _ => none)
              | .ok false => lcGo gg tt f (wipeR ρ vs) (ds.drop (i + 1))
              | _ => none) = some rst := g1
            obtain ⟨erw, rsw⟩ := er1.wipe (vs := vs) hv
            have s13 : Same H1 H3 := sm2.trans s3
            have e3 : H3 Dd = some (.lst acc) := s3 _ _ e1
            have erb := erw.blk hD s13 e3
            have rx' : Rp X.K H3 (RS M (inBlk F Dd) (wipe σ vs) (wipeR ρ vs) false) x ds[i] := rx.wide fun a z => by
              have := rsw false
              refine ⟨⟨z.1.1, fun zz => ?_⟩, ?_⟩
              · rw [zz] at z
                exact z.2.not hD
              · have z1 : RS M F (wipe σ vs) (wipeR ρ vs) false a := by
                  rw [this]
                  exact z.1
                exact z1.2
            refine ⟨inBlk F Dd, wipeR ρ vs, ds[i], ρ1, erb, rx', q3, fun σ4 er4 ev4 wp4 ow4 => ⟨?_, ?_⟩⟩
            · rw [wp4 vs hts]
              exact (show wipe (wipe σ vs) vs = wipe σ vs from by
                have : ∀ (l : List Nat) (τ : L2.St), (∀ i ∈ l, i < τ.length → τ[i]? = some none) → wipe τ l = τ := by
                  intro l
                  induction l with
                  | nil => intro τ _; rfl
                  | cons v l ih =>
                    intro τ h
                    show (wipe τ l).set v none = τ
                    rw [ih τ fun i hi => h i (List.mem_cons_of_mem _ hi)]
                    by_cases hv : v < τ.length
                    · have := h v List.mem_cons_self hv
                      obtain ⟨h1, h2⟩ := List.getElem?_eq_some_iff.mp this
                      rw [← h2, List.set_getElem_self]
                    · rw [List.set_eq_of_length_le (by omega)]
                refine this vs _ fun i hi hl => ?_
                have mem : ∀ (l : List Nat) (i : Nat), i ∈ l → i < (wipe σ l).length → (wipe σ l)[i]? = some none := by
                  intro l
                  induction l with
                  | nil => intro i h; cases h
                  | cons v l ih =>
                    intro i h hl
                    show ((wipe σ l).set v none)[i]? = some none
                    have hl' : i < (wipe σ l).length := by
                      have hl2 : i < ((wipe σ l).set v none).length := hl
                      rwa [List.length_set] at hl2
                    by_cases e : v = i
                    · subst e
                      rw [List.getElem?_set_self hl']
                    · rw [List.getElem?_set_ne e]
                      exact ih i ((List.mem_cons.mp h).resolve_left fun z => e z.symm) hl'
                exact mem vs i hi hl)
            · refine ⟨inBlk F Dd, ρ1, er4, ?_⟩
              cases q4 : tt ρ1 with
              | ex c =>
                rw [q4] at g1
                cases g1
              | bad =>
                rw [q4] at g1
                cases g1
              | ok bb =>
                rw [q4] at g1
                cases bb with
                | false =>
                  refine fun H5 s5 => ?_
                  show (if false = true then _ else _)
                  rw [if_neg Bool.false_ne_true]
                  exact ⟨rfl, hlt, s13.trans s5, acc, accd, rst, s5 _ _ e3, r1.same (s3.trans s5), by omega, g1, t1⟩
                | true =>
                  refine fun H5 s5 => ?_
                  show (if true = true then _ else _)
                  rw [if_pos rfl]
                  have g1 : (match f ρ1 with | .ok x => (match lcGo gg tt f (wipeR ρ vs) (ds.drop (i + 1)) with | some xs => some (x :: xs) | none => none) | _ => none) = some rst := g1
                  cases q5 : f ρ1 with
                  | ex c =>
                    rw [q5] at g1
                    cases g1
                  | bad =>
                    rw [q5] at g1
                    cases g1
                  | ok xd =>
                    rw [q5] at g1
                    have g1 : (match lcGo gg tt f (wipeR ρ vs) (ds.drop (i + 1)) with | some xs => some (xd :: xs) | none => none) = some rst := g1
                    cases q6 : lcGo gg tt f (wipeR ρ vs) (ds.drop (i + 1)) with
                    | none =>
                      rw [q6] at g1
                      cases g1
                    | some xs =>
                      rw [q6] at g1
                      have g1 : some (xd :: xs) = some rst := g1
                      cases g1
                      refine ⟨inBlk F Dd, ρ1, er4.same s5, ?_⟩
                      rw [q5]
                      refine fun v H6 s6 r6 _ => ?_
                      have e6 : H6 Dd = some (.lst acc) := s6 _ _ (s5 _ _ e3)
                      have acl : acc.length < sizeLine := by
                        have := of_decide_eq_true hz
                        exact Nat.lt_of_lt_of_le (show acc.length < 10001 by omega) (by decide)
                      refine ⟨acc, e6, acl, rfl, hlt, ((s13.trans s5).trans s6).put hD e6 plain_lst, acc ++ [v], accd ++ [xd], xs, upd_same, ?_, ?_, rfl, ?_⟩
                      · have kpD : Kp (fun a => RS M F σ ρ lk a ∧ a ≠ Dd) H6 (upd H6 Dd (.lst (acc ++ [v]))) := by
                          refine ⟨fun a u qa xa _ => ?_⟩
                          rw [upd_ne]
                          · exact qa
                          · intro za
                            subst za
                            rcases xa with xa | xa
                            · exact xa.2 rfl
                            · rw [e6] at qa
                              cases qa
                              exact xa trivial
                        have rA : RpA X.K H6 (fun a => RS M F σ ρ lk a ∧ a ≠ Dd) acc accd := r1.same ((s3.trans s5).trans s6)
                        have rV : Rp X.K H6 (fun a => RS M F σ ρ lk a ∧ a ≠ Dd) v xd := r6.wide fun a za => by
                          refine ⟨⟨za.1.1, fun zl => fun o => ?_⟩, za.1.2⟩
                          have rw0 := rsw false
                          -- an own address ahead is own in the block
                          obtain ⟨hh0, hs0, uu, hu⟩ := er1.own o
                          have nb : ¬ OwnA M (wipe σ vs) (wipeR ρ vs) a → False := fun nn => by
                            have : RS M F (wipe σ vs) (wipeR ρ vs) false a := ⟨hs0, fun _ => nn⟩
                            rw [rw0] at this
                            exact this.2 rfl o
                          refine za.2 zl ?_
                          by_cases ob : OwnA M (wipe σ vs) (wipeR ρ vs) a
                          · exact ow4 a ob
                          · exact (nb ob).elim
                        exact (rA.append (.cons rV .nil)).keep kpD fun _ _ x _ _ => x
                      · rw [List.length_append]
                        show acc.length + 1 ≤ i + 1
                        omega
                      · rw [t1, List.append_assoc]
                        rfl
        · have ei : i = ds.length := by omega
          subst ei
          rw [List.drop_length] at g1
          have g1 : some ([] : List PyData) = some rst := g1
          cases g1
          rw [List.append_nil] at t1
          subst t1
          refine .inl ⟨(wk H2 kp _).2 rfl, w (.ref Dd) H2 (sm.trans sm2) (.lst e1 ?_ (r1.wide fun a x => x.1)) fun _ => ⟨Dd, rfl, sm.free hD, .lst e1 r1⟩⟩
          exact er1.freshS _ hD
    · rw [if_neg hz] at w
      exact w.elim
end
end Pu

set_option Elab.async false
set_option linter.all false
set_option maxRecDepth 100000
set_option maxHeartbeats 2000000
namespace Pu
open PySem PySem.Spec PyProof.Rows L2
variable [TabL]

section
variable {X : Cx} {M : Nat → Bool} {F : Fx} {E : L2.St → XK} {σ σ1 : L2.St} {ρ ρ1 : Rho} {H H' H1 : Hp} {D : Ends}
variable {st : Stmt} {rest : List Stmt} {s u : Rho → Sr} {la fa lb fb lk fr : Bool} {a b : Expr} {f g : Rho → Re PyData} {p : Rho → Re Bool} {pos : Pos}
/-! ### comprehensions, as a value and given to a name -/
section
variable {elt tg iter : Expr} {ifs : List Expr} {scope : Scope} {own : List (Str × Nat)} {ts : List Nat} (vs : List Nat) {its : Rho → Re (List PyData)} {gg : PyData → Rho → Option Rho} {tt : Rho → Re Bool}
theorem de_lc (hc : X.calm = true) (hN : X.N.Nodup) (hi : DI X M F E tg iter its) (ok : BlkOk X.N X.env.scope scope own) (hv : ∀ i ∈ vs, M i = false)
    (hg : ∀ (s : Shared) (H : Hp) (C : Addr) (cl : List (Str × Addr)) (fp : List Addr) (F : Fx), DG (X.blk s H scope (compEnvC scope cl C X.env) fp) M F tg ts gg)
    (ht : ∀ (s : Shared) (H : Hp) (C : Addr) (cl : List (Str × Addr)) (fp : List Addr), DTs (X.blk s H scope (compEnvC scope cl C X.env) fp) M E0s ifs tt)
    (he : ∀ (s : Shared) (H : Hp) (C : Addr) (cl : List (Str × Addr)) (fp : List Addr) (F : Fx), DE (X.blk s H scope (compEnvC scope cl C X.env) fp) M F E0s lk fr elt f)
    (hvs : own.map (·.2) = vs := by rfl) (hts : ∀ i ∈ ts, i ∈ vs := by decide) (hs : ∀ x, foldedSetIterable iter X.env x = pure x := by intro _; rfl) :
    DE X M F E lk true (.ListComp elt [⟨tg, iter, ifs, 0⟩] scope pos) (rLc its vs gg tt f) := by
  subst hvs
  obtain ⟨wi, pw, hi⟩ := hi
  exact ⟨_, pe_lc (g := canG X M ts gg) (tt := canT X M E0s tt) (te := canE X M E0s lk fr f) hc hN pw ok (fun s H C cl fp => canG_ok (hg s H C cl fp)) (fun s H C cl fp => ht s H C cl fp) (fun s H C cl fp => canE_ok (he s H C cl fp)) hs, fun σ H ρ er Q w => lc_run hi hv hts er w⟩
/-- y = [..] on one row -/
theorem ds_setLc {i : Nat} {y : Str} {py spos : Pos} (m : M i = false) (hc : X.calm = true) (hN : X.N.Nodup) (hi : DI X M F E tg iter its) (ok : BlkOk X.N X.env.scope scope own) (hv : ∀ i ∈ vs, M i = false)
    (hg : ∀ (s : Shared) (H : Hp) (C : Addr) (cl : List (Str × Addr)) (fp : List Addr) (F : Fx), DG (X.blk s H scope (compEnvC scope cl C X.env) fp) M F tg ts gg)
    (ht : ∀ (s : Shared) (H : Hp) (C : Addr) (cl : List (Str × Addr)) (fp : List Addr), DTs (X.blk s H scope (compEnvC scope cl C X.env) fp) M E0s ifs tt)
    (he : ∀ (s : Shared) (H : Hp) (C : Addr) (cl : List (Str × Addr)) (fp : List Addr) (F : Fx), DE (X.blk s H scope (compEnvC scope cl C X.env) fp) M F E0s lk fr elt f)
    (hsw : swapsWith (.ListComp elt [⟨tg, iter, ifs, 0⟩] scope pos) (some (.Name y py)) spos.line X.env = pure true)
    (hy : X.N[i]? = some y := by rfl) (hyl : X.env.scope.names.lookup y = some .local := by rfl)
    (hvs : own.map (·.2) = vs := by rfl) (hts : ∀ i ∈ ts, i ∈ vs := by decide) (hs : ∀ x, foldedSetIterable iter X.env x = pure x := by intro _; rfl) :
    DS X M F E (.Assign [.Name y py] (.ListComp elt [⟨tg, iter, ifs, 0⟩] scope pos) spos) (sSet i lk (rLc its vs gg tt f)) := by
  subst hvs
  obtain ⟨wi, pw, hi⟩ := hi
  refine ⟨_, ps_setLc (g := canG X M ts gg) (tt := canT X M E0s tt) (te := canE X M E0s lk fr f) hc hN hy hyl hsw pw ok (fun s H C cl fp => canG_ok (hg s H C cl fp)) (fun s H C cl fp => ht s H C cl fp) (fun s H C cl fp => canE_ok (he s H C cl fp)) hs, fun σ H ρ er D w => ?_⟩
  refine lc_run (lk := lk) (fr := fr) (X := X) hi hv hts er ?_
  refine ws_step er w fun d v H1 e sm r _ w1 => ?_
  by_cases hd : lk = true → imm d = true
  · rw [if_pos hd] at w1
    exact w1 _ H1 ((er.same sm).set m (rp_lk r hd)) fun a u q n _ => ⟨q, fun o => n ((own_set m).mp o)⟩
  · rw [if_neg hd] at w1
    exact w1.elim
theorem ds_setOLc {i : Nat} {y : Str} {py spos : Pos} (m : M i = true) (hc : X.calm = true) (hN : X.N.Nodup) (hi : DI X M F E tg iter its) (ok : BlkOk X.N X.env.scope scope own) (hv : ∀ i ∈ vs, M i = false)
    (hg : ∀ (s : Shared) (H : Hp) (C : Addr) (cl : List (Str × Addr)) (fp : List Addr) (F : Fx), DG (X.blk s H scope (compEnvC scope cl C X.env) fp) M F tg ts gg)
    (ht : ∀ (s : Shared) (H : Hp) (C : Addr) (cl : List (Str × Addr)) (fp : List Addr), DTs (X.blk s H scope (compEnvC scope cl C X.env) fp) M E0s ifs tt)
    (he : ∀ (s : Shared) (H : Hp) (C : Addr) (cl : List (Str × Addr)) (fp : List Addr) (F : Fx), DE (X.blk s H scope (compEnvC scope cl C X.env) fp) M F E0s lk fr elt f)
    (hsw : swapsWith (.ListComp elt [⟨tg, iter, ifs, 0⟩] scope pos) (some (.Name y py)) spos.line X.env = pure true)
    (hy : X.N[i]? = some y := by rfl) (hyl : X.env.scope.names.lookup y = some .local := by rfl)
    (hvs : own.map (·.2) = vs := by rfl) (hts : ∀ i ∈ ts, i ∈ vs := by decide) (hs : ∀ x, foldedSetIterable iter X.env x = pure x := by intro _; rfl) :
    DS X M F E (.Assign [.Name y py] (.ListComp elt [⟨tg, iter, ifs, 0⟩] scope pos) spos) (sSetO i lk (rLc its vs gg tt f)) := by
  subst hvs
  obtain ⟨wi, pw, hi⟩ := hi
  refine ⟨_, ps_setLc (g := canG X M ts gg) (tt := canT X M E0s tt) (te := canE X M E0s lk fr f) hc hN hy hyl hsw pw ok (fun s H C cl fp => canG_ok (hg s H C cl fp)) (fun s H C cl fp => ht s H C cl fp) (fun s H C cl fp => canE_ok (he s H C cl fp)) hs, fun σ H ρ er D w => ?_⟩
  exact setO_run m (fun σ H ρ er Q w => lc_run (lk := lk) (fr := fr) (X := X) hi hv hts er w) er w
end

/-! ### a def -/
def runF (n m : Nat) (s : Rho → Sr) (ds : List PyData) : Re PyData := if ds.length = n then (match s (ds.map some ++ List.replicate (m - n) none) with
  | .nx _ => .ok .none
  | .rt d => .ok d
  | .ex c _ => .ex c
  | _ => .bad) else .bad
/-- where a body runs -/
structure Gd (X : Cx) (E : L2.St → XK) (k : Nat) : Prop where
  room : Room k X.A
  pass : ∀ σ, PassesAt (L2.CX X.prog X.w) X σ (E σ)
  tk : Takes X (fun cls d σ H => E σ cls d H)
  own : PassesOwn (model X.prog X.w) X.A X.env X.xe
  stk : X.stack = X.env :: X.outer
  frm : X.env.frame = some X.env.locals
theorem passF {X : Cx} (σ : L2.St) : PassesAt (L2.CX X.prog X.w) X σ (E0s σ) := fun _ _ _ _ _ _ c => by
  obtain ⟨_, _, _, _, _, _, _, _, _, _, _, _, z⟩ := c
  exact z.elim
end

section
variable {P : Program} {w : World} {K : PySem.W.Frag} {mg : Str → Option Value} {base : Heap} {x qual : Str} {params : Arguments} {body : List Stmt} {scope : Scope} {dvs : List V} {kws : List (Str × V)} {fA : Addr} {fd : FuncData}
theorem start_get {N : List Str} {vs : List V} {i : Nat} {v : V} (h : vs[i]? = some v) : (L2.start N vs)[i]? = some (some v) := by
  unfold L2.start
  have hi := getSome h
  rw [List.getElem?_append_left (by simpa using hi), List.getElem?_map, h]
  rfl
theorem funD_okC {cp : Value → Prop} {CX : CXT} {N ps : List Str} {k : Nat} {sp : Sp} (F : FunD K x qual params body scope dvs kws fA fd) (hc : ∀ (oc : Value) (od : Option Addr) (dV kV doc pm : Value) (an : Option Addr) (cdv ct : Value) (osl : Array (Option Value)), K.lookup fA = some ⟨oc, od, .func (PySem.W.fnOf x qual params body scope dV kV doc pm an cdv ct), osl⟩ → PySem.W.codeIn K cdv qual = true → cp cdv)
    (S : FnScope N ps scope) (len : ∀ vs H Q E, sp vs H Q E → vs.length = ps.length)
    (hbody : ∀ (cdv : Value), cp cdv → ∀ (A : Around) (outer : List Env) (s : Shared) (H : Hp) (vs : List V) (Q : VK) (E : XK), Room k (A.deeper (envOfC qual scope s.heap.objs.size fA cdv)) → sp vs H Q E →
      ∃ t, PSs (cxOf CX P w K mg base N qual scope fA cdv A outer s H E) body t ∧ t { nx := fun _ H' => Q .non H', rt := Q } (L2.start N vs) H) : FnOk P w K mg base CX (k + 1) fA fd ps sp := by
  obtain ⟨oc, od, dV, kV, doc, pm, an, cdv, ct, osl, rfl, lk, hcd, _, _⟩ := F.ex
  exact fn_of lk hcd S len fun A outer s H vs Q E hr hsp => hbody cdv (hc _ _ _ _ _ _ _ _ _ _ lk hcd) A outer s H vs Q E hr hsp
theorem def_okC {cp : Value → Prop} {N ps : List Str} {k : Nat} (Fd : FunD K x qual params body scope dvs kws fA fd) (hc : ∀ (oc : Value) (od : Option Addr) (dV kV doc pm : Value) (an : Option Addr) (cdv ct : Value) (osl : Array (Option Value)), K.lookup fA = some ⟨oc, od, .func (PySem.W.fnOf x qual params body scope dV kV doc pm an cdv ct), osl⟩ → PySem.W.codeIn K cdv qual = true → cp cdv)
    (S : FnScope N ps scope) (M : Nat → Bool) (hM : ∀ i, i < ps.length → M i = false) (s : Rho → Sr)
    (hb : ∀ (cdv : Value), cp cdv → ∀ (A : Around) (outer : List Env) (sh : Shared) (H : Hp) (Ex : XK), Gd (cxOf (L2.CX P w) P w K mg base N qual scope fA cdv A outer sh H Ex) (fun _ => Ex) k →
      ∀ F : Fx, DSs (cxOf (L2.CX P w) P w K mg base N qual scope fA cdv A outer sh H Ex) M F (fun _ => Ex) body s) :
    FnOk P w K mg base (L2.CX P w) (k + 1) fA fd ps (spD mg (runF ps.length N.length s) K) := by
  refine funD_okC Fd hc S (fun vs H Q E h => ?_) fun cdv hcd A outer sh H vs Q Ex hr h => ?_
  · obtain ⟨ds, Sx, r, _, h⟩ := h
    unfold runF at h
    by_cases hl : ds.length = ps.length
    · rw [r.length, hl]
    · rw [if_neg hl] at h
      exact h.elim
  · obtain ⟨ds, Sx, r, ⟨new, tb⟩, h⟩ := h
    unfold runF at h
    by_cases hl : ds.length = ps.length
    · rw [if_pos hl] at h
      have tk : Takes (cxOf (L2.CX P w) P w K mg base N qual scope fA cdv A outer sh H Ex) (fun cls d σ H => Ex cls d H) := takes_of rfl rfl rfl rfl
      have gd : Gd (cxOf (L2.CX P w) P w K mg base N qual scope fA cdv A outer sh H Ex) (fun _ => Ex) k := ⟨hr, fun σ => passAt tk σ, tk, passes_of rfl, rfl, rfl⟩
      obtain ⟨t, pt, ht⟩ := hb cdv hcd A outer sh H Ex gd ⟨H, Sx⟩
      refine ⟨t, pt, ?_⟩
      have hNl : ps.length ≤ N.length := by
        have := congrArg List.length S.pre
        rw [List.length_take] at this
        omega
      have r0 : ∀ i d, (ds.map some ++ List.replicate (N.length - ps.length) none : Rho)[i]? = some (some d) → i < ps.length ∧ ds[i]? = some d := fun i d q => by
        by_cases hi : i < ps.length
        · rw [List.getElem?_append_left (by rw [List.length_map, hl]; exact hi), List.getElem?_map] at q
          refine ⟨hi, ?_⟩
          cases e : ds[i]? with
          | none =>
            rw [e] at q
            cases q
          | some d' =>
            rw [e] at q
            cases q
            rfl
        · rw [List.getElem?_append_right (by rw [List.length_map, hl]; omega), List.getElem?_replicate] at q
          split at q <;> cases q
      have nown : ∀ a, ¬ OwnA M (L2.start N vs) (ds.map some ++ List.replicate (N.length - ps.length) none) a := fun a o => by
        obtain ⟨i, d, m, q, _⟩ := o
        rw [hM i (r0 i d q).1] at m
        cases m
      have er : ER K M ⟨H, Sx⟩ (L2.start N vs) H (ds.map some ++ List.replicate (N.length - ps.length) none) := by
        refine ⟨?_, Same.refl _, new, tb, fun i d q m => ?_, fun i d q m => ?_, fun i j d e p mi mj q1 q2 s1 s2 => ?_⟩
        · unfold L2.start
          rw [List.length_append, List.length_append, List.length_map, List.length_map, List.length_replicate, List.length_replicate, r.length, hl]
        · obtain ⟨hi, e⟩ := r0 i d q
          obtain ⟨v, hv, rv⟩ := r.get' e
          exact ⟨v, start_get hv, rv.wide fun a x => ⟨x, fun _ => nown a⟩⟩
        · rw [hM i (r0 i d q).1] at m
          cases m
        · rw [hM i (r0 i d q1).1] at mi
          cases mi
      refine ht _ H _ er _ ?_
      cases q : s (ds.map some ++ List.replicate (N.length - ps.length) none) with
      | nx ρ' =>
        rw [q] at h
        exact fun σ' H' er' _ => h .non H' er'.old .non
      | rt d =>
        rw [q] at h
        exact h
      | ex c ρ' =>
        rw [q] at h
        exact fun C σ' H' m er' _ => h C H' m er'.old
      | bk ρ' =>
        rw [q] at h
        exact h.elim
      | ct ρ' =>
        rw [q] at h
        exact h.elim
      | bad =>
        rw [q] at h
        exact h.elim
    · rw [if_neg hl] at h
      exact h.elim
theorem def_ok {N ps : List Str} {k : Nat} (Fd : FunD K x qual params body scope dvs kws fA fd) (S : FnScope N ps scope) (M : Nat → Bool) (hM : ∀ i, i < ps.length → M i = false) (s : Rho → Sr)
    (hb : ∀ (cdv : Value) (A : Around) (outer : List Env) (sh : Shared) (H : Hp) (Ex : XK), Gd (cxOf (L2.CX P w) P w K mg base N qual scope fA cdv A outer sh H Ex) (fun _ => Ex) k →
      ∀ F : Fx, DSs (cxOf (L2.CX P w) P w K mg base N qual scope fA cdv A outer sh H Ex) M F (fun _ => Ex) body s) :
    FnOk P w K mg base (L2.CX P w) (k + 1) fA fd ps (spD mg (runF ps.length N.length s) K) :=
  def_okC (cp := fun _ => True) Fd (fun _ _ _ _ _ _ _ _ _ _ _ _ => trivial) S M hM s fun cdv _ => hb cdv
end

section
variable {X : Cx} {M : Nat → Bool} {F : Fx} {E : L2.St → XK} {σ σ1 : L2.St} {ρ ρ1 : Rho} {H H' H1 : Hp} {D : Ends}
variable {st : Stmt} {rest : List Stmt} {s u : Rho → Sr} {la fa lb fb lk fr : Bool} {a b : Expr} {f g : Rho → Re PyData} {p : Rho → Re Bool} {pos : Pos}
/-! ### own errors -/
/-- an own error under ValueError, at C -/
structure ErrC (K : PySem.W.Frag) (mg : Str → Option Value) (c : Str) (C : Addr) : Prop where
  gC : mg c = some (.ref C)
  xP : PySem.W.excIn K C He.veBase "ValueError.__new__" = true
  kP : PySem.W.keepIn K (.ref C) = true
  bP : PySem.W.subIn K (.ref C) (.type "BaseException") = some true
  tP : PySem.W.typeIn K (.ref C) = some (.type "type")
  eP : PySem.W.exmOne K (.ref C) (.ref C) = some true
theorem ds_raise {c m : Str} {C : Addr} {j : Nat} {p1 p2 p3 : Pos} {k : Nat} (G : Gd X E k) (hc : X.calm = true) (Ec : ErrC X.K X.mg c C) (hg : Gl X c) (hdb : (c == ("__debug__" : Str)) = false := by decide) :
    DS X M F E (.Raise (some (.Call (.Name c p1) [.Constant (.str m) j p2] [] p3)) none pos) (fun ρ => .ex c ρ) :=
  ⟨_, ps_raise hc G.tk (pmk_own PySem.F.excBase_ValueError Ec.xP Ec.gC Ec.kP (raises_own Ec.bP Ec.tP) hg hdb), fun σ H ρ er D w => w C σ H Ec.gC er Evo.refl⟩
/-- one reading of a block for all contexts -/
def canS (X : Cx) (M : Nat → Bool) (E : L2.St → XK) (s : Rho → Sr) : TS := fun D σ H => ∃ (F : Fx) (ρ : Rho), ER X.K M F σ H ρ ∧ WS X M F E σ H ρ (s ρ) D
theorem canS_ok {b : List Stmt} (h : ∀ F, DSs X M F E b s) : PSs X b (canS X M E s) := ⟨fun pins sh σ H D I ⟨F, ρ, er, w⟩ => by
  obtain ⟨t, pt, h⟩ := h F
  exact pt.run pins sh σ H D I (h σ H ρ er D w)⟩
/-- try: body; except c: suite -/
def sTry (c : Str) (s u : Rho → Sr) : Rho → Sr := fun ρ => match s ρ with
  | .ex c' ρ' => if c' = c then (match u ρ' with | .ex _ _ => .bad | r => r) else .bad
  | r => r
theorem ds_try {c : Str} {C : Addr} {body suite : List Stmt} {b0 : Stmt} {np pos' : Pos} {k : Nat} (G : Gd X E k) (Ec : ErrC X.K X.mg c C) (hn : Gl X c ∧ (c == ("__debug__" : Str)) = false)
    (hb : ∀ (W : WX) (pn : List (Addr × Obj)) (xe : Value → Shared → Prop), Gd (X.tr pn xe) (fun σ cls d H => W cls d σ H) k → ∀ F, DSs (X.tr pn xe) M F (fun σ cls d H => W cls d σ H) body s)
    (hs : ∀ (a : Addr) (oe : Obj) (pn : List (Addr × Obj)) (F : Fx), DSs (X.suite a ((a, oe) :: pn)) M F E0s (b0 :: suite) u) :
    DS X M F E (.Try body [.ExceptHandler (some (.Name c np)) none (b0 :: suite) pos'] [] [] pos) (sTry c s u) := by
  refine ⟨_, ps_try_only (tb := fun W => canS X M (fun σ cls d H => W cls d σ H) s) (ts := fun _ _ _ => canS X M E0s u) G.stk G.frm ⟨hn.1, hn.2, .inl Ec.gC⟩ G.tk
    (fun W pn xe tk po => canS_ok (hb W pn xe ⟨G.room, fun σ => passAt tk σ, tk, po, G.stk, G.frm⟩)) (fun a oe cls d pn _ _ => canS_ok (hs a oe pn)), fun σ H ρ er D w => ?_⟩
  refine ⟨F, ρ, er, ?_⟩
  unfold sTry at w
  cases q : s ρ with
  | ex c' ρ' =>
    rw [q] at w
    have w2 : WS X M F E σ H ρ (if c' = c then (match u ρ' with | .ex _ _ => .bad | r => r) else .bad) D := w
    clear w
    by_cases hc : c' = c
    · rw [if_pos hc] at w2
      rw [hc]
      refine fun C' σ' H' m er' ev => ⟨true, ?_, fun _ a _ => ⟨F, ρ', er', ?_⟩, fun z => nomatch z⟩
      · rw [Ec.gC] at m
        cases m
        exact Ec.eP
      · have w1 := ws_evo ev w2
        revert w1
        generalize u ρ' = r
        intro w1
        cases r with
        | ex c2 ρ2 => exact w1.elim
        | nx ρ2 => exact w1
        | rt d => exact w1
        | bk ρ2 => exact w1
        | ct ρ2 => exact w1
        | bad => exact w1
    · rw [if_neg hc] at w2
      exact w2.elim
  | nx ρ' =>
    rw [q] at w
    exact w
  | rt d =>
    rw [q] at w
    exact w
  | bk ρ' =>
    rw [q] at w
    exact w
  | ct ρ' =>
    rw [q] at w
    exact w
  | bad =>
    rw [q] at w
    exact w
end
end Pu

set_option Elab.async false
set_option linter.all false
set_option maxRecDepth 100000
set_option maxHeartbeats 2000000
namespace Pu
open PySem PySem.Spec PyProof.Rows L2
variable [TabL]

/-! ### numbers -/
theorem SemB.int {K : PySem.W.Frag} {C : Int → Int → Prop} {v : Int → Int → V} {r : R2} {gg : PyData → PyData → Option PyData} (hr : ∀ i j H Q, C i j → Q (v i j) H → r (.int i) (.int j) H Q)
    (hg : ∀ d e z, gg d e = some z → ∃ i j, d = .int i ∧ e = .int j ∧ C i j ∧ ∀ H S, Rp K H S (v i j) z) : SemB K r false gg := fun S H x y d e z Q _ rx ry q k => by
  obtain ⟨i, j, rfl, rfl, c, rz⟩ := hg d e z q
  cases rx
  cases ry
  exact hr i j H Q c (k _ H (Same.refl H) (rz H S) fun z => nomatch z)
def oSub : PyData → PyData → Option PyData := fun d e => match d, e with | .int i, .int j => some (.int (i - j)) | _, _ => none
def mulOk (i j : Int) : Bool := decide (j.natAbs < 2 ^ 63) || decide (i.natAbs < 2 ^ 63) || decide (i.natAbs.log2 + j.natAbs.log2 < 1000000)
def oMul : PyData → PyData → Option PyData := fun d e => match d, e with | .int i, .int j => if mulOk i j = true then some (.int (i * j)) else none | _, _ => none
def divOk (j : Int) : Bool := decide (0 < j) && decide (j < 2 ^ 240)
def oDiv : PyData → PyData → Option PyData := fun d e => match d, e with | .int i, .int j => if divOk j = true then some (.int (i / j)) else none | _, _ => none
def oMod : PyData → PyData → Option PyData := fun d e => match d, e with | .int i, .int j => if 0 < j then some (.int (i % j)) else none | _, _ => none
def powOk (i j : Int) : Bool := decide (0 ≤ j) && decide (j ≤ 1000000) && decide (i.natAbs < 2 ^ 63)
def oPow : PyData → PyData → Option PyData := fun d e => match d, e with | .int i, .int j => if powOk i j = true then some (.int (i ^ j.toNat)) else none | _, _ => none
def oNeg : PyData → Option PyData := fun d => match d with | .int i => some (.int (-i)) | _ => none
def oLt : PyData → PyData → Option PyData := fun d e => match d, e with | .int i, .int j => some (.bool (decide (i < j))) | _, _ => none
def oLe : PyData → PyData → Option PyData := fun d e => match d, e with | .int i, .int j => some (.bool (decide (i ≤ j))) | _, _ => none
def oGt : PyData → PyData → Option PyData := fun d e => match d, e with | .int i, .int j => some (.bool (decide (j < i))) | _, _ => none
def oGe : PyData → PyData → Option PyData := fun d e => match d, e with | .int i, .int j => some (.bool (decide (j ≤ i))) | _, _ => none
section
variable {X : Cx} {K : PySem.W.Frag}
theorem ints2 {P : Int → Int → Option PyData} {d e z : PyData} (h : (match d, e with | .int i, .int j => P i j | _, _ => none) = some z) : ∃ i j, d = .int i ∧ e = .int j ∧ P i j = some z := by
  split at h
  · exact ⟨_, _, rfl, rfl, h⟩
  · cases h
theorem if_some {c : Prop} [Decidable c] {a z : PyData} (h : (if c then some a else none) = some z) : c ∧ z = a := by
  by_cases hc : c
  · rw [if_pos hc] at h
    exact ⟨hc, (Option.some.inj h).symm⟩
  · rw [if_neg hc] at h
    cases h
theorem s_sub : SemB K (rI0 fun i j => .int (i - j)) false oSub := SemB.int (C := fun _ _ => True) (v := fun i j => .int (i - j)) (fun i j H Q _ q => ⟨i, j, rfl, rfl, q⟩) fun d e z q => by
  obtain ⟨i, j, h1, h2, h3⟩ := ints2 q
  cases h3
  exact ⟨i, j, h1, h2, trivial, fun _ _ => .int _⟩
theorem s_mul : SemB K (fun x y H Q => rI CMul (fun i j => .int (i * j)) x y H Q ∨ rI CMulW (fun i j => .int (i * j)) x y H Q) false oMul :=
  SemB.int (C := fun i j => mulOk i j = true) (v := fun i j => .int (i * j)) (fun i j H Q c q => by
    unfold mulOk at c
    simp only [Bool.or_eq_true, decide_eq_true_eq] at c
    rcases c with (c | c) | c
    · exact .inl ⟨i, j, rfl, rfl, .inr (by omega), q⟩
    · exact .inl ⟨i, j, rfl, rfl, .inl (by omega), q⟩
    · exact .inr ⟨i, j, rfl, rfl, c, q⟩) fun d e z q => by
  obtain ⟨i, j, h1, h2, h3⟩ := ints2 q
  obtain ⟨h4, rfl⟩ := if_some h3
  exact ⟨i, j, h1, h2, h4, fun _ _ => .int _⟩
theorem s_div : SemB K (rI CDivW fun i j => .int (i / j)) false oDiv := SemB.int (C := fun _ j => divOk j = true) (v := fun i j => .int (i / j)) (fun i j H Q c q => by
    unfold divOk at c
    simp only [Bool.and_eq_true, decide_eq_true_eq] at c
    have hb : j.natAbs < 2 ^ 240 := by
      have h2 := c.2
      have h1 := c.1
      have e : (2 : Int) ^ 240 = ((2 ^ 240 : Nat) : Int) := by rw [Int.natCast_pow]; rfl
      rw [e] at h2
      omega
    exact ⟨i, j, rfl, rfl, wide_div c.1 hb (by decide) (by decide), q⟩) fun d e z q => by
  obtain ⟨i, j, h1, h2, h3⟩ := ints2 q
  obtain ⟨h4, rfl⟩ := if_some h3
  exact ⟨i, j, h1, h2, h4, fun _ _ => .int _⟩
theorem s_mod : SemB K (rI (fun _ j => 0 < j) fun i j => .int (i % j)) false oMod := SemB.int (C := fun _ j => 0 < j) (v := fun i j => .int (i % j)) (fun i j H Q c q => ⟨i, j, rfl, rfl, c, q⟩) fun d e z q => by
  obtain ⟨i, j, h1, h2, h3⟩ := ints2 q
  obtain ⟨h4, rfl⟩ := if_some h3
  exact ⟨i, j, h1, h2, h4, fun _ _ => .int _⟩
theorem s_pow : SemB K (rI CPow fun i j => .int (i ^ j.toNat)) false oPow := SemB.int (C := fun i j => powOk i j = true) (v := fun i j => .int (i ^ j.toNat)) (fun i j H Q c q => by
    unfold powOk at c
    simp only [Bool.and_eq_true, decide_eq_true_eq] at c
    exact ⟨i, j, rfl, rfl, ⟨c.1.1, c.1.2, Nat.lt_trans c.2 (by decide)⟩, q⟩) fun d e z q => by
  obtain ⟨i, j, h1, h2, h3⟩ := ints2 q
  obtain ⟨h4, rfl⟩ := if_some h3
  exact ⟨i, j, h1, h2, h4, fun _ _ => .int _⟩
theorem s_neg : SemU K (rU fun i => .int (-i)) false oNeg := fun S H x d z Q _ rx q k => by
  unfold oNeg at q
  split at q
  · cases q
    cases rx
    exact ⟨_, rfl, k _ H (Same.refl H) (.int _) fun z => nomatch z⟩
  · cases q
theorem s_lt : SemB K (rI0 fun i j => .bl (decide (i < j))) false oLt := SemB.int (C := fun _ _ => True) (v := fun i j => .bl (decide (i < j))) (fun i j H Q _ q => ⟨i, j, rfl, rfl, q⟩) fun d e z q => by
  obtain ⟨i, j, h1, h2, h3⟩ := ints2 q
  cases h3
  exact ⟨i, j, h1, h2, trivial, fun _ _ => .bl _⟩
theorem s_le : SemB K (rI0 fun i j => .bl (decide (i ≤ j))) false oLe := SemB.int (C := fun _ _ => True) (v := fun i j => .bl (decide (i ≤ j))) (fun i j H Q _ q => ⟨i, j, rfl, rfl, q⟩) fun d e z q => by
  obtain ⟨i, j, h1, h2, h3⟩ := ints2 q
  cases h3
  exact ⟨i, j, h1, h2, trivial, fun _ _ => .bl _⟩
theorem s_gt : SemB K (rI0 fun i j => .bl (decide (j < i))) false oGt := SemB.int (C := fun _ _ => True) (v := fun i j => .bl (decide (j < i))) (fun i j H Q _ q => ⟨i, j, rfl, rfl, q⟩) fun d e z q => by
  obtain ⟨i, j, h1, h2, h3⟩ := ints2 q
  cases h3
  exact ⟨i, j, h1, h2, trivial, fun _ _ => .bl _⟩
theorem s_ge : SemB K (rI0 fun i j => .bl (decide (j ≤ i))) false oGe := SemB.int (C := fun _ _ => True) (v := fun i j => .bl (decide (j ≤ i))) (fun i j H Q _ q => ⟨i, j, rfl, rfl, q⟩) fun d e z q => by
  obtain ⟨i, j, h1, h2, h3⟩ := ints2 q
  cases h3
  exact ⟨i, j, h1, h2, trivial, fun _ _ => .bl _⟩
theorem op_mulA : OpR X (binaryOp .Mult) (fun x y H Q => rI CMul (fun i j => .int (i * j)) x y H Q ∨ rI CMulW (fun i j => .int (i * j)) x y H Q) := op_mul.or op_mulW

/-! + of numbers, tuples, lists, texts -/
def oAdd : PyData → PyData → Option PyData := fun d e => match d, e with
  | .int i, .int j => some (.int (i + j))
  | .tuple xs, .tuple ys => if okLen (xs.length + ys.length) = true then some (.tuple (xs ++ ys)) else none
  | .list xs, .list ys => if okLen (xs.length + ys.length) = true then some (.list (xs ++ ys)) else none
  | .str a, .str b => if okLen (a.length + b.length) = true then some (.str (a ++ b)) else none
  | _, _ => none
abbrev rAddA (K : PySem.W.Frag) : R2 := fun x y H Q => rI0 (fun i j => .int (i + j)) x y H Q ∨ (rCatF K x y H Q ∨ (rCat x y H Q ∨ (∃ i j, x = .str i ∧ y = .str j ∧ i.length + j.length ≤ sizeLine ∧ Q (.str (i ++ j)) H)))
theorem op_addA : OpR X (binaryOp .Add) (rAddA X.K) := op_add.or (op_catF.or (op_cat.or op_add_str))
theorem frs_lst {S : Addr → Prop} {H : Hp} {p : Addr} {vs : List V} {ds : List PyData} (hp : H p = none) (r : RpA K H S vs ds) : Frs K S H (upd H p (.lst vs)) (.ref p) (.list ds) := frs_new (Same.refl H) hp r
theorem s_add : SemB K (rAddA K) false oAdd := fun S H x y d e z Q new rx ry q k => by
  unfold oAdd at q
  split at q
  · cases q
    cases rx
    cases ry
    exact .inl ⟨_, _, rfl, rfl, k _ H (Same.refl H) (.int _) fun z => nomatch z⟩
  · obtain ⟨hl, rfl⟩ := if_some q
    cases rx with
    | tup h1 r1 =>
      cases ry with
      | tup h2 r2 =>
        refine .inr (.inl ⟨_, _, _, _, rfl, rfl, h1.sq, h2.sq, by rw [r1.length, r2.length]; exact okLen_le hl, fun e => ?_, fun ne e => ?_, fun _ _ p o hp hd => ?_⟩)
        · subst e
          cases r1
          exact k _ H (Same.refl H) (.tup h2 r2) fun z => nomatch z
        · subst e
          cases r2
          rw [List.append_nil] at k
          exact k _ H (Same.refl H) (.tup h1 r1) fun z => nomatch z
        · exact k _ _ (same_new hp) (.tup (.inl ⟨o, upd_same, hd⟩) ((r1.append r2).same (same_new hp))) fun z => nomatch z
  · obtain ⟨hl, rfl⟩ := if_some q
    cases rx with
    | lst h1 s1 r1 =>
      cases ry with
      | lst h2 s2 r2 =>
        refine .inr (.inr (.inl ⟨_, _, _, _, rfl, rfl, h1, h2, by rw [r1.length, r2.length]; exact okLen_le hl, fun p hp => ?_⟩))
        exact k _ _ (same_new hp) (.lst upd_same (new p hp) ((r1.append r2).same (same_new hp))) fun z => nomatch z
  · obtain ⟨hl, rfl⟩ := if_some q
    cases rx
    cases ry
    exact .inr (.inr (.inr ⟨_, _, rfl, rfl, okLen_le hl, k _ H (Same.refl H) (.str _) fun z => nomatch z⟩))
  · cases q
/-- .. of lists alone: a new list -/
def oAddL : PyData → PyData → Option PyData := fun d e => match d, e with
  | .list xs, .list ys => if okLen (xs.length + ys.length) = true then some (.list (xs ++ ys)) else none
  | _, _ => none
theorem s_addL : SemB K rCat true oAddL := fun S H x y d e z Q new rx ry q k => by
  unfold oAddL at q
  split at q
  · obtain ⟨hl, rfl⟩ := if_some q
    cases rx with
    | lst h1 s1 r1 =>
      cases ry with
      | lst h2 s2 r2 =>
        refine ⟨_, _, _, _, rfl, rfl, h1, h2, by rw [r1.length, r2.length]; exact okLen_le hl, fun p hp => ?_⟩
        exact k _ _ (same_new hp) (.lst upd_same (new p hp) ((r1.append r2).same (same_new hp))) fun _ => frs_lst hp (r1.append r2)
  · cases q

/-! == and != of data -/
theorem Rp.dp {S : Addr → Prop} {H : Hp} : ∀ {d : PyData} {v : V}, Rp K H S v d → SeqAt.shaped d = true → Dp K H v d := by
  have key : (∀ {v : V} {d : PyData}, Rp K H S v d → d.canLay0 = true → Dp K H v d) ∧ (∀ {vs : List V} {ds : List PyData}, RpA K H S vs ds → PyData.canLayAll0 ds = true → DpAll K H vs ds) := by
    refine ⟨fun {v d} r => ?_, fun {vs ds} r => ?_⟩
    · exact Rp.rec (K := K) (H := H) (S := S) (motive_1 := fun v d _ => d.canLay0 = true → Dp K H v d) (motive_2 := fun vs ds _ => PyData.canLayAll0 ds = true → DpAll K H vs ds)
        (fun _ => .non) (fun b _ => .bl b) (fun i _ => .int i) (fun x _ => .str x) (fun h _ ih c => .tup h.sq (ih (by simpa [PyData.canLay0] using c))) (fun h _ _ ih c => .lst (SqL.of h) (ih (by simpa [PyData.canLay0] using c)))
        (fun _ _ _ c => by simp [PyData.canLay0] at c) (fun _ _ _ _ _ c => by simp [PyData.canLay0] at c) (fun _ _ _ _ _ c => by simp [PyData.canLay0] at c) (fun _ c => by simp [PyData.canLay0] at c) (fun _ _ _ _ c => by simp [PyData.canLay0] at c) (fun _ _ _ _ c => by simp [PyData.canLay0] at c) (fun _ => .nil)
        (fun _ _ ih1 ih2 c => by
          simp only [PyData.canLayAll0, Bool.and_eq_true] at c
          exact .cons (ih1 c.1) (ih2 c.2)) r
    · exact RpA.rec (K := K) (H := H) (S := S) (motive_1 := fun v d _ => d.canLay0 = true → Dp K H v d) (motive_2 := fun vs ds _ => PyData.canLayAll0 ds = true → DpAll K H vs ds)
        (fun _ => .non) (fun b _ => .bl b) (fun i _ => .int i) (fun x _ => .str x) (fun h _ ih c => .tup h.sq (ih (by simpa [PyData.canLay0] using c))) (fun h _ _ ih c => .lst (SqL.of h) (ih (by simpa [PyData.canLay0] using c)))
        (fun _ _ _ c => by simp [PyData.canLay0] at c) (fun _ _ _ _ _ c => by simp [PyData.canLay0] at c) (fun _ _ _ _ _ c => by simp [PyData.canLay0] at c) (fun _ c => by simp [PyData.canLay0] at c) (fun _ _ _ _ c => by simp [PyData.canLay0] at c) (fun _ _ _ _ c => by simp [PyData.canLay0] at c) (fun _ => .nil)
        (fun _ _ ih1 ih2 c => by
          simp only [PyData.canLayAll0, Bool.and_eq_true] at c
          exact .cons (ih1 c.1) (ih2 c.2)) r
  intro d v r c
  exact key.1 r (SeqAt.canLay_of_shaped c)
def oEq : PyData → PyData → Option PyData := fun d e => if SeqAt.shaped d = true ∧ SeqAt.shaped e = true then some (.bool (PyData.eqv d e)) else none
def oNe : PyData → PyData → Option PyData := fun d e => if SeqAt.shaped d = true ∧ SeqAt.shaped e = true then some (.bool (!PyData.eqv d e)) else none
theorem s_eq : SemB K (rEqD K) false oEq := fun S H x y d e z Q new rx ry q k => by
  obtain ⟨h, rfl⟩ := if_some q
  exact ⟨d, e, rx.dp h.1, ry.dp h.2, h.1, h.2, k _ H (Same.refl H) (.bl _) fun z => nomatch z⟩
theorem s_ne : SemB K (rNeD K) false oNe := fun S H x y d e z Q new rx ry q k => by
  obtain ⟨h, rfl⟩ := if_some q
  exact ⟨d, e, rx.dp h.1, ry.dp h.2, h.1, h.2, k _ H (Same.refl H) (.bl _) fun z => nomatch z⟩
/-! is None -/
def isNon : PyData → Bool
  | .none => true
  | _ => false
def oIsN : PyData → PyData → Option PyData := fun d e => match e with | .none => some (.bool (isNon d)) | _ => none
def oNotN : PyData → PyData → Option PyData := fun d e => match e with | .none => some (.bool (!isNon d)) | _ => none
theorem isNon_of {S : Addr → Prop} {H : Hp} {v : V} {d : PyData} (r : Rp K H S v d) : isNon d = decide (v = .non) := by
  cases r <;> rfl
theorem s_isN : SemB K (fun x y H Q => y = .non ∧ Q (.bl (decide (x = .non))) H) false oIsN := fun S H x y d e z Q new rx ry q k => by
  unfold oIsN at q
  split at q
  · cases q
    cases ry
    rw [isNon_of rx] at k
    exact ⟨rfl, k _ H (Same.refl H) (.bl _) fun z => nomatch z⟩
  · cases q
theorem s_notN : SemB K (fun x y H Q => y = .non ∧ Q (.bl (!decide (x = .non))) H) false oNotN := fun S H x y d e z Q new rx ry q k => by
  unfold oNotN at q
  split at q
  · cases q
    cases ry
    rw [isNon_of rx] at k
    exact ⟨rfl, k _ H (Same.refl H) (.bl _) fun z => nomatch z⟩
  · cases q
/-! in -/
def flatD : PyData → Bool
  | .none | .bool _ | .int _ | .str _ => true
  | _ => false
theorem flat_of {S : Addr → Prop} {H : Hp} {v : V} {d : PyData} (r : Rp K H S v d) (h : flatD d = true) : flatV v = true := by
  cases r with
  | non => rfl
  | bl _ => rfl
  | int _ => rfl
  | str _ => rfl
  | tup _ _ => cases h
  | lst _ _ _ => cases h
  | scr _ _ => cases h
  | dic _ _ _ _ => cases h
  | dit _ _ _ _ => cases h
  | dif _ _ _ => cases h
  | rng _ => cases h
  | dct _ _ _ _ => cases h
theorem eqV_of {S : Addr → Prop} {H : Hp} {v u : V} {d e : PyData} (r : Rp K H S v d) (t : Rp K H S u e) (hd : flatD d = true) (he : flatD e = true) : eqV v u = PyData.eqv d e := by
  cases r <;> first | cases hd | skip
  all_goals (cases t <;> first | cases he | skip)
  all_goals first
    | rfl
    | (simp only [eqV, PyData.eqv]; done)
    | (simp only [eqV, PyData.eqv]; rfl)
def inD (x : PyData) (ds : List PyData) : Bool := ds.any fun e => PyData.eqv e x
theorem inV_of {S : Addr → Prop} {H : Hp} {v : V} {d : PyData} (r : Rp K H S v d) (hd : flatD d = true) : ∀ {vs : List V} {ds : List PyData}, RpA K H S vs ds → ds.all flatD = true → inV v vs = inD d ds ∧ vs.all flatV = true
  | _, _, .nil, _ => ⟨rfl, rfl⟩
  | _, _, .cons (v := u) (vs := us) (d := e) (ds := es) h1 h2, h => by
    rw [List.all_cons, Bool.and_eq_true] at h
    obtain ⟨i1, i2⟩ := inV_of r hd h2 h.2
    refine ⟨?_, by rw [List.all_cons, flat_of h1 h.1, i2]; rfl⟩
    unfold inV inD at i1 ⊢
    rw [List.any_cons, List.any_cons, eqV_of h1 r h.1 hd, i1]
def oIn (neg : Bool) : PyData → PyData → Option PyData := fun d e => match e with
  | .list ds => if flatD d = true ∧ ds.all flatD = true then some (.bool (if neg then !inD d ds else inD d ds)) else none
  | .tuple ds => if flatD d = true ∧ ds.all flatD = true then some (.bool (if neg then !inD d ds else inD d ds)) else none
  | _ => none
theorem s_in (neg : Bool) : SemB K (rIn K neg) false (oIn neg) := fun S H x y d e z Q new rx ry q k => by
  unfold oIn at q
  split at q
  · obtain ⟨h, rfl⟩ := if_some q
    cases ry with
    | lst h1 s1 r1 =>
      obtain ⟨i1, i2⟩ := inV_of rx h.1 r1 h.2
      refine ⟨_, _, rfl, .inl (SqL.of h1), flat_of rx h.1, i2, ?_⟩
      rw [i1]
      exact k _ H (Same.refl H) (.bl _) fun z => nomatch z
  · obtain ⟨h, rfl⟩ := if_some q
    cases ry with
    | tup h1 r1 =>
      obtain ⟨i1, i2⟩ := inV_of rx h.1 r1 h.2
      refine ⟨_, _, rfl, .inr h1.sq, flat_of rx h.1, i2, ?_⟩
      rw [i1]
      exact k _ H (Same.refl H) (.bl _) fun z => nomatch z
  · cases q

/-! ### built-ins -/
def bLen : List PyData → Option PyData := fun ds => match ds with
  | [.list xs] => some (.int xs.length)
  | [.tuple xs] => some (.int xs.length)
  | [.dict [(.none, .list xs)]] => some (.int xs.length)
  | _ => none
theorem s_len : SemL K (fun xs H Q => ∃ p ys, xs = [.ref p] ∧ (SqL K H p ys ∨ SqT K H p ys) ∧ Q (.int ys.length) H) false bLen := fun S H xs ds z Q new r q k => by
  unfold bLen at q
  split at q
  · cases q
    cases r with
    | cons r1 r2 =>
      cases r2
      cases r1 with
      | lst h1 s1 r1 =>
        refine ⟨_, _, rfl, .inl (SqL.of h1), ?_⟩
        rw [r1.length]
        exact k _ H (Same.refl H) (.int _) fun z => nomatch z
  · cases q
    cases r with
    | cons r1 r2 =>
      cases r2
      cases r1 with
      | tup h1 r1 =>
        refine ⟨_, _, rfl, .inr h1.sq, ?_⟩
        rw [r1.length]
        exact k _ H (Same.refl H) (.int _) fun z => nomatch z
  · cases q
    cases r with
    | cons r1 r2 =>
      cases r2
      generalize e : PyData.dict [(PyData.none, PyData.list _)] = dd at r1
      cases r1 with
      | scr h1 r1 =>
        cases e
        refine ⟨_, _, rfl, .inl h1.sq, ?_⟩
        rw [r1.length]
        exact k _ H (Same.refl H) (.int _) fun z => nomatch z
      | dic _ _ _ _ => cases e
      | dit _ _ _ _ => cases e
      | dif _ _ _ => cases e
      | rng _ => cases e
      | dct _ _ _ _ => cases e
      | non => cases e
      | bl _ => cases e
      | int _ => cases e
      | str _ => cases e
      | tup _ _ => cases e
      | lst _ _ _ => cases e
  · cases q
def bInt : List PyData → Option PyData := fun ds => match ds with
  | [.int i] => some (.int i)
  | [.bool b] => some (.int (if b then 1 else 0))
  | _ => none
theorem s_int : SemL K (fun xs H Q => (∃ i, xs = [.int i] ∧ Q (.int i) H) ∨ ∃ k, xs = [.bl k] ∧ Q (.int (if k then 1 else 0)) H) false bInt := fun S H xs ds z Q new r q k => by
  unfold bInt at q
  split at q
  · cases q
    cases r with
    | cons r1 r2 =>
      cases r2
      cases r1
      exact .inl ⟨_, rfl, k _ H (Same.refl H) (.int _) fun z => nomatch z⟩
  · cases q
    cases r with
    | cons r1 r2 =>
      cases r2
      cases r1
      exact .inr ⟨_, rfl, k _ H (Same.refl H) (.int _) fun z => nomatch z⟩
  · cases q
def bAbs : List PyData → Option PyData := fun ds => match ds with
  | [.int i] => some (.int (if i < 0 then -i else i))
  | _ => none
theorem s_abs : SemL K (fun xs H Q => ∃ i, xs = [.int i] ∧ Q (.int (if i < 0 then -i else i)) H) false bAbs := fun S H xs ds z Q new r q k => by
  unfold bAbs at q
  split at q
  · cases q
    cases r with
    | cons r1 r2 =>
      cases r2
      cases r1
      exact ⟨_, rfl, k _ H (Same.refl H) (.int _) fun z => nomatch z⟩
  · cases q
def bMax2 : List PyData → Option PyData := fun ds => match ds with
  | [.int i, .int j] => some (.int (if j > i then j else i))
  | _ => none
theorem s_max2 : SemL K (fun xs H Q => ∃ i j, xs = [.int i, .int j] ∧ Q (.int (if j > i then j else i)) H) false bMax2 := fun S H xs ds z Q new r q k => by
  unfold bMax2 at q
  split at q
  · cases q
    cases r with
    | cons r1 r2 =>
      cases r2 with
      | cons r2 r3 =>
        cases r3
        cases r1
        cases r2
        exact ⟨_, _, rfl, k _ H (Same.refl H) (.int _) fun z => nomatch z⟩
  · cases q
def bMin2 : List PyData → Option PyData := fun ds => match ds with
  | [.int i, .int j] => some (.int (if j < i then j else i))
  | _ => none
theorem s_min2 : SemL K (fun xs H Q => ∃ i j, xs = [.int i, .int j] ∧ Q (.int (if j < i then j else i)) H) false bMin2 := fun S H xs ds z Q new r q k => by
  unfold bMin2 at q
  split at q
  · cases q
    cases r with
    | cons r1 r2 =>
      cases r2 with
      | cons r2 r3 =>
        cases r3
        cases r1
        cases r2
        exact ⟨_, _, rfl, k _ H (Same.refl H) (.int _) fun z => nomatch z⟩
  · cases q
def bList : List PyData → Option PyData := fun ds => match ds with
  | [.list xs] => some (.list xs)
  | [.tuple xs] => some (.list xs)
  | _ => none
theorem s_list : SemL K (fun xs H Q => ∃ p ys, xs = [.ref p] ∧ (SqL K H p ys ∨ SqT K H p ys) ∧ ∀ l, H l = none → Q (.ref l) (upd H l (.lst ys))) true bList := fun S H xs ds z Q new r q k => by
  unfold bList at q
  split at q
  · cases q
    cases r with
    | cons r1 r2 =>
      cases r2
      cases r1 with
      | lst h1 s1 r1 => exact ⟨_, _, rfl, .inl (SqL.of h1), fun p hp => k _ _ (same_new hp) (.lst upd_same (new p hp) (r1.same (same_new hp))) fun _ => frs_lst hp r1⟩
  · cases q
    cases r with
    | cons r1 r2 =>
      cases r2
      cases r1 with
      | tup h1 r1 => exact ⟨_, _, rfl, .inr h1.sq, fun p hp => k _ _ (same_new hp) (.lst upd_same (new p hp) (r1.same (same_new hp))) fun _ => frs_lst hp r1⟩
  · cases q
def bTuple : List PyData → Option PyData := fun ds => match ds with
  | [.list xs] => some (.tuple xs)
  | [.tuple xs] => some (.tuple xs)
  | _ => none
theorem s_tuple : SemL K (rTupOfF K) false bTuple := fun S H xs ds z Q new r q k => by
  unfold bTuple at q
  split at q
  · cases q
    cases r with
    | cons r1 r2 =>
      cases r2
      cases r1 with
      | lst h1 s1 r1 => exact ⟨_, _, rfl, .inl ⟨SqL.of h1, fun p o hp hd => k _ _ (same_new hp) (.tup (.inl ⟨o, upd_same, hd⟩) (r1.same (same_new hp))) fun z => nomatch z⟩⟩
  · cases q
    cases r with
    | cons r1 r2 =>
      cases r2
      cases r1 with
      | tup h1 r1 => exact ⟨_, _, rfl, .inr ⟨h1.sq, k _ H (Same.refl H) (.tup h1 r1) fun z => nomatch z⟩⟩
  · cases q
/-! numbers in a row -/
def asInts : List PyData → Option (List Int)
  | [] => some []
  | .int i :: ds => (asInts ds).map (i :: ·)
  | _ => none
theorem asInts_eq : ∀ {ds : List PyData} {ns : List Int}, asInts ds = some ns → ds = ns.map PyData.int
  | [], ns, h => by
    cases h
    rfl
  | d :: ds, ns, h => by
    cases d with
    | int i =>
      have h : (asInts ds).map (i :: ·) = some ns := h
      cases e : asInts ds with
      | none =>
        rw [e] at h
        cases h
      | some ms =>
        rw [e] at h
        cases h
        rw [asInts_eq e]
        rfl
    | none => cases h
    | bool _ => cases h
    | str _ => cases h
    | list _ => cases h
    | tuple _ => cases h
    | dict _ => cases h
theorem asInts_map : ∀ ns : List Int, asInts (ns.map PyData.int) = some ns
  | [] => rfl
  | n :: ns => by
    show (asInts (ns.map PyData.int)).map (n :: ·) = some (n :: ns)
    rw [asInts_map ns]
    rfl
def sumZ : List Int → Int := List.sum
def bSum : List PyData → Option PyData := fun ds => match ds with
  | [.list xs] => (asInts xs).map fun ns => .int ns.sum
  | _ => none
theorem s_sum : SemL K (rSum K) false bSum := fun S H xs ds z Q new r q k => by
  unfold bSum at q
  split at q
  · rename_i ys
    obtain ⟨ns, e, rfl⟩ := Option.map_eq_some_iff.mp q
    cases r with
    | cons r1 r2 =>
      cases r2
      cases r1 with
      | lst h1 s1 r1 =>
        rw [asInts_eq e] at r1
        rw [RpA.of_ints r1] at h1
        exact ⟨_, ns, rfl, SqL.of h1, k _ H (Same.refl H) (.int _) fun z => nomatch z⟩
  · cases q
/-- the least, the greatest -/
def minZ (n : Int) (ns : List Int) : Int := ns.foldl (fun a b => if b < a then b else a) n
def maxZ (n : Int) (ns : List Int) : Int := ns.foldl (fun a b => if a < b then b else a) n
theorem minZ_mem : ∀ (ns : List Int) (n : Int), minZ n ns ∈ n :: ns ∧ ∀ y ∈ n :: ns, minZ n ns ≤ y
  | [], n => ⟨List.mem_cons_self, fun y hy => by
    have : y = n := by simpa using hy
    rw [this]
    exact Int.le_refl _⟩
  | m :: ns, n => by
    obtain ⟨h1, h2⟩ := minZ_mem ns (if m < n then m else n)
    have e : minZ n (m :: ns) = minZ (if m < n then m else n) ns := rfl
    rw [e]
    have h3 := h2 _ List.mem_cons_self
    refine ⟨?_, fun y hy => ?_⟩
    · rcases List.mem_cons.mp h1 with z | z
      · rw [z]
        split
        · exact List.mem_cons_of_mem _ List.mem_cons_self
        · exact List.mem_cons_self
      · exact List.mem_cons_of_mem _ (List.mem_cons_of_mem _ z)
    · rcases List.mem_cons.mp hy with z | hy
      · rw [z]
        exact Int.le_trans h3 (by split <;> omega)
      · rcases List.mem_cons.mp hy with z | hy
        · rw [z]
          exact Int.le_trans h3 (by split <;> omega)
        · exact h2 y (List.mem_cons_of_mem _ hy)
theorem maxZ_mem : ∀ (ns : List Int) (n : Int), maxZ n ns ∈ n :: ns ∧ ∀ y ∈ n :: ns, y ≤ maxZ n ns
  | [], n => ⟨List.mem_cons_self, fun y hy => by
    have : y = n := by simpa using hy
    rw [this]
    exact Int.le_refl _⟩
  | m :: ns, n => by
    obtain ⟨h1, h2⟩ := maxZ_mem ns (if n < m then m else n)
    have e : maxZ n (m :: ns) = maxZ (if n < m then m else n) ns := rfl
    rw [e]
    have h3 := h2 _ List.mem_cons_self
    refine ⟨?_, fun y hy => ?_⟩
    · rcases List.mem_cons.mp h1 with z | z
      · rw [z]
        split
        · exact List.mem_cons_of_mem _ List.mem_cons_self
        · exact List.mem_cons_self
      · exact List.mem_cons_of_mem _ (List.mem_cons_of_mem _ z)
    · rcases List.mem_cons.mp hy with z | hy
      · rw [z]
        exact Int.le_trans (by split <;> omega) h3
      · rcases List.mem_cons.mp hy with z | hy
        · rw [z]
          exact Int.le_trans (by split <;> omega) h3
        · exact h2 y (List.mem_cons_of_mem _ hy)
def bMin : List PyData → Option PyData := fun ds => match ds with
  | [.list xs] => (match asInts xs with | some (n :: ns) => some (.int (minZ n ns)) | _ => none)
  | _ => none
def bMax : List PyData → Option PyData := fun ds => match ds with
  | [.list xs] => (match asInts xs with | some (n :: ns) => some (.int (maxZ n ns)) | _ => none)
  | _ => none
theorem s_min : SemL K (rMin K) false bMin := fun S H xs ds z Q new r q k => by
  unfold bMin at q
  split at q
  · split at q
    · rename_i ys n ns e
      cases q
      cases r with
      | cons r1 r2 =>
        cases r2
        cases r1 with
        | lst h1 s1 r1 =>
          rw [asInts_eq e] at r1
          rw [RpA.of_ints r1] at h1
          refine ⟨_, n :: ns, rfl, SqL.of h1, Nat.succ_pos _, fun m hm hle => ?_⟩
          obtain ⟨g1, g2⟩ := minZ_mem ns n
          have : m = minZ n ns := Int.le_antisymm (hle _ g1) (g2 _ hm)
          rw [this]
          exact k _ H (Same.refl H) (.int _) fun z => nomatch z
    · cases q
  · cases q
theorem s_max : SemL K (rMax K) false bMax := fun S H xs ds z Q new r q k => by
  unfold bMax at q
  split at q
  · split at q
    · rename_i ys n ns e
      cases q
      cases r with
      | cons r1 r2 =>
        cases r2
        cases r1 with
        | lst h1 s1 r1 =>
          rw [asInts_eq e] at r1
          rw [RpA.of_ints r1] at h1
          refine ⟨_, n :: ns, rfl, SqL.of h1, Nat.succ_pos _, fun m hm hle => ?_⟩
          obtain ⟨g1, g2⟩ := maxZ_mem ns n
          have : m = maxZ n ns := Int.le_antisymm (g2 _ hm) (hle _ g1)
          rw [this]
          exact k _ H (Same.refl H) (.int _) fun z => nomatch z
    · cases q
  · cases q
end
end Pu

set_option Elab.async false
set_option linter.all false
set_option maxRecDepth 100000
set_option maxHeartbeats 2000000
namespace Pu
open PySem PySem.Spec PyProof.Rows L2
variable [TabL]

/-! ### sorted of a list or a tuple of numbers -/
section
variable {prog : Program} {w : World} {A : Around} {E : Value → Shared → Prop} {s : Shared}
theorem sorted_seqO {l : Addr} {T : String} {o : Obj} {n : Nat} {vs : List Value} {ltv : Value → Value → Bool} {Q : Value → Shared → Prop} (O : SrtO.Swo ltv) (hT : T = "list" ∨ T = "tuple") (ho : s.heap.get? l = some o) (hc : o.cls = .type T) (hd : o.data = .seq vs.toArray n) (hz : vs.length ≤ sizeLine)
    (hS : 2 ≤ vs.length → ∀ (h1 : Heap) (a : Addr), SrtO.SortableO prog w A.in1.in1 { s with heap := h1 } a vs ltv)
    (h : ∀ (out : List Value) (h1 h2 : Heap) (e : Nat), SrtO.Srtd ltv out → SrtO.Stb ltv out vs → (∀ b ob, s.heap.get? b = some ob → h1.get? b = some ob) → h2.get? h1.objs.size = some { cls := .type "list", data := .seq out.toArray e } → (∀ b ob, h1.get? b = some ob → h2.get? b = some ob) → Q (.ref h1.objs.size) { s with heap := h2 }) :
    wpAny (model prog w) A (call (.builtin "sorted") [.ref l]) Q E s := by
  refine Calls.call_function_entry PyProof.Rows.kind_sorted PyProof.Rows.plain_sorted PyProof.Rows.entry_sorted (PyProof.Rows.args_sorted1 _) ?_
  unfold Builtin.«sorted»
  refine wpAny_bind (m := checkCount "sorted" 1 1 _) (wpAny_pure ?_)
  refine wpAny_bind (wpAny_collect_seq (items := vs.toArray) (n := n) l hT ho hc hd (fun h1 k1 => ?_) (by rw [List.size_toArray]; exact hz))
  refine wpAny_bind (wpAny_newList ?_ (by simpa using hz))
  have hoL : (h1.push (PyProof.Rows.seqObj "list" vs.toArray 0)).get? h1.objs.size = some (PyProof.Rows.seqObj "list" vs.toArray 0) := Heap.get?_push_size _ rfl
  have e0 : vs.toArray.toList = vs := by simp
  rw [e0]
  show wpAny _ _ _ _ _ { s with heap := h1.push (PyProof.Rows.seqObj "list" vs.toArray 0) }
  refine wpAny_bind (wpAny_holding (wpAny_call_entry PyProof.Rows.slot_list_sort ⟨_, hoL, rfl⟩ PyProof.Rows.entry_list_sort (SrtO.list_sort_ord O hoL hz (fun h2 => hS h2 _ _) fun out hs hb => ⟨_, rfl, ?_⟩) (PyProof.Rows.args_list_sort _)))
  obtain ⟨e, he⟩ := PyProof.Rows.sortedHeap_at (out := out.toArray) hoL
  refine wpAny_pure ⟨_, rfl, h out h1 _ e hs hb k1 he fun b ob q => ?_⟩
  have hb' := Heap.lt_size q
  rw [PyProof.Rows.sortedHeap_old (Nat.ne_of_lt hb') (by rw [PyProof.Rows.size_push']; exact Nat.lt_succ_of_lt hb')]
  exact Heap.get?_push_of_some _ q
end
section
variable {X : Cx} {K : PySem.W.Frag}
/-- sorted(x): x a list or a tuple of ints -/
def rSrt (K : PySem.W.Frag) : List V → Hp → VK → Prop := fun vs H Q => ∃ (a : Addr) (ns : List Int), vs = [V.ref a] ∧ (SqL K H a (ns.map V.int) ∨ SqT K H a (ns.map V.int)) ∧
  ∀ (ns' : List Int) (p : Addr), ns'.Perm ns → ns'.Pairwise (· ≤ ·) → H p = none → Q (.ref p) (upd H p (.lst (ns'.map V.int)))
theorem cr_srt : CallR X (.builtin "sorted") (rSrt X.K) := by
  intro pins s σ H vs us Q I r h
  obtain ⟨a, ns, rfl, hs, q⟩ := h
  rw [Vals.ref1 r]
  have fin : ∀ (T : String) (o : Obj) (n : Nat) (its : List Value), (T = "list" ∨ T = "tuple") → s.heap.get? a = some o → o.cls = .type T → o.data = .seq its.toArray n → Vals (ns.map V.int) its → (ns.map V.int).length ≤ sizeLine →
      wpAny (model X.prog X.w) X.A (call (.builtin "sorted") [.ref a]) (EP X pins σ Q) X.xe s := fun T o n its hT ho hc hd rv hz => by
    have hi := rv.ints
    refine sorted_seqO SrtO.swo_int hT ho hc hd (by rw [← rv.length]; exact hz) (fun h2 h1 a' => SrtO.ints_sortable hi h2) fun out h1 h2 e s1 s2 k1 he k2 => ?_
    obtain ⟨g1, g2, g3⟩ := SrtO.ints_out hi s1 s2
    have I1 : Inv X pins σ H { s with heap := h1 } := I.kept (t' := s.toks) k1
    have hl : ((out.map SrtO.iv).map V.int).length ≤ sizeLine := by
      rw [List.length_map, g2.length_eq]
      rw [List.length_map] at hz
      exact hz
    exact ⟨.ref _, upd H h1.objs.size (.lst ((out.map SrtO.iv).map V.int)), I1.laid (t' := s.toks) k2 (Nat.le_refl _) ⟨hl, out, e, vals_of_ints g1, he⟩, rfl, q _ _ g2 g3 (I1.hok.fresh (Nat.le_refl _))⟩
  rcases hs with hs | hs
  · obtain ⟨its, rv, ⟨o, n, ho, hc, _, hd⟩, hz⟩ := I.list hs
    exact fin "list" o n its (.inl rfl) ho hc hd rv hz
  · obtain ⟨its, rv, ⟨o, ho, hc, n, hd⟩, hz⟩ := I.tuple hs
    exact fin "tuple" o n its (.inr rfl) ho hc hd rv hz
def srtZ (ns : List Int) : List Int := ns.mergeSort fun a b => decide (a ≤ b)
theorem srtZ_perm (ns : List Int) : (srtZ ns).Perm ns := List.mergeSort_perm _ _
theorem srtZ_sorted (ns : List Int) : (srtZ ns).Pairwise (· ≤ ·) := by
  have := List.pairwise_mergeSort (le := fun (a b : Int) => decide (a ≤ b)) (fun a b c h1 h2 => by
    simp only [decide_eq_true_eq] at *
    omega) (fun a b => by
    simp only [Bool.or_eq_true, decide_eq_true_eq]
    omega) ns
  exact this.imp fun h => by simpa using h
theorem srtZ_uniq {ns ms : List Int} (h : ms.Perm ns) (hs : ms.Pairwise (· ≤ ·)) : ms = srtZ ns :=
  List.Perm.eq_of_pairwise (fun a b _ _ h1 h2 => Int.le_antisymm h1 h2) hs (srtZ_sorted ns) (h.trans (srtZ_perm ns).symm)
def bSorted : List PyData → Option PyData := fun ds => match ds with
  | [.list xs] => (asInts xs).map fun ns => .list ((srtZ ns).map PyData.int)
  | [.tuple xs] => (asInts xs).map fun ns => .list ((srtZ ns).map PyData.int)
  | _ => none
theorem s_sorted : SemL K (rSrt K) true bSorted := fun S H xs ds z Q new r q k => by
  unfold bSorted at q
  split at q
  · obtain ⟨ns, e, rfl⟩ := Option.map_eq_some_iff.mp q
    cases r with
    | cons r1 r2 =>
      cases r2
      cases r1 with
      | lst h1 s1 r1 =>
        rw [asInts_eq e] at r1
        rw [RpA.of_ints r1] at h1
        refine ⟨_, ns, rfl, .inl (SqL.of h1), fun ns' p hp hs hn => ?_⟩
        rw [srtZ_uniq hp hs]
        exact k _ _ (same_new hn) (.lst upd_same (new p hn) (RpA.ints _)) fun _ => frs_lst hn (RpA.ints _)
  · obtain ⟨ns, e, rfl⟩ := Option.map_eq_some_iff.mp q
    cases r with
    | cons r1 r2 =>
      cases r2
      cases r1 with
      | tup h0 r1 =>
        have h1 := h0.sq
        rw [asInts_eq e] at r1
        rw [RpA.of_ints r1] at h1
        refine ⟨_, ns, rfl, .inr h1, fun ns' p hp hs hn => ?_⟩
        rw [srtZ_uniq hp hs]
        exact k _ _ (same_new hn) (.lst upd_same (new p hn) (RpA.ints _)) fun _ => frs_lst hn (RpA.ints _)
  · cases q

/-! ### min, max of a tuple of numbers -/
def rMinT (K : PySem.W.Frag) : List V → Hp → VK → Prop := fun vs H Q => ∃ (a : Addr) (n : Int) (ns : List Int), vs = [V.ref a] ∧ SqT K H a ((n :: ns).map V.int) ∧ Q (.int (minZ n ns)) H
def rMaxT (K : PySem.W.Frag) : List V → Hp → VK → Prop := fun vs H Q => ∃ (a : Addr) (n : Int) (ns : List Int), vs = [V.ref a] ∧ SqT K H a ((n :: ns).map V.int) ∧ Q (.int (maxZ n ns)) H
theorem dpAll_ints {H : Hp} : ∀ ns : List Int, DpAll K H (ns.map V.int) (ns.map PyData.int)
  | [] => .nil
  | n :: ns => .cons (.int n) (dpAll_ints ns)
theorem minD_ints : ∀ (ns : List Int) (n : Int), PySem.W.minD (.int n) (ns.map PyData.int) = .int (minZ n ns)
  | [], n => rfl
  | m :: ns, n => by
    show List.foldl _ (if PySem.W.dataLt (.int m) (.int n) then PyData.int m else PyData.int n) (ns.map PyData.int) = PyData.int (minZ (if m < n then m else n) ns)
    have e : PySem.W.dataLt (.int m) (.int n) = decide (m < n) := by
      unfold PySem.W.dataLt
      simp [PySem.W.keyToks, PyProof.Rows.lexLt, itemOrd]
      rfl
    rw [e]
    by_cases h : m < n
    · rw [if_pos (decide_eq_true h), if_pos h]
      exact minD_ints ns m
    · rw [if_neg (by simpa using h), if_neg h]
      exact minD_ints ns n
theorem maxD_ints : ∀ (ns : List Int) (n : Int), PySem.W.maxD (.int n) (ns.map PyData.int) = .int (maxZ n ns)
  | [], n => rfl
  | m :: ns, n => by
    show List.foldl _ (if PySem.W.dataLt (.int n) (.int m) then PyData.int m else PyData.int n) (ns.map PyData.int) = PyData.int (maxZ (if n < m then m else n) ns)
    have e : PySem.W.dataLt (.int n) (.int m) = decide (n < m) := by
      unfold PySem.W.dataLt
      simp [PySem.W.keyToks, PyProof.Rows.lexLt, itemOrd]
      rfl
    rw [e]
    by_cases h : n < m
    · rw [if_pos (decide_eq_true h), if_pos h]
      exact maxD_ints ns m
    · rw [if_neg (by simpa using h), if_neg h]
      exact maxD_ints ns n
theorem alike_ints (ns : List Int) : PySem.W.AlikeAll (ns.map PyData.int) := by
  refine ⟨fun x hx y hy => ?_, fun x hx => ?_⟩
  · obtain ⟨i, _, rfl⟩ := List.mem_map.mp hx
    obtain ⟨j, _, rfl⟩ := List.mem_map.mp hy
    rfl
  · obtain ⟨i, _, rfl⟩ := List.mem_map.mp hx
    exact fun z => nomatch z
theorem depth_ints : ∀ ns : List Int, PyData.depthAll (ns.map PyData.int) ≤ 1
  | [] => by simp [PyData.depthAll]
  | n :: ns => by
    have := depth_ints ns
    simp only [List.map_cons, PyData.depthAll, PyData.depth]
    omega
theorem cr_minT (hc : X.calm = true) {k : Nat} (hr : Room k X.A) : CallR X (.builtin "min") (rMinT X.K) := by
  intro pins s σ H vs us Q I r h
  obtain ⟨a, n, ns, rfl, hs, q⟩ := h
  rw [Vals.ref1 r]
  obtain ⟨its, rv, ⟨o, ho, hcl, m, hd⟩, hz⟩ := I.tuple hs
  obtain ⟨as, ra⟩ := Dp.readsAll I ((n :: ns).map PyData.int) _ its (dpAll_ints (n :: ns)) rv
  have hu := hr.units
  have hde := depth_ints (n :: ns)
  refine PySem.W.min_tuple_data (x := .int n) (xs := ns.map PyData.int) (I.ok.hd hc) ⟨o, ho, hcl, m, hd⟩ ra (alike_ints (n :: ns)) (by
    have e : PyData.depthAll (PyData.int n :: ns.map PyData.int) = PyData.depthAll ((n :: ns).map PyData.int) := rfl
    rw [e]
    omega) fun i v h' tk bs hv rd kp => ?_
  rw [minD_ints] at rd
  obtain ⟨t, rfl⟩ : ∃ t, v = .int (minZ n ns) t := by
    cases rd
    exact ⟨_, rfl⟩
  exact ⟨.int _, H, I.kept (t' := tk) kp, ⟨t, rfl⟩, q⟩
theorem cr_maxT (hc : X.calm = true) {k : Nat} (hr : Room k X.A) : CallR X (.builtin "max") (rMaxT X.K) := by
  intro pins s σ H vs us Q I r h
  obtain ⟨a, n, ns, rfl, hs, q⟩ := h
  rw [Vals.ref1 r]
  obtain ⟨its, rv, ⟨o, ho, hcl, m, hd⟩, hz⟩ := I.tuple hs
  obtain ⟨as, ra⟩ := Dp.readsAll I ((n :: ns).map PyData.int) _ its (dpAll_ints (n :: ns)) rv
  have hu := hr.units
  have hde := depth_ints (n :: ns)
  refine PySem.W.max_tuple_data (x := .int n) (xs := ns.map PyData.int) (I.ok.hd hc) ⟨o, ho, hcl, m, hd⟩ ra (alike_ints (n :: ns)) (by
    have e : PyData.depthAll (PyData.int n :: ns.map PyData.int) = PyData.depthAll ((n :: ns).map PyData.int) := rfl
    rw [e]
    omega) fun i v h' tk bs hv rd kp => ?_
  rw [maxD_ints] at rd
  obtain ⟨t, rfl⟩ : ∃ t, v = .int (maxZ n ns) t := by
    cases rd
    exact ⟨_, rfl⟩
  exact ⟨.int _, H, I.kept (t' := tk) kp, ⟨t, rfl⟩, q⟩
def bMinA : List PyData → Option PyData := fun ds => match ds with
  | [.list xs] => (match asInts xs with | some (n :: ns) => some (.int (minZ n ns)) | _ => none)
  | [.tuple xs] => (match asInts xs with | some (n :: ns) => some (.int (minZ n ns)) | _ => none)
  | _ => none
def bMaxA : List PyData → Option PyData := fun ds => match ds with
  | [.list xs] => (match asInts xs with | some (n :: ns) => some (.int (maxZ n ns)) | _ => none)
  | [.tuple xs] => (match asInts xs with | some (n :: ns) => some (.int (maxZ n ns)) | _ => none)
  | _ => none
theorem s_minA : SemL K (fun xs H Q => rMin K xs H Q ∨ rMinT K xs H Q) false bMinA := fun S H xs ds z Q new r q k => by
  unfold bMinA at q
  split at q
  · exact .inl (s_min S H _ _ z Q new r q k)
  · split at q
    · rename_i ys n ns e
      cases q
      cases r with
      | cons r1 r2 =>
        cases r2
        cases r1 with
        | tup h0 r1 =>
          have h1 := h0.sq
          rw [asInts_eq e] at r1
          rw [RpA.of_ints r1] at h1
          exact .inr ⟨_, n, ns, rfl, h1, k _ H (Same.refl H) (.int _) fun z => nomatch z⟩
    · cases q
  · cases q
theorem s_maxA : SemL K (fun xs H Q => rMax K xs H Q ∨ rMaxT K xs H Q) false bMaxA := fun S H xs ds z Q new r q k => by
  unfold bMaxA at q
  split at q
  · exact .inl (s_max S H _ _ z Q new r q k)
  · split at q
    · rename_i ys n ns e
      cases q
      cases r with
      | cons r1 r2 =>
        cases r2
        cases r1 with
        | tup h0 r1 =>
          have h1 := h0.sq
          rw [asInts_eq e] at r1
          rw [RpA.of_ints r1] at h1
          exact .inr ⟨_, n, ns, rfl, h1, k _ H (Same.refl H) (.int _) fun z => nomatch z⟩
    · cases q
  · cases q
theorem cr_minA (hc : X.calm = true) {k : Nat} (hr : Room k X.A) : CallR X (.builtin "min") (fun xs H Q => rMin X.K xs H Q ∨ rMinT X.K xs H Q) := (cr_min hc).or (cr_minT hc hr)
theorem cr_maxA (hc : X.calm = true) {k : Nat} (hr : Room k X.A) : CallR X (.builtin "max") (fun xs H Q => rMax X.K xs H Q ∨ rMaxT X.K xs H Q) := (cr_max hc).or (cr_maxT hc hr)

/-! ### items and slices -/
def atD (ds : List PyData) (i : Int) : Option PyData := (ixN ds.length i).bind fun j => ds[j]?
def oIx : PyData → PyData → Option PyData := fun d e => match d, e with
  | .list ds, .int i => atD ds i
  | .tuple ds, .int i => atD ds i
  | .dict [(.none, .list ds)], .int i => atD ds i
  | _, _ => none
theorem atD_of {S : Addr → Prop} {H : Hp} {vs : List V} {ds : List PyData} {i : Int} {z : PyData} (r : RpA K H S vs ds) (q : atD ds i = some z) : ∃ v, atI vs i = some v ∧ Rp K H S v z := by
  unfold atD at q
  obtain ⟨j, e1, e2⟩ := Option.bind_eq_some_iff.mp q
  obtain ⟨v, hv, rv⟩ := r.get' e2
  refine ⟨v, ?_, rv⟩
  unfold atI
  rw [r.length, e1]
  exact hv
theorem s_ix : SemB K (rIx K) false oIx := fun S H x y d e z Q new rx ry q k => by
  unfold oIx at q
  split at q
  · cases ry
    cases rx with
    | lst h1 s1 r1 =>
      obtain ⟨v, hv, rv⟩ := atD_of r1 q
      exact .inl ⟨_, _, _, v, rfl, rfl, SqL.of h1, hv, k v H (Same.refl H) rv fun z => nomatch z⟩
  · cases ry
    cases rx with
    | tup h1 r1 =>
      obtain ⟨v, hv, rv⟩ := atD_of r1 q
      exact .inr (.inl ⟨_, _, _, v, rfl, rfl, h1.sq, hv, k v H (Same.refl H) rv fun z => nomatch z⟩)
  · cases ry
    rename_i ds i
    generalize e : PyData.dict [(PyData.none, PyData.list ds)] = dd at rx
    cases rx with
    | scr h1 r1 =>
      cases e
      obtain ⟨v, hv, rv⟩ := atD_of r1 q
      exact .inl ⟨_, _, _, v, rfl, rfl, h1.sq, hv, k v H (Same.refl H) rv fun z => nomatch z⟩
    | dic _ _ _ _ => cases e
    | dit _ _ _ _ => cases e
    | dif _ _ _ => cases e
    | rng _ => cases e
    | dct _ _ _ _ => cases e
    | non => cases e
    | bl _ => cases e
    | int _ => cases e
    | str _ => cases e
    | tup _ _ => cases e
    | lst _ _ _ => cases e
  · cases q
section
variable {M : Nat → Bool} {F : Fx} {E : L2.St → XK} {la lb fa fb : Bool} {a b : Expr} {f g : Rho → Re PyData} {pos : Pos}
theorem de_ix (ha : DE X M F E la fa a f) (hb : DE X M F E lb fb b g) (hs : PlainIx b := by intro _ _; rfl) : DE X M F E (la || lb) false (.Subscript a b pos) (r2 oIx f g) := by
  obtain ⟨ta, pa, ha⟩ := ha
  obtain ⟨tb, pb, hb⟩ := hb
  exact ⟨_, pe_ix ix_seq pa pb hs, fun σ H ρ er Q w => two_run ha hb s_ix er w⟩
/-- the ends of a slice -/
def WO (X : Cx) (E : L2.St → XK) (σ : L2.St) (H : Hp) (r : Re (Option Int)) (Q : Option Int → Hp → Prop) : Prop :=
  match r with
  | .ok b => ∀ H', Same H H' → Q b H'
  | .ex c => ∀ C H', X.mg c = some (.ref C) → Same H H' → E σ (.ref C) none H'
  | .bad => False
def DO (X : Cx) (M : Nat → Bool) (F : Fx) (E : L2.St → XK) (e : Option Expr) (f : Rho → Re (Option Int)) : Prop := ∃ t : TO, PO X e t ∧ ∀ σ H ρ, ER X.K M F σ H ρ → ∀ Q, WO X E σ H (f ρ) Q → t σ H Q
def asI (f : Rho → Re PyData) : Rho → Re (Option Int) := fun ρ => (f ρ).andThen fun d => match d with | .int i => .ok (some i) | _ => .bad
def noI : Rho → Re (Option Int) := fun _ => .ok none
theorem do_none : DO X M F E none noI := ⟨_, po_none, fun σ H ρ er Q w => w H (Same.refl H)⟩
theorem do_some (h : DE X M F E la fa a f) : DO X M F E (some a) (asI f) := by
  obtain ⟨t, p, h⟩ := h
  refine ⟨_, po_some p, fun σ H ρ er Q w => h σ H ρ er _ ?_⟩
  unfold asI at w
  cases q : f ρ with
  | ok d =>
    rw [q] at w
    refine fun v H1 s r _ => ?_
    have w : WO X E σ H ((fun d : PyData => match d with | .int i => Re.ok (some i) | _ => Re.bad) d) Q := w
    cases r with
    | int i => exact ⟨i, rfl, w H1 s⟩
    | bl _ => exact w.elim
    | non => exact w.elim
    | str _ => exact w.elim
    | tup _ _ => exact w.elim
    | lst _ _ _ => exact w.elim
    | scr _ _ => exact w.elim
    | dic _ _ _ _ => exact w.elim
    | dit _ _ _ _ => exact w.elim
    | dif _ _ _ => exact w.elim
    | rng _ => exact w.elim
    | dct _ _ _ _ => exact w.elim
  | ex c =>
    rw [q] at w
    exact w
  | bad =>
    rw [q] at w
    exact w
def cutD (ds : List PyData) (lo hi : Option Int) : List PyData := (ds.drop (HT.sIx ds.length 0 lo)).take (HT.sIx ds.length ds.length hi - HT.sIx ds.length 0 lo)
def oCut (d : PyData) (lo hi : Option Int) : Re PyData := match d with
  | .tuple ds => .ok (.tuple (cutD ds lo hi))
  | .list ds => .ok (.list (cutD ds lo hi))
  | _ => .bad
theorem cut_rp {S : Addr → Prop} {H : Hp} {vs : List V} {ds : List PyData} {lo hi : Option Int} (r : RpA K H S vs ds) : RpA K H S (cutV vs lo hi) (cutD ds lo hi) := by
  unfold cutV cutD
  rw [r.length]
  exact (r.drop _).take _
theorem cut_whole {ds : List PyData} {lo hi : Option Int} (h : HT.sIx ds.length 0 lo = 0 ∧ HT.sIx ds.length ds.length hi = ds.length) : cutD ds lo hi = ds := by
  unfold cutD
  rw [h.1, h.2, List.drop_zero, Nat.sub_zero, List.take_length]
abbrev rSlTL (K : PySem.W.Frag) : V → Option Int → Option Int → Hp → VK → Prop := fun x lo hi H Q => rSlF K x lo hi H Q ∨ rSlL K x lo hi H Q
theorem sl_tl : SlR X (rSlTL X.K) := sl_tupF.or sl_list
def rCut (f : Rho → Re PyData) (lo hi : Rho → Re (Option Int)) : Rho → Re PyData := fun ρ => (f ρ).andThen fun d => (lo ρ).andThen fun l => (hi ρ).andThen fun h => oCut d l h
theorem wo_step {lk fr : Bool} {σ : L2.St} {ρ : Rho} {H : Hp} {r : Re (Option Int)} {Q : VK} {g : Option Int → Re PyData} {K : Option Int → Hp → Prop} (w : WE X M F E lk fr σ ρ H (r.andThen g) Q)
    (h : ∀ d H', r = .ok d → Same H H' → WE X M F E lk fr σ ρ H' (g d) Q → K d H') : WO X E σ H r K := by
  cases r with
  | ok d =>
    refine fun H' s => h d H' rfl s ?_
    have w : WE X M F E lk fr σ ρ H (g d) Q := w
    cases q : g d with
    | ok z =>
      rw [q] at w
      refine fun v2 H2 s2 r2 f2 => w v2 H2 (s.trans s2) r2 fun z2 => ?_
      obtain ⟨p, e1, e2, e3⟩ := f2 z2
      exact ⟨p, e1, s.free e2, e3⟩
    | ex c =>
      rw [q] at w
      exact fun C H2 m s2 => w C H2 m (s.trans s2)
    | bad =>
      rw [q] at w
      exact w
  | ex c => exact w
  | bad => exact w
theorem de_cut {lo hi : Option Expr} {fl fh : Rho → Re (Option Int)} {p2 : Pos} (ha : DE X M F E la fa a f) (hl : DO X M F E lo fl) (hh : DO X M F E hi fh) : DE X M F E la false (.Subscript a (.Slice lo hi none p2) pos) (rCut f fl fh) := by
  obtain ⟨ta, pa, ha⟩ := ha
  obtain ⟨tl, pl, hl⟩ := hl
  obtain ⟨th, ph, hh⟩ := hh
  refine ⟨_, pe_slice sl_tl pa pl ph, fun σ H ρ er Q w => ?_⟩
  refine ha σ H ρ er _ (we_step w fun d v H1 e1 s1 r1 _ w1 => ?_)
  refine hl σ H1 ρ (er.same s1) _ (wo_step w1 fun l H2 e2 s2 w2 => ?_)
  refine hh σ H2 ρ ((er.same s1).same s2) _ (wo_step w2 fun h H3 e3 s3 w3 => ?_)
  have er3 := ((er.same s1).same s2).same s3
  have r3 := r1.same (s2.trans s3)
  have w3 : WE X M F E la false σ ρ H3 (oCut d l h) Q := w3
  cases r3 with
  | tup h1 rr =>
    refine .inl ⟨_, _, rfl, h1.sq, fun hw => ?_, fun hw p o hp hd => w3 _ _ (same_new hp) (.tup (.inl ⟨o, upd_same, hd⟩) ((cut_rp rr).same (same_new hp))) fun z => nomatch z⟩
    rw [rr.length] at hw
    refine w3 _ H3 (Same.refl _) ?_ fun z => nomatch z
    rw [cut_whole hw]
    exact .tup h1 rr
  | lst h1 ss rr => exact .inr ⟨_, _, rfl, SqL.of h1, fun p hp => w3 _ _ (same_new hp) (.lst upd_same (er3.freshS p hp) ((cut_rp rr).same (same_new hp))) fun z => nomatch z⟩
  | bl _ => exact w3.elim
  | non => exact w3.elim
  | int _ => exact w3.elim
  | str _ => exact w3.elim
  | scr _ _ => exact w3.elim
  | dic _ _ _ _ => exact w3.elim
  | dit _ _ _ _ => exact w3.elim
  | dif _ _ _ => exact w3.elim
  | rng _ => exact w3.elim
  | dct _ _ _ _ => exact w3.elim

/-! ### tuple(range(..)), list(range(..)) -/
def rgOk (a b : Int) : Bool := decide (-1000000 ≤ a) && decide (a ≤ 1000000) && decide (-1000000 ≤ b) && decide (b ≤ 1000000)
theorem rgOk_ok {a b : Int} (h : rgOk a b = true) : RgOk a b := by
  unfold rgOk at h
  simp only [Bool.and_eq_true, decide_eq_true_eq] at h
  obtain ⟨⟨⟨h1, h2⟩, h3⟩, h4⟩ := h
  exact ⟨by omega, by omega, by omega, by omega, by omega⟩
theorem rg_rp {S : Addr → Prop} {H : Hp} (a b : Int) : RpA K H S (rgV a b) (upFrom a (b - a).toNat) := by
  have e1 : rgV a b = ((List.range (b - a).toNat).map fun i => a + ((i : Nat) : Int)).map V.int := by
    unfold rgV
    rw [List.map_map]
    rfl
  have e2 : upFrom a (b - a).toNat = ((List.range (b - a).toNat).map fun i => a + ((i : Nat) : Int)).map PyData.int := by
    unfold upFrom
    rw [List.map_map]
    rfl
  rw [e1, e2]
  exact RpA.ints _
def rTupRg (f g : Rho → Re PyData) : Rho → Re PyData := r2 (fun d e => match d, e with | .int i, .int j => if rgOk i j = true then some (.tuple (upFrom i (j - i).toNat)) else none | _, _ => none) f g
theorem de_tupRg {pp q : Pos} (hc : X.calm = true) (hg : Gl X "tuple") (hm : X.mg "tuple" = none) (hg2 : Gl X "range") (hm2 : X.mg "range" = none) (ha : DE X M F E la fa a f) (hb : DE X M F E lb fb b g)
    (na : starEach [a, b] X.env = (false, eval a X.env) :: starEach [b] X.env := by rfl) (nb : starEach [b] X.env = (false, eval b X.env) :: starEach [] X.env := by rfl)
    (np : (backTo q (starEach [b] X.env)).any (·.1) = false := by rfl) (nc : starEach [Expr.Call (.Name "range" pp) [a, b] [] q] X.env = (false, eval (.Call (.Name "range" pp) [a, b] [] q) X.env) :: starEach [] X.env := by rfl) {p0 : Pos} :
    DE X M F E (la || lb) false (.Call (.Name "tuple" p0) [.Call (.Name "range" pp) [a, b] [] q] [] pos) (rTupRg f g) := by
  obtain ⟨ta, pa, ha⟩ := ha
  obtain ⟨tb, pb, hb⟩ := hb
  refine ⟨_, pe_tupRgF hc hg hm (prg_2 hg2 hm2 pa pb na nb np) nc, fun σ H ρ er Q w => ?_⟩
  refine ha σ H ρ er _ (we_step w fun d v H1 e1 s1 q1 _ w1 => ?_)
  refine hb σ H1 ρ (er.same s1) _ (we_step w1 fun e u H2 e2 s2 q2 _ w2 => ?_)
  cases q1 with
  | int i =>
    cases q2 with
    | int j =>
      have w2 : WE X M F E (la || lb) false σ ρ H2 (liftO (if rgOk i j = true then some (.tuple (upFrom i (j - i).toNat)) else none)) Q := w2
      by_cases hr : rgOk i j = true
      · rw [if_pos hr] at w2
        exact ⟨i, j, rfl, rfl, rgOk_ok hr, fun p o hp hd => w2 _ _ (same_new hp) (.tup (.inl ⟨o, upd_same, hd⟩) (rg_rp i j)) fun z => nomatch z⟩
      · rw [if_neg hr] at w2
        exact w2.elim
    | bl _ => exact w2.elim
    | non => exact w2.elim
    | str _ => exact w2.elim
    | tup _ _ => exact w2.elim
    | lst _ _ _ => exact w2.elim
    | scr _ _ => exact w2.elim
    | dic _ _ _ _ => exact w2.elim
    | dit _ _ _ _ => exact w2.elim
    | dif _ _ _ => exact w2.elim
    | rng _ => exact w2.elim
    | dct _ _ _ _ => exact w2.elim
  | bl _ => exact w2.elim
  | non => exact w2.elim
  | str _ => exact w2.elim
  | tup _ _ => exact w2.elim
  | lst _ _ _ => exact w2.elim
  | scr _ _ => exact w2.elim
  | dic _ _ _ _ => exact w2.elim
  | dit _ _ _ _ => exact w2.elim
  | dif _ _ _ => exact w2.elim
  | rng _ => exact w2.elim
  | dct _ _ _ _ => exact w2.elim
end
end
end Pu

set_option Elab.async false
set_option linter.all false
set_option maxRecDepth 100000
set_option maxHeartbeats 2000000
namespace Pu
open PySem PySem.Spec PyProof.Rows L2
variable [TabL]

section
variable {X : Cx} {K : PySem.W.Frag} {M : Nat → Bool} {F : Fx} {E : L2.St → XK} {la lb fa fb : Bool} {a b : Expr} {f g : Rho → Re PyData} {pos : Pos} {s u : Rho → Sr}
/-! ### a list or a tuple is walked, is unpacked -/
theorem pi_or {tg it : Expr} {w1 w2 : TI} (h1 : PI X tg it w1) (h2 : PI X tg it w2) : PI X tg it (fun σ H R => w1 σ H R ∨ w2 σ H R) := ⟨fun pins s σ H R I h => h.elim (h1.run pins s σ H R I) (h2.run pins s σ H R I)⟩
theorem pg_or {tg : Expr} {w1 w2 : TG} (h1 : PG X tg w1) (h2 : PG X tg w2) : PG X tg (fun v σ H Q => w1 v σ H Q ∨ w2 v σ H Q) := ⟨fun pins s σ H v u Q I r h => h.elim (h1.run pins s σ H v u Q I r) (h2.run pins s σ H v u Q I r)⟩
def itS (d : PyData) : Re (List PyData) := match d with | .list ds => .ok ds | .tuple ds => .ok ds | _ => .bad
theorem di_seq {tg : Expr} (h : DE X M F E false fa a f) : DI X M F E tg a (iOf itS f) := by
  obtain ⟨t1, p1, h1⟩ := di_list (tg := tg) h
  obtain ⟨t2, p2, h2⟩ := di_tup (tg := tg) h
  refine ⟨_, pi_or p1 p2, fun σ H ρ er R w => ?_⟩
  unfold iOf at w h1 h2
  cases q : f ρ with
  | ex c =>
    rw [q] at w
    refine .inl (h1 σ H ρ er R ?_)
    rw [q]
    exact w
  | bad =>
    rw [q] at w
    exact w.elim
  | ok d =>
    rw [q] at w
    cases d with
    | list ds =>
      refine .inl (h1 σ H ρ er R ?_)
      rw [q]
      exact w
    | tuple ds =>
      refine .inr (h2 σ H ρ er R ?_)
      rw [q]
      exact w
    | none => exact w.elim
    | bool _ => exact w.elim
    | int _ => exact w.elim
    | str _ => exact w.elim
    | dict _ => exact w.elim
def gSeqD (n : Nat) (g : List PyData → Rho → Option Rho) : PyData → Rho → Option Rho := fun d ρ => match d with | .tuple ds => if ds.length = n then g ds ρ else none | .list ds => if ds.length = n then g ds ρ else none | _ => none
theorem dg_seq {es : List Expr} {ts : List Nat} {k : Nat} {n : Nat} {gs : List PyData → Rho → Option Rho} (hc : X.calm = true) (h : DGs X M F es ts gs) (hn : (assignEach es X.env).length = n := by rfl) (hst : (assignEach es X.env).findIdx? (·.1) = none := by rfl) :
    DG X M F (.Tuple es k pos) ts (gSeqD n gs) := by
  obtain ⟨t1, p1, h1⟩ := dg_tup (k := k) (pos := pos) hc h hn hst
  obtain ⟨t2, p2, h2⟩ := dg_lst (k := k) (pos := pos) hc h hn hst
  refine ⟨_, pg_or p1 p2, fun σ H ρ v d ρ' er r e Q kk => ?_⟩
  cases d with
  | tuple ds => exact .inl (h1 σ H ρ v (.tuple ds) ρ' er r e Q kk)
  | list ds => exact .inr (h2 σ H ρ v (.list ds) ρ' er r e Q kk)
  | none => cases e
  | bool _ => cases e
  | int _ => cases e
  | str _ => cases e
  | dict _ => cases e

/-! ### a name's constant -/
theorem de_globE {x : Str} {i : Int} {pos : Pos} (hm : ∃ t, X.mg x = some (.int i t)) (hg : Gl X x := by rfl) (hd : (x == ("__debug__" : Str)) = false := by decide) : DE X M F E false false (.Name x pos) (rC (.int i)) := by
  obtain ⟨t, h⟩ := hm
  exact de_glob hg h hd

/-! ### isinstance -/
def tyD : PyData → String
  | .none => "NoneType"
  | .bool _ => "bool"
  | .int _ => "int"
  | .str _ => "str"
  | .list _ => "list"
  | .tuple _ => "tuple"
  | .dict _ => "dict"
def isD (d : PyData) (T : String) : Option Bool := match d with
  | .dict _ => none
  | d => kitB (tyD d) T
theorem ty_of {S : Addr → Prop} {H : Hp} {v : V} {d : PyData} (r : Rp K H S v d) (nd : ∀ kvs, d ≠ .dict kvs) : TyX K H v (.type (tyD d)) := by
  cases r with
  | non => exact .base .non
  | bl b => exact .base (.bl b)
  | int i => exact .base (.int i)
  | str x => exact .base (.str x)
  | tup h _ =>
    rcases h with ⟨o, h, _⟩ | ⟨o, its, n, hk, hc, _⟩
    · exact .fTuple h
    · exact .kTuple hk hc
  | lst h _ _ => exact .base (.lst h)
  | scr _ _ => exact absurd rfl (nd _)
  | dic _ _ _ _ => exact absurd rfl (nd _)
  | dit _ _ _ _ => exact absurd rfl (nd _)
  | dif _ _ _ => exact absurd rfl (nd _)
  | rng _ => exact absurd rfl (nd _)
  | dct _ _ _ _ => exact absurd rfl (nd _)
/-- isinstance(x, T), T a built-in class -/
theorem de_isi {T : String} {x : Str} {p p1 p2 : Pos} (hg : Gl X "isinstance") (hm : X.mg "isinstance" = none) (hgT : Gl X x) (hmT : X.mg x = none) (hv : bootBuiltins x = some (.type T)) (ha : DE X M F E la fa a f)
    (hnT : x ≠ "__name__" := by decide) (hdT : (x == ("__debug__" : Str)) = false := by decide)
    (h1 : starEach [a, .Name x p1] X.env = (false, eval a X.env) :: starEach [.Name x p1] X.env := by rfl) (h2 : starEach [.Name x p1] X.env = (false, eval (.Name x p1) X.env) :: starEach [] X.env := by rfl) (hpl : (backTo pos (starEach [.Name x p1] X.env)).any (·.1) = false := by rfl) :
    DE X M F E false false (.Call (.Name "isinstance" p) [a, .Name x p1] [] pos) (fun ρ => (f ρ).andThen fun d => liftO ((isD d T).map PyData.bool)) := by
  obtain ⟨t, pa, h⟩ := ha
  refine ⟨_, pe_callB call_isi hg hm PyProof.Rows.boot_isinstance (pa_cons pa (pa_cons (pe_bltn (v := .ty T) hgT hmT hv rfl hnT hdT) pa_nil h2) h1) (he := h1) (hpl := hpl), fun σ H ρ er Q w => ?_⟩
  refine h σ H ρ er _ (we_step w fun d v H1 e s1 r1 _ w1 => ?_)
  cases q : isD d T with
  | none =>
    rw [q] at w1
    exact w1.elim
  | some bb =>
    rw [q] at w1
    have nd : ∀ kvs, d ≠ .dict kvs := fun kvs z => by
      rw [z] at q
      cases q
    have q' : kitB (tyD d) T = some bb := by
      unfold isD at q
      split at q
      · cases q
      · exact q
    exact ⟨v, .ty T, .type (tyD d), .type T, bb, rfl, .ty T, ty_of r1 nd, kit_ty q', w1 _ H1 (Same.refl _) (.bl bb) fun z => nomatch z⟩

/-! ### t.index(x): numbers in a tuple or a list -/
def rIdxT (K : PySem.W.Frag) : V → List V → Hp → VK → Prop := fun x xs H Q => ∃ (p : Addr) (ys : List Int) (z : Int) (j : Nat), x = .ref p ∧ xs = [.int z] ∧ SqT K H p (ys.map V.int) ∧ ys[j]? = some z ∧ (∀ m, m < j → ys[m]? ≠ some z) ∧ Q (.int (j : Nat)) H
theorem all_flat_ints (ys : List Int) : (ys.map V.int).all flatV = true := by
  rw [List.all_map]
  exact List.all_eq_true.mpr fun _ _ => rfl
end
section
variable {X : Cx}
theorem mt_idxT : MtR X "tuple.index" (rIdxT X.K) := by
  intro pins s σ H x xs v us Q I rx rs h
  obtain ⟨p, ys, z, j, rfl, rfl, hq, hy, hno, q⟩ := h
  cases rx
  obtain ⟨u, rfl, t, rfl⟩ := vals1 rs
  obtain ⟨its, r, pl, hz⟩ := I.tuple hq
  obtain ⟨⟨cl, dd, dt, sl⟩, ho, hc, n, hd⟩ := pl
  simp only at hc hd
  subst hc hd
  have hl : its.toArray.size = ys.length := by rw [List.size_toArray, ← r.length, List.length_map]
  have hj : j < its.toArray.size := by rw [hl]; exact getSome hy
  have at1 : ∀ (m : Nat) (hm : m < its.toArray.size), ∃ y t', ys[m]? = some y ∧ its.toArray[m] = Value.int y t' := fun m hm => by
    have hm' : m < ys.length := by rw [← hl]; exact hm
    obtain ⟨w, hw, t', hw'⟩ := r.get (i := m) (x := .int ys[m]) (by simp [hm'])
    refine ⟨ys[m], t', List.getElem?_eq_getElem hm', ?_⟩
    have e := (List.getElem?_eq_some_iff.mp hw).2
    rw [← hw', ← e]
    simp
  refine call_meets PySem.F.slot_tuple_index ⟨_, ho, rfl⟩ PySem.F.entry_tuple_index (PySem.F.args_tuple_index_2 _ _) (TI.tuple_indexAt p its.toArray n dd sl (.int z t) (eqU (.int z)) j hj ?_ ?_)
    ⟨ho, fun w hw => mem_eqAt (x := .int z) ⟨t, rfl⟩ rfl r (all_flat_ints ys) w (by simpa using hw), ⟨.int (j : Nat), H, I.tok _, ⟨_, rfl⟩, q⟩⟩
  · obtain ⟨y, t', h1, h2⟩ := at1 j hj
    rw [hy] at h1
    cases h1
    rw [h2]
    show (z == z) = true
    exact beq_self_eq_true z
  · intro m hm hmj
    obtain ⟨y, t', h1, h2⟩ := at1 m hm
    rw [h2]
    show (y == z) = false
    exact beq_eq_false_iff_ne.mpr fun e => hno m hmj (e ▸ h1)
end
end Pu

set_option Elab.async false
set_option linter.all false
set_option maxRecDepth 100000
set_option maxHeartbeats 2000000
namespace Pu
open PySem PySem.Spec PyProof.Rows L2
variable [TabL]

section
variable {X : Cx} {K : PySem.W.Frag} {M : Nat → Bool} {F : Fx} {E : L2.St → XK} {la lb fa fb : Bool} {a b : Expr} {f g : Rho → Re PyData} {pos : Pos} {s u : Rho → Sr}
/-! ### t.index(x), l.index(x) of numbers -/
/-- the first place of z -/
def idxZ (z : Int) : List Int → Option Nat
  | [] => none
  | n :: ns => if n = z then some 0 else (idxZ z ns).map (· + 1)
theorem idxZ_some {z : Int} : ∀ {ns : List Int} {j : Nat}, idxZ z ns = some j → ns[j]? = some z ∧ ∀ m, m < j → ns[m]? ≠ some z
  | [], j, h => by cases h
  | n :: ns, j, h => by
    unfold idxZ at h
    by_cases e : n = z
    · rw [if_pos e] at h
      cases h
      exact ⟨by simp [e], fun m hm => absurd hm (Nat.not_lt_zero _)⟩
    · rw [if_neg e] at h
      obtain ⟨k, hk, rfl⟩ := Option.map_eq_some_iff.mp h
      obtain ⟨h1, h2⟩ := idxZ_some hk
      refine ⟨by simpa using h1, fun m hm => ?_⟩
      cases m with
      | zero => simpa using e
      | succ m => simpa using h2 m (by omega)
def oIdx : PyData → List PyData → Option PyData := fun d es => match d, es with
  | .tuple ds, [.int z] => (asInts ds).bind fun ns => (idxZ z ns).map fun j => .int (j : Nat)
  | _, _ => none
def oIdxL : PyData → List PyData → Option PyData := fun d es => match d, es with
  | .list ds, [.int z] => (asInts ds).bind fun ns => (idxZ z ns).map fun j => .int (j : Nat)
  | _, _ => none
theorem oIdx_some {ds0 es : List PyData} {z : PyData} (q : oIdx (.tuple ds0) es = some z) : ∃ ns z0 j, asInts ds0 = some ns ∧ es = [.int z0] ∧ idxZ z0 ns = some j ∧ z = .int (j : Nat) := by
  unfold oIdx at q
  split at q
  · next x1 x2 a1 a2 e1 =>
    cases e1
    obtain ⟨ns, e3, q⟩ := Option.bind_eq_some_iff.mp q
    obtain ⟨j, e4, e5⟩ := Option.map_eq_some_iff.mp q
    exact ⟨ns, _, j, e3, rfl, e4, e5.symm⟩
  · cases q
theorem oIdxL_some {ds0 es : List PyData} {z : PyData} (q : oIdxL (.list ds0) es = some z) : ∃ ns z0 j, asInts ds0 = some ns ∧ es = [.int z0] ∧ idxZ z0 ns = some j ∧ z = .int (j : Nat) := by
  unfold oIdxL at q
  split at q
  · next x1 x2 a1 a2 e1 =>
    cases e1
    obtain ⟨ns, e3, q⟩ := Option.bind_eq_some_iff.mp q
    obtain ⟨j, e4, e5⟩ := Option.map_eq_some_iff.mp q
    exact ⟨ns, _, j, e3, rfl, e4, e5.symm⟩
  · cases q
def rMeth (o : PyData → List PyData → Option PyData) (f : Rho → Re PyData) (g : Rho → Re (List PyData)) : Rho → Re PyData := fun ρ => (f ρ).andThen fun d => (match d with | .tuple _ => (g ρ).andThen fun es => liftO (o d es) | _ => .bad)
def rMethL (o : PyData → List PyData → Option PyData) (f : Rho → Re PyData) (g : Rho → Re (List PyData)) : Rho → Re PyData := fun ρ => (f ρ).andThen fun d => (match d with | .list _ => (g ρ).andThen fun es => liftO (o d es) | _ => .bad)
theorem de_idxT {es : List Expr} {gs : Rho → Re (List PyData)} {p2 : Pos} (ha : DE X M F E la fa a f) (hb : DA X M F E lb (b :: es) gs)
    (hbase : attributeBase a "index" X.env (eval a X.env) = eval a X.env := by rfl)
    (hfew : ((backTo pos (starEach (b :: es) X.env)).all (fun x => !x.1) && (backToKw pos (keywordEach [] X.env)).all (fun x => x.1.isSome) && decide ((b :: es).length + ([] : List Keyword).length + (if ([] : List Keyword).isEmpty then 0 else 1) < 30)) = true := by rfl)
    (hline : (p2.endLine == pos.line) = true := by rfl) (hs : starEach (b :: es) X.env = (false, eval b X.env) :: starEach es X.env := by rfl) (hplain : (backTo pos (starEach es X.env)).any (·.1) = false := by rfl) :
    DE X M F E false false (.Call (.Attribute a "index" p2) (b :: es) [] pos) (rMeth oIdx f gs) := by
  obtain ⟨ta, pa, ha⟩ := ha
  obtain ⟨tb, pb, hb⟩ := hb
  refine ⟨_, pe_bmG (ty_tupD (X := X)) PySem.F.plainAttrs_tuple PySem.F.slot_tuple_index PySem.F.type_tuple_index mt_idxT pa pb hbase hfew hline hs hplain, fun σ H ρ er Q w => ?_⟩
  refine ha σ H ρ er _ (we_step w fun d v H1 e1 s1 r1 _ w1 => ?_)
  have er1 := er.same s1
  cases r1 with
  | tup h1 rr =>
    refine ⟨⟨_, _, rfl, h1⟩, hb σ H1 ρ er1 _ (we_stepA (lk' := lb) w1 fun ds vs H2 e2 s2 r2 w2 => ?_)⟩
    have h2 := tupD_keep h1 fun u q nm n => s2 _ u q n
    have rr2 := rr.same s2
    have w2 : WE X M F E false false σ ρ H2 (liftO (oIdx (.tuple _) ds)) Q := w2
    generalize q : oIdx (.tuple _) ds = oo at w2
    cases oo with
    | none => exact w2.elim
    | some z =>
      obtain ⟨ns, z0, j, e3, rfl, e4, rfl⟩ := oIdx_some q
      cases r2 with
      | cons r2 r3 =>
        cases r2
        cases r3
        obtain ⟨g1, g2⟩ := idxZ_some e4
        rw [asInts_eq e3] at rr2
        rw [RpA.of_ints rr2] at h2
        exact ⟨_, ns, _, j, rfl, rfl, h2.sq, g1, g2, w2 _ H2 (Same.refl _) (.int _) fun z => nomatch z⟩
  | bl _ => exact w1.elim
  | non => exact w1.elim
  | int _ => exact w1.elim
  | str _ => exact w1.elim
  | lst _ _ _ => exact w1.elim
  | scr _ _ => exact w1.elim
  | dic _ _ _ _ => exact w1.elim
  | dit _ _ _ _ => exact w1.elim
  | dif _ _ _ => exact w1.elim
  | rng _ => exact w1.elim
  | dct _ _ _ _ => exact w1.elim
theorem de_idxL {es : List Expr} {gs : Rho → Re (List PyData)} {p2 : Pos} (ha : DE X M F E la fa a f) (hb : DA X M F E lb (b :: es) gs)
    (hbase : attributeBase a "index" X.env (eval a X.env) = eval a X.env := by rfl)
    (hfew : ((backTo pos (starEach (b :: es) X.env)).all (fun x => !x.1) && (backToKw pos (keywordEach [] X.env)).all (fun x => x.1.isSome)
      && decide ((b :: es).length + ([] : List Keyword).length + (if ([] : List Keyword).isEmpty then 0 else 1) < 30)) = true := by rfl)
    (hline : (p2.endLine == pos.line) = true := by rfl) (hs : starEach (b :: es) X.env = (false, eval b X.env) :: starEach es X.env := by rfl) (hplain : (backTo pos (starEach es X.env)).any (·.1) = false := by rfl) :
    DE X M F E false false (.Call (.Attribute a "index" p2) (b :: es) [] pos) (rMethL oIdxL f gs) := by
  obtain ⟨ta, pa, ha⟩ := ha
  obtain ⟨tb, pb, hb⟩ := hb
  refine ⟨_, pe_bm PySem.F.plainAttrs_list PySem.F.slot_list_index PySem.F.type_list_index mt_index pa pb hbase hfew hline hs hplain, fun σ H ρ er Q w => ?_⟩
  refine ha σ H ρ er _ (we_step w fun d v H1 e1 s1 r1 _ w1 => ?_)
  have er1 := er.same s1
  cases r1 with
  | lst h1 _ rr =>
    refine ⟨sq_l h1, hb σ H1 ρ er1 _ (we_stepA (lk' := lb) w1 fun ds vs H2 e2 s2 r2 w2 => ?_)⟩
    have h2 := s2 _ _ h1
    have rr2 := rr.same s2
    have w2 : WE X M F E false false σ ρ H2 (liftO (oIdxL (.list _) ds)) Q := w2
    generalize q : oIdxL (.list _) ds = oo at w2
    cases oo with
    | none => exact w2.elim
    | some z =>
      obtain ⟨ns, z0, j, e3, rfl, e4, rfl⟩ := oIdxL_some q
      cases r2 with
      | cons r2 r3 =>
        cases r2
        cases r3
        obtain ⟨g1, g2⟩ := idxZ_some e4
        rw [asInts_eq e3] at rr2
        rw [RpA.of_ints rr2] at h2
        refine ⟨_, _, _, j, _, rfl, rfl, SqL.of h2, rfl, all_flat_ints ns, by rw [List.getElem?_map, g1]; rfl, ?_, fun m z' hm hz' => ?_, w2 _ H2 (Same.refl _) (.int _) fun z => nomatch z⟩
        · show (_ == _) = true
          exact beq_self_eq_true _
        · rw [List.getElem?_map] at hz'
          obtain ⟨y, hy, rfl⟩ := Option.map_eq_some_iff.mp hz'
          show (y == _) = false
          exact beq_eq_false_iff_ne.mpr fun e => g2 m hm (e ▸ hy)
  | bl _ => exact w1.elim
  | non => exact w1.elim
  | int _ => exact w1.elim
  | str _ => exact w1.elim
  | tup _ _ => exact w1.elim
  | scr _ _ => exact w1.elim
  | dic _ _ _ _ => exact w1.elim
  | dit _ _ _ _ => exact w1.elim
  | dif _ _ _ => exact w1.elim
  | rng _ => exact w1.elim
  | dct _ _ _ _ => exact w1.elim

/-! ### chains of comparisons -/
def PCh (X : Cx) (ops : List CmpOp) (rs : List (Sem Value)) (t : V → TE) : Prop := ∀ (pos : Pos) (pins : List (Addr × Obj)) (s : Shared) (σ : L2.St) (H : Hp) (x : V) (v : Value) (Q : VK), Inv X pins σ H s → RelV x v → t x σ H Q →
  wpAny (model X.prog X.w) X.A (compareChain pos v ops rs) (EP X pins σ Q) X.xe s
def PChT (X : Cx) (ops : List CmpOp) (rs : List (Sem Value)) (t : V → TT) : Prop := ∀ (pos : Pos) (pins : List (Addr × Obj)) (s : Shared) (σ : L2.St) (H : Hp) (x : V) (v : Value) (Q : Bool → Hp → Prop), Inv X pins σ H s → RelV x v → t x σ H Q →
  wpAny (model X.prog X.w) X.A (testChain pos v ops rs) (TP X pins σ Q) X.xe s
/-- .. as functions of data -/
def DCh (X : Cx) (M : Nat → Bool) (F : Fx) (E : L2.St → XK) (ops : List CmpOp) (rs : List (Sem Value)) (g : PyData → Rho → Re PyData) : Prop := ∃ t : V → TE, PCh X ops rs t ∧ ∀ σ H ρ x d lk, ER X.K M F σ H ρ → Rp X.K H (RS M F σ ρ lk) x d → ∀ Q, WE X M F E true false σ ρ H (g d ρ) Q → t x σ H Q
def DChT (X : Cx) (M : Nat → Bool) (F : Fx) (E : L2.St → XK) (ops : List CmpOp) (rs : List (Sem Value)) (g : PyData → Rho → Re Bool) : Prop := ∃ t : V → TT, PChT X ops rs t ∧ ∀ σ H ρ x d lk, ER X.K M F σ H ρ → Rp X.K H (RS M F σ ρ lk) x d → ∀ Q, WT X E σ H (g d ρ) Q → t x σ H Q
def cLast (gg : PyData → PyData → Option PyData) (g : Rho → Re PyData) : PyData → Rho → Re PyData := fun d ρ => (g ρ).andThen fun e => liftO (gg d e)
def cLink (gg : PyData → PyData → Option PyData) (g : Rho → Re PyData) (k : PyData → Rho → Re PyData) : PyData → Rho → Re PyData := fun d ρ => (g ρ).andThen fun e => match gg d e with | some (.bool true) => k e ρ | some (.bool false) => .ok (.bool false) | _ => .bad
def asR (d : Option PyData) : Re Bool := match d with | some (.bool b) => .ok b | _ => .bad
def cLastT (gg : PyData → PyData → Option PyData) (g : Rho → Re PyData) : PyData → Rho → Re Bool := fun d ρ => (g ρ).andThen fun e => asR (gg d e)
def cLinkT (gg : PyData → PyData → Option PyData) (g : Rho → Re PyData) (k : PyData → Rho → Re Bool) : PyData → Rho → Re Bool := fun d ρ => (g ρ).andThen fun e => match gg d e with | some (.bool true) => k e ρ | some (.bool false) => .ok false | _ => .bad
variable {op op' : CmpOp} {ops : List CmpOp} {rs : List (Sem Value)} {r : R2} {gg : PyData → PyData → Option PyData}
theorem rp_true {lk : Bool} {σ : L2.St} {ρ : Rho} {H : Hp} {x : V} {d : PyData} (h : Rp X.K H (RS M F σ ρ lk) x d) : Rp X.K H (RS M F σ ρ true) x d := h.wide rs_t
theorem dch_last (ho : OpR X (compareOp op) r) (hg : SemB X.K r false gg) (hb : DE X M F E lb fb b g) : DCh X M F E [op] [eval b X.env] (cLast gg g) := by
  obtain ⟨tb, pb, hb⟩ := hb
  refine ⟨fun x σ H Q => tb σ H fun y H2 => r x y H2 Q, fun pos pins s σ H x v Q I rx h => ?_, fun σ H ρ x d lk er rx Q w => ?_⟩
  · refine chain_last (thn (pb.run pins s σ H _ I h) ?_)
    rintro w' s4 ⟨z', H4, I4, r4, q4⟩
    exact ho pins s4 σ H4 x z' v w' Q I4 rx r4 q4
  · refine hb σ H ρ er _ (we_step (lk' := lb) w fun e v H1 e1 s1 r1 _ w1 => ?_)
    cases q : gg d e with
    | none =>
      rw [q] at w1
      exact w1.elim
    | some z =>
      rw [q] at w1
      exact hg (RS M F σ ρ true) H1 x v d e z Q (er.same s1).freshS ((rp_true rx).same s1) (rp_true r1) q fun v' H' s' r' f' => w1 v' H' s' r' f'
theorem dch_link {g1 : Sem Value} {k : PyData → Rho → Re PyData} (ho : OpR X (compareOp op) r) (hg : SemB X.K r false gg) (hb : DE X M F E lb fb b g) (hk : DCh X M F E (op' :: ops) (g1 :: rs) k) : DCh X M F E (op :: op' :: ops) (eval b X.env :: g1 :: rs) (cLink gg g k) := by
  obtain ⟨tb, pb, hb⟩ := hb
  obtain ⟨tk, pk, hk⟩ := hk
  refine ⟨fun x σ H Q => tb σ H fun y H2 => r x y H2 fun z H3 => ∃ c, z = .bl c ∧ (if c = true then tk y σ H3 Q else Q (.bl false) H3), fun pos pins s σ H x v Q I rx h => ?_, fun σ H ρ x d lk er rx Q w => ?_⟩
  · refine chain_link (thn (pb.run pins s σ H _ I h) ?_)
    rintro w' s4 ⟨z', H4, I4, r4, q4⟩
    refine thn (ho pins s4 σ H4 x z' v w' _ I4 rx r4 q4) ?_
    rintro d' s5 ⟨z2, H5, I5, r5, c, e2, q5⟩
    subst e2
    cases r5
    refine wpAny_truthy_bool ?_
    cases c with
    | true => exact pk pos pins s5 σ H5 z' w' Q I5 r4 q5
    | false => exact ⟨.bl false, H5, I5, rfl, q5⟩
  · refine hb σ H ρ er _ (we_step (lk' := lb) w fun e v H1 e1 s1 r1 _ w1 => ?_)
    have er1 := er.same s1
    have w1 : WE X M F E true false σ ρ H1 (match gg d e with | some (.bool true) => k e ρ | some (.bool false) => .ok (.bool false) | _ => .bad) Q := w1
    split at w1
    · rename_i q
      refine hg (RS M F σ ρ true) H1 x v d e (.bool true) _ er1.freshS ((rp_true rx).same s1) (rp_true r1) q fun v' H' s' r' f' => ?_
      cases r'
      refine ⟨true, rfl, ?_⟩
      refine hk σ H' ρ v e true (er1.same s') ((rp_true r1).same s') Q ?_
      revert w1
      cases k e ρ with
      | ok z => exact fun w1 v2 H2 s2 r2 f2 => w1 v2 H2 (s'.trans s2) r2 fun z => nomatch z
      | ex c => exact fun w1 C H2 m s2 => w1 C H2 m (s'.trans s2)
      | bad => exact fun w1 => w1
    · rename_i q
      refine hg (RS M F σ ρ true) H1 x v d e (.bool false) _ er1.freshS ((rp_true rx).same s1) (rp_true r1) q fun v' H' s' r' f' => ?_
      cases r'
      exact ⟨false, rfl, w1 _ H' s' (.bl false) fun z => nomatch z⟩
    · exact w1.elim
theorem dch_lastT (ho : OpR X (compareOp op) r) (hg : SemB X.K r false gg) (hb : DE X M F E lb fb b g) : DChT X M F E [op] [eval b X.env] (cLastT gg g) := by
  obtain ⟨tb, pb, hb⟩ := hb
  refine ⟨fun x σ H Q => tb σ H fun y H2 => r x y H2 fun z H3 => ∃ c, z = .bl c ∧ Q c H3, fun pos pins s σ H x v Q I rx h => ?_, fun σ H ρ x d lk er rx Q w => ?_⟩
  · refine test_last (thn (pb.run pins s σ H _ I h) ?_)
    rintro w' s4 ⟨z', H4, I4, r4, q4⟩
    refine thn (ho pins s4 σ H4 x z' v w' _ I4 rx r4 q4) ?_
    rintro d' s5 ⟨z2, H5, I5, r5, c, e2, q5⟩
    subst e2
    cases r5
    exact wpAny_truthy_bool ⟨H5, I5, q5⟩
  · refine hb σ H ρ er _ (wt_step (M := M) (F := F) (lk' := lb) w fun e v H1 e1 s1 r1 _ w1 => ?_)
    have w1 : WT X E σ H1 (asR (gg d e)) Q := w1
    unfold asR at w1
    split at w1
    · rename_i bb q
      refine hg (RS M F σ ρ true) H1 x v d e (.bool bb) _ (er.same s1).freshS ((rp_true rx).same s1) (rp_true r1) q fun v' H' s' r' f' => ?_
      cases r'
      exact ⟨bb, rfl, w1 H' s'⟩
    · exact w1.elim
theorem dch_linkT {g1 : Sem Value} {k : PyData → Rho → Re Bool} (ho : OpR X (compareOp op) r) (hg : SemB X.K r false gg) (hb : DE X M F E lb fb b g) (hk : DChT X M F E (op' :: ops) (g1 :: rs) k) : DChT X M F E (op :: op' :: ops) (eval b X.env :: g1 :: rs) (cLinkT gg g k) := by
  obtain ⟨tb, pb, hb⟩ := hb
  obtain ⟨tk, pk, hk⟩ := hk
  refine ⟨fun x σ H Q => tb σ H fun y H2 => r x y H2 fun z H3 => ∃ c, z = .bl c ∧ (if c = true then tk y σ H3 Q else Q false H3), fun pos pins s σ H x v Q I rx h => ?_, fun σ H ρ x d lk er rx Q w => ?_⟩
  · refine test_link (thn (pb.run pins s σ H _ I h) ?_)
    rintro w' s4 ⟨z', H4, I4, r4, q4⟩
    refine thn (ho pins s4 σ H4 x z' v w' _ I4 rx r4 q4) ?_
    rintro d' s5 ⟨z2, H5, I5, r5, c, e2, q5⟩
    subst e2
    cases r5
    refine wpAny_truthy_bool ?_
    cases c with
    | true => exact pk pos pins s5 σ H5 z' w' Q I5 r4 q5
    | false => exact ⟨H5, I5, q5⟩
  · refine hb σ H ρ er _ (wt_step (M := M) (F := F) (lk' := lb) w fun e v H1 e1 s1 r1 _ w1 => ?_)
    have er1 := er.same s1
    have w1 : WT X E σ H1 (match gg d e with | some (.bool true) => k e ρ | some (.bool false) => .ok false | _ => .bad) Q := w1
    split at w1
    · rename_i q
      refine hg (RS M F σ ρ true) H1 x v d e (.bool true) _ er1.freshS ((rp_true rx).same s1) (rp_true r1) q fun v' H' s' r' f' => ?_
      cases r'
      refine ⟨true, rfl, ?_⟩
      refine hk σ H' ρ v e true (er1.same s') ((rp_true r1).same s') Q ?_
      revert w1
      cases k e ρ with
      | ok z => exact fun w1 H2 s2 => w1 H2 (s'.trans s2)
      | ex c => exact fun w1 C H2 m s2 => w1 C H2 m (s'.trans s2)
      | bad => exact fun w1 => w1
    · rename_i q
      refine hg (RS M F σ ρ true) H1 x v d e (.bool false) _ er1.freshS ((rp_true rx).same s1) (rp_true r1) q fun v' H' s' r' f' => ?_
      cases r'
      exact ⟨false, rfl, w1 H' s'⟩
    · exact w1.elim
def rCh (f : Rho → Re PyData) (g : PyData → Rho → Re PyData) : Rho → Re PyData := fun ρ => (f ρ).andThen fun d => g d ρ
def rChT (f : Rho → Re PyData) (g : PyData → Rho → Re Bool) : Rho → Re Bool := fun ρ => (f ρ).andThen fun d => g d ρ
theorem de_chain {c1 c2 : Expr} {cs : List Expr} {h : PyData → Rho → Re PyData} (ha : DE X M F E la fa a f) (hk : DCh X M F E (op :: op' :: ops) (eval c1 X.env :: eval c2 X.env :: evalEach cs X.env) h) (hm : lastMarks (op :: op' :: ops) (c1 :: c2 :: cs) = false := by with_unfolding_all rfl) :
    DE X M F E true false (.Compare a (op :: op' :: ops) (c1 :: c2 :: cs) pos) (rCh f h) := by
  obtain ⟨ta, pa, ha⟩ := ha
  obtain ⟨tk, pk, hk⟩ := hk
  refine ⟨fun σ H Q => ta σ H fun x H1 => tk x σ H1 Q, ⟨fun pins s σ H Q I hw => Compare_chain (thn (pa.run pins s σ H _ I hw) ?_) hm⟩, fun σ H ρ er Q w => ?_⟩
  · rintro v s1 ⟨x, H1, I1, r1, q1⟩
    exact pk _ pins s1 σ H1 x v Q I1 r1 q1
  · exact ha σ H ρ er _ (we_step (lk' := la) w fun d v H1 e1 s1 r1 _ w1 => hk σ H1 ρ v d la (er.same s1) r1 Q w1)
theorem dt_chain {c1 c2 : Expr} {cs : List Expr} {h : PyData → Rho → Re Bool} (ha : DE X M F E la fa a f) (hk : DChT X M F E (op :: op' :: ops) (eval c1 X.env :: eval c2 X.env :: evalEach cs X.env) h) (hm : lastMarks (op :: op' :: ops) (c1 :: c2 :: cs) = false := by with_unfolding_all rfl) :
    DT X M F E (.Compare a (op :: op' :: ops) (c1 :: c2 :: cs) pos) (rChT f h) := by
  obtain ⟨ta, pa, ha⟩ := ha
  obtain ⟨tk, pk, hk⟩ := hk
  refine ⟨fun σ H Q => ta σ H fun x H1 => tk x σ H1 Q, ⟨fun pins s σ H Q I hw => isTrue_chain (thn (pa.run pins s σ H _ I hw) ?_) hm⟩, fun σ H ρ er Q w => ?_⟩
  · rintro v s1 ⟨x, H1, I1, r1, q1⟩
    exact pk _ pins s1 σ H1 x v Q I1 r1 q1
  · exact ha σ H ρ er _ (wt_step (M := M) (F := F) (lk' := la) w fun d v H1 e1 s1 r1 _ w1 => hk σ H1 ρ v d la (er.same s1) r1 Q w1)
end
end Pu

set_option Elab.async false
set_option linter.all false
set_option maxRecDepth 100000
set_option maxHeartbeats 2000000
namespace Pu
open PySem PySem.Spec PyProof.Rows L2
variable [TabL]

section
variable {X : Cx} {M : Nat → Bool} {F : Fx} {E : L2.St → XK} {s u : Rho → Sr} {pos : Pos} {i : Nat} {a : Addr} {b b' : Bool}
/-! ### a suite whose slot i holds the error at a -/
def DSE (X : Cx) (M : Nat → Bool) (F : Fx) (E : L2.St → XK) (i : Nat) (a : Addr) (st : List Stmt) (s : Rho → Sr) : Prop := ∃ t : TS, PSs X st t ∧ ∀ σ H ρ, ER X.K M F σ H ρ → σ[i]? = some (some (.ref a)) → ∀ D, WS X M F E σ H ρ (s ρ) D → t D σ H
theorem dse_of {st : List Stmt} (h : DSs X M F E st s) : DSE X M F E i a st s := by
  obtain ⟨t, p, h⟩ := h
  exact ⟨t, p, fun σ H ρ er _ D w => h σ H ρ er D w⟩
def DEe (X : Cx) (i : Nat) (a : Addr) (e : Expr) (b : Bool) : Prop := ∃ t : TE, PE X e t ∧ ∀ σ H, σ[i]? = some (some (.ref a)) → ∀ Q : VK, Q (.bl b) H → t σ H Q
def DTe (X : Cx) (i : Nat) (a : Addr) (e : Expr) (b : Bool) : Prop := ∃ t : TT, PT X e t ∧ ∀ σ H, σ[i]? = some (some (.ref a)) → ∀ Q : Bool → Hp → Prop, Q b H → t σ H Q
def DWe (X : Cx) (i : Nat) (a : Addr) (e : Expr) (b : Bool) : Prop := ∃ t : TT, PW X e t ∧ ∀ σ H, σ[i]? = some (some (.ref a)) → ∀ Q : Bool → Hp → Prop, Q b H → t σ H Q
theorem DWe.pt {e : Expr} (h : DWe X i a e b) : DTe X i a e b := by
  obtain ⟨t, p, h⟩ := h
  exact ⟨t, p.pt, h⟩
theorem dte_val {e : Expr} (h : DEe X i a e b) (he : ∀ whole, isTrue e X.env whole = (do let v ← whole; standAt e.pos; holding [v] (truthy v)) := by intro _; rfl) : DTe X i a e b := by
  obtain ⟨t, p, h⟩ := h
  exact ⟨_, pt_val p he, fun σ H hs Q q => h σ H hs _ ⟨b, rfl, q⟩⟩
theorem dte_not {c : Expr} (h : DTe X i a c b) : DTe X i a (.UnaryOp .Not c pos) (!b) := by
  obtain ⟨t, p, h⟩ := h
  exact ⟨_, pt_not p, fun σ H hs Q q => h σ H hs _ q⟩
theorem dwe_or1 {c : Expr} (h : DTe X i a c b) : DWe X i a (.BoolOp .Or [c] pos) b := by
  obtain ⟨t, p, h⟩ := h
  exact ⟨t, pw_or1 p, h⟩
theorem dwe_or {c d : Expr} {rest : List Expr} (h : DTe X i a c b) (k : DWe X i a (.BoolOp .Or (d :: rest) pos) b') : DWe X i a (.BoolOp .Or (c :: d :: rest) pos) (b || b') := by
  obtain ⟨t, p, h⟩ := h
  obtain ⟨t', p', k⟩ := k
  refine ⟨_, pw_or p p', fun σ H hs Q q => h σ H hs _ ?_⟩
  cases b with
  | true => exact q
  | false => exact k σ H hs Q q
theorem dwe_and1 {c : Expr} (h : DTe X i a c b) : DWe X i a (.BoolOp .And [c] pos) b := by
  obtain ⟨t, p, h⟩ := h
  exact ⟨t, pw_and1 p, h⟩
theorem dwe_and {c d : Expr} {rest : List Expr} (h : DTe X i a c b) (k : DWe X i a (.BoolOp .And (d :: rest) pos) b') : DWe X i a (.BoolOp .And (c :: d :: rest) pos) (b && b') := by
  obtain ⟨t, p, h⟩ := h
  obtain ⟨t', p', k⟩ := k
  refine ⟨_, pw_and p p', fun σ H hs Q q => h σ H hs _ ?_⟩
  cases b with
  | true => exact k σ H hs Q q
  | false => exact q
theorem dse_if {c : Expr} {x y rest : List Stmt} {s1 s2 : Rho → Sr} (hc : DTe X i a c b) (hx : DSs X M F E x s1) (hy : DSs X M F E y s2) (hr : DSs X M F E rest u) : DSE X M F E i a (.If c x y pos :: rest) (sSeq (if b = true then s1 else s2) u) := by
  obtain ⟨t, pc, hc⟩ := hc
  obtain ⟨t1, p1, h1⟩ := hx
  obtain ⟨t2, p2, h2⟩ := hy
  obtain ⟨t3, p3, h3⟩ := hr
  refine ⟨_, pss_cons (ps_if pc p1 p2) p3, fun σ H ρ er hs D w => ?_⟩
  refine hc σ H hs _ ?_
  have key : ∀ {s' : Rho → Sr} {t' : TS}, (∀ σ H ρ, ER X.K M F σ H ρ → ∀ D, WS X M F E σ H ρ (s' ρ) D → t' D σ H) → WS X M F E σ H ρ (sSeq s' u ρ) D → t' { D with nx := fun σ' H' => t3 D σ' H' } σ H := by
    intro s' t' ht w
    refine ht σ H ρ er _ ?_
    unfold sSeq at w
    cases q : s' ρ with
    | nx ρ' =>
      rw [q] at w
      exact fun σ' H' er' ev => h3 σ' H' ρ' er' D (ws_evo ev w)
    | rt d =>
      rw [q] at w
      exact w
    | bk ρ' =>
      rw [q] at w
      exact w
    | ct ρ' =>
      rw [q] at w
      exact w
    | ex c ρ' =>
      rw [q] at w
      exact w
    | bad =>
      rw [q] at w
      exact w
  cases b with
  | true => exact key h1 w
  | false => exact key h2 w
/-- isinstance(e, C), C an own class -/
theorem dee_own {D Cy : Addr} {oe : Obj} {pn : List (Addr × Obj)} {n y : Str} {p p1 p2 : Pos} (Ex : ExcC X.K D) (hz : Zc (.ref D) none oe) (hf : ∃ vs, oe.data = .fields vs) (hg : Gl X "isinstance") (hm : X.mg "isinstance" = none)
    (hN : X.N[i]? = some n) (hv : Vis X.env.scope n) (hy : Gl X y) (hmy : X.mg y = some (.ref Cy)) (hk : PySem.W.kitOne X.K (.ref D) (.ref Cy) = some b)
    (hdn : (n == ("__debug__" : Str)) = false := by decide) (hcd : (n == ("__classdict__" : Str)) = false := by decide) (hdy : (y == ("__debug__" : Str)) = false := by decide)
    (h1 : starEach [.Name n p1, .Name y p2] X.env = (false, eval (.Name n p1) X.env) :: starEach [.Name y p2] X.env := by rfl) (h2 : starEach [.Name y p2] X.env = (false, eval (.Name y p2) X.env) :: starEach [] X.env := by rfl) (hpl : (backTo pos (starEach [.Name y p2] X.env)).any (·.1) = false := by rfl) :
    DEe (X.suite a ((a, oe) :: pn)) i a (.Call (.Name "isinstance" p) [.Name n p1, .Name y p2] [] pos) b := by
  refine ⟨_, pe_callB (X := X.suite a ((a, oe) :: pn)) (call_isE Ex hz hf) hg hm PyProof.Rows.boot_isinstance (pa_cons (pe_var hN hv hdn hcd) (pa_cons (pe_glob (v := .ref Cy) hy hmy rfl hdy) pa_nil h2) h1) (he := h1) (hpl := hpl), fun σ H hs Q q => ?_⟩
  exact ⟨_, hs, .ref Cy, .ref Cy, b, rfl, fun _ r => r, hk, q⟩
/-- .. a built-in class -/
theorem dee_ty {D : Addr} {T : String} {oe : Obj} {pn : List (Addr × Obj)} {n y : Str} {p p1 p2 : Pos} (Ex : ExcC X.K D) (hz : Zc (.ref D) none oe) (hf : ∃ vs, oe.data = .fields vs) (hg : Gl X "isinstance") (hm : X.mg "isinstance" = none)
    (hN : X.N[i]? = some n) (hv : Vis X.env.scope n) (hy : Gl X y) (hmy : X.mg y = none) (hb : bootBuiltins y = some (.type T)) (hk : PySem.W.kitOne X.K (.ref D) (.type T) = some b)
    (hnT : y ≠ "__name__" := by decide) (hdn : (n == ("__debug__" : Str)) = false := by decide) (hcd : (n == ("__classdict__" : Str)) = false := by decide) (hdy : (y == ("__debug__" : Str)) = false := by decide)
    (h1 : starEach [.Name n p1, .Name y p2] X.env = (false, eval (.Name n p1) X.env) :: starEach [.Name y p2] X.env := by rfl) (h2 : starEach [.Name y p2] X.env = (false, eval (.Name y p2) X.env) :: starEach [] X.env := by rfl) (hpl : (backTo pos (starEach [.Name y p2] X.env)).any (·.1) = false := by rfl) :
    DEe (X.suite a ((a, oe) :: pn)) i a (.Call (.Name "isinstance" p) [.Name n p1, .Name y p2] [] pos) b := by
  refine ⟨_, pe_callB (X := X.suite a ((a, oe) :: pn)) (call_isE Ex hz hf) hg hm PyProof.Rows.boot_isinstance (pa_cons (pe_var hN hv hdn hcd) (pa_cons (pe_bltn (v := .ty T) hy hmy hb rfl hnT hdy) pa_nil h2) h1) (he := h1) (hpl := hpl), fun σ H hs Q q => ?_⟩
  exact ⟨_, hs, .ty T, .type T, b, rfl, fun _ r => r, hk, q⟩

/-- try: body; except c as n: suite -/
def sTryAs (c : Str) (i : Nat) (s u : Rho → Sr) : Rho → Sr := fun ρ => match s ρ with
  | .ex c' ρ' => if c' = c ∧ i < ρ'.length then (match u (ρ'.set i none) with
    | .nx ρ2 => .nx (ρ2.set i none)
    | .bk ρ2 => .bk (ρ2.set i none)
    | .ct ρ2 => .ct (ρ2.set i none)
    | .rt d => .rt d
    | .ex _ _ => .bad
    | .bad => .bad) else .bad
  | r => r
def canSE (X : Cx) (M : Nat → Bool) (E : L2.St → XK) (i : Nat) (a : Addr) (s : Rho → Sr) : TS := fun D σ H => ∃ (F : Fx) (ρ : Rho), ER X.K M F σ H ρ ∧ σ[i]? = some (some (.ref a)) ∧ WS X M F E σ H ρ (s ρ) D
theorem canSE_ok {st : List Stmt} (h : ∀ F, DSE X M F E i a st s) : PSs X st (canSE X M E i a s) := ⟨fun pins sh σ H D I ⟨F, ρ, er, hs, w⟩ => by
  obtain ⟨t, pt, h⟩ := h F
  exact pt.run pins sh σ H D I (h σ H ρ er hs D w)⟩

theorem ER.blot {σ : L2.St} {ρ : Rho} {H : Hp} (e : ER X.K M F σ H ρ) {i : Nat} (m : M i = false) (w : Option V) : ER X.K M F (σ.set i w) H (ρ.set i none) ∧ Evo M σ H ρ (σ.set i w) H (ρ.set i none) := by
  have own : ∀ a, OwnA M (σ.set i w) (ρ.set i none) a ↔ OwnA M σ ρ a := fun a => by
    constructor
    · rintro ⟨j, x, mj, r, s⟩
      have hj : i ≠ j := fun z => by
        subst z
        rw [m] at mj
        cases mj
      rw [List.getElem?_set_ne hj] at r s
      exact ⟨j, x, mj, r, s⟩
    · rintro ⟨j, x, mj, r, s⟩
      have hj : i ≠ j := fun z => by
        subst z
        rw [m] at mj
        cases mj
      exact ⟨j, x, mj, by rw [List.getElem?_set_ne hj]; exact r, by rw [List.getElem?_set_ne hj]; exact s⟩
  have rs : ∀ lk, RS M F (σ.set i w) (ρ.set i none) lk = RS M F σ ρ lk := fun lk => by
    funext a
    unfold RS
    rw [propext (own a)]
  have back : ∀ {j : Nat} {d : PyData}, (ρ.set i none)[j]? = some (some d) → i ≠ j ∧ ρ[j]? = some (some d) := fun {j d} q => by
    have hj : i ≠ j := fun z => by
      subst z
      have hi := getSome q
      rw [List.length_set] at hi
      rw [List.getElem?_set_self hi] at q
      cases q
    rw [List.getElem?_set_ne hj] at q
    exact ⟨hj, q⟩
  refine ⟨⟨by rw [List.length_set, List.length_set]; exact e.len, e.old, e.new, e.tab, fun j d q mj => ?_, fun j d q mj => ?_, fun j k d e' p mj mk q1 q2 s1 s2 => ?_⟩, fun a u q n _ => ⟨q, fun o => n ((own a).mp o)⟩⟩
  · obtain ⟨hj, q⟩ := back q
    obtain ⟨v, s, r⟩ := e.im j d q mj
    rw [rs]
    exact ⟨v, by rw [List.getElem?_set_ne hj]; exact s, r⟩
  · obtain ⟨hj, q⟩ := back q
    obtain ⟨p, s, z, w⟩ := e.ow j d q mj
    rw [rs]
    exact ⟨p, by rw [List.getElem?_set_ne hj]; exact s, z, w⟩
  · obtain ⟨hj, q1⟩ := back q1
    obtain ⟨hk, q2⟩ := back q2
    rw [List.getElem?_set_ne hj] at s1
    rw [List.getElem?_set_ne hk] at s2
    exact e.ap j k d e' p mj mk q1 q2 s1 s2
theorem ds_tryAs {c n : Str} {C : Addr} {i : Nat} {body suite : List Stmt} {b0 : Stmt} {np pos' : Pos} {k : Nat} (G : Gd X E k) (Ec : ErrC X.K X.mg c C) (hn : Gl X c ∧ (c == ("__debug__" : Str)) = false)
    (mi : M i = false) (hN : X.N.Nodup)
    (hb : ∀ (W : WX) (pn : List (Addr × Obj)) (xe : Value → Shared → Prop), Gd (X.tr pn xe) (fun σ cls d H => W cls d σ H) k → ∀ F, DSs (X.tr pn xe) M F (fun σ cls d H => W cls d σ H) body s)
    (hs : ∀ (a : Addr) (oe : Obj) (pn : List (Addr × Obj)) (F : Fx), Zc (.ref C) none oe → (∃ vs, oe.data = .fields vs) → DSE (X.suite a ((a, oe) :: pn)) M F E0s i a (b0 :: suite) u)
    (hi : X.N[i]? = some n := by rfl) (hln : X.env.kindOf n = some .local := by rfl) :
    DS X M F E (.Try body [.ExceptHandler (some (.Name c np)) (some n) (b0 :: suite) pos'] [] [] pos) (sTryAs c i s u) := by
  refine ⟨_, ps_try_as (tb := fun W => canS X M (fun σ cls d H => W cls d σ H) s) (ts := fun a cls d D σ H => (cls = .ref C ∧ d = none) ∧ canSE X M E0s i a u D σ H) G.stk G.frm hN hi hln ⟨hn.1, hn.2, .inl Ec.gC⟩ G.tk
    (fun W pn xe tk po => canS_ok (hb W pn xe ⟨G.room, fun σ => passAt tk σ, tk, po, G.stk, G.frm⟩)) (fun a oe cls d pn hz hf => ⟨fun pins sh σ H D I ⟨⟨e1, e2⟩, q⟩ => ?_⟩), fun σ H ρ er D w => ?_⟩
  · subst e1 e2
    exact (canSE_ok (fun F => hs a oe pn F hz hf)).run pins sh σ H D I q
  refine ⟨F, ρ, er, ?_⟩
  unfold sTryAs at w
  cases q : s ρ with
  | ex c' ρ' =>
    rw [q] at w
    have w2 : WS X M F E σ H ρ (if c' = c ∧ i < ρ'.length then (match u (ρ'.set i none) with
      | .nx ρ2 => .nx (ρ2.set i none)
      | .bk ρ2 => .bk (ρ2.set i none)
      | .ct ρ2 => .ct (ρ2.set i none)
      | .rt d => .rt d
      | .ex _ _ => .bad
      | .bad => .bad) else .bad) D := w
    clear w
    by_cases hc : c' = c ∧ i < ρ'.length
    · obtain ⟨hc, hl2⟩ := hc
      rw [if_pos ⟨hc, hl2⟩] at w2
      rw [hc]
      refine fun C' σ' H' m er' ev => ⟨true, ?_, fun _ a ha => ?_, fun z => nomatch z⟩
      · rw [Ec.gC] at m
        cases m
        exact Ec.eP
      · rw [Ec.gC] at m
        cases m
        obtain ⟨er2, ev2⟩ := er'.blot mi (some (.ref a))
        refine ⟨⟨rfl, rfl⟩, F, ρ'.set i none, er2, List.getElem?_set_self (by rw [← er'.len]; exact hl2), ?_⟩
        have w1 := ws_evo (ev.trans ev2) w2
        revert w1
        generalize u (ρ'.set i none) = r
        intro w1
        cases r with
        | ex c2 ρ2 => exact w1.elim
        | nx ρ2 => exact fun σ4 H4 er4 ev4 => w1 _ _ (er4.blot mi none).1 (ev4.trans (er4.blot mi none).2)
        | rt d => exact w1
        | bk ρ2 => exact fun σ4 H4 er4 ev4 => w1 _ _ (er4.blot mi none).1 (ev4.trans (er4.blot mi none).2)
        | ct ρ2 => exact fun σ4 H4 er4 ev4 => w1 _ _ (er4.blot mi none).1 (ev4.trans (er4.blot mi none).2)
        | bad => exact w1.elim
    · rw [if_neg hc] at w2
      exact w2.elim
  | nx ρ' =>
    rw [q] at w
    exact w
  | rt d =>
    rw [q] at w
    exact w
  | bk ρ' =>
    rw [q] at w
    exact w
  | ct ρ' =>
    rw [q] at w
    exact w
  | bad =>
    rw [q] at w
    exact w
end
end Pu

set_option Elab.async false
set_option linter.all false
set_option maxRecDepth 100000
set_option maxHeartbeats 2000000
namespace Pu
open PySem PySem.Spec PyProof.Rows L2
variable [TabL]

/-! ### a def and its mirror -/
def Has (P : Program) (w : World) (K : PySem.W.Frag) (mg : Str → Option Value) (base : Heap) (k : Nat) (x : Str) (ps : List Str) (f : List PyData → Re PyData) : Prop :=
  ∃ (fA : Addr) (fd : FuncData), FnOk P w K mg base (L2.CX P w) k fA fd ps (spD mg f K) ∧ mg x = some (.ref fA) ∧ PySem.W.keepIn K (.ref fA) = true ∧ Binds K fd ps []
def FnAt (K : PySem.W.Frag) (mg : Str → Option Value) (x : Str) (st : Stmt) : Prop := ∃ (fA : Addr) (fd : FuncData), FunD K x x (defArgs st) (defBody st) (defScope st) [] [] fA fd ∧ mg x = some (.ref fA)
section
variable {P : Program} {w : World} {K : PySem.W.Frag} {mg : Str → Option Value} {base : Heap}
theorem has_of {x : Str} {st : Stmt} {N ps : List Str} {k : Nat} (h : FnAt K mg x st) (S : FnScope N ps (defScope st)) (M : Nat → Bool) (hM : ∀ i, i < ps.length → M i = false) (s : Rho → Sr)
    (hbn : ∀ (kV doc pm : Value) (an : Option Addr) (cdv ct : Value) (us : List Value), us.length = ps.length → bindArgs (PySem.W.fnOf x x (defArgs st) (defBody st) (defScope st) .none kV doc pm an cdv ct) ⟨us, []⟩ = pure (ps.zip us))
    (hb : ∀ (fA : Addr) (cdv : Value) (A : Around) (outer : List Env) (sh : Shared) (H : Hp) (Ex : XK), Gd (cxOf (L2.CX P w) P w K mg base N x (defScope st) fA cdv A outer sh H Ex) (fun _ => Ex) k →
      ∀ F : Fx, DSs (cxOf (L2.CX P w) P w K mg base N x (defScope st) fA cdv A outer sh H Ex) M F (fun _ => Ex) (defBody st) s) :
    Has P w K mg base (k + 1) x ps (runF ps.length N.length s) := by
  obtain ⟨fA, fd, Fd, hg⟩ := h
  exact ⟨fA, fd, def_ok Fd S M hM s fun cdv A outer sh H Ex G F => hb fA cdv A outer sh H Ex G F, hg, Fd.kp, Fd.bindsN hbn⟩
end
section
variable {X : Cx} {M : Nat → Bool} {F : Fx} {E : L2.St → XK} {la fa : Bool} {a : Expr} {pos : Pos}
theorem de_fn {k : Nat} {ps : List Str} {ff : List PyData → Re PyData} {x : Str} {es : List Expr} {gs : Rho → Re (List PyData)} {p : Pos} (h : Has X.prog X.w X.K X.mg X.base k x ps ff) (hr : Room k X.A) (hx : ∀ σ, PassesAt (L2.CX X.prog X.w) X σ (E σ)) (ha : DA X M F E la (a :: es) gs)
    (hg : Gl X x := by rfl) (hdb : (x == ("__debug__" : Str)) = false := by decide) (he : starEach (a :: es) X.env = (false, eval a X.env) :: starEach es X.env := by rfl) (hpl : (backTo pos (starEach es X.env)).any (·.1) = false := by rfl) :
    DE X M F E la false (.Call (.Name x p) (a :: es) [] pos) (rCall ff gs) := by
  obtain ⟨fA, fd, G, hm, kp, bb⟩ := h
  exact de_call G hr hg hm kp bb hx ha hdb he hpl
end

/-! ### the law's end -/
theorem rpA_ints {K : PySem.W.Frag} {H : Hp} {S : Addr → Prop} : ∀ ns : List Int, RpA K H S (ns.map V.int) (ns.map PyData.int)
  | [] => .nil
  | n :: ns => .cons (.int n) (rpA_ints ns)
/-- the script as data -/
def scrD (ns : List Int) : PyData := .dict [(.none, .list (ns.map PyData.int))]
theorem end_sp {mg : Str → Option Value} {K : PySem.W.Frag} {f : List PyData → Re PyData} {ns : List Int} {H : Hp} {a : Addr} (h : f [scrD ns] = .ok (.bool true)) (hT : LamX.Tabs TabL.T H) (hS : SqL K H a (ns.map V.int)) (hx : ∀ H' : Hp, ((∃ o, H a = some (.frz o (.lst (ns.map V.int)))) ∨ H a = some (.lst (ns.map V.int))) ∨ SqL K H' a (ns.map V.int)) : spD mg f K [.ref a] H (fun v _ => v = .bl true) fun _ _ _ => False := by
  refine ⟨[scrD ns], fun _ => True, .cons (.scr ?_ (rpA_ints ns)) .nil, ⟨fun _ _ => trivial, hT⟩, ?_⟩
  · by_cases c : (∃ o, H a = some (.frz o (.lst (ns.map V.int)))) ∨ H a = some (.lst (ns.map V.int))
    · rcases c with c | c
      · exact .inr (.inl c)
      · exact .inl ⟨c, trivial⟩
    · exact .inr (.inr fun H' => (hx H').resolve_left c)
  · rw [h]
    intro v H' _ r
    cases r
    rfl
/-- cs: the code objects and their tables; T tells their lambdas' names -/
theorem walkT {l : PySem.W.OpenLaw} {n k : Nat} {q : Program} {loose : List Str} {XP : (Str → Option Value) → Heap → Prop} {YP : World → Heap → Prop} {d : DefRec} {x : Str} {f : List PyData → Re PyData}
    (hn : l.most = some n) (hn2 : n ≤ sizeLine) (hdf : d.params.defaults = []) (hr : Room k callerA)
    (hf : ∀ ns : List Int, ns.length ≤ n → f [scrD ns] = .ok (.bool true))
    (F : ∀ (w : World) (mg : Str → Option Value) (fa : Addr) (h : Heap), YP w h → h.Ns mainGlobals mg → mg d.name = some (.ref fa) →
      ∃ (K : PySem.W.Frag) (fd : FuncData) (cs : List (Addr × Addr)) (T : List (Addr × Str)), K.In h ∧ (∀ p ∈ cs, h.get? p.2 = some { cls := .none, data := .fields #[] }) ∧ (∀ p ∈ cs, K.lookup p.2 = none) ∧ (∀ p ∈ cs, PySem.W.CodeHd h p.1 p.2) ∧ (∀ t ∈ T, ∃ p ∈ cs, p.2 = t.1) ∧
        (∀ (s : Shared) (u : Value), BindsTo s fd ⟨[u], []⟩ [(x, u)]) ∧ ∀ base : Heap, K.In base → base.Ns mainGlobals mg → (∀ p ∈ cs, LamX.TabB base mg p.1 p.2) → letI : TabL := ⟨T⟩; FnOk l.prog w K mg base (L2.CX l.prog w) k fa fd [x] (spD mg f K)) :
    PySem.W.WalkO q loose XP YP l.row.toRowW d [] (fun f vs => PySem.call f vs) := by
  refine Att.attach_callB hn hdf fun w s₀ s₁ mg mb fA o pm cd doc a vs ns G Y ho hd hcd hmg hobj hints hlen hbits hg => ?_
  obtain ⟨K, fd, cs, T, KX, h1, h2, h3, h4, h5, h6⟩ := F w mg fA _ Y G.T.g hmg
  refine LamX.law_callTs KX G.T.g G.T.b G.T.builtins G.T.nolimit hg h1 h2 h3 G.T.bmain hobj hints (Nat.le_trans hlen hn2) hr h6 h5 (fun H hH hS => ?_) fun H e s' c => ?_
  · letI : TabL := ⟨T⟩
    refine end_sp (hf ns hlen) (fun t ht => ?_) hS fun H' => ?_
    · obtain ⟨p, hp, e⟩ := h4 t ht
      exact LamX.TabS.nil (e ▸ hH p hp)
    · rcases hS with (h1 | h1) | h1
      · exact .inl (.inr h1)
      · exact .inl (.inl h1)
      · exact .inr (.inr h1)
  · obtain ⟨_, _, _, _, _, _, _, _, _, _, _, _, z⟩ := c
    exact z.elim
/-- the law's def, where the row calls it -/
theorem law_fn {P : Program} {w : World} {K : PySem.W.Frag} {mg : Str → Option Value} {x p : Str} {st : Stmt} {k : Nat} {f : List PyData → Re PyData} {fa : Addr} (hx : mg x = some (.ref fa)) (h : FnAt K mg x st)
    (hbn : ∀ (kV doc pm : Value) (an : Option Addr) (cdv ct : Value) (us : List Value), us.length = [p].length → bindArgs (PySem.W.fnOf x x (defArgs st) (defBody st) (defScope st) .none kV doc pm an cdv ct) ⟨us, []⟩ = pure ([p].zip us))
    (hh : ∀ base : Heap, K.In base → base.Ns mainGlobals mg → ∀ (fA : Addr) (fd : FuncData), FunD K x x (defArgs st) (defBody st) (defScope st) [] [] fA fd → mg x = some (.ref fA) → FnOk P w K mg base (L2.CX P w) k fA fd [p] (spD mg f K)) :
    ∃ fd : FuncData, (∀ (s : Shared) (u : Value), BindsTo s fd ⟨[u], []⟩ [(p, u)]) ∧ ∀ base : Heap, K.In base → base.Ns mainGlobals mg → FnOk P w K mg base (L2.CX P w) k fa fd [p] (spD mg f K) := by
  obtain ⟨fA, fd, Fd, hg⟩ := h
  have e := hx.symm.trans hg
  cases e
  have b := FunD.bindsA (ps := [p]) Fd hbn
  exact ⟨fd, fun s u => b s [u] rfl, fun base h1 h2 => hh base h1 h2 _ fd Fd hg⟩

/-! ### the head: facts of one's own beside He.Fa -/
def excB (K : PySem.W.Frag) (D : Addr) : Bool := He.eqO (PySem.W.findIn K (.ref D) "__getattribute__") (some (some (.builtin "BaseException.__getattribute__"))) && (He.eqO (PySem.W.findIn K (.ref D) "__getattr__") (some none) &&
  (decide (PySem.W.subIn K (.ref D) (.type "BaseException") = some true) && (PySem.W.hasDictIn K D && (He.eqO (PySem.W.findIn K (.ref D) "__class__") (some (some (.builtin "object.__class__"))) &&
  (He.eqO (PySem.W.specialIn K (.builtin "object.__class__") "__get__") (some (some (.builtin "getset_descriptor.__get__"))) && (decide (PySem.W.takesIn K (.builtin "object.__class__") = some true) && decide (PySem.W.mroIn K D (.type "object") = some true)))))))
theorem excB_ok {K : PySem.W.Frag} {D : Addr} (h : excB K D = true) : ExcC K D := by
  obtain ⟨h1, h⟩ := He.ba h
  obtain ⟨h2, h⟩ := He.ba h
  obtain ⟨h3, h⟩ := He.ba h
  obtain ⟨h4, h⟩ := He.ba h
  obtain ⟨h5, h⟩ := He.ba h
  obtain ⟨h6, h⟩ := He.ba h
  obtain ⟨h7, h8⟩ := He.ba h
  exact ⟨He.eqO_ok h1, He.eqO_ok h2, of_decide_eq_true h3, h4, He.eqO_ok h5, He.eqO_ok h6, of_decide_eq_true h7, of_decide_eq_true h8⟩
/-- y: isinstance of an error of x is b -/
def kitB2 (K : PySem.W.Frag) (x y : Str) (b : Bool) : Bool := decide (PySem.W.kitOne K (.ref (He.ga K x)) (.ref (He.ga K y)) = some b)
def kitT2 (K : PySem.W.Frag) (x T : Str) (t : String) (b : Bool) : Bool := decide (PySem.W.kitOne K (.ref (He.ga K x)) (.type t) = some b)
inductive Fx2 where
  | exc (x : Str)
  | kit (x y : Str) (b : Bool)
  | kitT (x : Str) (t : String) (b : Bool)
  | blt (x : Str) (id : String)
  | own (x : Str)
  | kitR (t : String) (y : Str) (b : Bool)
  | subR (t : String) (y : Str)
/-- what isinstance asks of an own class -/
def ownB (K : PySem.W.Frag) (D : Addr) : Bool := He.eqO (PySem.W.findIn K (.ref D) "__class__") (some (some (.builtin "object.__class__"))) && (He.eqO (PySem.W.specialIn K (.builtin "object.__class__") "__get__") (some (some (.builtin "getset_descriptor.__get__"))) &&
  (decide (PySem.W.takesIn K (.builtin "object.__class__") = some true) && decide (PySem.W.mroIn K D (.type "object") = some true)))
structure OwnC (K : PySem.W.Frag) (D : Addr) : Prop where
  ha : PySem.W.findIn K (.ref D) "__class__" = some (some (.builtin "object.__class__"))
  hn : PySem.W.specialIn K (.builtin "object.__class__") "__get__" = some (some (.builtin "getset_descriptor.__get__"))
  htk : PySem.W.takesIn K (.builtin "object.__class__") = some true
  hm : PySem.W.mroIn K D (.type "object") = some true
theorem ownB_ok {K : PySem.W.Frag} {D : Addr} (h : ownB K D = true) : OwnC K D := by
  obtain ⟨h1, h⟩ := He.ba h
  obtain ⟨h2, h⟩ := He.ba h
  obtain ⟨h3, h4⟩ := He.ba h
  exact ⟨He.eqO_ok h1, He.eqO_ok h2, of_decide_eq_true h3, of_decide_eq_true h4⟩
def Fx2.ok (K : PySem.W.Frag) : Fx2 → Bool
  | .exc x => excB K (He.ga K x)
  | .kit x y b => decide (PySem.W.kitOne K (.ref (He.ga K x)) (.ref (He.ga K y)) = some b)
  | .kitT x t b => decide (PySem.W.kitOne K (.ref (He.ga K x)) (.type t) = some b)
  | .blt x id => He.eqO (PySem.W.nsIn K mainGlobals x) (some (some (.builtin id)))
  | .own x => ownB K (He.ga K x)
  | .kitR t y b => decide (PySem.W.kitOne K (.type t) (.ref (He.ga K y)) = some b)
  | .subR t y => decide (PySem.W.subIn K (.type t) (.ref (He.ga K y)) = some false)
theorem blt_ok {K : PySem.W.Frag} {mg : Str → Option Value} {h : Heap} {x : Str} {id : String} (X : K.In h) (G : h.Ns mainGlobals mg) (c : (Fx2.blt x id).ok K = true) : mg x = some (.builtin id) := PySem.W.mg_of X G (He.eqO_ok c)
def obsP (fa : List He.Fa) (fx : List Fx2) (fn : List He.DefD) (K : PySem.W.Frag) : He.AlD := ((He.obsD fa fn K).1 && fx.all fun f => f.ok K, (He.obsD fa fn K).2)
def SaysP (fa : List He.Fa) (fx : List Fx2) (fn : List He.DefD) (K : PySem.W.Frag) : Prop := obsP fa fx fn K = He.valD fn
def obsPG (n : Nat) (fa : List He.Fa) (fx : List Fx2) (fn : List He.DefD) (g : Addr → Option Obj) : He.AlD := obsP fa fx fn (He.frG g (He.asD g n))
def hookP (n : Nat) (fa : List He.Fa) (fx : List Fx2) (fn : List He.DefD) : PySem.W.Hook where
  α := He.AlD
  obs := fun s => obsPG n fa fx fn s.heap.get?
  val := fun _ => He.valD fn
  says := fun _ h => ∃ K : PySem.W.Frag, K.In h ∧ SaysP fa fx fn K
  of := fun _ _ e => ⟨_, He.frG_in, e⟩
  keeps := fun _ _ _ ⟨K, hK, c⟩ k => ⟨K, PySem.W.Frag.In.keeps hK k, c⟩
theorem obsPG_eq {n : Nat} {fa : List He.Fa} {fx : List Fx2} {fn : List He.DefD} {g : Addr → Option Obj} {s : Shared} (h : ∀ a, g a = s.heap.get? a) : obsPG n fa fx fn g = (hookP n fa fx fn).obs s := by
  rw [show g = s.heap.get? from funext h] <;> rfl
theorem SaysP.d {fa : List He.Fa} {fx : List Fx2} {fn : List He.DefD} {K : PySem.W.Frag} (c : SaysP fa fx fn K) : He.SaysD fa fn K := by
  have h1 : ((He.obsD fa fn K).1 && fx.all fun f => f.ok K) = true := congrArg (fun z : He.AlD => z.1) c
  have c1 : obsP fa fx fn K = He.valD fn := c
  have h2 := congrArg (fun z : He.AlD => z.2) c1
  exact Prod.ext (He.ba h1).1 h2
theorem SaysP.x {fa : List He.Fa} {fx : List Fx2} {fn : List He.DefD} {K : PySem.W.Frag} (c : SaysP fa fx fn K) (i : Nat) {f : Fx2} (h : fx[i]? = some f := by rfl) : f.ok K = true := by
  have h1 : ((He.obsD fa fn K).1 && fx.all fun f => f.ok K) = true := congrArg (fun z : He.AlD => z.1) c
  exact List.all_eq_true.mp (He.ba h1).2 f (List.mem_of_getElem? h)
theorem errC_of {K : PySem.W.Frag} {mg : Str → Option Value} {h : Heap} {x : Str} (X : K.In h) (G : h.Ns mainGlobals mg) (h1 : (He.Fa.glo x).ok K = true) (h2 : (He.Fa.exc x).ok K = true) (h3 : (He.Fa.exm x x true).ok K = true) : ErrC K mg x (He.ga K x) := by
  obtain ⟨a, b, c, d⟩ := He.exc_ok h2
  exact ⟨He.glo_ok X G h1, a, b, c, d, He.exm_ok h3⟩
theorem fnAt_of {K : PySem.W.Frag} {mg : Str → Option Value} {h : Heap} {x : Str} {st : Stmt} {fa : List He.Fa} {fx : List Fx2} {fn : List He.DefD} (X : K.In h) (G : h.Ns mainGlobals mg) (c : SaysP fa fx fn K) (i j : Nat)
    (hd : fn[i]? = some ⟨(x, none), x, x, defArgs st, defBody st, defScope st, [], []⟩ := by rfl) (hg : fa[j]? = some (.glo x) := by rfl) : FnAt K mg x st := by
  obtain ⟨fd, Fd⟩ := c.d.def_ i hd
  exact ⟨_, fd, Fd, He.glo_ok X G (c.d.fact j hg)⟩
end Pu

set_option Elab.async false
set_option linter.all false
set_option maxRecDepth 100000
set_option maxHeartbeats 2000000
namespace Pu
open PySem PySem.Spec PyProof.Rows L2
variable [TabL]
def rB (gg : List PyData → Option PyData) (gs : Rho → Re (List PyData)) : Rho → Re PyData := fun ρ => (gs ρ).andThen fun ds => liftO (gg ds)
def rIsi (T : String) (f : Rho → Re PyData) : Rho → Re PyData := fun ρ => (f ρ).andThen fun d => liftO ((isD d T).map PyData.bool)
def iR1 (gs : Rho → Re (List PyData)) : Rho → Re (List PyData) := fun ρ => (gs ρ).andThen rg1
def iR2 (gs : Rho → Re (List PyData)) : Rho → Re (List PyData) := fun ρ => (gs ρ).andThen rg2
def sErr (c : Str) : Rho → Sr := fun ρ => .ex c ρ
def sRetN : Rho → Sr := fun _ => .rt .none
def sBrk : Rho → Sr := fun ρ => .bk ρ
def sCnt : Rho → Sr := fun ρ => .ct ρ
theorem ru {k : Nat} {A : Around} (r : Room k A) : A.units + 64 < cLine := by
  have := r.un
  omega
section
variable {X : Cx} {M : Nat → Bool} {F : Fx} {E : L2.St → XK} {la fa fr : Bool} {a b : Expr} {pos : Pos} {f : Rho → Re PyData}
theorem db {id : String} {r : List V → Hp → VK → Prop} {gg : List PyData → Option PyData} {x : Str} {es : List Expr} {gs : Rho → Re (List PyData)} {p : Pos} (hc : CallR X (.builtin id) r) (hS : SemL X.K r fr gg) (hm : X.mg x = none) (hv : bootBuiltins x = some (.builtin id))
    (ha : DA X M F E la (a :: es) gs) (hg : Gl X x := by rfl) (hn : x ≠ "__name__" := by decide) (hdb : (x == ("__debug__" : Str)) = false := by decide)
    (he : starEach (a :: es) X.env = (false, eval a X.env) :: starEach es X.env := by rfl) (hpl : (backTo pos (starEach es X.env)).any (·.1) = false := by rfl) : DE X M F E la fr (.Call (.Name x p) (a :: es) [] pos) (rB gg gs) := de_callB hc hS hg hm hv ha hn hdb he hpl
theorem dt {id : String} {r : List V → Hp → VK → Prop} {gg : List PyData → Option PyData} {x : Str} {es : List Expr} {gs : Rho → Re (List PyData)} {p : Pos} (hc : CallR X (.type id) r) (hS : SemL X.K r fr gg) (hm : X.mg x = none) (hv : bootBuiltins x = some (.type id))
    (ha : DA X M F E la (a :: es) gs) (hg : Gl X x := by rfl) (hn : x ≠ "__name__" := by decide) (hdb : (x == ("__debug__" : Str)) = false := by decide)
    (he : starEach (a :: es) X.env = (false, eval a X.env) :: starEach es X.env := by rfl) (hpl : (backTo pos (starEach es X.env)).any (·.1) = false := by rfl) : DE X M F E la fr (.Call (.Name x p) (a :: es) [] pos) (rB gg gs) := de_callTy hc hS hg hm hv ha hn hdb he hpl
end
end Pu

set_option Elab.async false
set_option linter.all false
set_option maxRecDepth 100000
set_option maxHeartbeats 2000000
/-! reckoning with the readings -/
namespace Pu
open PySem PySem.Spec PyProof.Rows L2
variable [TabL]
section
variable {α β : Type} {ρ : Rho}
@[simp] theorem re_ok (a : α) (g : α → Re β) : (Re.ok a).andThen g = g a := (rfl)
@[simp] theorem re_ex (c : Str) (g : α → Re β) : (Re.ex c : Re α).andThen g = .ex c := (rfl)
@[simp] theorem re_bad (g : α → Re β) : (Re.bad : Re α).andThen g = .bad := (rfl)
@[simp] theorem st_ok (d : PyData) (k : PyData → Sr) : (Re.ok d).st ρ k = k d := (rfl)
@[simp] theorem st_ex (c : Str) (k : PyData → Sr) : (Re.ex c).st ρ k = .ex c ρ := (rfl)
@[simp] theorem st_bad (k : PyData → Sr) : (Re.bad).st ρ k = .bad := (rfl)
@[simp] theorem stT_ok (d : Bool) (k : Bool → Sr) : (Re.ok d).stT ρ k = k d := (rfl)
@[simp] theorem stT_ex (c : Str) (k : Bool → Sr) : (Re.ex c).stT ρ k = .ex c ρ := (rfl)
@[simp] theorem stT_bad (k : Bool → Sr) : (Re.bad).stT ρ k = .bad := (rfl)
@[simp] theorem stL_ok (d : List PyData) (k : List PyData → Sr) : (Re.ok d).stL ρ k = k d := (rfl)
@[simp] theorem stL_ex (c : Str) (k : List PyData → Sr) : (Re.ex c).stL ρ k = .ex c ρ := (rfl)
@[simp] theorem stL_bad (k : List PyData → Sr) : (Re.bad).stL ρ k = .bad := (rfl)
@[simp] theorem lift_some (a : α) : liftO (some a) = Re.ok a := (rfl)
@[simp] theorem lift_none : liftO (none : Option α) = Re.bad := (rfl)
def vOf : Option (Option PyData) → Re PyData
  | some (some d) => .ok d
  | _ => .bad
@[simp] theorem vOf_some (d : PyData) : vOf (some (some d)) = .ok d := (rfl)
@[simp] theorem ap_var (i : Nat) : rVar i ρ = vOf ρ[i]? := by
  unfold rVar vOf
  rfl
@[simp] theorem ap_c (d : PyData) : rC d ρ = .ok d := (rfl)
@[simp] theorem ap_2 (g : PyData → PyData → Option PyData) (f h : Rho → Re PyData) : r2 g f h ρ = (f ρ).andThen fun x => (h ρ).andThen fun y => liftO (g x y) := (rfl)
@[simp] theorem ap_1 (g : PyData → Option PyData) (f : Rho → Re PyData) : r1 g f ρ = (f ρ).andThen fun x => liftO (g x) := (rfl)
def bOf : PyData → Re Bool
  | .bool b => .ok b
  | _ => .bad
@[simp] theorem bOf_bool (b : Bool) : bOf (.bool b) = .ok b := (rfl)
@[simp] theorem ap_asB (f : Rho → Re PyData) : asB f ρ = (f ρ).andThen bOf := by
  unfold asB
  congr 1
@[simp] theorem ap_tAnd (f g : Rho → Re Bool) : tAndR f g ρ = (f ρ).andThen fun c => if c = true then g ρ else .ok false := (rfl)
@[simp] theorem ap_tOr (f g : Rho → Re Bool) : tOrR f g ρ = (f ρ).andThen fun c => if c = true then .ok true else g ρ := (rfl)
@[simp] theorem ap_tNot (f : Rho → Re Bool) : tNotR f ρ = (f ρ).andThen fun c => .ok (!c) := (rfl)
@[simp] theorem ap_if (p : Rho → Re Bool) (f g : Rho → Re PyData) : rIf p f g ρ = (p ρ).andThen fun c => if c = true then f ρ else g ρ := (rfl)
def andB (d : PyData) (r : Re PyData) : Re PyData := match d with | .bool true => r | .bool false => .ok (.bool false) | _ => .bad
def orB (d : PyData) (r : Re PyData) : Re PyData := match d with | .bool false => r | .bool true => .ok (.bool true) | _ => .bad
@[simp] theorem andB_b (b : Bool) (r : Re PyData) : andB (.bool b) r = if b = true then r else .ok (.bool false) := by cases b <;> rfl
@[simp] theorem orB_b (b : Bool) (r : Re PyData) : orB (.bool b) r = if b = true then .ok (.bool true) else r := by cases b <;> rfl
@[simp] theorem ap_and (f g : Rho → Re PyData) : rAnd f g ρ = (f ρ).andThen fun d => andB d (g ρ) := (rfl)
@[simp] theorem ap_or (f g : Rho → Re PyData) : rOr f g ρ = (f ρ).andThen fun d => orB d (g ρ) := (rfl)
def notB : PyData → Re PyData
  | .bool b => .ok (.bool (!b))
  | _ => .bad
@[simp] theorem notB_b (b : Bool) : notB (.bool b) = .ok (.bool (!b)) := (rfl)
@[simp] theorem ap_not (f : Rho → Re PyData) : rNot f ρ = (f ρ).andThen notB := by
  unfold rNot
  congr 1
@[simp] theorem ap_nil : aNil ρ = .ok [] := (rfl)
@[simp] theorem ap_cons (f : Rho → Re PyData) (g : Rho → Re (List PyData)) : aCons f g ρ = (f ρ).andThen fun d => (g ρ).andThen fun ds => .ok (d :: ds) := (rfl)
@[simp] theorem ap_tup (g : Rho → Re (List PyData)) : rTup g ρ = (g ρ).andThen mkT := (rfl)
@[simp] theorem ap_lst (g : Rho → Re (List PyData)) : rLst g ρ = (g ρ).andThen mkL := (rfl)
@[simp] theorem ap_call (ff : List PyData → Re PyData) (g : Rho → Re (List PyData)) : rCall ff g ρ = (g ρ).andThen ff := (rfl)
@[simp] theorem ap_B (gg : List PyData → Option PyData) (g : Rho → Re (List PyData)) : rB gg g ρ = (g ρ).andThen fun ds => liftO (gg ds) := (rfl)
@[simp] theorem ap_iR1 (g : Rho → Re (List PyData)) : iR1 g ρ = (g ρ).andThen rg1 := (rfl)
@[simp] theorem ap_iR2 (g : Rho → Re (List PyData)) : iR2 g ρ = (g ρ).andThen rg2 := (rfl)
@[simp] theorem ap_iOf (h : PyData → Re (List PyData)) (f : Rho → Re PyData) : iOf h f ρ = (f ρ).andThen h := (rfl)
@[simp] theorem ap_cut (f : Rho → Re PyData) (lo hi : Rho → Re (Option Int)) : rCut f lo hi ρ = (f ρ).andThen fun d => (lo ρ).andThen fun l => (hi ρ).andThen fun h => oCut d l h := (rfl)
@[simp] theorem ap_noI : noI ρ = .ok none := (rfl)
def iV : PyData → Re (Option Int)
  | .int i => .ok (some i)
  | _ => .bad
@[simp] theorem iV_int (i : Int) : iV (.int i) = .ok (some i) := (rfl)
@[simp] theorem ap_asI (f : Rho → Re PyData) : asI f ρ = (f ρ).andThen iV := by
  unfold asI
  congr 1
def tupRg : PyData → PyData → Option PyData := fun d e => match d, e with | .int i, .int j => if rgOk i j = true then some (.tuple (upFrom i (j - i).toNat)) else none | _, _ => none
@[simp] theorem ap_tupRg (f g : Rho → Re PyData) : rTupRg f g ρ = (f ρ).andThen fun x => (g ρ).andThen fun y => liftO (tupRg x y) := (rfl)
@[simp] theorem ap_yes : yesR ρ = .ok true := (rfl)
@[simp] theorem ap_sNil : sNil ρ = .nx ρ := (rfl)
def sqS (r : Sr) (u : Rho → Sr) : Sr := match r with | .nx ρ' => u ρ' | r => r
@[simp] theorem sqS_nx (ρ' : Rho) (u : Rho → Sr) : sqS (.nx ρ') u = u ρ' := (rfl)
@[simp] theorem sqS_rt (d : PyData) (u : Rho → Sr) : sqS (.rt d) u = .rt d := (rfl)
@[simp] theorem sqS_bk (ρ' : Rho) (u : Rho → Sr) : sqS (.bk ρ') u = .bk ρ' := (rfl)
@[simp] theorem sqS_ct (ρ' : Rho) (u : Rho → Sr) : sqS (.ct ρ') u = .ct ρ' := (rfl)
@[simp] theorem sqS_ex (c : Str) (ρ' : Rho) (u : Rho → Sr) : sqS (.ex c ρ') u = .ex c ρ' := (rfl)
@[simp] theorem sqS_bad (u : Rho → Sr) : sqS .bad u = .bad := (rfl)
@[simp] theorem ap_sSeq (s u : Rho → Sr) : sSeq s u ρ = sqS (s ρ) u := by
  unfold sSeq sqS
  rfl
@[simp] theorem sqS_ite (c : Prop) [Decidable c] (a b : Sr) (u : Rho → Sr) : sqS (if c then a else b) u = if c then sqS a u else sqS b u := by
  by_cases h : c
  · rw [if_pos h, if_pos h]
  · rw [if_neg h, if_neg h]
@[simp] theorem ap_sIf (p : Rho → Re Bool) (s u : Rho → Sr) : sIf p s u ρ = (p ρ).stT ρ fun b => if b = true then s ρ else u ρ := (rfl)
@[simp] theorem ap_sRet (f : Rho → Re PyData) : sRet f ρ = (f ρ).st ρ fun d => .rt d := (rfl)
@[simp] theorem ap_sDrop (f : Rho → Re PyData) : sDrop f ρ = (f ρ).st ρ fun _ => .nx ρ := (rfl)
@[simp] theorem ap_sSet (i : Nat) (f : Rho → Re PyData) : sSet i false f ρ = (f ρ).st ρ fun d => .nx (ρ.set i (some d)) := by
  unfold sSet
  congr 1
@[simp] theorem ap_sSetO (i : Nat) (f : Rho → Re PyData) : sSetO i false f ρ = (f ρ).st ρ fun d => if i < ρ.length then .nx (ρ.set i (some d)) else .bad := by
  unfold sSetO
  congr 1
  funext d
  simp
@[simp] theorem ap_sErr (c : Str) : sErr c ρ = .ex c ρ := (rfl)
@[simp] theorem ap_sRetN : sRetN ρ = .rt .none := (rfl)
@[simp] theorem ap_sBrk : sBrk ρ = .bk ρ := (rfl)
@[simp] theorem ap_sCnt : sCnt ρ = .ct ρ := (rfl)
@[simp] theorem ap_sFor (it : Rho → Re (List PyData)) (g : PyData → Rho → Option Rho) (b : Rho → Sr) : sFor it g b ρ = (it ρ).stL ρ fun ds => sLoop g b ds ρ := (rfl)
/-- the end of a def -/
def outR : Sr → Re PyData
  | .nx _ => .ok .none
  | .rt d => .ok d
  | .ex c _ => .ex c
  | _ => .bad
@[simp] theorem outR_nx : outR (.nx ρ) = .ok .none := (rfl)
@[simp] theorem outR_rt (d : PyData) : outR (.rt d) = .ok d := (rfl)
@[simp] theorem outR_ex (c : Str) : outR (.ex c ρ) = .ex c := (rfl)
@[simp] theorem outR_ite (c : Prop) [Decidable c] (a b : Sr) : outR (if c then a else b) = if c then outR a else outR b := by
  by_cases h : c
  · rw [if_pos h, if_pos h]
  · rw [if_neg h, if_neg h]
theorem run_eq {n m : Nat} {s : Rho → Sr} {ds : List PyData} (h : ds.length = n) : runF n m s ds = outR (s (ds.map some ++ List.replicate (m - n) none)) := by
  unfold runF outR
  exact (if_pos h).trans (by rfl)
theorem run1 {m : Nat} {s : Rho → Sr} {a : PyData} : runF 1 m s [a] = outR (s (some a :: List.replicate (m - 1) none)) := run_eq rfl
theorem run2 {m : Nat} {s : Rho → Sr} {a b : PyData} : runF 2 m s [a, b] = outR (s (some a :: some b :: List.replicate (m - 2) none)) := run_eq rfl
theorem run3 {m : Nat} {s : Rho → Sr} {a b c : PyData} : runF 3 m s [a, b, c] = outR (s (some a :: some b :: some c :: List.replicate (m - 3) none)) := run_eq rfl
/-! operators -/
variable {i j : Int}
@[simp] theorem oSub_i : oSub (.int i) (.int j) = some (.int (i - j)) := (rfl)
@[simp] theorem oAdd_i : oAdd (.int i) (.int j) = some (.int (i + j)) := (rfl)
@[simp] theorem oLt_i : oLt (.int i) (.int j) = some (.bool (decide (i < j))) := (rfl)
@[simp] theorem oLe_i : oLe (.int i) (.int j) = some (.bool (decide (i ≤ j))) := (rfl)
@[simp] theorem oGt_i : oGt (.int i) (.int j) = some (.bool (decide (j < i))) := (rfl)
@[simp] theorem oGe_i : oGe (.int i) (.int j) = some (.bool (decide (j ≤ i))) := (rfl)
@[simp] theorem oNeg_i : oNeg (.int i) = some (.int (-i)) := (rfl)
theorem oMul_r (h : j.natAbs < 2 ^ 63) : oMul (.int i) (.int j) = some (.int (i * j)) := by
  show (if mulOk i j = true then some (PyData.int (i * j)) else none) = _
  rw [if_pos]
  unfold mulOk
  rw [decide_eq_true h]
  rfl
theorem oMul_l (h : i.natAbs < 2 ^ 63) : oMul (.int i) (.int j) = some (.int (i * j)) := by
  show (if mulOk i j = true then some (PyData.int (i * j)) else none) = _
  rw [if_pos]
  unfold mulOk
  rw [decide_eq_true h]
  simp
theorem oDiv_p (h : 0 < j) (h2 : j < 2 ^ 240) : oDiv (.int i) (.int j) = some (.int (i / j)) := by
  show (if divOk j = true then some (PyData.int (i / j)) else none) = _
  rw [if_pos]
  unfold divOk
  rw [decide_eq_true h, decide_eq_true h2]
  rfl
theorem oMod_p (h : 0 < j) : oMod (.int i) (.int j) = some (.int (i % j)) := by
  show (if 0 < j then some (PyData.int (i % j)) else none) = _
  rw [if_pos h]
theorem shaped_i : SeqAt.shaped (.int i) = true := rfl
theorem shaped_b {b : Bool} : SeqAt.shaped (.bool b) = true := rfl
@[simp] theorem oEq_i : oEq (.int i) (.int j) = some (.bool (decide (i = j))) := by
  unfold oEq
  rw [if_pos ⟨rfl, rfl⟩]
  unfold PyData.eqv
  rfl
@[simp] theorem oNe_i : oNe (.int i) (.int j) = some (.bool (decide (i ≠ j))) := by
  unfold oNe
  rw [if_pos ⟨rfl, rfl⟩]
  unfold PyData.eqv
  rw [show (i == j) = decide (i = j) from rfl]
  simp
@[simp] theorem oEq_b {a b : Bool} : oEq (.bool a) (.bool b) = some (.bool (a == b)) := by
  unfold oEq
  rw [if_pos ⟨rfl, rfl⟩]
  unfold PyData.eqv
  rfl
@[simp] theorem oNe_b {a b : Bool} : oNe (.bool a) (.bool b) = some (.bool (a != b)) := by
  unfold oNe
  rw [if_pos ⟨rfl, rfl⟩]
  unfold PyData.eqv
  rfl
@[simp] theorem bInt_i : bInt [.int i] = some (.int i) := (rfl)
@[simp] theorem bInt_b {b : Bool} : bInt [.bool b] = some (.int (if b = true then 1 else 0)) := by cases b <;> rfl
/-! rows of numbers as data -/
def tI (ns : List Int) : PyData := .tuple (ns.map PyData.int)
def lI (ns : List Int) : PyData := .list (ns.map PyData.int)
theorem eqvAll_i : ∀ a b : List Int, PyData.eqvAll (a.map PyData.int) (b.map PyData.int) = decide (a = b)
  | [], [] => by
    unfold PyData.eqvAll
    rfl
  | [], _ :: _ => by
    simp [PyData.eqvAll]
  | _ :: _, [] => by
    simp [PyData.eqvAll]
  | x :: a, y :: b => by
    rw [List.map_cons, List.map_cons]
    unfold PyData.eqvAll
    rw [eqvAll_i a b]
    unfold PyData.eqv
    rw [show (x == y) = decide (x = y) from rfl]
    simp
theorem canLay_i : ∀ a : List Int, PyData.canLayAll0 (a.map PyData.int) = true
  | [] => by
    unfold PyData.canLayAll0
    rfl
  | x :: a => by
    rw [List.map_cons]
    unfold PyData.canLayAll0
    rw [canLay_i a]
    rfl
theorem shaped_t (a : List Int) : SeqAt.shaped (tI a) = true := by
  have h1 : PyData.canLay0 (tI a) = true := by
    unfold tI
    unfold PyData.canLay0
    exact canLay_i a
  have h2 : (tI a).depth ≤ 64 := by
    unfold tI
    unfold PyData.depth
    have := depth_ints a
    omega
  unfold SeqAt.shaped
  rw [h1, decide_eq_true h2]
  rfl
theorem shaped_l (a : List Int) : SeqAt.shaped (lI a) = true := by
  have h1 : PyData.canLay0 (lI a) = true := by
    unfold lI
    unfold PyData.canLay0
    exact canLay_i a
  have h2 : (lI a).depth ≤ 64 := by
    unfold lI
    unfold PyData.depth
    have := depth_ints a
    omega
  unfold SeqAt.shaped
  rw [h1, decide_eq_true h2]
  rfl
@[simp] theorem oEq_t {a b : List Int} : oEq (tI a) (tI b) = some (.bool (decide (a = b))) := by
  unfold oEq
  rw [if_pos ⟨shaped_t a, shaped_t b⟩]
  unfold tI PyData.eqv
  rw [eqvAll_i]
@[simp] theorem oNe_t {a b : List Int} : oNe (tI a) (tI b) = some (.bool (decide (a ≠ b))) := by
  unfold oNe
  rw [if_pos ⟨shaped_t a, shaped_t b⟩]
  unfold tI PyData.eqv
  rw [eqvAll_i]
  simp
@[simp] theorem oEq_l {a b : List Int} : oEq (lI a) (lI b) = some (.bool (decide (a = b))) := by
  unfold oEq
  rw [if_pos ⟨shaped_l a, shaped_l b⟩]
  unfold lI PyData.eqv
  rw [eqvAll_i]
@[simp] theorem oNe_l {a b : List Int} : oNe (lI a) (lI b) = some (.bool (decide (a ≠ b))) := by
  unfold oNe
  rw [if_pos ⟨shaped_l a, shaped_l b⟩]
  unfold lI PyData.eqv
  rw [eqvAll_i]
  simp
@[simp] theorem bLen_t {a : List Int} : bLen [tI a] = some (.int a.length) := by simp [bLen, tI]
@[simp] theorem bLen_l {a : List Int} : bLen [lI a] = some (.int a.length) := by simp [bLen, lI]
@[simp] theorem bLen_s {a : List Int} : bLen [scrD a] = some (.int a.length) := by simp [bLen, scrD]
@[simp] theorem bSorted_t {a : List Int} : bSorted [tI a] = some (lI (srtZ a)) := by
  show (asInts (a.map PyData.int)).map _ = _
  rw [asInts_map]
  rfl
@[simp] theorem bSorted_l {a : List Int} : bSorted [lI a] = some (lI (srtZ a)) := by
  show (asInts (a.map PyData.int)).map _ = _
  rw [asInts_map]
  rfl
@[simp] theorem bTuple_t {a : List Int} : bTuple [tI a] = some (tI a) := (rfl)
@[simp] theorem bTuple_l {a : List Int} : bTuple [lI a] = some (tI a) := (rfl)
theorem oAdd_t {a b : List Int} (h : a.length + b.length ≤ 10000) : oAdd (tI a) (tI b) = some (tI (a ++ b)) := by
  show (if okLen ((a.map PyData.int).length + (b.map PyData.int).length) = true then some (PyData.tuple (a.map PyData.int ++ b.map PyData.int)) else none) = _
  rw [if_pos (by rw [List.length_map, List.length_map]; exact decide_eq_true h), ← List.map_append]
  rfl
/-- x[i] of numbers -/
def atZ (ns : List Int) (i : Int) : Option Int := (ixN ns.length i).bind fun j => ns[j]?
theorem atD_i (ns : List Int) (i : Int) : atD (ns.map PyData.int) i = (atZ ns i).map PyData.int := by
  unfold atD atZ
  rw [List.length_map]
  cases ixN ns.length i with
  | none => rfl
  | some j => simp
@[simp] theorem oIx_t {ns : List Int} : oIx (tI ns) (.int i) = (atZ ns i).map PyData.int := atD_i ns i
@[simp] theorem oIx_l {ns : List Int} : oIx (lI ns) (.int i) = (atZ ns i).map PyData.int := atD_i ns i
@[simp] theorem oIx_s {ns : List Int} : oIx (scrD ns) (.int i) = (atZ ns i).map PyData.int := atD_i ns i
theorem atZ_nat {ns : List Int} {k : Nat} (h : k < ns.length) : atZ ns (k : Int) = ns[k]? := by
  unfold atZ ixN
  rw [if_pos (Int.natCast_nonneg k), if_pos (by omega)]
  rfl
theorem atZ_p {ns : List Int} {i : Int} (h0 : 0 ≤ i) (h : i < ns.length) : ∃ x, atZ ns i = some x ∧ ns[i.toNat]? = some x := by
  unfold atZ ixN
  rw [if_pos h0, if_pos h]
  have : i.toNat < ns.length := by omega
  exact ⟨ns[i.toNat], List.getElem?_eq_getElem this, List.getElem?_eq_getElem this⟩
theorem mkT_i {ns : List Int} (h : ns.length ≤ 10000) : mkT (ns.map PyData.int) = .ok (tI ns) := by
  unfold mkT
  rw [if_pos (by rw [List.length_map]; exact decide_eq_true h)]
  rfl
theorem mkL_i {ns : List Int} (h : ns.length ≤ 10000) : mkL (ns.map PyData.int) = .ok (lI ns) := by
  unfold mkL
  rw [if_pos (by rw [List.length_map]; exact decide_eq_true h)]
  rfl
/-- a, a + 1, .. -/
def upI (a : Int) (n : Nat) : List Int := (List.range n).map fun (k : Nat) => a + (k : Int)
theorem upI_length (a : Int) (n : Nat) : (upI a n).length = n := by simp [upI]
theorem upFrom_i (a : Int) (n : Nat) : upFrom a n = (upI a n).map PyData.int := by
  unfold upFrom upI
  rw [List.map_map]
  rfl
theorem tupRg_i (h : rgOk i j = true) : tupRg (.int i) (.int j) = some (tI (upI i (j - i).toNat)) := by
  show (if rgOk i j = true then some (PyData.tuple (upFrom i (j - i).toNat)) else none) = _
  rw [if_pos h, upFrom_i]
  rfl
theorem rg1_n {n : Nat} (h : n < 2 ^ 62) : rg1 [.int (n : Int)] = .ok ((upI 0 n).map PyData.int) := by
  show (if small62 (n : Int) = true then Re.ok (upFrom 0 (n : Int).toNat) else .bad) = _
  rw [if_pos, upFrom_i]
  · rfl
  · unfold small62
    rw [decide_eq_true (by omega), decide_eq_true (by omega)]
    rfl
@[simp] theorem itS_t {ns : List Int} : itS (tI ns) = .ok (ns.map PyData.int) := (rfl)
@[simp] theorem itS_l {ns : List Int} : itS (lI ns) = .ok (ns.map PyData.int) := (rfl)
/-- [e(k) for k in numbers], e(k) a number -/
theorem lc_i {its : Rho → Re (List PyData)} {v : Nat} {f : Rho → Re PyData} {ns : List Int} {h : Int → Int} (hi : its ρ = .ok (ns.map PyData.int)) (hl : ns.length ≤ 10000) (hf : ∀ k ∈ ns, f ((ρ.set v none).set v (some (.int k))) = .ok (.int (h k))) :
    rLc its [v] (gSlot v) yesR f ρ = .ok (lI (ns.map h)) := by
  unfold rLc
  rw [hi, re_ok, if_pos (by rw [List.length_map]; exact decide_eq_true hl)]
  have key : ∀ ms : List Int, (∀ k ∈ ms, k ∈ ns) → lcGo (gSlot v) yesR f (ρ.set v none) (ms.map PyData.int) = some ((ms.map h).map PyData.int) := by
    intro ms
    induction ms with
    | nil => intro _; rfl
    | cons k ms ih =>
      intro hk
      have e := hf k (hk k List.mem_cons_self)
      show (match f ((ρ.set v none).set v (some (.int k))) with | .ok x => (match lcGo (gSlot v) yesR f (ρ.set v none) (ms.map PyData.int) with | some xs => some (x :: xs) | none => none) | _ => none) = _
      rw [e, ih fun k' hk' => hk k' (List.mem_cons_of_mem _ hk')]
      rfl
  show (match lcGo (gSlot v) yesR f (ρ.set v none) (ns.map PyData.int) with | some xs => Re.ok (PyData.list xs) | none => .bad) = _
  rw [key ns fun _ h => h]
  rfl
/-- a loop with an invariant: Inv k ρ ahead of the k-th turn -/
theorem loop_inv {g : PyData → Rho → Option Rho} {body : Rho → Sr} (I : Nat → Rho → Prop) : ∀ (ds : List PyData) (k0 : Nat) (ρ : Rho), I k0 ρ → (∀ k d ρ, ds[k]? = some d → I (k0 + k) ρ → ∃ ρ1, g d ρ = some ρ1 ∧ ∃ ρ2, body ρ1 = .nx ρ2 ∧ I (k0 + k + 1) ρ2) → ∃ ρ', sLoop g body ds ρ = .nx ρ' ∧ I (k0 + ds.length) ρ'
  | [], k0, ρ, h, _ => ⟨ρ, rfl, h⟩
  | d :: ds, k0, ρ, h, st => by
    obtain ⟨ρ1, e1, ρ2, e2, h2⟩ := st 0 d ρ rfl h
    obtain ⟨ρ', e3, h3⟩ := loop_inv I ds (k0 + 1) ρ2 h2 fun k d' ρ'' hk hI => by
      have := st (k + 1) d' ρ'' (by simpa using hk) (by rw [show k0 + (k + 1) = k0 + 1 + k by omega]; exact hI)
      rw [show k0 + (k + 1) + 1 = k0 + 1 + k + 1 by omega] at this
      exact this
    refine ⟨ρ', ?_, ?_⟩
    · unfold sLoop
      rw [e1]
      show (match body ρ1 with | .nx ρ2 => sLoop g body ds ρ2 | .ct ρ2 => sLoop g body ds ρ2 | .bk ρ2 => .nx ρ2 | .rt d => .rt d | .ex c ρ2 => .ex c ρ2 | .bad => .bad) = _
      rw [e2]
      exact e3
    · rw [List.length_cons, show k0 + (ds.length + 1) = k0 + 1 + ds.length by omega]
      exact h3
/-! own lists -/
def lOf : Option (Option PyData) → Option (List PyData)
  | some (some (.list ds)) => some ds
  | _ => none
@[simp] theorem lOf_l {ns : List Int} : lOf (some (some (lI ns))) = some (ns.map PyData.int) := (rfl)
@[simp] theorem lOf_d {ds : List PyData} : lOf (some (some (.list ds))) = some ds := (rfl)
theorem getL_eq (i : Nat) : getL ρ i = lOf ρ[i]? := by
  unfold getL lOf
  rfl
def appR (ρ : Rho) (i : Nat) : Option (List PyData) → Re PyData → Sr
  | some ds, r => r.st ρ fun d => if okLen (ds.length + 1) = true then .nx (ρ.set i (some (.list (ds ++ [d])))) else .bad
  | none, _ => .bad
@[simp] theorem ap_sApp (i : Nat) (f : Rho → Re PyData) : sApp i false f ρ = appR ρ i (lOf ρ[i]?) (f ρ) := by
  unfold sApp appR
  rw [getL_eq]
  cases lOf ρ[i]? with
  | none => rfl
  | some ds =>
    show (f ρ).st ρ _ = (f ρ).st ρ _
    congr 1
    funext d
    simp
theorem snoc_i (ns : List Int) (x : Int) : PyData.list (ns.map PyData.int ++ [.int x]) = lI (ns ++ [x]) := by
  unfold lI
  rw [List.map_append]
  rfl
theorem appR_i {i : Nat} {ns : List Int} {x : Int} (h : ns.length < 10000) : appR ρ i (some (ns.map PyData.int)) (.ok (.int x)) = .nx (ρ.set i (some (lI (ns ++ [x])))) := by
  show (if okLen ((ns.map PyData.int).length + 1) = true then Sr.nx (ρ.set i (some (PyData.list (ns.map PyData.int ++ [.int x])))) else .bad) = _
  rw [if_pos (by rw [List.length_map]; exact decide_eq_true h), snoc_i]
theorem ixN_p {n : Nat} {i : Int} (h : 0 ≤ i) (h2 : i < n) : ixN n i = some i.toNat := by
  unfold ixN
  rw [if_pos h, if_pos h2]
theorem erase_map {f : α → β} : ∀ (l : List α) (i : Nat), (l.map f).eraseIdx i = (l.eraseIdx i).map f
  | [], _ => rfl
  | _ :: _, 0 => rfl
  | x :: l, i + 1 => by
    rw [List.map_cons, List.eraseIdx_cons_succ, List.eraseIdx_cons_succ, List.map_cons, erase_map l i]
theorem appPop_i {i j : Nat} {f : Rho → Re PyData} {ns ms : List Int} {x z : Int} (hij : i ≠ j) (hi : ρ[i]? = some (some (lI ns))) (hj : ρ[j]? = some (some (lI ms))) (hf : f ρ = .ok (.int z)) (h0 : 0 ≤ z) (hz : z < ms.length) (hx : ms[z.toNat]? = some x) (h1 : ns.length < 10000) (h2 : ms.length ≤ 10000) :
    sAppPop i j f ρ = .nx ((ρ.set j (some (lI (ms.eraseIdx z.toNat)))).set i (some (lI (ns ++ [x])))) := by
  have e1 : getL ρ i = some (ns.map PyData.int) := by rw [getL_eq, hi]; rfl
  have e2 : getL ρ j = some (ms.map PyData.int) := by rw [getL_eq, hj]; rfl
  have e3 : popAt ρ j (.int z) = some (.int x, (ms.map PyData.int).eraseIdx z.toNat) := by
    unfold popAt
    rw [e2]
    show (if okLen (ms.map PyData.int).length = true then (match ixN (ms.map PyData.int).length z with
      | some k => (match (ms.map PyData.int)[k]? with | some y => some (y, (ms.map PyData.int).eraseIdx k) | none => none)
      | none => none) else none) = _
    rw [if_pos (by rw [List.length_map]; exact decide_eq_true h2), List.length_map, ixN_p h0 hz]
    show (match (ms.map PyData.int)[z.toNat]? with | some y => some (y, (ms.map PyData.int).eraseIdx z.toNat) | none => none) = _
    rw [List.getElem?_map, hx]
    rfl
  unfold sAppPop
  rw [e1, e2, hf]
  show (match popAt ρ j (.int z) with
    | some (y, es') => if okLen ((ns.map PyData.int).length + 1) = true ∧ i ≠ j then Sr.nx ((ρ.set j (some (PyData.list es'))).set i (some (PyData.list (ns.map PyData.int ++ [y])))) else .bad
    | none => .bad) = _
  rw [e3]
  show (if okLen ((ns.map PyData.int).length + 1) = true ∧ i ≠ j then Sr.nx ((ρ.set j (some (PyData.list ((ms.map PyData.int).eraseIdx z.toNat)))).set i (some (PyData.list (ns.map PyData.int ++ [.int x])))) else .bad) = _
  rw [if_pos ⟨by rw [List.length_map]; exact decide_eq_true h1, hij⟩, snoc_i]
  rw [erase_map]
  rfl
/-! tries -/
@[simp] theorem try_rt {c : Str} {s u : Rho → Sr} {d : PyData} (h : s ρ = .rt d) : sTry c s u ρ = .rt d := by
  unfold sTry
  rw [h]
theorem try_nx {c : Str} {s u : Rho → Sr} {ρ' : Rho} (h : s ρ = .nx ρ') : sTry c s u ρ = .nx ρ' := by
  unfold sTry
  rw [h]
def nox : Sr → Sr
  | .ex _ _ => .bad
  | r => r
@[simp] theorem nox_nx (ρ' : Rho) : nox (.nx ρ') = .nx ρ' := (rfl)
@[simp] theorem nox_rt (d : PyData) : nox (.rt d) = .rt d := (rfl)
theorem try_ex {c : Str} {s u : Rho → Sr} {ρ' : Rho} (h : s ρ = .ex c ρ') : sTry c s u ρ = nox (u ρ') := by
  unfold sTry
  rw [h]
  show (if c = c then (match u ρ' with | .ex _ _ => Sr.bad | r => r) else .bad) = _
  rw [if_pos rfl]
  unfold nox
  rfl
theorem tryAs_rt {c : Str} {i : Nat} {s u : Rho → Sr} {d : PyData} (h : s ρ = .rt d) : sTryAs c i s u ρ = .rt d := by
  unfold sTryAs
  rw [h]
theorem tryAs_nx {c : Str} {i : Nat} {s u : Rho → Sr} {ρ' : Rho} (h : s ρ = .nx ρ') : sTryAs c i s u ρ = .nx ρ' := by
  unfold sTryAs
  rw [h]
theorem tryAs_ex_rt {c : Str} {i : Nat} {s u : Rho → Sr} {ρ' : Rho} {d : PyData} (h : s ρ = .ex c ρ') (hi : i < ρ'.length) (hu : u (ρ'.set i none) = .rt d) : sTryAs c i s u ρ = .rt d := by
  unfold sTryAs
  rw [h]
  show (if c = c ∧ i < ρ'.length then _ else _) = _
  rw [if_pos ⟨rfl, hi⟩, hu]
theorem tryAs_ex_nx {c : Str} {i : Nat} {s u : Rho → Sr} {ρ' ρ2 : Rho} (h : s ρ = .ex c ρ') (hi : i < ρ'.length) (hu : u (ρ'.set i none) = .nx ρ2) : sTryAs c i s u ρ = .nx (ρ2.set i none) := by
  unfold sTryAs
  rw [h]
  show (if c = c ∧ i < ρ'.length then _ else _) = _
  rw [if_pos ⟨rfl, hi⟩, hu]
/-! steps -/
theorem go {s u : Rho → Sr} {ρ' : Rho} {R : Re PyData} (h : s ρ = .nx ρ') (k : outR (u ρ') = R) : outR (sSeq s u ρ) = R := by
  rw [ap_sSeq, h, sqS_nx]
  exact k
theorem go_rt {s u : Rho → Sr} {d : PyData} (h : s ρ = .rt d) : outR (sSeq s u ρ) = .ok d := by
  rw [ap_sSeq, h, sqS_rt]
  rfl
theorem go_ex {s u : Rho → Sr} {ρ' : Rho} {c : Str} (h : s ρ = .ex c ρ') : outR (sSeq s u ρ) = .ex c := by
  rw [ap_sSeq, h, sqS_ex]
  rfl
def mtT (o : PyData → List PyData → Option PyData) (d : PyData) (r : Re (List PyData)) : Re PyData := match d with | .tuple _ => r.andThen fun es => liftO (o d es) | _ => .bad
@[simp] theorem ap_meth (o : PyData → List PyData → Option PyData) (f : Rho → Re PyData) (g : Rho → Re (List PyData)) : rMeth o f g ρ = (f ρ).andThen fun d => mtT o d (g ρ) := by
  unfold rMeth
  congr 1
@[simp] theorem mtT_t (o : PyData → List PyData → Option PyData) {ns : List Int} {r : Re (List PyData)} : mtT o (tI ns) r = r.andThen fun es => liftO (o (tI ns) es) := (rfl)
theorem oIdx_i {ns : List Int} {z : Int} : oIdx (tI ns) [.int z] = (idxZ z ns).map fun (j : Nat) => PyData.int (j : Int) := by
  show ((asInts (ns.map PyData.int)).bind fun ns => (idxZ z ns).map fun (j : Nat) => PyData.int (j : Int)) = _
  rw [asInts_map]
  rfl
theorem idxZ_mem {z : Int} : ∀ {ns : List Int}, z ∈ ns → ∃ j, idxZ z ns = some j
  | n :: ns, h => by
    unfold idxZ
    by_cases e : n = z
    · rw [if_pos e]
      exact ⟨_, rfl⟩
    · rw [if_neg e]
      obtain ⟨j, hj⟩ := idxZ_mem ((List.mem_cons.mp h).resolve_left fun q => e q.symm)
      rw [hj]
      exact ⟨_, rfl⟩
@[simp] theorem mkT1 {a : Int} : mkT [.int a] = .ok (tI [a]) := mkT_i (ns := [a]) (by simp)
@[simp] theorem mkT2 {a b : Int} : mkT [.int a, .int b] = .ok (tI [a, b]) := mkT_i (ns := [a, b]) (by simp)
@[simp] theorem mkT3 {a b c : Int} : mkT [.int a, .int b, .int c] = .ok (tI [a, b, c]) := mkT_i (ns := [a, b, c]) (by simp)
@[simp] theorem mkT0 : mkT [] = .ok (tI []) := mkT_i (ns := []) (by simp)
@[simp] theorem mkL0 : mkL [] = .ok (lI []) := mkL_i (ns := []) (by simp)
@[simp] theorem mkL1 {a : Int} : mkL [.int a] = .ok (lI [a]) := mkL_i (ns := [a]) (by simp)
@[simp] theorem mkL2 {a b : Int} : mkL [.int a, .int b] = .ok (lI [a, b]) := mkL_i (ns := [a, b]) (by simp)
@[simp] theorem mkL3 {a b c : Int} : mkL [.int a, .int b, .int c] = .ok (lI [a, b, c]) := mkL_i (ns := [a, b, c]) (by simp)
@[simp] theorem mkL4 {a b c d : Int} : mkL [.int a, .int b, .int c, .int d] = .ok (lI [a, b, c, d]) := mkL_i (ns := [a, b, c, d]) (by simp)
@[simp] theorem mkL5 {a b c d e : Int} : mkL [.int a, .int b, .int c, .int d, .int e] = .ok (lI [a, b, c, d, e]) := mkL_i (ns := [a, b, c, d, e]) (by simp)
@[simp] theorem mkL6 {a b c d e f : Int} : mkL [.int a, .int b, .int c, .int d, .int e, .int f] = .ok (lI [a, b, c, d, e, f]) := mkL_i (ns := [a, b, c, d, e, f]) (by simp)
@[simp] theorem mkL7 {a b c d e f g : Int} : mkL [.int a, .int b, .int c, .int d, .int e, .int f, .int g] = .ok (lI [a, b, c, d, e, f, g]) := mkL_i (ns := [a, b, c, d, e, f, g]) (by simp)
@[simp] theorem mkL8 {a b c d e f g h : Int} : mkL [.int a, .int b, .int c, .int d, .int e, .int f, .int g, .int h] = .ok (lI [a, b, c, d, e, f, g, h]) := mkL_i (ns := [a, b, c, d, e, f, g, h]) (by simp)
/-- cuts of numbers -/
def cutZ (ns : List Int) (lo hi : Option Int) : List Int := (ns.drop (HT.sIx ns.length 0 lo)).take (HT.sIx ns.length ns.length hi - HT.sIx ns.length 0 lo)
@[simp] theorem oCut_t {ns : List Int} {lo hi : Option Int} : oCut (tI ns) lo hi = .ok (tI (cutZ ns lo hi)) := by
  show Re.ok (PyData.tuple (cutD (ns.map PyData.int) lo hi)) = _
  unfold cutD cutZ tI
  rw [List.length_map, List.map_take, List.map_drop]
@[simp] theorem oCut_l {ns : List Int} {lo hi : Option Int} : oCut (lI ns) lo hi = .ok (lI (cutZ ns lo hi)) := by
  show Re.ok (PyData.list (cutD (ns.map PyData.int) lo hi)) = _
  unfold cutD cutZ lI
  rw [List.length_map, List.map_take, List.map_drop]
theorem cutZ_to {ns : List Int} {k : Nat} (h : k ≤ ns.length) : cutZ ns none (some (k : Int)) = ns.take k := by
  unfold cutZ
  rw [HT.sIx_none, HT.sIx_nat]
  simp [Nat.min_eq_left h]
theorem cutZ_from {ns : List Int} {k : Nat} : cutZ ns (some (k : Int)) none = ns.drop k := by
  unfold cutZ
  rw [HT.sIx_none, HT.sIx_nat]
  by_cases h : k ≤ ns.length
  · rw [Nat.min_eq_left h, ← List.length_drop, List.take_length]
  · rw [Nat.min_eq_right (by omega), List.drop_length, List.take_nil, List.drop_eq_nil_of_le (by omega)]
theorem erase_perm : ∀ (l : List α) (i : Nat) (h : i < l.length), (l[i] :: l.eraseIdx i).Perm l
  | x :: l, 0, _ => .refl _
  | x :: l, i + 1, h => by
    have h' : i < l.length := by simpa using h
    rw [List.eraseIdx_cons_succ, List.getElem_cons_succ]
    exact (List.Perm.swap _ _ _).trans ((erase_perm l i h').cons x)
theorem up_succ (n : Nat) : (upI 0 n).map (· + 1) = upI 1 n := by
  unfold upI
  rw [List.map_map]
  refine List.map_congr_left fun k _ => ?_
  simp
  omega
end
end Pu

set_option Elab.async false
set_option linter.all false
set_option maxRecDepth 100000
set_option maxHeartbeats 2000000
/-! t[::-1] of a tuple -/
namespace HT
open PySem PySem.Spec PyProof.Rows
theorem rev_adjust (n : Nat) : Builtin.Slice.sliceAdjust none none (-1) (n : Int) = ((n : Int) - 1, -1) := by
  unfold Builtin.Slice.sliceAdjust
  simp
theorem rev_places (n : Nat) : Builtin.Slice.slicePlaces ((n : Int) - 1) (-1) (-1) = n := by
  unfold Builtin.Slice.slicePlaces
  simp
  split
  · omega
  · omega
theorem rev_pick (l : List Value) : ((List.range l.length).filterMap fun (m : Nat) => l.toArray[((l.length : Int) - 1 + (m : Int) * (-1)).toNat]?).toArray = l.reverse.toArray := by
  congr 1
  have e : ∀ k, k ≤ l.length → (List.range k).filterMap (fun (m : Nat) => l.toArray[((l.length : Int) - 1 + (m : Int) * (-1)).toNat]?) = l.reverse.take k := by
    intro k
    induction k with
    | zero => intro _; rfl
    | succ k ih =>
      intro hk
      rw [List.range_succ, List.filterMap_append, ih (by omega)]
      have h1 : ((l.length : Int) - 1 + (k : Int) * (-1)).toNat = l.length - 1 - k := by omega
      have h2 : l.toArray[((l.length : Int) - 1 + (k : Int) * (-1)).toNat]? = some l[l.length - 1 - k] := by
        rw [h1, List.getElem?_toArray, List.getElem?_eq_getElem (by omega)]
      have h3 : l.reverse[k]? = some l[l.length - 1 - k] := by
        rw [List.getElem?_reverse (by omega), List.getElem?_eq_getElem (by omega)]
      rw [List.take_add_one, h3]
      congr 1
      rw [List.filterMap_cons, h2]
      rfl
  rw [e _ (Nat.le_refl _)]
  rw [← List.length_reverse, List.take_length]
section
variable {prog : Program} {w : World} {A : Around} {E : Value → Shared → Prop} {s : Shared}
theorem rev_applied {sl : Addr} {n : Nat} {tk : Tok} {Q : Int × Int × Nat → Shared → Prop} (hs : s.heap.IsSliceOf sl .none .none (.int (-1) tk)) (h : Q ((n : Int) - 1, -1, n) s) :
    wpAny (model prog w) A (Builtin.Slice.sliceApplied (.ref sl) (pure (n : Int))) Q E s := by
  obtain ⟨ob, ho, hc, hd⟩ := id hs
  unfold Builtin.Slice.sliceApplied Builtin.Slice.sliceFields
  refine wpAny_bind (wpAny_bind (wpAny_field ho hd (x := .none) rfl (wpAny_bind (wpAny_field ho hd (x := .none) rfl (wpAny_bind (wpAny_field ho hd (x := .int (-1) tk) rfl (wpAny_pure ?_)))))))
  refine wpAny_bind (slicePart_int ?_)
  show wpAny _ _ (if ((-1 : Int) == 0) = true then _ else _) _ _ s
  rw [if_neg (by decide)]
  refine wpAny_bind (slicePart_none (wpAny_bind (slicePart_none (wpAny_bind (wpAny_pure ?_)))))
  show wpAny _ _ (match Builtin.Slice.sliceAdjust none none (-1) (n : Int) with | (lo, hi) => pure (lo, (-1 : Int), Builtin.Slice.slicePlaces lo hi (-1))) _ _ s
  rw [rev_adjust n]
  show wpAny _ _ (pure ((n : Int) - 1, (-1 : Int), Builtin.Slice.slicePlaces ((n : Int) - 1) (-1) (-1))) _ _ s
  rw [rev_places]
  exact wpAny_pure h
theorem rev_getItem {t sl : Addr} {its : List Value} {tk : Tok} {Q : Value → Shared → Prop} (ht : IsTup s.heap t its.toArray) (hs : s.heap.IsSliceOf sl .none .none (.int (-1) tk))
    (h : Q (.ref s.heap.objs.size) { s with heap := s.heap.push { cls := .type "tuple", data := .seq its.reverse.toArray } }) (hz : its.length ≤ sizeLine) : wpAny (model prog w) A (getItem (.ref t) (.ref sl)) Q E s := by
  have hok : sizeOk (.seq its.reverse.toArray) := by
    show its.reverse.toArray.size ≤ sizeLine
    rw [List.size_toArray, List.length_reverse]
    exact hz
  obtain ⟨ob, ho, hc, hd⟩ := id hs
  have ty : s.TypeIs (.ref sl) "slice" := ⟨ob, ho, hc⟩
  unfold getItem
  try with_reducible refine wpAny_holding ?_
  first | refine wpAny_bind (wpAny_pure ?_) | skip
  refine wpAny_bind (wpAny_sequenceKey ht.typeIs (by decide) ?_)
  refine wpAny_bind (wpAny_callSpecial?_slot (name := Str.ofString "__getitem__") ht.typeIs PyProof.Rows.slot_tuple_getitem (wpAny_call_entry PyProof.Rows.slot_tuple_getitem ht.typeIs entry_tuple_getitem ?_ (args_tuple_getitem _ _)))
  show wpAny _ _ (Builtin.Tuple.tupleItemsOf (.ref t) >>= _) _ _ s
  refine wpAny_bind (tupleItemsOf_ ht (wpAny_bind (wpAny_typeOf ty ?_)))
  rw [if_pos (by decide)]
  refine wpAny_bind ?_
  rw [List.size_toArray]
  refine rev_applied hs ?_
  have hno : ¬ ((((its.length : Int) - 1 == 0) && ((-1 : Int) == 1) && (its.length == its.toArray.size)) = true) := by simp
  show wpAny _ _ (if (((its.length : Int) - 1 == 0) && ((-1 : Int) == 1) && (its.length == its.toArray.size)) = true then _ else _) _ _ s
  rw [if_neg hno, rev_pick]
  first
    | exact wpAny_bind (m := Builtin.Tuple.tupleExact _) (wpAny_newObj_type (wpAny_pure ⟨_, rfl, wpAny_pure h⟩) hok)
    | exact wpAny_bind (m := Builtin.Tuple.tupleExact _) (wpAny_newObj_type (wpAny_bind (wpAny_pure (wpAny_pure ⟨_, rfl, wpAny_pure h⟩))) hok)
    | exact wpAny_bind (wpAny_bind (m := Builtin.Tuple.tupleExact _) (wpAny_newObj_type (wpAny_pure (wpAny_pure ⟨_, rfl, wpAny_pure h⟩)) hok))
    | exact wpAny_bind (wpAny_bind (m := Builtin.Tuple.tupleExact _) (wpAny_newObj_type (wpAny_pure ⟨_, rfl, wpAny_pure h⟩) hok))
end
end HT
namespace Pu
open PySem PySem.Spec PyProof.Rows L2
variable [TabL]
section
variable {X : Cx} {M : Nat → Bool} {F : Fx} {E : L2.St → XK} {la fa lb fb : Bool} {a b : Expr} {pos : Pos} {f g : Rho → Re PyData}
def tRev (K : PySem.W.Frag) (te ts : TE) : TE := fun σ H Q => te σ H fun x H1 => ts σ H1 fun y H2 => ∃ p xs, x = .ref p ∧ y = .int (-1) ∧ SqT K H2 p xs ∧ NewT Q H2 xs.reverse
theorem vals_rev : ∀ {xs : List V} {us : List Value}, Vals xs us → Vals xs.reverse us.reverse
  | _, _, .nil => .nil
  | _, _, .cons h r => by
    rw [List.reverse_cons, List.reverse_cons]
    exact (vals_rev r).append (.cons h .nil)
theorem pe_rev {te ts : TE} {p2 : Pos} (he : PE X a te) (hs : PE X b ts) : PE X (.Subscript a (.Slice none none (some b) p2) pos) (tRev X.K te ts) := by
  refine ⟨fun pins s σ H Q I h => ?_⟩
  refine Subscript_ (thn (he.run pins s σ H _ I h) fun v s1 ⟨x, H1, I1, r1, q1⟩ => ?_)
  refine wpAny_Slice ?_
  rw [evalPart_none]
  refine wpAny_pure (wpAny_pure ?_)
  rw [evalPart_some]
  refine thn (hs.run pins s1 σ H1 _ I1 q1) fun vu s3 ⟨y, H3, I3, ry, q3⟩ => ?_
  obtain ⟨p, xs, rfl, rfl, hq, q⟩ := q3
  cases r1
  obtain ⟨tk, rfl⟩ := ry
  have I4 : Inv X pins σ H3 { s3 with heap := s3.heap.push { cls := .type "slice", data := .fields #[.none, .none, .int (-1) tk] } } := I3.kept (t' := s3.toks) fun b ob q => Heap.get?_push_of_some _ q
  obtain ⟨its, r, ht, hz⟩ := I4.tuple hq
  show wpAny (model X.prog X.w) X.A (subscriptTail a (.Slice none none (some b) p2) (.ref p) (.ref s3.heap.objs.size)) (EP X pins σ Q) X.xe _
  refine tail_any (ops := [.ref p, .ref s3.heap.objs.size]) ht.typeIs PyProof.Rows.slot_tuple_getitem.lookup ?_ (by with_unfolding_all rfl)
  refine HT.rev_getItem ht (Heap.IsSliceOf.new ..) ?_ (by rw [← r.length]; exact hz)
  exact Inv.tupNew (tk := s3.toks) I4 (vals_rev r) (by rw [List.length_reverse]; exact hz) q
def oRev : PyData → PyData → Option PyData := fun d e => match d, e with | .tuple ds, .int i => if i = -1 then some (.tuple ds.reverse) else none | _, _ => none
theorem rpA_rev {K : PySem.W.Frag} {H : Hp} {S : Addr → Prop} : ∀ {vs : List V} {ds : List PyData}, RpA K H S vs ds → RpA K H S vs.reverse ds.reverse
  | _, _, .nil => .nil
  | _, _, .cons h r => by
    rw [List.reverse_cons, List.reverse_cons]
    exact (rpA_rev r).append (.cons h .nil)
theorem de_rev {p2 : Pos} (ha : DE X M F E la fa a f) (hb : DE X M F E lb fb b g) : DE X M F E (la || lb) false (.Subscript a (.Slice none none (some b) p2) pos) (r2 oRev f g) := by
  obtain ⟨ta, pa, ha⟩ := ha
  obtain ⟨tb, pb, hb⟩ := hb
  refine ⟨_, pe_rev pa pb, fun σ H ρ er Q z => ?_⟩
  refine ha σ H ρ er _ (we_step z fun d v H1 e1 s1 r1 _ z1 => ?_)
  refine hb σ H1 ρ (er.same s1) _ (we_step (lk' := lb) (fr' := fb) z1 fun e u H2 e2 s2 r2 _ z2 => ?_)
  have r1' := r1.same s2
  cases r1' with
  | tup h1 rr =>
    cases r2 with
    | int i =>
      have z2 : WE X M F E (la || lb) false σ ρ H2 (liftO (if i = -1 then some (.tuple _) else none)) Q := z2
      by_cases hi : i = -1
      · rw [if_pos hi] at z2
        subst hi
        refine ⟨_, _, rfl, rfl, h1.sq, fun p o hp hd => z2 _ _ (same_new hp) ?_ fun z => nomatch z⟩
        exact .tup (.inl ⟨o, upd_same, hd⟩) ((rpA_rev (rr.same (same_new hp))).wide fun a h => rs_or1 a h)
      · rw [if_neg hi] at z2
        exact z2.elim
    | bl _ => exact z2.elim
    | non => exact z2.elim
    | str _ => exact z2.elim
    | tup _ _ => exact z2.elim
    | lst _ _ _ => exact z2.elim
    | scr _ _ => exact z2.elim
    | dic _ _ _ _ => exact z2.elim
    | dit _ _ _ _ => exact z2.elim
    | dif _ _ _ => exact z2.elim
    | rng _ => exact z2.elim
    | dct _ _ _ _ => exact z2.elim
  | bl _ => exact z2.elim
  | non => exact z2.elim
  | int _ => exact z2.elim
  | str _ => exact z2.elim
  | lst _ _ _ => exact z2.elim
  | scr _ _ => exact z2.elim
  | dic _ _ _ _ => exact z2.elim
  | dit _ _ _ _ => exact z2.elim
  | dif _ _ _ => exact z2.elim
  | rng _ => exact z2.elim
  | dct _ _ _ _ => exact z2.elim
@[simp] theorem oRev_t {ns : List Int} : oRev (tI ns) (.int (-1)) = some (tI ns.reverse) := by
  show some (PyData.tuple (ns.map PyData.int).reverse) = _
  rw [← List.map_reverse]
  rfl
end
end Pu

set_option Elab.async false
set_option linter.all false
set_option maxRecDepth 100000
set_option maxHeartbeats 2000000
namespace Pu
open PySem PySem.Spec PyProof.Rows L2
variable [TabL]
section
variable {α β : Type} {ρ : Rho} {i j : Int}
def lnkT : Option PyData → Re Bool → Re Bool
  | some (.bool true), r => r
  | some (.bool false), _ => .ok false
  | _, _ => .bad
@[simp] theorem lnkT_b (b : Bool) (r : Re Bool) : lnkT (some (.bool b)) r = if b = true then r else .ok false := by cases b <;> rfl
@[simp] theorem asR_b (b : Bool) : asR (some (.bool b)) = .ok b := (rfl)
@[simp] theorem ap_chT (f : Rho → Re PyData) (g : PyData → Rho → Re Bool) : rChT f g ρ = (f ρ).andThen fun d => g d ρ := (rfl)
@[simp] theorem ap_linkT (gg : PyData → PyData → Option PyData) (g : Rho → Re PyData) (k : PyData → Rho → Re Bool) (d : PyData) : cLinkT gg g k d ρ = (g ρ).andThen fun e => lnkT (gg d e) (k e ρ) := by
  unfold cLinkT
  congr 1
  funext e
  rcases gg d e with _ | v
  · rfl
  · cases v with
    | bool b => cases b <;> rfl
    | _ => rfl
@[simp] theorem ap_lastT (gg : PyData → PyData → Option PyData) (g : Rho → Re PyData) (d : PyData) : cLastT gg g d ρ = (g ρ).andThen fun e => asR (gg d e) := (rfl)
@[simp] theorem ap_ch (f : Rho → Re PyData) (g : PyData → Rho → Re PyData) : rCh f g ρ = (f ρ).andThen fun d => g d ρ := (rfl)
@[simp] theorem ap_last (gg : PyData → PyData → Option PyData) (g : Rho → Re PyData) (d : PyData) : cLast gg g d ρ = (g ρ).andThen fun e => liftO (gg d e) := (rfl)
def asgR : Option Rho → Sr
  | some ρ => .nx ρ
  | none => .bad
@[simp] theorem asgR_some : asgR (some ρ) = .nx ρ := (rfl)
@[simp] theorem ap_sAsg (g : PyData → Rho → Option Rho) (f : Rho → Re PyData) : sAsg false g f ρ = (f ρ).st ρ fun d => asgR (g d ρ) := by
  unfold sAsg
  congr 1
@[simp] theorem gSeq3 (g : List PyData → Rho → Option Rho) (a b c : PyData) : gSeqD 3 g (.tuple [a, b, c]) ρ = g [a, b, c] ρ := (rfl)
@[simp] theorem gSeq2 (g : List PyData → Rho → Option Rho) (a b : PyData) : gSeqD 2 g (.tuple [a, b]) ρ = g [a, b] ρ := (rfl)
@[simp] theorem gMore_c (g : PyData → Rho → Option Rho) (h : List PyData → Rho → Option Rho) (d : PyData) (ds : List PyData) : gMore g h (d :: ds) ρ = (g d ρ).bind (h ds) := (rfl)
@[simp] theorem gNone_n : gNone [] ρ = some ρ := (rfl)
@[simp] theorem gSlot_n (k : Nat) (d : PyData) : gSlot k d ρ = some (ρ.set k (some d)) := (rfl)
@[simp] theorem bLen_d (ds : List PyData) : bLen [.tuple ds] = some (.int ds.length) := (rfl)
@[simp] theorem bLen_dl (ds : List PyData) : bLen [.list ds] = some (.int ds.length) := (rfl)
@[simp] theorem bTuple_dl (ds : List PyData) : bTuple [.list ds] = some (.tuple ds) := (rfl)
@[simp] theorem bTuple_d (ds : List PyData) : bTuple [.tuple ds] = some (.tuple ds) := (rfl)
@[simp] theorem bList_t {ns : List Int} : bList [tI ns] = some (lI ns) := (rfl)
@[simp] theorem bList_l {ns : List Int} : bList [lI ns] = some (lI ns) := (rfl)
@[simp] theorem itS_d (ds : List PyData) : itS (.tuple ds) = .ok ds := (rfl)
@[simp] theorem itS_dl (ds : List PyData) : itS (.list ds) = .ok ds := (rfl)
@[simp] theorem oIx_d (ds : List PyData) : oIx (.tuple ds) (.int i) = atD ds i := (rfl)
@[simp] theorem oIx_dl (ds : List PyData) : oIx (.list ds) (.int i) = atD ds i := (rfl)
theorem atD_nat {ds : List PyData} {k : Nat} (h : k < ds.length) : atD ds (k : Int) = ds[k]? := by
  unfold atD ixN
  rw [if_pos (Int.natCast_nonneg k), if_pos (by omega)]
  rfl
@[simp] theorem atD_0 (a : PyData) (ds : List PyData) : atD (a :: ds) 0 = some a := atD_nat (k := 0) (by simp)
@[simp] theorem atD_1 (a b : PyData) (ds : List PyData) : atD (a :: b :: ds) 1 = some b := (atD_nat (k := 1) (by simp)).trans (by simp)
@[simp] theorem atD_2 (a b c : PyData) (ds : List PyData) : atD (a :: b :: c :: ds) 2 = some c := (atD_nat (k := 2) (by simp)).trans (by simp)
@[simp] theorem atZ_0 (a : Int) (ds : List Int) : atZ (a :: ds) 0 = some a := atZ_nat (k := 0) (by simp)
@[simp] theorem atZ_1 (a b : Int) (ds : List Int) : atZ (a :: b :: ds) 1 = some b := (atZ_nat (k := 1) (by simp)).trans (by simp)
@[simp] theorem atZ_2 (a b c : Int) (ds : List Int) : atZ (a :: b :: c :: ds) 2 = some c := (atZ_nat (k := 2) (by simp)).trans (by simp)
@[simp] theorem atZ_3 (a b c d : Int) (ds : List Int) : atZ (a :: b :: c :: d :: ds) 3 = some d := (atZ_nat (k := 3) (by simp)).trans (by simp)
@[simp] theorem atZ_4 (a b c d e : Int) (ds : List Int) : atZ (a :: b :: c :: d :: e :: ds) 4 = some e := (atZ_nat (k := 4) (by simp)).trans (by simp)
@[simp] theorem atZ_5 (a b c d e f : Int) (ds : List Int) : atZ (a :: b :: c :: d :: e :: f :: ds) 5 = some f := (atZ_nat (k := 5) (by simp)).trans (by simp)
@[simp] theorem bAbs_i : bAbs [.int i] = some (.int (if i < 0 then -i else i)) := (rfl)
@[simp] theorem bMin2_i : bMin2 [.int i, .int j] = some (.int (if j < i then j else i)) := (rfl)
@[simp] theorem bMax2_i : bMax2 [.int i, .int j] = some (.int (if j > i then j else i)) := (rfl)
@[simp] theorem isN_t {ns : List Int} : oIsN (tI ns) .none = some (.bool false) := (rfl)
@[simp] theorem isN_n : oIsN .none .none = some (.bool true) := (rfl)
@[simp] theorem notN_t {ns : List Int} : oNotN (tI ns) .none = some (.bool true) := (rfl)
@[simp] theorem notN_n : oNotN .none .none = some (.bool false) := (rfl)
@[simp] theorem oNe_nn : oNe .none .none = some (.bool false) := by
  unfold oNe
  rw [if_pos ⟨rfl, rfl⟩]
  unfold PyData.eqv
  rfl
@[simp] theorem oEq_nn : oEq .none .none = some (.bool true) := by
  unfold oEq
  rw [if_pos ⟨rfl, rfl⟩]
  unfold PyData.eqv
  rfl
theorem oNe_s {a b : Str} (ha : SeqAt.shaped (.str a) = true) (hb : SeqAt.shaped (.str b) = true) : oNe (.str a) (.str b) = some (.bool (a != b)) := by
  unfold oNe
  rw [if_pos ⟨ha, hb⟩]
  unfold PyData.eqv
  rfl
theorem oEq_s {a b : Str} (ha : SeqAt.shaped (.str a) = true) (hb : SeqAt.shaped (.str b) = true) : oEq (.str a) (.str b) = some (.bool (a == b)) := by
  unfold oEq
  rw [if_pos ⟨ha, hb⟩]
  unfold PyData.eqv
  rfl
theorem oAdd_d {a b : List PyData} (h : a.length + b.length ≤ 10000) : oAdd (.tuple a) (.tuple b) = some (.tuple (a ++ b)) := by
  show (if okLen (a.length + b.length) = true then some (PyData.tuple (a ++ b)) else none) = _
  rw [if_pos (show okLen _ = true from decide_eq_true h)]
theorem oAdd_dl {a b : List PyData} (h : a.length + b.length ≤ 10000) : oAdd (.list a) (.list b) = some (.list (a ++ b)) := by
  show (if okLen (a.length + b.length) = true then some (PyData.list (a ++ b)) else none) = _
  rw [if_pos (show okLen _ = true from decide_eq_true h)]
theorem mkT_d {ds : List PyData} (h : ds.length ≤ 10000) : mkT ds = .ok (.tuple ds) := by
  unfold mkT
  rw [if_pos (show okLen _ = true from decide_eq_true h)]
theorem mkL_d {ds : List PyData} (h : ds.length ≤ 10000) : mkL ds = .ok (.list ds) := by
  unfold mkL
  rw [if_pos (show okLen _ = true from decide_eq_true h)]
theorem appR_d {k : Nat} {ds : List PyData} {d : PyData} (h : ds.length < 10000) : appR ρ k (some ds) (.ok d) = .nx (ρ.set k (some (.list (ds ++ [d])))) := by
  show (if okLen (ds.length + 1) = true then Sr.nx (ρ.set k (some (PyData.list (ds ++ [d])))) else .bad) = _
  rw [if_pos (show okLen _ = true from decide_eq_true h)]
theorem small_ok (h1 : -1000000 ≤ i) (h2 : i ≤ 1000000) : small62 i = true := by
  unfold small62
  rw [decide_eq_true (by omega), decide_eq_true (by omega)]
  rfl
theorem rg2_i (h1 : -1000000 ≤ i) (h2 : i ≤ 1000000) (h3 : -1000000 ≤ j) (h4 : j ≤ 1000000) : rg2 [.int i, .int j] = .ok ((upI i (j - i).toNat).map PyData.int) := by
  show (if small62 i = true ∧ small62 j = true then Re.ok (upFrom i (j - i).toNat) else .bad) = _
  rw [if_pos ⟨small_ok h1 h2, small_ok h3 h4⟩, upFrom_i]
/-- x[e] = v of an own list of numbers -/
theorem put_i {k : Nat} {f g : Rho → Re PyData} {ns : List Int} {x z : Int} (hk : ρ[k]? = some (some (lI ns))) (hf : f ρ = .ok (.int x)) (hg : g ρ = .ok (.int z)) (h0 : 0 ≤ z) (h1 : z < ns.length) : sPut k false f g ρ = .nx (ρ.set k (some (lI (ns.set z.toNat x)))) := by
  have e1 : getL ρ k = some (ns.map PyData.int) := by rw [getL_eq, hk]; rfl
  unfold sPut
  rw [hf, st_ok, e1]
  show (g ρ).st ρ _ = _
  rw [hg, st_ok]
  show (match ixN (ns.map PyData.int).length z with
    | some m => if (false = true → imm (.int x) = true) then Sr.nx (ρ.set k (some (.list ((ns.map PyData.int).set m (.int x))))) else .bad
    | none => .bad) = _
  rw [List.length_map, ixN_p h0 h1]
  show (if (false = true → imm (.int x) = true) then Sr.nx (ρ.set k (some (PyData.list ((ns.map PyData.int).set z.toNat (.int x))))) else .bad) = _
  rw [if_pos (fun z => nomatch z), ← List.map_set]
  rfl
theorem up_get {a : Int} {n k : Nat} {y : Int} (h : (upI a n)[k]? = some y) : y = a + k ∧ k < n := by
  have hk : k < n := by
    have := getSome h
    rwa [upI_length] at this
  unfold upI at h
  rw [List.getElem?_map, List.getElem?_range hk] at h
  have q : a + (k : Int) = y := Option.some.inj h
  exact ⟨q.symm, hk⟩
theorem loop_nx {g : PyData → Rho → Option Rho} {b : Rho → Sr} {d : PyData} {ds : List PyData} {ρ1 ρ2 : Rho} (h : g d ρ = some ρ1) (h2 : b ρ1 = .nx ρ2) : sLoop g b (d :: ds) ρ = sLoop g b ds ρ2 := by
  show (match g d ρ with
    | none => Sr.bad
    | some ρ1 => match b ρ1 with
      | .nx ρ2 => sLoop g b ds ρ2
      | .ct ρ2 => sLoop g b ds ρ2
      | .bk ρ2 => .nx ρ2
      | .rt d => .rt d
      | .ex c ρ2 => .ex c ρ2
      | .bad => .bad) = _
  rw [h]
  show (match b ρ1 with
    | .nx ρ2 => sLoop g b ds ρ2
    | .ct ρ2 => sLoop g b ds ρ2
    | .bk ρ2 => .nx ρ2
    | .rt d => .rt d
    | .ex c ρ2 => .ex c ρ2
    | .bad => .bad) = _
  rw [h2]
theorem loop_ex {g : PyData → Rho → Option Rho} {b : Rho → Sr} {d : PyData} {ds : List PyData} {ρ1 ρ2 : Rho} {c : Str} (h : g d ρ = some ρ1) (h2 : b ρ1 = .ex c ρ2) : sLoop g b (d :: ds) ρ = .ex c ρ2 := by
  show (match g d ρ with
    | none => Sr.bad
    | some ρ1 => match b ρ1 with
      | .nx ρ2 => sLoop g b ds ρ2
      | .ct ρ2 => sLoop g b ds ρ2
      | .bk ρ2 => .nx ρ2
      | .rt d => .rt d
      | .ex c ρ2 => .ex c ρ2
      | .bad => .bad) = _
  rw [h]
  show (match b ρ1 with
    | .nx ρ2 => sLoop g b ds ρ2
    | .ct ρ2 => sLoop g b ds ρ2
    | .bk ρ2 => .nx ρ2
    | .rt d => .rt d
    | .ex c ρ2 => .ex c ρ2
    | .bad => .bad) = _
  rw [h2]
@[simp] theorem loop_nil {g : PyData → Rho → Option Rho} {b : Rho → Sr} : sLoop g b [] ρ = .nx ρ := (rfl)
end
end Pu

set_option Elab.async false
set_option linter.all false
set_option maxRecDepth 100000
set_option maxHeartbeats 2000000
/-! dicts whose keys are whole numbers -/
namespace Pu
open PySem PySem.Spec PyProof.Rows L2
variable [TabL]
def keyI (i : Int) : PyData → Bool
  | .int j => decide (j = i)
  | _ => false
def lookI (kvs : List (PyData × PyData)) (i : Int) : Option PyData := (kvs.find? fun p => keyI i p.1).map (·.2)
def dicD (kvs : List (PyData × PyData)) : PyData := .dict ((.bool true, .none) :: kvs)
def kvsOf : PyData → Option (List (PyData × PyData))
  | .dict ((.bool true, .none) :: kvs) => some kvs
  | _ => none
theorem key_kD (i : Int) (k : Key) : keyI i (kD k) = decide (k = .inl i) := by
  cases k with
  | inl j =>
    show decide (j = i) = decide ((Sum.inl j : Key) = .inl i)
    by_cases h : j = i
    · rw [decide_eq_true h, decide_eq_true (by rw [h])]
    · rw [decide_eq_false h, decide_eq_false fun e => h (Sum.inl.inj e)]
  | inr s => rfl
theorem look_of {K : PySem.W.Frag} {H : Hp} {S : Addr → Prop} (i : Int) : ∀ {ks : List Key} {xs : List V} {ds : List PyData}, ks.length = xs.length → RpA K H S xs ds →
    match lookI ((ks.map kD).zip ds) i with
    | some z => ∃ v, valV (ks.zip xs) (.inl i) = some v ∧ Rp K H S v z
    | none => valV (ks.zip xs) (.inl i) = none
  | [], _, _, _, _ => by
    simp [lookI, valV]
  | k :: ks, [], _, h, _ => by simp at h
  | k :: ks, x :: xs, _, h, .cons (d := d) (ds := ds) r rr => by
    have ih := look_of i (ks := ks) (xs := xs) (by simpa using h) rr
    rw [List.map_cons, List.zip_cons_cons, List.zip_cons_cons]
    by_cases e : k = .inl i
    · have h1 : lookI ((kD k, d) :: (ks.map kD).zip ds) i = some d := by
        unfold lookI
        rw [List.find?_cons, key_kD, decide_eq_true e]
        rfl
      rw [h1]
      exact ⟨x, valV_pos e, r⟩
    · have h1 : lookI ((kD k, d) :: (ks.map kD).zip ds) i = lookI ((ks.map kD).zip ds) i := by
        unfold lookI
        rw [List.find?_cons, key_kD, decide_eq_false e]
      rw [h1, valV_neg e]
      exact ih
section
variable {X : Cx} {M : Nat → Bool} {F : Fx} {E : L2.St → XK} {σ : L2.St} {ρ : Rho} {H H' H1 : Hp} {D : Ends} {la fa lb fb : Bool} {a b : Expr} {pos : Pos} {f g : Rho → Re PyData}
/-! ### d[k] -/
def oDGet : PyData → PyData → Option PyData := fun d e => match kvsOf d, e with | some kvs, .int i => lookI kvs i | _, _ => none
theorem oDGet_some {d e z : PyData} (h : oDGet d e = some z) : ∃ kvs i, d = dicD kvs ∧ e = .int i ∧ lookI kvs i = some z := by
  unfold oDGet kvsOf at h
  split at h
  · rename_i kvs i q
    split at q
    · cases q
      exact ⟨_, _, rfl, rfl, h⟩
    · cases q
  · cases h
theorem kv_i (i : Int) : V.int i = kV (Sum.inl i) := rfl
theorem de_dget (hu : X.A.units + 64 < cLine) (ha : DE X M F E la fa a f) (hb : DE X M F E lb fb b g) (hs : NoSl b := by intro _ _; rfl) : DE X M F E (la || lb) false (.Subscript a b pos) (r2 oDGet f g) := by
  obtain ⟨ta, pa, ha⟩ := ha
  obtain ⟨tb, pb, hb⟩ := hb
  refine ⟨_, pe_dget (by omega) pa pb hs, fun σ H ρ er Q z => ?_⟩
  refine ha σ H ρ er _ (we_step z fun d v H1 e1 s1 r1 _ z1 => ?_)
  refine hb σ H1 ρ (er.same s1) _ (we_step (lk' := lb) (fr' := fb) z1 fun e u H2 e2 s2 r2 _ z2 => ?_)
  have z3 : WE X M F E (la || lb) false σ ρ H2 (liftO (oDGet d e)) Q := z2
  clear z2
  cases q : oDGet d e with
  | none =>
    rw [q] at z3
    exact z3.elim
  | some z =>
    rw [q] at z3
    obtain ⟨kvs, i, rfl, rfl, hl⟩ := oDGet_some q
    have r1' := r1.same s2
    cases r2
    generalize hd : dicD kvs = dd at r1'
    cases r1' with
    | dic h1 h2 h3 h4 =>
      unfold dicD at hd
      cases hd
      have lo := look_of i h3 h4
      rw [hl] at lo
      obtain ⟨v', hv, rv⟩ := lo
      refine ⟨_, v', rfl, ?_, z3 _ H2 (Same.refl _) (rv.wide fun a h => rs_or1 a h) fun z => nomatch z⟩
      have g := DGet.k (k := Sum.inl i) h1
      rw [hv] at g
      exact g
    | scr _ _ => cases hd
    | rng _ => cases hd
    | dct _ _ _ _ => cases hd
    | dit _ _ _ _ => cases hd
    | dif h1 h3 h4 =>
      unfold dicD at hd
      cases hd
      have lo := look_of i h3 h4
      rw [hl] at lo
      obtain ⟨v', hv, rv⟩ := lo
      refine ⟨_, v', rfl, ?_, z3 _ H2 (Same.refl _) (rv.wide fun a h => rs_or1 a h) fun z => nomatch z⟩
      exact .inl ⟨_, Sum.inl i, .inr ⟨_, h1⟩, rfl, hv.symm⟩
    | bl _ => cases hd
    | non => cases hd
    | int _ => cases hd
    | str _ => cases hd
    | tup _ _ => cases hd
    | lst _ _ _ => cases hd
/-! ### {} of the frame's own -/
theorem de_dnew : DE X M F E false true (.Dict [] [] pos) (rC (dicD [])) := by
  refine ⟨_, pe_dnewK, fun σ H ρ er Q z => ?_⟩
  intro p hp
  refine z (.ref p) _ (same_new hp) (.dic (ks := []) (xs := []) (ds := []) upd_same ?_ rfl .nil) fun _ => ⟨p, rfl, hp, .dic (ks := []) (xs := []) (ds := []) upd_same rfl .nil⟩
  exact er.freshS p hp
/-! ### d[k] = v, k new -/
def sPutD (i : Nat) (lk : Bool) (f g : Rho → Re PyData) : Rho → Sr := fun ρ => (f ρ).st ρ fun d => (match ρ[i]? with
  | some (some dd) => (g ρ).st ρ fun e => (match kvsOf dd, e with
    | some kvs, .int n => if okLen (kvs.length + 1) = true ∧ lookI kvs n = none ∧ (lk = true → imm d = true) then .nx (ρ.set i (some (dicD (kvs ++ [(.int n, d)])))) else .bad
    | _, _ => .bad)
  | _ => .bad)
theorem ER.dicO (er : ER X.K M F σ H ρ) {i : Nat} {dd : PyData} {kvs : List (PyData × PyData)} (m : M i = true) (h : ρ[i]? = some (some dd)) (hk : kvsOf dd = some kvs) : ∃ (pp : Addr) (ks : List Key) (xs : List V) (ds : List PyData), σ[i]? = some (some (.ref pp)) ∧ H pp = some (.dK (ks.zip xs)) ∧ ks.length = xs.length ∧ RpA X.K H (RS M F σ ρ false) xs ds ∧ kvs = (ks.map kD).zip ds := by
  obtain ⟨pp, hs, _, w⟩ := er.ow i _ h m
  cases w with
  | lst e r => cases hk
  | dic e l r =>
    cases hk
    exact ⟨pp, _, _, _, hs, e, l, r, rfl⟩
  | dit e l r => cases hk
  | dct e l r => cases hk
theorem zip_len {ks : List Key} {xs : List V} {ds : List PyData} (l : ks.length = xs.length) (r : xs.length = ds.length) : ((ks.map kD).zip ds).length = (ks.zip xs).length := by
  rw [List.length_zip, List.length_zip, List.length_map]
  omega
theorem ds_dput {i : Nat} {x : Str} {p1 p2 : Pos} (hu : X.A.units + 64 < cLine) (m : M i = true) (h : DE X M F E la fa a f) (hg : DE X M F E lb fb b g) (hN : X.N[i]? = some x := by rfl) (hv : Vis X.env.scope x := by first | exact Or.inl rfl | exact Or.inr (Or.inl rfl) | exact Or.inr (Or.inr rfl)) (hd : (x == ("__debug__" : Str)) = false := by decide)
    (hcd : (x == ("__classdict__" : Str)) = false := by decide) (hs : swapsWith a (some (.Subscript (.Name x p1) b p2)) pos.line X.env = pure false := by rfl) :
    DS X M F E (.Assign [.Subscript (.Name x p1) b p2] a pos) (sPutD i la f g) := by
  obtain ⟨ta, pa, h⟩ := h
  obtain ⟨tb, pb, hg⟩ := hg
  refine ⟨_, ps_dput (by omega) (pe_var hN hv hd hcd) pb pa hs, fun σ H ρ er D w => ?_⟩
  refine h σ H ρ er _ (ws_step er w fun d v H1 e1 s1 r1 _ w1 => ?_)
  have er1 := er.same s1
  cases q : ρ[i]? with
  | none =>
    rw [q] at w1
    exact w1.elim
  | some o =>
    cases o with
    | none =>
      rw [q] at w1
      exact w1.elim
    | some dd =>
      rw [q] at w1
      obtain ⟨pp, sp, _, w0⟩ := er1.ow i dd q m
      refine ⟨.ref pp, sp, ?_⟩
      refine hg σ H1 ρ er1 _ (ws_step (lk := lb) (fr := fb) er1 w1 fun e u H2 e2 s2 r2 _ w2 => ?_)
      have er2 := er1.same s2
      cases qk : kvsOf dd with
      | none =>
        rw [qk] at w2
        exact w2.elim
      | some kvs =>
        rw [qk] at w2
        cases r2 with
        | int n =>
          have w2 : WS X M F E σ H2 ρ (if okLen (kvs.length + 1) = true ∧ lookI kvs n = none ∧ (la = true → imm d = true) then .nx (ρ.set i (some (dicD (kvs ++ [(.int n, d)])))) else .bad) D := w2
          by_cases c : okLen (kvs.length + 1) = true ∧ lookI kvs n = none ∧ (la = true → imm d = true)
          · rw [if_pos c] at w2
            obtain ⟨c1, c2, c3⟩ := c
            obtain ⟨pp', ks, xs, ds, sp', hx, l, rr, ek⟩ := er2.dicO m q qk
            rw [sp] at sp'
            cases sp'
            have lo := look_of n l rr
            rw [← ek, c2] at lo
            have hlen : (ks.zip xs).length < sizeLine := by
              have := of_decide_eq_true c1
              rw [ek, zip_len l rr.length] at this
              exact Nat.lt_of_lt_of_le (Nat.lt_of_succ_le this) (by decide)
            have ez : putK (ks.zip xs) (.inl n) v = (ks ++ [(Sum.inl n : Key)]).zip (xs ++ [v]) := by
              rw [putK_new v lo, List.zip_append l]
              rfl
            have ed : dicD (kvs ++ [(.int n, d)]) = .dict ((.bool true, .none) :: ((ks ++ [(.inl n : Key)]).map kD).zip (ds ++ [d])) := by
              rw [ek, List.map_append, List.zip_append (by rw [List.length_map, l, rr.length])]
              rfl
            have rA := rr.append (.cons (rp_lk (r1.same s2) c3) .nil)
            obtain ⟨er3, ev3⟩ := er2.put (o := .dK ((ks ++ [(Sum.inl n : Key)]).zip (xs ++ [v]))) (d' := dicD (kvs ++ [(.int n, d)])) m q sp (by
              rw [ed]
              refine .dic upd_same (by rw [List.length_append, List.length_append, l]; rfl) (rA.keep ⟨fun a u qa xa _ => ?_⟩ fun _ _ x _ _ => x)
              rw [upd_ne]
              · exact qa
              · intro za
                subst za
                rcases xa with xa | xa
                · exact xa.2 rfl ⟨i, dd, m, q, sp⟩
                · rw [hx] at qa
                  cases qa
                  exact xa trivial)
            refine ⟨_, _, rfl, DPut.k (k := Sum.inl n) hx hlen, ?_⟩
            rw [ez]
            exact w2 σ _ er3 ev3
          · rw [if_neg c] at w2
            exact w2.elim
        | bl _ => exact w2.elim
        | non => exact w2.elim
        | str _ => exact w2.elim
        | tup _ _ => exact w2.elim
        | lst _ _ _ => exact w2.elim
        | scr _ _ => exact w2.elim
        | dic _ _ _ _ => exact w2.elim
        | dit _ _ _ _ => exact w2.elim
        | dif _ _ _ => exact w2.elim
        | rng _ => exact w2.elim
        | dct _ _ _ _ => exact w2.elim
end
end Pu

set_option Elab.async false
set_option linter.all false
set_option maxRecDepth 100000
set_option maxHeartbeats 2000000
namespace Pu
open PySem PySem.Spec PyProof.Rows L2
variable [TabL]
section
variable {X : Cx} {M : Nat → Bool} {F : Fx} {E : L2.St → XK} {σ σ1 : L2.St} {ρ ρ1 : Rho} {H H' H1 : Hp} {D : Ends} {K : PySem.W.Frag}
/-! ### sorted(d), list(d) -/
theorem ints_keys : ∀ {ks : List Key} {ns : List Int}, ks.map kD = ns.map PyData.int → ks = ns.map Sum.inl
  | [], [], _ => rfl
  | [], _ :: _, h => by cases h
  | _ :: _, [], h => by cases h
  | k :: ks, n :: ns, h => by
    rw [List.map_cons, List.map_cons] at h
    obtain ⟨h1, h2⟩ := List.cons.inj h
    rw [List.map_cons, ints_keys h2]
    cases k with
    | inl j =>
      have e : PyData.int j = .int n := h1
      cases e
      rfl
    | inr s => cases h1
def keysOf (kvs : List (PyData × PyData)) : Option (List Int) := asInts (kvs.map (·.1))
def bSortD : List PyData → Option PyData := fun ds => match ds with
  | [d] => (kvsOf d).bind fun kvs => (keysOf kvs).bind fun ns => if ns.length < 64 then some (.list ((srtZ ns).map PyData.int)) else none
  | _ => none
def bListD : List PyData → Option PyData := fun ds => match ds with
  | [d] => (kvsOf d).bind fun kvs => (keysOf kvs).bind fun ns => some (.list (ns.map PyData.int))
  | _ => none
theorem zip_fst : ∀ {α β : Type} (ks : List α) (ds : List β), ks.length = ds.length → (ks.zip ds).map (·.1) = ks
  | _, _, [], [], _ => rfl
  | _, _, _ :: ks, _ :: ds, h => by
    rw [List.zip_cons_cons, List.map_cons, zip_fst ks ds (by simpa using h)]
  | _, _, [], _ :: _, h => by simp at h
  | _, _, _ :: _, [], h => by simp at h
theorem dic_in {S : Addr → Prop} {v : V} {d : PyData} {kvs : List (PyData × PyData)} {ns : List Int} (r : Rp K H S v d) (hk : kvsOf d = some kvs) (hn : keysOf kvs = some ns) : ∃ (a : Addr) (ks : List Key) (xs : List V), v = .ref a ∧ Rd H a (.dK (ks.zip xs)) ∧ (ks.zip xs).map (·.1) = ns.map Sum.inl := by
  cases r with
  | dic h1 h2 h3 h4 =>
    cases hk
    unfold keysOf at hn
    have e := asInts_eq hn
    rw [zip_fst _ _ (by rw [List.length_map, h3, h4.length])] at e
    exact ⟨_, _, _, rfl, .inl h1, by rw [zip_fst _ _ h3, ints_keys e]⟩
  | scr _ _ => cases hk
  | rng _ => cases hk
  | dct _ _ _ _ => cases hk
  | dit _ _ _ _ => cases hk
  | dif h1 h3 h4 =>
    cases hk
    unfold keysOf at hn
    have e := asInts_eq hn
    rw [zip_fst _ _ (by rw [List.length_map, h3, h4.length])] at e
    exact ⟨_, _, _, rfl, .inr ⟨_, h1⟩, by rw [zip_fst _ _ h3, ints_keys e]⟩
  | bl _ => cases hk
  | non => cases hk
  | int _ => cases hk
  | str _ => cases hk
  | tup _ _ => cases hk
  | lst _ _ _ => cases hk
theorem s_sortD : SemL K (fun xs H Q => ∃ (a : Addr) (kvs : List (Key × V)) (ks : List Int), xs = [.ref a] ∧ Rd H a (.dK kvs) ∧ kvs.map (·.1) = ks.map Sum.inl ∧ ks.length < 64 ∧
    ∀ (ys : List Int) (p : Addr), ys.Perm ks → ys.Pairwise (· ≤ ·) → H p = none → Q (.ref p) (upd H p (.lst (ys.map V.int)))) true bSortD := fun S H xs ds z Q new r q k => by
  unfold bSortD at q
  split at q
  · obtain ⟨kvs, e1, q⟩ := Option.bind_eq_some_iff.mp q
    obtain ⟨ns, e2, q⟩ := Option.bind_eq_some_iff.mp q
    by_cases c : ns.length < 64
    · rw [if_pos c] at q
      cases q
      cases r with
      | cons r1 r2 =>
        cases r2
        obtain ⟨a, ks, xs, rfl, hx, hm⟩ := dic_in r1 e1 e2
        refine ⟨a, _, ns, rfl, hx, hm, c, fun ys p hp hs hn => ?_⟩
        rw [srtZ_uniq hp hs]
        exact k _ _ (same_new hn) (.lst upd_same (new p hn) (RpA.ints _)) fun _ => frs_lst hn (RpA.ints _)
    · rw [if_neg c] at q
      cases q
  · cases q
theorem kV_ints : ∀ ns : List Int, (ns.map (Sum.inl (β := Str))).map kV = ns.map V.int
  | [] => rfl
  | n :: ns => by
    rw [List.map_cons, List.map_cons, kV_ints ns]
    rfl
theorem s_listD : SemL K (fun xs H Q => ∃ (a : Addr) (kvs : List (Key × V)), xs = [.ref a] ∧ Rd H a (.dK kvs) ∧ ∀ p, H p = none → Q (.ref p) (upd H p (.lst (kvs.map fun kv => kV kv.1)))) true bListD := fun S H xs ds z Q new r q k => by
  unfold bListD at q
  split at q
  · obtain ⟨kvs, e1, q⟩ := Option.bind_eq_some_iff.mp q
    obtain ⟨ns, e2, q⟩ := Option.bind_eq_some_iff.mp q
    cases q
    cases r with
    | cons r1 r2 =>
      cases r2
      obtain ⟨a, ks, xs, rfl, hx, hm⟩ := dic_in r1 e1 e2
      refine ⟨a, _, rfl, hx, fun p hn => ?_⟩
      have e : (ks.zip xs).map (fun kv => kV kv.1) = ns.map V.int := by
        rw [← kV_ints, ← hm, List.map_map]
        rfl
      rw [e]
      exact k _ _ (same_new hn) (.lst upd_same (new p hn) (RpA.ints _)) fun _ => frs_lst hn (RpA.ints _)
  · cases q
/-! ### {k: v for ..} -/
def dcGo (g : PyData → Rho → Option Rho) (t : Rho → Re Bool) (fk f : Rho → Re PyData) (ρ : Rho) : List PyData → List (PyData × PyData) → Option (List (PyData × PyData))
  | [], acc => some acc
  | d :: ds, acc => match g d ρ with
    | none => none
    | some ρ1 => match t ρ1 with
      | .ok true => (match fk ρ1 with | .ok (.int n) => (match f ρ1 with | .ok z => if okLen (acc.length + 1) = true ∧ lookI acc n = none then dcGo g t fk f ρ ds (acc ++ [(.int n, z)]) else none | _ => none) | _ => none)
      | .ok false => dcGo g t fk f ρ ds acc
      | _ => none
def rDc (its : Rho → Re (List PyData)) (vs : List Nat) (g : PyData → Rho → Option Rho) (t : Rho → Re Bool) (fk f : Rho → Re PyData) : Rho → Re PyData := fun ρ => (its ρ).andThen fun ds => if okLen ds.length = true then (match dcGo g t fk f (wipeR ρ vs) ds [] with | some kvs => .ok (dicD kvs) | none => .bad) else .bad
theorem dc_run {ts vs : List Nat} {wi : TI} {its : Rho → Re (List PyData)} {gg : PyData → Rho → Option Rho} {tt : Rho → Re Bool} {fk f : Rho → Re PyData} {lk fr lk1 fr1 : Bool} (hi : ∀ σ H ρ, ER X.K M F σ H ρ → ∀ R, WI X M F E σ ρ H (its ρ) R → wi σ H R)
    (hv : ∀ i ∈ vs, M i = false) (hts : ∀ i ∈ ts, i ∈ vs) (er : ER X.K M F σ H ρ) {Q : VK} (w : WE X M F E lk true σ ρ H (rDc its vs gg tt fk f ρ) Q) : tDc wi (canG X M ts gg) (canT X M E0s tt) (canE X M E0s lk1 fr1 fk) (canE X M E0s lk fr f) vs σ H Q := by
  refine hi σ H ρ er _ ?_
  unfold rDc at w
  cases q : its ρ with
  | ex c =>
    rw [q] at w
    exact w
  | bad =>
    rw [q] at w
    exact w
  | ok ds =>
    rw [q] at w
    have w : WE X M F E lk true σ ρ H (if okLen ds.length = true then (match dcGo gg tt fk f (wipeR ρ vs) ds [] with | some kvs => .ok (dicD kvs) | none => .bad) else .bad) Q := w
    by_cases hz : okLen ds.length = true
    · rw [if_pos hz] at w
      cases q2 : dcGo gg tt fk f (wipeR ρ vs) ds [] with
      | none =>
        rw [q2] at w
        exact w.elim
      | some tot =>
        rw [q2] at w
        refine fun J H1 sm wk Dd hD => ?_
        have er1 := er.same sm
        refine ⟨fun i m H2 => m = ds.length - i ∧ i ≤ ds.length ∧ Same H1 H2 ∧ ∃ (ks : List Key) (xs : List V) (accd : List PyData), H2 Dd = some (.dK (ks.zip xs)) ∧ ks.length = xs.length ∧ RpA X.K H2 (fun a => RS M F σ ρ lk a ∧ a ≠ Dd) xs accd ∧ xs.length ≤ i ∧ dcGo gg tt fk f (wipeR ρ vs) (ds.drop i) ((ks.map kD).zip accd) = some tot,
          ⟨ds.length, by simp, Nat.zero_le _, same_new hD, [], [], [], upd_same, rfl, .nil, Nat.le_refl _, q2⟩, ?_⟩
        rintro i m H2 ⟨rfl, hi', sm2, ks, xs, accd, e1, lz, r1, l1, g1⟩
        have kp : Kp (fun a => RS M F σ ρ false a ∧ Nn H1 a) H1 H2 := kp_same sm2
        by_cases hlt : i < ds.length
        · obtain ⟨go, yl⟩ := (wk H2 kp i).1 _ (List.getElem?_eq_getElem hlt)
          refine .inr ⟨go, fun H3 => ds.length - (i + 1) = ds.length - (i + 1) ∧ i + 1 ≤ ds.length ∧ Same H1 H3 ∧ ∃ (ks : List Key) (xs : List V) (accd : List PyData), H3 Dd = some (.dK (ks.zip xs)) ∧ ks.length = xs.length ∧ RpA X.K H3 (fun a => RS M F σ ρ lk a ∧ a ≠ Dd) xs accd ∧ xs.length ≤ i + 1 ∧ dcGo gg tt fk f (wipeR ρ vs) (ds.drop (i + 1)) ((ks.map kD).zip accd) = some tot, fun H3 x => ⟨ds.length - (i + 1), by omega, x⟩, fun x H3 y => ?_⟩
          obtain ⟨s3, rx⟩ := yl x H3 y
          rw [drop_get (List.getElem?_eq_getElem hlt)] at g1
          have g1 : (match gg ds[i] (wipeR ρ vs) with
            | none => none
            | some ρ1 => match tt ρ1 with
              | .ok true => (match fk ρ1 with | .ok (.int n) => (match f ρ1 with | .ok z => if okLen (((ks.map kD).zip accd).length + 1) = true ∧ lookI ((ks.map kD).zip accd) n = none then dcGo gg tt fk f (wipeR ρ vs) (ds.drop (i + 1)) (((ks.map kD).zip accd) ++ [(.int n, z)]) else none | _ => none) | _ => none)
              | .ok false => dcGo gg tt fk f (wipeR ρ vs) (ds.drop (i + 1)) ((ks.map kD).zip accd)
              | _ => none) = some tot := g1
          cases q3 : gg ds[i] (wipeR ρ vs) with
          | none =>
            rw [q3] at g1
            cases g1
          | some ρ1 =>
            rw [q3] at g1
            have g1 : (match tt ρ1 with
              | .ok true => (match fk ρ1 with | .ok (.int n) => (match f ρ1 with | .ok z => if okLen (((ks.map kD).zip accd).length + 1) = true ∧ lookI ((ks.map kD).zip accd) n = none then dcGo gg tt fk f (wipeR ρ vs) (ds.drop (i + 1)) (((ks.map kD).zip accd) ++ [(.int n, z)]) else none | _ => none) | _ => none)
              | .ok false => dcGo gg tt fk f (wipeR ρ vs) (ds.drop (i + 1)) ((ks.map kD).zip accd)
              | _ => none) = some tot := g1
            obtain ⟨erw, rsw⟩ := er1.wipe (vs := vs) hv
            have s13 : Same H1 H3 := sm2.trans s3
            have e3 : H3 Dd = some (.dK (ks.zip xs)) := s3 _ _ e1
            have erb := erw.blk hD s13 e3
            have rx' : Rp X.K H3 (RS M (inBlk F Dd) (wipe σ vs) (wipeR ρ vs) false) x ds[i] := rx.wide fun a z => by
              have := rsw false
              refine ⟨⟨z.1.1, fun zz => ?_⟩, ?_⟩
              · rw [zz] at z
                exact z.2.not hD
              · have z1 : RS M F (wipe σ vs) (wipeR ρ vs) false a := by
                  rw [this]
                  exact z.1
                exact z1.2
            refine ⟨inBlk F Dd, wipeR ρ vs, ds[i], ρ1, erb, rx', q3, fun σ4 er4 ev4 wp4 ow4 => ⟨?_, ?_⟩⟩
            · rw [wp4 vs hts]
              exact (show wipe (wipe σ vs) vs = wipe σ vs from by
                have : ∀ (l : List Nat) (τ : L2.St), (∀ i ∈ l, i < τ.length → τ[i]? = some none) → wipe τ l = τ := by
                  intro l
                  induction l with
                  | nil => intro τ _; rfl
                  | cons v l ih =>
                    intro τ h
                    show (wipe τ l).set v none = τ
                    rw [ih τ fun i hi => h i (List.mem_cons_of_mem _ hi)]
                    by_cases hv : v < τ.length
                    · have := h v List.mem_cons_self hv
                      obtain ⟨h1, h2⟩ := List.getElem?_eq_some_iff.mp this
                      rw [← h2, List.set_getElem_self]
                    · rw [List.set_eq_of_length_le (by omega)]
                refine this vs _ fun i hi hl => ?_
                have mem : ∀ (l : List Nat) (i : Nat), i ∈ l → i < (wipe σ l).length → (wipe σ l)[i]? = some none := by
                  intro l
                  induction l with
                  | nil => intro i h; cases h
                  | cons v l ih =>
                    intro i h hl
                    show ((wipe σ l).set v none)[i]? = some none
                    have hl' : i < (wipe σ l).length := by
                      have hl2 : i < ((wipe σ l).set v none).length := hl
                      rwa [List.length_set] at hl2
                    by_cases e : v = i
                    · subst e
                      rw [List.getElem?_set_self hl']
                    · rw [List.getElem?_set_ne e]
                      exact ih i ((List.mem_cons.mp h).resolve_left fun z => e z.symm) hl'
                exact mem vs i hi hl)
            · refine ⟨inBlk F Dd, ρ1, er4, ?_⟩
              cases q4 : tt ρ1 with
              | ex c =>
                rw [q4] at g1
                cases g1
              | bad =>
                rw [q4] at g1
                cases g1
              | ok bb =>
                rw [q4] at g1
                cases bb with
                | false =>
                  refine fun H5 s5 => ?_
                  show (if false = true then _ else _)
                  rw [if_neg Bool.false_ne_true]
                  exact ⟨rfl, hlt, s13.trans s5, ks, xs, accd, s5 _ _ e3, lz, r1.same (s3.trans s5), by omega, g1⟩
                | true =>
                  refine fun H5 s5 => ?_
                  show (if true = true then _ else _)
                  rw [if_pos rfl]
                  have g1 : (match fk ρ1 with | .ok (.int n) => (match f ρ1 with | .ok z => if okLen (((ks.map kD).zip accd).length + 1) = true ∧ lookI ((ks.map kD).zip accd) n = none then dcGo gg tt fk f (wipeR ρ vs) (ds.drop (i + 1)) (((ks.map kD).zip accd) ++ [(.int n, z)]) else none | _ => none) | _ => none) = some tot := g1
                  cases qk : fk ρ1 with
                  | ex c =>
                    rw [qk] at g1
                    cases g1
                  | bad =>
                    rw [qk] at g1
                    cases g1
                  | ok kd =>
                    rw [qk] at g1
                    have kint : ∃ n, kd = .int n := by
                      cases kd with
                      | int n => exact ⟨n, rfl⟩
                      | _ => cases g1
                    obtain ⟨n, rfl⟩ := kint
                    have g1 : (match f ρ1 with | .ok z => if okLen (((ks.map kD).zip accd).length + 1) = true ∧ lookI ((ks.map kD).zip accd) n = none then dcGo gg tt fk f (wipeR ρ vs) (ds.drop (i + 1)) ((ks.map kD).zip accd ++ [(.int n, z)]) else none | _ => none) = some tot := g1
                    refine ⟨inBlk F Dd, ρ1, er4.same s5, ?_⟩
                    rw [qk]
                    refine fun kv H5' s5' rk _ => ?_
                    cases rk with
                    | int _ =>
                      cases q5 : f ρ1 with
                      | ex c =>
                        rw [q5] at g1
                        cases g1
                      | bad =>
                        rw [q5] at g1
                        cases g1
                      | ok xd =>
                        rw [q5] at g1
                        have g1 : (if okLen (((ks.map kD).zip accd).length + 1) = true ∧ lookI ((ks.map kD).zip accd) n = none then dcGo gg tt fk f (wipeR ρ vs) (ds.drop (i + 1)) ((ks.map kD).zip accd ++ [(.int n, xd)]) else none) = some tot := g1
                        by_cases cc : okLen (((ks.map kD).zip accd).length + 1) = true ∧ lookI ((ks.map kD).zip accd) n = none
                        · rw [if_pos cc] at g1
                          refine ⟨inBlk F Dd, ρ1, (er4.same s5).same s5', ?_⟩
                          rw [q5]
                          refine fun v H6 s6 r6 _ => ?_
                          have e6 : H6 Dd = some (.dK (ks.zip xs)) := s6 _ _ (s5' _ _ (s5 _ _ e3))
                          have lo := look_of n lz r1
                          rw [cc.2] at lo
                          have acl : (ks.zip xs).length < sizeLine := by
                            have := of_decide_eq_true cc.1
                            rw [zip_len lz r1.length] at this
                            exact Nat.lt_of_lt_of_le (Nat.lt_of_succ_le this) (by decide)
                          have ez : putK (ks.zip xs) (Sum.inl n : Key) v = (ks ++ [(Sum.inl n : Key)]).zip (xs ++ [v]) := by
                            rw [putK_new v lo, List.zip_append lz]
                            rfl
                          have ed : (ks.map kD).zip accd ++ [(PyData.int n, xd)] = ((ks ++ [(Sum.inl n : Key)]).map kD).zip (accd ++ [xd]) := by
                            rw [List.map_append, List.zip_append (by rw [List.length_map, lz, r1.length])]
                            rfl
                          rw [ed] at g1
                          refine ⟨ks.zip xs, Sum.inl n, rfl, e6, acl, rfl, hlt, (((s13.trans s5).trans s5').trans s6).put hD e6 plain_dK, ks ++ [(Sum.inl n : Key)], xs ++ [v], accd ++ [xd], ?_, ?_, ?_, ?_, g1⟩
                          · rw [ez]
                            exact upd_same
                          · rw [List.length_append, List.length_append, lz]
                            rfl
                          · rw [ez]
                            have kpD : Kp (fun a => RS M F σ ρ lk a ∧ a ≠ Dd) H6 (upd H6 Dd (.dK ((ks ++ [(Sum.inl n : Key)]).zip (xs ++ [v])))) := by
                              refine ⟨fun a u qa xa _ => ?_⟩
                              rw [upd_ne]
                              · exact qa
                              · intro za
                                subst za
                                rcases xa with xa | xa
                                · exact xa.2 rfl
                                · rw [e6] at qa
                                  cases qa
                                  exact xa trivial
                            have rA : RpA X.K H6 (fun a => RS M F σ ρ lk a ∧ a ≠ Dd) xs accd := r1.same (((s3.trans s5).trans s5').trans s6)
                            have rV : Rp X.K H6 (fun a => RS M F σ ρ lk a ∧ a ≠ Dd) v xd := r6.wide fun a za => by
                              refine ⟨⟨za.1.1, fun zl => fun o => ?_⟩, za.1.2⟩
                              have rw0 := rsw false
                              obtain ⟨hh0, hs0, uu, hu⟩ := er1.own o
                              have nb : ¬ OwnA M (wipe σ vs) (wipeR ρ vs) a → False := fun nn => by
                                have : RS M F (wipe σ vs) (wipeR ρ vs) false a := ⟨hs0, fun _ => nn⟩
                                rw [rw0] at this
                                exact this.2 rfl o
                              refine za.2 zl ?_
                              by_cases ob : OwnA M (wipe σ vs) (wipeR ρ vs) a
                              · exact ow4 a ob
                              · exact (nb ob).elim
                            exact (rA.append (.cons rV .nil)).keep kpD fun _ _ x _ _ => x
                          · rw [List.length_append]
                            show xs.length + 1 ≤ i + 1
                            omega
                        · rw [if_neg cc] at g1
                          cases g1
        · have ei : i = ds.length := by omega
          subst ei
          rw [List.drop_length] at g1
          have g1 : some ((ks.map kD).zip accd) = some tot := g1
          cases g1
          refine .inl ⟨(wk H2 kp _).2 rfl, w (.ref Dd) H2 (sm.trans sm2) (.dic e1 ?_ lz (r1.wide fun a x => x.1)) fun _ => ⟨Dd, rfl, sm.free hD, .dic e1 lz r1⟩⟩
          exact er1.freshS _ hD
    · rw [if_neg hz] at w
      exact w.elim
theorem de_dc {kx vx tg iter : Expr} {ifs : List Expr} {scope : Scope} {own : List (Str × Nat)} {ts : List Nat} {pos : Pos} (vs : List Nat) {its : Rho → Re (List PyData)} {gg : PyData → Rho → Option Rho} {tt : Rho → Re Bool} {fk f : Rho → Re PyData} {lk fr lk1 fr1 : Bool}
    (hc : X.calm = true) (hN : X.N.Nodup) (hi : DI X M F E tg iter its) (ok : BlkOk X.N X.env.scope scope own) (hv : ∀ i ∈ vs, M i = false)
    (hg : ∀ (s : Shared) (H : Hp) (C : Addr) (cl : List (Str × Addr)) (fp : List Addr) (F : Fx), DG (X.blk s H scope (compEnvC scope cl C X.env) fp) M F tg ts gg)
    (ht : ∀ (s : Shared) (H : Hp) (C : Addr) (cl : List (Str × Addr)) (fp : List Addr), DTs (X.blk s H scope (compEnvC scope cl C X.env) fp) M E0s ifs tt)
    (hk : ∀ (s : Shared) (H : Hp) (C : Addr) (cl : List (Str × Addr)) (fp : List Addr) (F : Fx), DE (X.blk s H scope (compEnvC scope cl C X.env) fp) M F E0s lk1 fr1 kx fk)
    (he : ∀ (s : Shared) (H : Hp) (C : Addr) (cl : List (Str × Addr)) (fp : List Addr) (F : Fx), DE (X.blk s H scope (compEnvC scope cl C X.env) fp) M F E0s lk fr vx f)
    (hvs : own.map (·.2) = vs := by rfl) (hts : ∀ i ∈ ts, i ∈ vs := by decide) (hs : ∀ x, foldedSetIterable iter X.env x = pure x := by intro _; rfl) :
    DE X M F E lk true (.DictComp kx vx [⟨tg, iter, ifs, 0⟩] scope pos) (rDc its vs gg tt fk f) := by
  subst hvs
  obtain ⟨wi, pw, hi⟩ := hi
  exact ⟨_, pe_dc (g := canG X M ts gg) (tt := canT X M E0s tt) (tk := canE X M E0s lk1 fr1 fk) (tv := canE X M E0s lk fr f) hc hN pw ok (fun s H C cl fp => canG_ok (hg s H C cl fp)) (fun s H C cl fp => ht s H C cl fp) (fun s H C cl fp => canE_ok (hk s H C cl fp)) (fun s H C cl fp => canE_ok (he s H C cl fp)) hs, fun σ H ρ er Q w => dc_run hi hv hts er w⟩
end
end Pu

set_option Elab.async false
set_option linter.all false
set_option maxRecDepth 100000
set_option maxHeartbeats 2000000
/-! rings of a permutation -/
namespace Pu
open PySem PySem.Spec PyProof.Rows L2
variable [TabL]
def itZ (f : Int → Int) : Nat → Int → Int
  | 0, s => s
  | n + 1, s => f (itZ f n s)
theorem itZ_add (f : Int → Int) (m n : Nat) (s : Int) : itZ f (m + n) s = itZ f m (itZ f n s) := by
  induction m with
  | zero => rw [Nat.zero_add]; rfl
  | succ m ih =>
    rw [show m + 1 + n = (m + n) + 1 by omega]
    show f (itZ f (m + n) s) = f (itZ f m (itZ f n s))
    rw [ih]
structure Pm (f : Int → Int) (ks : List Int) : Prop where
  nd : ks.Nodup
  to : ∀ k ∈ ks, f k ∈ ks
  inj : ∀ k ∈ ks, ∀ l ∈ ks, f k = f l → k = l
section
variable {f : Int → Int} {ks : List Int}
theorem Pm.it (P : Pm f ks) (n : Nat) {s : Int} (h : s ∈ ks) : itZ f n s ∈ ks := by
  induction n with
  | zero => exact h
  | succ n ih => exact P.to _ ih
theorem Pm.itInj (P : Pm f ks) (n : Nat) {s t : Int} (h : s ∈ ks) (h2 : t ∈ ks) (e : itZ f n s = itZ f n t) : s = t := by
  induction n with
  | zero => exact e
  | succ n ih => exact ih (P.inj _ (P.it n h) _ (P.it n h2) e)
theorem php : ∀ (l ks : List Int), l.Nodup → (∀ x ∈ l, x ∈ ks) → l.length ≤ ks.length
  | [], _, _, _ => Nat.zero_le _
  | x :: l, ks, nd, h => by
    obtain ⟨n1, n2⟩ := List.nodup_cons.mp nd
    have hx := h x List.mem_cons_self
    have := php l (ks.erase x) n2 fun y hy => (List.mem_erase_of_ne (fun e => n1 (by rw [← e]; exact hy))).mpr (h y (List.mem_cons_of_mem _ hy))
    rw [List.length_erase_of_mem hx] at this
    have : 0 < ks.length := List.length_pos_of_mem hx
    rw [List.length_cons]
    omega
theorem least {P : Nat → Prop} (n : Nat) (h : P n) : ∃ m, m ≤ n ∧ P m ∧ ∀ k, k < m → ¬ P k := by
  induction n using Nat.strongRecOn with
  | _ n ih =>
    by_cases c : ∃ k, k < n ∧ P k
    · obtain ⟨k, hk, pk⟩ := c
      obtain ⟨m, h1, h2, h3⟩ := ih k hk pk
      exact ⟨m, by omega, h2, h3⟩
    · exact ⟨n, Nat.le_refl _, h, fun k hk pk => c ⟨k, hk, pk⟩⟩
/-- m is the number of turns that lead s back -/
def IsPer (f : Int → Int) (s : Int) (m : Nat) : Prop := 0 < m ∧ itZ f m s = s ∧ ∀ k, 0 < k → k < m → itZ f k s ≠ s
theorem Pm.per (P : Pm f ks) {s : Int} (h : s ∈ ks) : ∃ m, m ≤ ks.length ∧ IsPer f s m := by
  have key : ∃ i j, i < j ∧ j ≤ ks.length ∧ itZ f i s = itZ f j s := by
    by_cases c : ∃ i j, i < j ∧ j ≤ ks.length ∧ itZ f i s = itZ f j s
    · exact c
    · have nd : ((List.range (ks.length + 1)).map fun k => itZ f k s).Nodup := by
        refine List.pairwise_iff_getElem.mpr fun i j hi hj hij e => c ⟨i, j, hij, ?_, ?_⟩
        · rw [List.length_map, List.length_range] at hj
          omega
        · rw [List.getElem_map, List.getElem_map, List.getElem_range, List.getElem_range] at e
          exact e
      have := php _ ks nd fun x hx => by
        obtain ⟨k, _, rfl⟩ := List.mem_map.mp hx
        exact P.it k h
      rw [List.length_map, List.length_range] at this
      omega
  obtain ⟨i, j, hij, hj, e⟩ := key
  have e2 : itZ f (j - i) s = s := by
    refine P.itInj i (P.it _ h) h ?_
    rw [← itZ_add, show i + (j - i) = j by omega]
    exact e.symm
  obtain ⟨m, h1, ⟨h2, h3⟩, h4⟩ := least (P := fun m => 0 < m ∧ itZ f m s = s) (j - i) ⟨by omega, e2⟩
  exact ⟨m, by omega, h2, h3, fun k k0 km e => h4 k km ⟨k0, e⟩⟩
open Classical in
/-- .. -/
noncomputable def pd (f : Int → Int) (s : Int) : Nat := if h : ∃ m, IsPer f s m then h.choose else 0
theorem Pm.isPer (P : Pm f ks) {s : Int} (h : s ∈ ks) : IsPer f s (pd f s) ∧ pd f s ≤ ks.length := by
  obtain ⟨m, hm, hp⟩ := P.per h
  have ex : ∃ m, IsPer f s m := ⟨m, hp⟩
  have e : IsPer f s (pd f s) := by
    unfold pd
    rw [dif_pos ex]
    exact ex.choose_spec
  refine ⟨e, ?_⟩
  by_cases c : pd f s ≤ m
  · omega
  · exact absurd hp.2.1 (e.2.2 m hp.1 (by omega))
/-- s and its followers -/
def orb (f : Int → Int) (s : Int) (m : Nat) : List Int := (List.range m).map fun k => itZ f k s
theorem orb_length (s : Int) (m : Nat) : (orb f s m).length = m := by simp [orb]
theorem orb_get {s : Int} {m k : Nat} (h : k < m) : (orb f s m)[k]? = some (itZ f k s) := by
  unfold orb
  rw [List.getElem?_map, List.getElem?_range h]
  rfl
theorem orb_succ (s : Int) (m : Nat) : orb f s (m + 1) = orb f s m ++ [itZ f m s] := by
  unfold orb
  rw [List.range_succ, List.map_append]
  rfl
noncomputable def ringZ (f : Int → Int) (s : Int) : List Int := orb f s (pd f s)
theorem it_mod {s : Int} {m : Nat} (h : itZ f m s = s) (q r : Nat) : itZ f (m * q + r) s = itZ f r s := by
  induction q with
  | zero => rw [Nat.mul_zero, Nat.zero_add]
  | succ q ih =>
    rw [show m * (q + 1) + r = (m * q + r) + m by rw [Nat.mul_succ]; omega, itZ_add, h]
    exact ih
theorem Pm.mem_ring (P : Pm f ks) {s x : Int} (h : s ∈ ks) : x ∈ ringZ f s ↔ ∃ n, x = itZ f n s := by
  obtain ⟨⟨p0, p1, p2⟩, _⟩ := P.isPer h
  unfold ringZ orb
  constructor
  · intro hx
    obtain ⟨k, _, rfl⟩ := List.mem_map.mp hx
    exact ⟨k, rfl⟩
  · rintro ⟨n, rfl⟩
    refine List.mem_map.mpr ⟨n % pd f s, List.mem_range.mpr (Nat.mod_lt _ p0), ?_⟩
    have := it_mod p1 (n / pd f s) (n % pd f s)
    rw [Nat.div_add_mod] at this
    exact this.symm
theorem Pm.ring_in (P : Pm f ks) {s x : Int} (h : s ∈ ks) (hx : x ∈ ringZ f s) : x ∈ ks := by
  obtain ⟨n, rfl⟩ := (P.mem_ring h).mp hx
  exact P.it n h
theorem Pm.ring_self (P : Pm f ks) {s : Int} (h : s ∈ ks) : s ∈ ringZ f s := (P.mem_ring h).mpr ⟨0, rfl⟩
theorem Pm.ring_back (P : Pm f ks) {s x : Int} (h : s ∈ ks) (hx : x ∈ ringZ f s) : s ∈ ringZ f x := by
  obtain ⟨⟨p0, p1, p2⟩, _⟩ := P.isPer h
  have hk := P.ring_in h hx
  obtain ⟨n, rfl⟩ := (P.mem_ring h).mp hx
  refine (P.mem_ring hk).mpr ⟨pd f s * n - n, ?_⟩
  rw [← itZ_add, Nat.sub_add_cancel (Nat.le_mul_of_pos_left n p0)]
  have := it_mod p1 n 0
  rw [Nat.add_zero] at this
  exact this.symm
theorem Pm.ring_trans (P : Pm f ks) {s x y : Int} (h : s ∈ ks) (hx : x ∈ ringZ f s) (hy : y ∈ ringZ f x) : y ∈ ringZ f s := by
  obtain ⟨n, rfl⟩ := (P.mem_ring h).mp hx
  obtain ⟨m, rfl⟩ := (P.mem_ring (P.it n h)).mp hy
  exact (P.mem_ring h).mpr ⟨m + n, by rw [itZ_add]⟩
theorem Pm.ring_nd (P : Pm f ks) {s : Int} (h : s ∈ ks) : (ringZ f s).Nodup := by
  obtain ⟨⟨p0, p1, p2⟩, _⟩ := P.isPer h
  unfold ringZ orb
  refine List.pairwise_iff_getElem.mpr fun i j hi hj hij e => ?_
  rw [List.length_map, List.length_range] at hi hj
  rw [List.getElem_map, List.getElem_map, List.getElem_range, List.getElem_range] at e
  refine p2 (j - i) (by omega) (by omega) (P.itInj i (P.it _ h) h ?_)
  rw [← itZ_add, show i + (j - i) = j by omega]
  exact e.symm
/-- the least of a list -/
def mnZ : List Int → Int
  | [] => 0
  | x :: xs => minZ x xs
theorem mnZ_in {l : List Int} (h : l ≠ []) : mnZ l ∈ l ∧ ∀ y ∈ l, mnZ l ≤ y := by
  cases l with
  | nil => exact absurd rfl h
  | cons x xs => exact minZ_mem xs x
theorem mn_eq {l m : List Int} (hl : l ≠ []) (hm : m ≠ []) (h : ∀ x, x ∈ l ↔ x ∈ m) : mnZ l = mnZ m := by
  obtain ⟨a1, a2⟩ := mnZ_in hl
  obtain ⟨b1, b2⟩ := mnZ_in hm
  have h1 := a2 _ ((h _).mpr b1)
  have h2 := b2 _ ((h _).mp a1)
  omega
theorem Pm.ring_ne (P : Pm f ks) {s : Int} (h : s ∈ ks) : ringZ f s ≠ [] := fun e => by
  have := P.ring_self h
  rw [e] at this
  cases this
theorem Pm.ring_same (P : Pm f ks) {s x : Int} (h : s ∈ ks) (hx : x ∈ ringZ f s) (y : Int) : y ∈ ringZ f s ↔ y ∈ ringZ f x :=
  ⟨fun hy => P.ring_trans (P.ring_in h hx) (P.ring_back h hx) hy, fun hy => P.ring_trans h hx hy⟩
/-- the first ones of the rings -/
noncomputable def heads (f : Int → Int) (ks : List Int) : List Int := ks.filter fun s => decide (mnZ (ringZ f s) = s)
theorem mem_heads {s : Int} : s ∈ heads f ks ↔ s ∈ ks ∧ mnZ (ringZ f s) = s := by
  unfold heads
  rw [List.mem_filter, decide_eq_true_eq]
theorem Pm.rings_perm (P : Pm f ks) : ((heads f ks).flatMap (ringZ f)).Perm ks := by
  refine (List.perm_ext_iff_of_nodup ?_ P.nd).mpr fun x => ?_
  · refine List.pairwise_flatMap.mpr ⟨fun s hs => P.ring_nd (mem_heads.mp hs).1, ?_⟩
    refine List.Pairwise.imp_of_mem ?_ (List.Pairwise.filter _ P.nd)
    intro s t hs ht ne x hx y hy e
    obtain ⟨s1, s2⟩ := mem_heads.mp hs
    obtain ⟨t1, t2⟩ := mem_heads.mp ht
    subst e
    have e1 := mn_eq (P.ring_ne s1) (P.ring_ne (P.ring_in s1 hx)) (P.ring_same s1 hx)
    have e2 := mn_eq (P.ring_ne t1) (P.ring_ne (P.ring_in t1 hy)) (P.ring_same t1 hy)
    exact ne (by rw [← s2, ← t2, e1, e2])
  · rw [List.mem_flatMap]
    constructor
    · rintro ⟨s, hs, hx⟩
      exact P.ring_in (mem_heads.mp hs).1 hx
    · intro hx
      obtain ⟨m1, m2⟩ := mnZ_in (P.ring_ne hx)
      have hs := P.ring_in hx m1
      refine ⟨mnZ (ringZ f x), mem_heads.mpr ⟨hs, ?_⟩, P.ring_back hx m1⟩
      exact (mn_eq (P.ring_ne hx) (P.ring_ne hs) (P.ring_same hx m1)).symm
theorem bMin_t {l : List Int} (h : l ≠ []) : bMinA [tI l] = some (.int (mnZ l)) := by
  cases l with
  | nil => exact absurd rfl h
  | cons x xs =>
    show (match asInts ((x :: xs).map PyData.int) with | some (n :: ns) => some (PyData.int (minZ n ns)) | _ => none) = _
    rw [asInts_map]
    rfl
end
end Pu

set_option Elab.async false
set_option linter.all false
set_option maxRecDepth 100000
set_option maxHeartbeats 2000000
namespace Pu
open PySem PySem.Spec PyProof.Rows L2
variable [TabL]
section
variable {X : Cx} {M : Nat → Bool} {F : Fx} {E : L2.St → XK} {σ : L2.St} {ρ : Rho} {H H' H1 : Hp} {D : Ends} {la fa lb fb : Bool} {a b : Expr} {pos : Pos} {f g : Rho → Re PyData}
/-- x.insert(e, v) -/
def sIns (i : Nat) (lk : Bool) (f g : Rho → Re PyData) : Rho → Sr := fun ρ => match getL ρ i with
  | some ds => (f ρ).st ρ fun d => (g ρ).st ρ fun e => (match d with
    | .int n => if okLen (ds.length + 1) = true ∧ 0 ≤ n ∧ n < 2 ^ 63 ∧ (lk = true → imm e = true) then .nx (ρ.set i (some (.list (ds.take n.toNat ++ [e] ++ ds.drop n.toNat)))) else .bad
    | _ => .bad)
  | none => .bad
theorem ds_ins {i : Nat} {x : Str} {p1 p2 p3 : Pos} (m : M i = true) (h : DE X M F E la fa a f) (k : DE X M F E lb fb b g) (hN : X.N[i]? = some x := by rfl) (hv : Vis X.env.scope x := by first | exact Or.inl rfl | exact Or.inr (Or.inl rfl) | exact Or.inr (Or.inr rfl)) (hd : (x == ("__debug__" : Str)) = false := by decide)
    (hcd : (x == ("__classdict__" : Str)) = false := by decide)
    (hs : swapsWith (.Call (.Attribute (.Name x p1) "insert" p2) [a, b] [] p3) none pos.line X.env = pure false := by rfl) (hbase : attributeBase (.Name x p1) "insert" X.env (eval (.Name x p1) X.env) = eval (.Name x p1) X.env := by rfl)
    (hfew : ((backTo p3 (starEach (a :: [b]) X.env)).all (fun x => !x.1) && (backToKw p3 (keywordEach [] X.env)).all (fun x => x.1.isSome) && decide ((a :: ([b] : List Expr)).length + ([] : List Keyword).length + (if ([] : List Keyword).isEmpty then 0 else 1) < 30)) = true := by rfl)
    (hline : (p2.endLine == p3.line) = true := by rfl) (hst : starEach (a :: [b]) X.env = (false, eval a X.env) :: starEach [b] X.env := by rfl) (hst2 : starEach (b :: []) X.env = (false, eval b X.env) :: starEach [] X.env := by rfl) (hplain : (backTo p3 (starEach [b] X.env)).any (·.1) = false := by rfl) :
    DS X M F E (.Expr (.Call (.Attribute (.Name x p1) "insert" p2) [a, b] [] p3) pos) (sIns i lb f g) := by
  obtain ⟨t, pa, h⟩ := h
  obtain ⟨u, pb, k⟩ := k
  refine ⟨_, ps_expr (pe_bm PySem.F.plainAttrs_list PySem.F.slot_list_insert PySem.F.type_list_insert mt_insert (pe_var hN hv hd hcd) (pa_cons pa (pa_cons pb pa_nil hst2) hst) hbase hfew hline hst hplain) hs, fun σ H ρ er D w => ?_⟩
  unfold sIns at w
  cases hl : getL ρ i with
  | none =>
    rw [hl] at w
    exact w.elim
  | some ds =>
    rw [hl] at w
    obtain ⟨pp, xs, hs', hx, rx⟩ := er.lst m hl
    refine ⟨.ref pp, hs', sq_l hx, h σ H ρ er _ (ws_step er w fun d v H1 e1 s1 r1 _ w1 => ?_)⟩
    have er1 := er.same s1
    refine k σ H1 ρ er1 _ (ws_step er1 w1 fun e y H2 e2 s2 r2 _ w2 => ?_)
    have er2 := er1.same s2
    cases r1 with
    | int n =>
      have w2 : WS X M F E σ H2 ρ (if okLen (ds.length + 1) = true ∧ 0 ≤ n ∧ n < 2 ^ 63 ∧ (lb = true → imm e = true) then .nx (ρ.set i (some (.list (ds.take n.toNat ++ [e] ++ ds.drop n.toNat)))) else .bad) D := w2
      by_cases c : okLen (ds.length + 1) = true ∧ 0 ≤ n ∧ n < 2 ^ 63 ∧ (lb = true → imm e = true)
      · rw [if_pos c] at w2
        obtain ⟨c1, c2, c3, c4⟩ := c
        have hx2 := s2 _ _ (s1 _ _ hx)
        have hz : xs.length < sizeLine := by
          have := of_decide_eq_true c1
          rw [rx.length]
          exact Nat.lt_of_lt_of_le (Nat.lt_of_succ_le this) (by decide)
        have rx2 := (rx.same s1).same s2
        obtain ⟨er3, ev3⟩ := er2.putL m hl hs' hx2 (((rx2.take n.toNat).append (.cons (rp_lk r2 c4) .nil)).append (rx2.drop n.toNat))
        exact ⟨pp, xs, n, y, rfl, rfl, hx2, hz, c2, c3, w2 σ _ er3 ev3⟩
      · rw [if_neg c] at w2
        exact w2.elim
    | bl _ => exact w2.elim
    | non => exact w2.elim
    | str _ => exact w2.elim
    | tup _ _ => exact w2.elim
    | lst _ _ _ => exact w2.elim
    | scr _ _ => exact w2.elim
    | dic _ _ _ _ => exact w2.elim
    | dit _ _ _ _ => exact w2.elim
    | dif _ _ _ => exact w2.elim
    | rng _ => exact w2.elim
    | dct _ _ _ _ => exact w2.elim
end
end Pu

set_option Elab.async false
set_option linter.all false
set_option maxRecDepth 100000
set_option maxHeartbeats 2000000
/-! rings, when two places are exchanged; the way back -/
namespace Pu
open PySem PySem.Spec PyProof.Rows L2
variable [TabL]
section
variable {f f' : Int → Int} {ks : List Int}
theorem heads_nd (P : Pm f ks) : (heads f ks).Nodup := List.Pairwise.filter _ P.nd
theorem Pm.mn_ring (P : Pm f ks) {s x : Int} (h : s ∈ ks) (hx : x ∈ ringZ f s) : mnZ (ringZ f s) = mnZ (ringZ f x) := mn_eq (P.ring_ne h) (P.ring_ne (P.ring_in h hx)) (P.ring_same h hx)
theorem heads_swap (P : Pm f ks) (P' : Pm f' ks) {i j : Int} (hi : i ∈ ks) (h : ∀ x ∈ ks, f x ≠ i → f x ≠ j → f' x = f x) : (heads f ks).length ≤ (heads f' ks).length + 1 := by
  have same : ∀ s ∈ ks, i ∉ ringZ f s → j ∉ ringZ f s → ∀ n, itZ f' n s = itZ f n s := fun s hs h1 h2 n => by
    induction n with
    | zero => rfl
    | succ n ih =>
      show f' (itZ f' n s) = f (itZ f n s)
      rw [ih]
      have m : f (itZ f n s) ∈ ringZ f s := (P.mem_ring hs).mpr ⟨n + 1, rfl⟩
      exact h _ (P.it n hs) (fun e => h1 (e ▸ m)) fun e => h2 (e ▸ m)
  have mem : ∀ s ∈ ks, i ∉ ringZ f s → j ∉ ringZ f s → ∀ x, x ∈ ringZ f' s ↔ x ∈ ringZ f s := fun s hs h1 h2 x => by
    rw [P.mem_ring hs, P'.mem_ring hs]
    constructor
    · rintro ⟨n, rfl⟩
      exact ⟨n, same s hs h1 h2 n⟩
    · rintro ⟨n, rfl⟩
      exact ⟨n, (same s hs h1 h2 n).symm⟩
  let A := (heads f ks).filter fun s => decide (i ∉ ringZ f s ∧ j ∉ ringZ f s)
  have mA : ∀ s, s ∈ A ↔ s ∈ heads f ks ∧ i ∉ ringZ f s ∧ j ∉ ringZ f s := fun s => by
    show s ∈ (heads f ks).filter _ ↔ _
    rw [List.mem_filter, decide_eq_true_eq]
  have nA : A.Nodup := List.Pairwise.filter _ (heads_nd P)
  obtain ⟨m1, m2⟩ := mnZ_in (P'.ring_ne hi)
  have hh := P'.ring_in hi m1
  have ih : i ∈ ringZ f' (mnZ (ringZ f' i)) := P'.ring_back hi m1
  have hhd : mnZ (ringZ f' i) ∈ heads f' ks := mem_heads.mpr ⟨hh, (P'.mn_ring hi m1).symm⟩
  have l1 : A.length + 1 ≤ (heads f' ks).length := by
    have := php (mnZ (ringZ f' i) :: A) (heads f' ks) (List.nodup_cons.mpr ⟨fun q => ?_, nA⟩) fun x hx => ?_
    · rwa [List.length_cons] at this
    · obtain ⟨q1, q2, q3⟩ := (mA _).mp q
      exact q2 ((mem _ (mem_heads.mp q1).1 q2 q3 i).mp ih)
    · rcases List.mem_cons.mp hx with rfl | hx
      · exact hhd
      · obtain ⟨q1, q2, q3⟩ := (mA _).mp hx
        obtain ⟨q4, q5⟩ := mem_heads.mp q1
        refine mem_heads.mpr ⟨q4, ?_⟩
        rw [mn_eq (P'.ring_ne q4) (P.ring_ne q4) (mem x q4 q2 q3)]
        exact q5
  have l2 : (heads f ks).length ≤ A.length + 2 := by
    have := php (heads f ks) (A ++ [mnZ (ringZ f i), mnZ (ringZ f j)]) (heads_nd P) fun x hx => ?_
    · rw [List.length_append] at this
      exact this
    · obtain ⟨q4, q5⟩ := mem_heads.mp hx
      rw [List.mem_append]
      by_cases c : i ∈ ringZ f x
      · refine .inr ?_
        rw [← q5, P.mn_ring q4 c]
        exact List.mem_cons_self
      · by_cases c2 : j ∈ ringZ f x
        · refine .inr (List.mem_cons_of_mem _ ?_)
          rw [← q5, P.mn_ring q4 c2]
          exact List.mem_cons_self
        · exact .inl ((mA x).mpr ⟨hx, c, c2⟩)
  omega
/-- the way back has the same rings -/
theorem heads_inv (P : Pm f ks) (P' : Pm f' ks) (h : ∀ x ∈ ks, f' (f x) = x) : heads f' ks = heads f ks := by
  have itb : ∀ n s, s ∈ ks → itZ f' n (itZ f n s) = s := fun n => by
    induction n with
    | zero => exact fun s _ => rfl
    | succ n ih =>
      intro s hs
      have e : itZ f (n + 1) s = itZ f n (f s) := itZ_add f n 1 s
      rw [e]
      show f' (itZ f' n (itZ f n (f s))) = s
      rw [ih (f s) (P.to s hs)]
      exact h s hs
  have mem : ∀ s ∈ ks, ∀ x, x ∈ ringZ f s → x ∈ ringZ f' s := fun s hs x hx => by
    have hk := P.ring_in hs hx
    obtain ⟨n, rfl⟩ := (P.mem_ring hs).mp hx
    refine P'.ring_back hk ((P'.mem_ring hk).mpr ⟨n, ?_⟩)
    exact (itb n s hs).symm
  have mem2 : ∀ s ∈ ks, ∀ x, x ∈ ringZ f' s → x ∈ ringZ f s := fun s hs x hx => by
    have hk := P'.ring_in hs hx
    obtain ⟨n, rfl⟩ := (P'.mem_ring hs).mp hx
    have it2 : ∀ n s, s ∈ ks → itZ f n (itZ f' n s) = s := fun n => by
      induction n with
      | zero => exact fun s _ => rfl
      | succ n ih =>
        intro s hs
        have e : itZ f' (n + 1) s = itZ f' n (f' s) := itZ_add f' n 1 s
        rw [e]
        show f (itZ f n (itZ f' n (f' s))) = s
        rw [ih (f' s) (P'.to s hs)]
        refine P'.inj _ (P.to _ (P'.to s hs)) _ hs ?_
        exact h _ (P'.to s hs)
    refine P.ring_back hk ((P.mem_ring hk).mpr ⟨n, ?_⟩)
    exact (it2 n s hs).symm
  unfold heads
  refine List.filter_congr fun s hs => ?_
  rw [mn_eq (P'.ring_ne hs) (P.ring_ne hs) fun x => ⟨mem2 s hs x, mem s hs x⟩]
theorem heads_id (P : Pm f ks) (h : ∀ x ∈ ks, f x = x) : heads f ks = ks := by
  unfold heads
  refine List.filter_eq_self.mpr fun s hs => decide_eq_true ?_
  have it : ∀ n, itZ f n s = s := fun n => by
    induction n with
    | zero => rfl
    | succ n ih =>
      show f (itZ f n s) = s
      rw [ih]
      exact h s hs
  obtain ⟨m1, _⟩ := mnZ_in (P.ring_ne hs)
  obtain ⟨n, e⟩ := (P.mem_ring hs).mp m1
  rw [e, it]
end
end Pu

set_option Elab.async false
set_option linter.all false
set_option maxRecDepth 100000
set_option maxHeartbeats 2000000
/-! two plain rows: where a piece of the first stands in the second -/
namespace Pu
open PySem PySem.Spec PyProof.Rows L2
variable [TabL]
theorem up_nodup (a : Int) (n : Nat) : (upI a n).Nodup := by
  unfold upI
  refine List.pairwise_map.mpr (List.pairwise_lt_range.imp fun h => ?_)
  omega
theorem up_mem {a x : Int} {n : Nat} : x ∈ upI a n ↔ a ≤ x ∧ x < a + n := by
  unfold upI
  rw [List.mem_map]
  constructor
  · rintro ⟨k, hk, rfl⟩
    have := List.mem_range.mp hk
    omega
  · intro h
    exact ⟨(x - a).toNat, List.mem_range.mpr (by omega), by omega⟩
/-- two plain rows of n pieces -/
structure Two (n : Nat) (a b : List Int) : Prop where
  pa : a.Perm (upI 1 n)
  pb : b.Perm (upI 1 n)
section
variable {n : Nat} {a b : List Int}
theorem Two.la (T : Two n a b) : a.length = n := by rw [T.pa.length_eq, upI_length]
theorem Two.lb (T : Two n a b) : b.length = n := by rw [T.pb.length_eq, upI_length]
theorem Two.nb (T : Two n a b) : b.Nodup := T.pb.symm.nodup (up_nodup 1 n)
theorem Two.na (T : Two n a b) : a.Nodup := T.pa.symm.nodup (up_nodup 1 n)
theorem Two.back (T : Two n a b) : Two n b a := ⟨T.pb, T.pa⟩
/-- the place in b of the piece at p of a -/
def gZ (a b : List Int) (p : Int) : Int := ((idxZ ((atZ a p).getD 0) b).getD 0 : Nat)
theorem Two.at (T : Two n a b) {p : Int} (hp : p ∈ upI 0 n) : ∃ x, atZ a p = some x ∧ a[p.toNat]? = some x ∧ gZ a b p ∈ upI 0 n ∧ atZ b (gZ a b p) = some x := by
  have la := T.la
  obtain ⟨h1, h2⟩ := up_mem.mp hp
  obtain ⟨x, e1, e2⟩ := atZ_p (ns := a) h1 (by omega)
  have hx : x ∈ b := T.pb.mem_iff.mpr (T.pa.mem_iff.mp (List.mem_of_getElem? e2))
  obtain ⟨j, ej⟩ := idxZ_mem hx
  have gj := (idxZ_some ej).1
  have hj := getSome gj
  have lb := T.lb
  have eg : gZ a b p = (j : Int) := by
    unfold gZ
    rw [e1]
    show (((idxZ x b).getD 0 : Nat) : Int) = j
    rw [ej]
    rfl
  refine ⟨x, e1, e2, ?_, ?_⟩
  · rw [eg]
    exact up_mem.mpr (by omega)
  · rw [eg, atZ_nat hj]
    exact gj
theorem atZ_inj {l : List Int} (nd : l.Nodup) {p q x : Int} (hp : p ∈ upI 0 l.length) (hq : q ∈ upI 0 l.length) (e1 : atZ l p = some x) (e2 : atZ l q = some x) : p = q := by
  obtain ⟨h1, h2⟩ := up_mem.mp hp
  obtain ⟨h3, h4⟩ := up_mem.mp hq
  obtain ⟨y, a1, a2⟩ := atZ_p (ns := l) h1 (by omega)
  obtain ⟨z, b1, b2⟩ := atZ_p (ns := l) h3 (by omega)
  rw [e1] at a1
  rw [e2] at b1
  cases a1
  cases b1
  obtain ⟨i1, j1⟩ := List.getElem?_eq_some_iff.mp a2
  obtain ⟨i2, j2⟩ := List.getElem?_eq_some_iff.mp b2
  have := (List.getElem_inj (h₀ := i1) (h₁ := i2) nd).mp (j1.trans j2.symm)
  omega
theorem Two.g_eq (T : Two n a b) {p q x : Int} (hp : p ∈ upI 0 n) (hq : q ∈ upI 0 n) (e1 : atZ a p = some x) (e2 : atZ b q = some x) : gZ a b p = q := by
  obtain ⟨y, a1, _, a3, a4⟩ := T.at hp
  rw [e1] at a1
  cases a1
  have lb := T.lb
  exact atZ_inj T.nb (by rw [lb]; exact a3) (by rw [lb]; exact hq) a4 e2
theorem Two.pm (T : Two n a b) : Pm (gZ a b) (upI 0 n) := by
  refine ⟨up_nodup 0 n, fun p hp => (T.at hp).choose_spec.2.2.1, fun p hp q hq e => ?_⟩
  obtain ⟨x, a1, _, a3, a4⟩ := T.at hp
  obtain ⟨y, b1, _, b3, b4⟩ := T.at hq
  rw [e] at a4
  rw [a4] at b4
  cases b4
  have la := T.la
  exact atZ_inj T.na (by rw [la]; exact hp) (by rw [la]; exact hq) a1 b1
theorem Two.inv (T : Two n a b) : ∀ p ∈ upI 0 n, gZ b a (gZ a b p) = p := fun p hp => by
  obtain ⟨x, a1, _, a3, a4⟩ := T.at hp
  exact T.back.g_eq a3 hp a4 a1
/-- places i and j exchanged -/
def swZ (r : List Int) (i j : Int) : List Int := (r.set i.toNat ((atZ r j).getD 0)).set j.toNat ((atZ r i).getD 0)
theorem swZ_len (r : List Int) (i j : Int) : (swZ r i j).length = r.length := by
  unfold swZ
  rw [List.length_set, List.length_set]
theorem swZ_at {r : List Int} {i j p : Int} (hi : i ∈ upI 0 r.length) (hj : j ∈ upI 0 r.length) (hp : p ∈ upI 0 r.length) (hij : i ≠ j) : atZ (swZ r i j) p = if p = j then atZ r i else if p = i then atZ r j else atZ r p := by
  obtain ⟨h1, h2⟩ := up_mem.mp hi
  obtain ⟨h3, h4⟩ := up_mem.mp hj
  obtain ⟨h5, h6⟩ := up_mem.mp hp
  obtain ⟨x, e1, e2⟩ := atZ_p (ns := r) h1 (by omega)
  obtain ⟨y, e3, e4⟩ := atZ_p (ns := r) h3 (by omega)
  obtain ⟨z, e5, e6⟩ := atZ_p (ns := r) h5 (by omega)
  have hl := swZ_len r i j
  have get : ∀ (l : List Int) (q : Int), 0 ≤ q → q < l.length → atZ l q = l[q.toNat]? := fun l q a b => by
    obtain ⟨w, f1, f2⟩ := atZ_p (ns := l) a b
    rw [f1, f2]
  rw [get (swZ r i j) p h5 (by omega)]
  unfold swZ
  by_cases c : p = j
  · rw [if_pos c]
    subst c
    rw [List.getElem?_set_self (by rw [List.length_set]; omega), e1]
    rfl
  · rw [if_neg c, List.getElem?_set_ne (by omega)]
    by_cases c2 : p = i
    · rw [if_pos c2]
      subst c2
      rw [List.getElem?_set_self (by omega), e3]
      rfl
    · rw [if_neg c2, List.getElem?_set_ne (by omega), e5, e6]
theorem ext_at {l m : List Int} (h : l.length = m.length) (e : ∀ p ∈ upI 0 l.length, atZ l p = atZ m p) : l = m := List.ext_getElem? fun k => by
  by_cases c : k < l.length
  · have := e (k : Int) (up_mem.mpr (by omega))
    rwa [atZ_nat c, atZ_nat (by omega)] at this
  · rw [List.getElem?_eq_none (by omega), List.getElem?_eq_none (by omega)]
theorem atZ_mem {r : List Int} {p x : Int} (hp : p ∈ upI 0 r.length) (e : atZ r p = some x) : x ∈ r := by
  obtain ⟨h1, h2⟩ := up_mem.mp hp
  obtain ⟨y, e1, e2⟩ := atZ_p (ns := r) h1 (by omega)
  rw [e] at e1
  cases e1
  exact List.mem_of_getElem? e2
theorem mem_atZ {r : List Int} {x : Int} (h : x ∈ r) : ∃ p, p ∈ upI 0 r.length ∧ atZ r p = some x := by
  obtain ⟨k, hk, e⟩ := List.mem_iff_getElem.mp h
  refine ⟨(k : Int), up_mem.mpr (by omega), ?_⟩
  rw [atZ_nat hk, List.getElem?_eq_getElem hk, e]
theorem swZ_perm {r : List Int} (nd : r.Nodup) {i j : Int} (hi : i ∈ upI 0 r.length) (hj : j ∈ upI 0 r.length) (hij : i ≠ j) : (swZ r i j).Perm r := by
  have hl := swZ_len r i j
  have key : ∀ x, x ∈ swZ r i j ↔ x ∈ r := fun x => by
    constructor
    · intro h
      obtain ⟨p, hp, e⟩ := mem_atZ h
      rw [hl] at hp
      rw [swZ_at hi hj hp hij] at e
      split at e
      · exact atZ_mem hi e
      · split at e
        · exact atZ_mem hj e
        · exact atZ_mem hp e
    · intro h
      obtain ⟨p, hp, e⟩ := mem_atZ h
      by_cases c : p = j
      · subst c
        refine atZ_mem (p := i) (by rw [hl]; exact hi) ?_
        rw [swZ_at hi hj hi hij, if_neg hij, if_pos rfl]
        exact e
      · by_cases c2 : p = i
        · subst c2
          refine atZ_mem (p := j) (by rw [hl]; exact hj) ?_
          rw [swZ_at hi hj hj hij, if_pos rfl]
          exact e
        · refine atZ_mem (p := p) (by rw [hl]; exact hp) ?_
          rw [swZ_at hi hj hp hij, if_neg c, if_neg c2]
          exact e
  have nd2 : (swZ r i j).Nodup := by
    refine List.pairwise_iff_getElem.mpr fun k m hk hm hkm e => ?_
    have ek : atZ (swZ r i j) (k : Int) = some (swZ r i j)[k] := by rw [atZ_nat hk, List.getElem?_eq_getElem hk]
    have em : atZ (swZ r i j) (m : Int) = some (swZ r i j)[m] := by rw [atZ_nat hm, List.getElem?_eq_getElem hm]
    rw [e] at ek
    have mk : (k : Int) ∈ upI 0 r.length := up_mem.mpr (by omega)
    have mm : (m : Int) ∈ upI 0 r.length := up_mem.mpr (by omega)
    rw [swZ_at hi hj mk hij] at ek
    rw [swZ_at hi hj mm hij] at em
    have inj := fun {p q x : Int} hp hq e1 e2 => atZ_inj (x := x) (p := p) (q := q) nd hp hq e1 e2
    split at ek <;> split at em <;> (try split at ek) <;> (try split at em) <;> first
      | (have := inj hi hi ek em; omega) | (have := inj hi hj ek em; omega) | (have := inj hi mm ek em; omega) | (have := inj hj hi ek em; omega) | (have := inj hj hj ek em; omega) | (have := inj hj mm ek em; omega)
      | (have := inj mk hi ek em; omega) | (have := inj mk hj ek em; omega) | (have := inj mk mm ek em; omega)
  exact (List.perm_ext_iff_of_nodup nd2 nd).mpr key
/-- the least number of swaps -/
noncomputable def lsZ (n : Nat) (a b : List Int) : Nat := n - (heads (gZ a b) (upI 0 n)).length
theorem heads_le (f : Int → Int) (n : Nat) : (heads f (upI 0 n)).length ≤ n := by
  have := List.length_filter_le (fun s => decide (mnZ (ringZ f s) = s)) (upI 0 n)
  rw [upI_length] at this
  exact this
theorem Two.ls_back (T : Two n a b) : lsZ n b a = lsZ n a b := by
  unfold lsZ
  rw [heads_inv T.pm T.back.pm T.inv]
theorem ls_self {r : List Int} (h : r.Perm (upI 1 n)) : lsZ n r r = 0 := by
  have T : Two n r r := ⟨h, h⟩
  unfold lsZ
  rw [heads_id T.pm fun p hp => ?_]
  · rw [upI_length]
    omega
  · obtain ⟨x, a1, _, _, _⟩ := T.at hp
    exact T.g_eq hp hp a1 a1
theorem Two.swap (T : Two n a b) {i j : Int} (hi : i ∈ upI 0 n) (hj : j ∈ upI 0 n) (hij : i ≠ j) : Two n a (swZ b i j) ∧ lsZ n a (swZ b i j) ≤ lsZ n a b + 1 := by
  have lb := T.lb
  have hi' : i ∈ upI 0 b.length := by rw [lb]; exact hi
  have hj' : j ∈ upI 0 b.length := by rw [lb]; exact hj
  have T' : Two n a (swZ b i j) := ⟨T.pa, (swZ_perm T.nb hi' hj' hij).trans T.pb⟩
  refine ⟨T', ?_⟩
  have := heads_swap T.pm T'.pm hi (j := j) fun p hp h1 h2 => by
    obtain ⟨x, a1, _, a3, a4⟩ := T.at hp
    refine T'.g_eq hp a3 a1 ?_
    rw [swZ_at hi' hj' (by rw [lb]; exact a3) hij, if_neg h2, if_neg h1]
    exact a4
  have h2 := heads_le (gZ a b) n
  unfold lsZ
  omega
end
end Pu

set_option Elab.async false
set_option linter.all false
set_option maxRecDepth 100000
set_option maxHeartbeats 2000000
/-! x, *ys = t of a tuple -/
namespace HT
open PySem PySem.Spec PyProof.Rows
section
variable {prog : Program} {w : World} {A : Around} {E : Value → Shared → Prop} {s : Shared}
theorem walk_from (hh : A.handled = none) (I ax : Addr) (hne : ax ≠ I) (its : Array Value) (k : Nat) (hk : k ≤ its.size) :
    Walks prog w A I [I, ax] [I] (its.size - k) (fun i v => its[k + i]? = some v) (fun i h => h.IsTupleIter I ax (k + i) ∧ h.IsTuple ax its) where
  sub := fun b hb => by
    rw [List.mem_singleton.mp hb]
    exact List.mem_cons_self
  frame := fun _ _ _ st q => ⟨st.1.at fun o e => q I List.mem_cons_self o e, st.2.at fun o e => q ax (List.mem_cons_of_mem _ List.mem_cons_self) o e⟩
  item := fun i s Q E hi st hQ => by
    have hlt : k + i < its.size := by omega
    refine wpAny_pyNext_tuple_item st.1 st.2 (x := its[k + i]) (by simp [hlt]) fun h' it' sb => ?_
    exact hQ _ h' s.toks (by simp [hlt]) ⟨it', st.2.extBut sb.extBut hne⟩ fun b o hb e => sb.extBut b o (fun z => hb (List.mem_singleton.mpr z)) e
  done := fun s Q E st hQ => wpAny_pyNext_tuple_end hh st.1 st.2 (by simp; omega) fun h' ex => hQ h' s.toks fun b o hb e => ex b o (fun z => hb (List.mem_singleton.mpr z)) e
  self := fun _ _ _ _ st hQ => wpAny_pyIter_tupleiter st.1 hQ
theorem star_items {t : Addr} {x : Value} {its : List Value} {Q : List Value → Shared → Prop} (hh : A.handled = none) (ht : IsTup s.heap t (x :: its).toArray) (hz : its.length ≤ sizeLine)
    (hQ : ∀ (h' : Heap) (tk : Nat), (∀ b o, s.heap.get? b = some o → h'.get? b = some o) → Q [x, .ref h'.objs.size] { s with heap := h'.push { cls := .type "list", data := .seq its.toArray }, toks := tk }) :
    wpAny (model prog w) A (unpackItems (.ref t) 2 (some 1)) Q E s := by
  have hlt : t ≠ s.heap.objs.size := by
    obtain ⟨o, ho, _⟩ := ht
    exact Nat.ne_of_lt (Heap.lt_size ho)
  unfold unpackItems
  refine wpAny_bind ?_
  unfold notIterableAtAll
  refine wpAny_bind (wpAny_specialOf ht.typeIs slot_tuple_iter.lookup ?_)
  refine wpAny_pure ?_
  simp only [Bool.false_eq_true, if_false]
  refine wpAny_bind (wpAny_holding (iter_tuple ht ?_))
  refine wpAny_bind (wpAny_holding (draw_tuple hlt 1 0 _ _ ⟨_, Heap.get?_push_size _ rfl, rfl, rfl⟩ (ht.push _) (by simp) fun h1 hit1 sb1 => ?_))
  have hall : List.take 1 (List.drop 0 (x :: its).toArray.toList) = [x] := rfl
  rw [hall]
  rw [if_neg (by simp)]
  have ht1 : IsTup h1 t (x :: its).toArray := (ht.push _).extBut sb1.extBut hlt
  have W := walk_from (prog := prog) (w := w) (A := A.in1) hh s.heap.objs.size t hlt (x :: its).toArray 1 (by simp)
  have hlen : (x :: its).toArray.size - 1 = its.length := by simp
  have hI : s.heap.objs.size < h1.objs.size := by
    obtain ⟨o, ho, _⟩ := hit1
    exact Heap.lt_size ho
  have ht1' : t < h1.objs.size := by
    obtain ⟨o, ho, _⟩ := ht1
    exact Heap.lt_size ho
  refine wpAny_bind (wpAny_holding ?_)
  refine wpAny_collect_iter (T := "tuple_iterator") (.inr (.inr (.inr rfl))) W.toS (fun i s st => by
    obtain ⟨o, e1, e2, _⟩ := st.1
    exact ⟨o, e1, e2⟩) (St := fun i s => _) ⟨hit1, ht1⟩ (fun b hb => ?_) List.mem_cons_self (fun s' acc mv io => ?_) (by rw [hlen]; exact hz)
  · rcases List.mem_cons.mp hb with rfl | hb
    · exact hI
    · rw [List.mem_singleton.mp hb]
      exact ht1'
  · have ea : acc.toList = its := by
      obtain ⟨i1, i2⟩ := io
      rw [hlen] at i1
      refine List.ext_getElem? fun j => ?_
      by_cases c : j < its.length
      · have hj : j < acc.size := by omega
        have e1 : acc[j]? = some acc[j] := by simp [hj]
        have e2 : (x :: its).toArray[1 + j]? = some acc[j] := i2 j _ e1
        have e3 : (x :: its).toArray[1 + j]? = its[j]? := by
          rw [List.getElem?_toArray, Nat.add_comm, List.getElem?_cons_succ]
        rw [e3] at e2
        rw [e2, Array.getElem?_toList, e1]
      · rw [List.getElem?_eq_none (by rw [Array.length_toList]; omega), List.getElem?_eq_none (by omega)]
    rw [ea]
    show wpAny _ _ (if its.length < 0 then _ else _) _ _ s'
    rw [if_neg (Nat.not_lt_zero _)]
    show wpAny _ _ (newList (its.take (its.length - 0)) >>= fun l => pure ([x] ++ [l] ++ its.drop (its.length - 0))) _ _ s'
    rw [Nat.sub_zero, List.take_length, List.drop_length]
    refine wpAny_bind (wpAny_newObj_type ?_ (by show its.toArray.size ≤ sizeLine; rw [List.size_toArray]; exact hz))
    refine wpAny_pure ?_
    obtain ⟨m1, m2, m3, m4, m5⟩ := mv
    obtain ⟨hp, gn, dr, tk, os⟩ := s'
    have m2 : gn = s.gens := m2
    have m3 : dr = s.drawn := m3
    have m4 : os = s.os := m4
    subst m2 m3 m4
    have hk : ∀ b o, s.heap.get? b = some o → hp.get? b = some o := fun b o e => by
      have hb : b ≠ s.heap.objs.size := Nat.ne_of_lt (Heap.lt_size e)
      exact m1 b o (fun z => hb (List.mem_singleton.mp z)) (sb1.extBut b o hb (Heap.get?_push_of_some _ e))
    exact hQ hp tk hk
end
end HT
namespace Pu
open PySem PySem.Spec PyProof.Rows L2
variable [TabL]
section
variable {X : Cx} {M : Nat → Bool} {F : Fx} {E : L2.St → XK} {la fa : Bool} {a : Expr} {pos : Pos} {f : Rho → Re PyData}
def gStar (K : PySem.W.Frag) (t0 t1 : TG) : TG := fun v σ H Q => ∃ p x xs, v = .ref p ∧ SqT K H p (x :: xs) ∧ ∀ l, H l = none → t0 x σ (upd H l (.lst xs)) fun σ1 H1 => t1 (.ref l) σ1 H1 Q
theorem pg_star {e0 e1 : Expr} {k : Nat} {p1 : Pos} {t0 t1 : TG} (hc : X.calm = true) (h0 : PG X e0 t0) (h1 : PG X e1 t1) (he : assignEach [e0, .Starred e1 p1] X.env = [(false, assign e0 X.env), (true, assign e1 X.env)] := by rfl) : PG X (.Tuple [e0, .Starred e1 p1] k pos) (gStar X.K t0 t1) := by
  refine ⟨fun pins s σ H v u Q I r hw => ?_⟩
  obtain ⟨p, x, xs, rfl, hq, hw⟩ := hw
  cases r
  obtain ⟨its, rv, ht, hz⟩ := I.tuple hq
  cases rv with
  | cons rx rxs =>
    rename_i y ys
    rw [PyProof.Rows.assign_Tuple]
    refine wpAny_bind (wpAny_standAt ?_)
    unfold unpack
    rw [he]
    refine wpAny_bind (wpAny_holding (HT.star_items (I.ok.hd hc) ht (by have := rxs.length; rw [List.length_cons] at hz; omega) fun h' tk hk => ?_))
    have I1 : Inv X pins σ H { s with heap := h', toks := tk } := I.kept (t' := tk) hk
    have hf : H h'.objs.size = none := I1.hok.fresh (Nat.le_refl _)
    have I2 : Inv X pins σ (upd H h'.objs.size (.lst xs)) { s with heap := h'.push { cls := .type "list", data := .seq ys.toArray }, toks := tk } := by
      refine I1.laid (t' := tk) (fun b u e => Heap.get?_push_of_some _ e) (Nat.le_refl _) ?_
      exact ⟨by rw [List.length_cons] at hz; omega, ys, 0, rxs, Heap.get?_push_size _ rfl⟩
    refine assignInOrder_cons (thn (h0.run pins _ σ _ x y _ I2 rx (hw _ hf)) ?_)
    rintro _ s1 ⟨σ1, H1, J, q⟩
    refine assignInOrder_cons (thn (h1.run pins s1 σ1 H1 (.ref h'.objs.size) (.ref h'.objs.size) _ J rfl q) ?_)
    rintro _ s2 ⟨σ2, H2, J2, q2⟩
    exact assignInOrder_nil ⟨σ2, H2, J2, q2⟩
/-- x, *ys = e -/
def sStar (i j : Nat) (f : Rho → Re PyData) : Rho → Sr := fun ρ => (f ρ).st ρ fun d => (match d with | .tuple (x :: xs) => .nx ((ρ.set i (some x)).set j (some (.list xs))) | _ => .bad)
theorem ds_star {i j : Nat} {x y : Str} {q0 q1 p1 q2 : Pos} {k : Nat} (mi : M i = false) (mj : M j = false) (hN : X.N.Nodup) (hc : X.calm = true) (h : DE X M F E false fa a f)
    (hi : X.N[i]? = some x := by rfl) (hj : X.N[j]? = some y := by rfl) (hx : Loc X.env.scope x := by first | exact Or.inl rfl | exact Or.inr rfl) (hy : Loc X.env.scope y := by first | exact Or.inl rfl | exact Or.inr rfl)
    (hfx : X.fn x = true ∨ X.env.scope.names.lookup x = some .local := by first | exact .inl rfl | exact .inr rfl) (hfy : X.fn y = true ∨ X.env.scope.names.lookup y = some .local := by first | exact .inl rfl | exact .inr rfl)
    (h1 : (assignEach [.Tuple [.Name x q0, .Starred (.Name y q1) p1] k q2] X.env).map (·.2) = [assign (.Tuple [.Name x q0, .Starred (.Name y q1) p1] k q2) X.env] := by rfl)
    (hs : swapsWithSole [.Tuple [.Name x q0, .Starred (.Name y q1) p1] k q2] a pos.line X.env = pure false := by rfl) (hw : swappedStores [.Tuple [.Name x q0, .Starred (.Name y q1) p1] k q2] a X.env = pure none := by rfl)
    (he : assignEach [.Name x q0, .Starred (.Name y q1) p1] X.env = [(false, assign (.Name x q0) X.env), (true, assign (.Name y q1) X.env)] := by rfl) :
    DS X M F E (.Assign [.Tuple [.Name x q0, .Starred (.Name y q1) p1] k q2] a pos) (sStar i j f) := by
  obtain ⟨t, pa, h⟩ := h
  refine ⟨_, ps_asg pa (pg_star hc (pg_name hN hi hx hfx) (pg_name hN hj hy hfy) he) hs hw (h1 := h1), fun σ H ρ er D w => ?_⟩
  refine h σ H ρ er _ (ws_step er w fun d v H1 e sm r _ w1 => ?_)
  have er1 := er.same sm
  cases r with
  | tup h1 rr =>
    cases rr with
    | nil => exact w1.elim
    | cons r1 r2 =>
      rename_i aa v0 vs0 d0 ds0 ff
      refine ⟨aa, v0, vs0, rfl, h1.sq, fun l hl => ?_⟩
      have s2 : Same H1 (upd H1 l (.lst vs0)) := same_new hl
      have fr : RS M F σ ρ false l := er1.freshS l hl
      have er3 : ER X.K M F (σ.set i (some v0)) (upd H1 l (.lst vs0)) (ρ.set i (some d0)) := (er1.same s2).set mi (r1.same s2)
      have cv : ∀ q, RS M F σ ρ false q → RS M F (σ.set i (some v0)) (ρ.set i (some d0)) false q := fun q z => ⟨z.1, fun _ o => z.2 rfl ((own_set mi).mp o)⟩
      have rl : Rp X.K (upd H1 l (.lst vs0)) (RS M F (σ.set i (some v0)) (ρ.set i (some d0)) false) (.ref l) (.list ds0) := .lst upd_same (cv l fr) ((r2.same s2).wide cv)
      have w2 : WS X M F E σ H1 ρ (.nx ((ρ.set i (some d0)).set j (some (.list ds0)))) D := w1
      refine w2 _ _ (er3.set mj rl) ?_
      exact (Evo.same s2).trans fun b u q n _ => ⟨q, fun o => n ((own_set mi).mp ((own_set mj).mp o))⟩
  | bl _ => exact w1.elim
  | non => exact w1.elim
  | int _ => exact w1.elim
  | str _ => exact w1.elim
  | lst _ _ _ => exact w1.elim
  | scr _ _ => exact w1.elim
  | dic _ _ _ _ => exact w1.elim
  | dit _ _ _ _ => exact w1.elim
  | dif _ _ _ => exact w1.elim
  | rng _ => exact w1.elim
  | dct _ _ _ _ => exact w1.elim
end
end Pu

set_option Elab.async false
set_option linter.all false
set_option maxRecDepth 100000
set_option maxHeartbeats 2000000
/-! x[e1], x[e2] = (v1, v2) on a list of the frame's own, numbers -/
namespace Pu
open PySem PySem.Spec PyProof.Rows L2
variable [TabL]
section
variable {X : Cx} {M : Nat → Bool} {F : Fx} {E : L2.St → XK} {σ : L2.St} {ρ : Rho} {H : Hp} {D : Ends} {la lb lc fb fc : Bool} {b c : Expr} {pos : Pos} {g1 g2 : Rho → Re PyData} {gs : Rho → Re (List PyData)}
theorem ws_stepLA {lk : Bool} {r : Re (List PyData)} {g : List PyData → Sr} {K : List V → Hp → Prop} (er : ER X.K M F σ H ρ) (w : WS X M F E σ H ρ (r.stL ρ g) D)
    (h : ∀ d v H', r = .ok d → Same H H' → RpA X.K H' (RS M F σ ρ lk) v d → WS X M F E σ H' ρ (g d) D → K v H') : WA X M F E lk σ ρ H r K := by
  cases r with
  | ok d => exact fun v H' s r => h d v H' rfl s r (ws_evo (Evo.same s) w)
  | ex c => exact fun C H' m s => w C σ H' m (er.same s) (Evo.same s)
  | bad => exact w
theorem sub_run {i : Nat} {t2 : TE} {fb : Bool} {z : Int} (m : M i = true) (h2 : ∀ σ H ρ, ER X.K M F σ H ρ → ∀ Q, WE X M F E lb fb σ ρ H (g1 ρ) Q → t2 σ H Q) (er : ER X.K M F σ H ρ) (w : WS X M F E σ H ρ (sPut i false (rC (.int z)) g1 ρ) D) :
    gSub (tVar i) t2 rSetL (.int z) σ H D.nx := by
  have w1 : WS X M F E σ H ρ (match getL ρ i with
    | some ds => (g1 ρ).st ρ fun e => (match e with
      | .int n => (match ixN ds.length n with
        | some k => if (false = true → imm (.int z) = true) then .nx (ρ.set i (some (.list (ds.set k (.int z))))) else .bad
        | none => .bad)
      | _ => .bad)
    | none => .bad) D := w
  cases hl : getL ρ i with
  | none =>
    rw [hl] at w1
    exact w1.elim
  | some ds =>
    rw [hl] at w1
    obtain ⟨pp, xs, hs', hx, rx⟩ := er.lst m hl
    refine ⟨.ref pp, hs', h2 σ H ρ er _ (ws_step er w1 fun d2 v2 H2 e2 sm2 r2 _ w2 => ?_)⟩
    cases r2 with
    | int n =>
      have w2 : WS X M F E σ H2 ρ (match ixN ds.length n with
        | some k => if (false = true → imm (.int z) = true) then .nx (ρ.set i (some (.list (ds.set k (.int z))))) else .bad
        | none => .bad) D := w2
      cases hk : ixN ds.length n with
      | none =>
        rw [hk] at w2
        exact w2.elim
      | some k =>
        rw [hk] at w2
        have w2 : WS X M F E σ H2 ρ (if (false = true → imm (.int z) = true) then .nx (ρ.set i (some (.list (ds.set k (.int z))))) else .bad) D := w2
        rw [if_pos fun z => nomatch z] at w2
        have er2 := er.same sm2
        obtain ⟨er3, ev3⟩ := er2.putL m hl hs' (sm2 _ _ hx) (RpA.set (.int z) k (rx.same sm2))
        exact ⟨pp, xs, n, k, rfl, rfl, sm2 _ _ hx, by rw [rx.length]; exact hk, w2 σ _ er3 ev3⟩
    | bl _ => exact w2.elim
    | non => exact w2.elim
    | str _ => exact w2.elim
    | tup _ _ => exact w2.elim
    | lst _ _ _ => exact w2.elim
    | scr _ _ => exact w2.elim
    | dic _ _ _ _ => exact w2.elim
    | dit _ _ _ _ => exact w2.elim
    | dif _ _ _ => exact w2.elim
    | rng _ => exact w2.elim
    | dct _ _ _ _ => exact w2.elim
def sPut2 (i : Nat) (gs : Rho → Re (List PyData)) (g1 g2 : Rho → Re PyData) : Rho → Sr := fun ρ => (gs ρ).stL ρ fun ds => (match ds with
  | [.int y, .int z] => sSeq (sPut i false (rC (.int y)) g1) (sPut i false (rC (.int z)) g2) ρ
  | _ => .bad)
theorem put2_shape {i : Nat} (ds : List PyData) (w : WS X M F E σ H ρ (match ds with
  | [.int y, .int z] => sSeq (sPut i false (rC (.int y)) g1) (sPut i false (rC (.int z)) g2) ρ
  | _ => .bad) D) : ∃ y z, ds = [.int y, .int z] := by
  split at w
  · exact ⟨_, _, rfl⟩
  · exact w.elim
theorem ds_put2 {i : Nat} {x : Str} {q1 q2 p1 p2 p3 p4 : Pos} {k k2 : Nat} {va vb : Expr} (m : M i = true) (hc : X.calm = true) (hv2 : DA X M F E la [va, vb] gs) (hb : DE X M F E lb fb b g1) (hc2 : DE X M F E lc fc c g2) (hN : X.N[i]? = some x := by rfl) (hv : Vis X.env.scope x := by first | exact Or.inl rfl | exact Or.inr (Or.inl rfl) | exact Or.inr (Or.inr rfl)) (hd : (x == ("__debug__" : Str)) = false := by decide)
    (hcd : (x == ("__classdict__" : Str)) = false := by decide)
    (h1 : (assignEach [.Tuple [.Subscript (.Name x p1) b p2, .Subscript (.Name x p3) c p4] k q1] X.env).map (·.2) = [assign (.Tuple [.Subscript (.Name x p1) b p2, .Subscript (.Name x p3) c p4] k q1) X.env] := by rfl)
    (hs : swapsWithSole [.Tuple [.Subscript (.Name x p1) b p2, .Subscript (.Name x p3) c p4] k q1] (.Tuple [va, vb] k2 q2) pos.line X.env = pure false := by rfl) (hw : swappedStores [.Tuple [.Subscript (.Name x p1) b p2, .Subscript (.Name x p3) c p4] k q1] (.Tuple [va, vb] k2 q2) X.env = pure none := by rfl)
    (ha1 : ∀ v, assign (.Subscript (.Name x p1) b p2) X.env v = (do
      let ov ← holding [v] (eval (.Name x p1) X.env); let iv ← holding [v, ov] (eval b X.env); standAt p2; holding [v, ov, iv] (setItem ov iv v); release [v, ov, iv] []) := by intro _; rfl)
    (ha2 : ∀ v, assign (.Subscript (.Name x p3) c p4) X.env v = (do
      let ov ← holding [v] (eval (.Name x p3) X.env); let iv ← holding [v, ov] (eval c X.env); standAt p4; holding [v, ov, iv] (setItem ov iv v); release [v, ov, iv] []) := by intro _; rfl) :
    DS X M F E (.Assign [.Tuple [.Subscript (.Name x p1) b p2, .Subscript (.Name x p3) c p4] k q1] (.Tuple [va, vb] k2 q2) pos) (sPut2 i gs g1 g2) := by
  obtain ⟨ta, pa, hv2⟩ := hv2
  obtain ⟨tb, pb, hb⟩ := hb
  obtain ⟨tc, pc, hc2⟩ := hc2
  refine ⟨_, ps_asg (pe_tupF pa) (pg_tup hc (pgs_cons (pg_sub (pe_var hN hv hd hcd) pb set_list ha1) (pgs_cons (pg_sub (pe_var hN hv hd hcd) pc set_list ha2) pgs_nil))) hs hw (h1 := h1), fun σ H ρ er D w => ?_⟩
  refine hv2 σ H ρ er _ (ws_stepLA (lk := la) er w fun ds vs H1 e sm r w1 => ?_)
  have er1 := er.same sm
  have sh := put2_shape ds w1
  obtain ⟨y, z, rfl⟩ := sh
  have w1 : WS X M F E σ H1 ρ (sSeq (sPut i false (rC (.int y)) g1) (sPut i false (rC (.int z)) g2) ρ) D := w1
  cases r with
  | cons ra rr =>
    cases rr with
    | cons rb rr =>
      cases rr
      cases ra
      cases rb
      refine ⟨by show 2 ≤ sizeLine; decide, fun p o hp hd0 => ?_⟩
      refine ⟨p, _, rfl, .inl (.inr ⟨o, upd_same⟩), rfl, ?_⟩
      have s2 : Same H1 (upd H1 p (.frz o (.tup [.int y, .int z]))) := same_new hp
      have er2 := er1.same s2
      have w2 := ws_evo (Evo.same s2) w1
      refine ⟨_, _, rfl, ?_⟩
      unfold sSeq at w2
      refine sub_run (D := ⟨fun σ' H' => _, D.rt, D.bk, D.ct⟩) m hb er2 ?_
      cases q : sPut i false (rC (.int y)) g1 ρ with
      | nx ρ' =>
        rw [q] at w2
        refine fun σ' H' er' ev => ?_
        refine ⟨_, _, rfl, ?_⟩
        refine sub_run (D := ⟨fun σ' H' => _, D.rt, D.bk, D.ct⟩) m hc2 er' ?_
        have w3 : WS X M F E σ' H' ρ' (sPut i false (rC (.int z)) g2 ρ') D := ws_evo ev w2
        revert w3
        generalize sPut i false (rC (.int z)) g2 ρ' = rr
        intro w3
        cases rr with
        | nx ρ2 => exact fun σ2 H2 er2 ev2 => ⟨rfl, w3 σ2 H2 er2 ev2⟩
        | rt d => exact w3
        | bk ρ2 => exact w3
        | ct ρ2 => exact w3
        | ex c ρ2 => exact w3
        | bad => exact w3
      | rt d =>
        rw [q] at w2
        exact w2
      | bk ρ' =>
        rw [q] at w2
        exact w2
      | ct ρ' =>
        rw [q] at w2
        exact w2
      | ex c ρ' =>
        rw [q] at w2
        exact w2
      | bad =>
        rw [q] at w2
        exact w2
end
end Pu

set_option Elab.async false
set_option linter.all false
set_option maxRecDepth 100000
set_option maxHeartbeats 2000000
/-! a table of the module: words and numbers -/
namespace Pu
open PySem PySem.Spec PyProof.Rows L2
variable [TabL]
def TabC (K : PySem.W.Frag) (mg : Str → Option Value) (w : World) (x : Str) (kvs : List (Str × Int)) : Prop :=
  (∃ es n, KDict K w (He.ga K x) es n) ∧ mg x = some (.ref (He.ga K x)) ∧ (∀ z, z ∉ kvs.map (·.1) → PySem.W.nsIn K (He.ga K x) z = some none) ∧ ∀ q ∈ kvs, ∃ t, PySem.W.nsIn K (He.ga K x) q.1 = some (some (.int q.2 t))
theorem dicW_none {K : PySem.W.Frag} {w : World} {a : Addr} {ks : List Str} {z : Str} (h : He.dicW K a = some (He.keysIn w.params ks)) (hz : z ∉ ks) : PySem.W.nsIn K a z = some none := by
  obtain ⟨es, n, D⟩ := He.dicW_ok h
  unfold He.dicW at h
  rw [D.at_] at h
  have h2 : es.toList.map He.keyOf = He.keysIn w.params ks := by
    have h1 : (match decide (("dict" : String) = "dict") && ((#[] : Array _).isEmpty && !(a == sysModules)) with
      | true => some (es.toList.map He.keyOf)
      | false => none) = some (He.keysIn w.params ks) := h
    rw [D.low] at h1
    exact Option.some.inj h1
  have key : ∀ e ∈ es.toList, ∃ k t, e.key = .str k t ∧ k ∈ ks := fun e he => by
    obtain ⟨k, t, e1, _⟩ := D.lit.all e he
    refine ⟨k, t, e1, ?_⟩
    have m : He.keyOf e ∈ He.keysIn w.params ks := by
      rw [← h2]
      exact List.mem_map.mpr ⟨e, he, rfl⟩
    unfold He.keysIn at m
    obtain ⟨k', hk', e2⟩ := List.mem_map.mp m
    unfold He.keyOf at e2
    rw [e1] at e2
    have e3 : some (k', PyData.keyHash w.params k') = some (k, e.hash) := e2
    have e4 := congrArg Prod.fst (Option.some.inj e3)
    have e5 : k' = k := e4
    rw [← e5]
    exact hk'
  unfold PySem.W.nsIn
  rw [D.at_]
  show (match es.toList.find? (·.key.isStr z) with
      | some e => some (some e.val)
      | none => if es.toList.any (·.refKey) then none else some none) = some none
  have f : es.toList.find? (·.key.isStr z) = none := by
    rw [List.find?_eq_none]
    intro e he q
    obtain ⟨k, t, e1, hk⟩ := key e he
    rw [e1] at q
    have : k = z := by simpa [Value.isStr] using q
    exact hz (this ▸ hk)
  rw [f]
  have g : es.toList.any (·.refKey) = false := by
    rw [List.any_eq_false]
    intro e he
    obtain ⟨k, t, e1, hk⟩ := key e he
    unfold DictEntry.refKey
    rw [e1]
    simp
  rw [g]
  rfl
theorem look_none {z : Str} : ∀ {kvs : List (Str × Int)}, kvs.lookup z = none → z ∉ kvs.map (·.1)
  | [], _ => fun h => nomatch h
  | (k, v) :: kvs, h => by
    rw [List.lookup_cons] at h
    split at h
    · cases h
    · rename_i e
      intro m
      rcases List.mem_cons.mp m with q | q
      · subst q
        simp at e
      · exact look_none h q
theorem look_mem {z : Str} {i : Int} : ∀ {kvs : List (Str × Int)}, kvs.lookup z = some i → (z, i) ∈ kvs
  | (k, v) :: kvs, h => by
    rw [List.lookup_cons] at h
    split at h
    · rename_i e
      cases h
      rw [eq_of_beq e]
      exact List.mem_cons_self
    · exact List.mem_cons_of_mem _ (look_mem h)
def tabIn (kvs : List (Str × Int)) (neg : Bool) : PyData → Option PyData := fun d => match d with
  | .str z => some (.bool (if (kvs.lookup z).isSome then !neg else neg))
  | _ => none
def tabGet (kvs : List (Str × Int)) : PyData → Option PyData := fun d => match d with
  | .str z => (kvs.lookup z).map PyData.int
  | _ => none
section
variable {X : Cx} {M : Nat → Bool} {F : Fx} {E : L2.St → XK} {la fa : Bool} {a : Expr} {pos : Pos} {f : Rho → Re PyData}
theorem de_inTab {x : Str} {p : Pos} {kvs : List (Str × Int)} (T : TabC X.K X.mg X.w x kvs) (ha : DE X M F E la fa a f) (hg : Gl X x := by rfl) (hd : (x == ("__debug__" : Str)) = false := by decide) (hm : behindInMarks .In (.Name x p) = false := by rfl) : DE X M F E la false (.Compare a [.In] [.Name x p] pos) (r1 (tabIn kvs false) f) := by
  obtain ⟨⟨es, n, D⟩, g, T⟩ := T
  obtain ⟨t, pa, h⟩ := ha
  refine ⟨_, pe_cmpR (op_in_kd D) pa (pe_glob (v := .ref (He.ga X.K x)) hg g rfl hd) hm, fun σ H ρ er Q w => ?_⟩
  refine h σ H ρ er _ (we_step w fun d v H1 e s1 r1 _ w1 => ?_)
  cases r1 with
  | str z =>
    have w1 : WE X M F E la false σ ρ H1 (liftO (some (.bool (if (kvs.lookup z).isSome then !false else false)))) Q := w1
    cases q : kvs.lookup z with
    | none =>
      rw [q] at w1
      exact ⟨z, _, rfl, rfl, T.1 z (look_none q), w1 _ H1 (Same.refl _) (.bl false) fun z => nomatch z⟩
    | some i =>
      rw [q] at w1
      obtain ⟨tk, e2⟩ := T.2 _ (look_mem q)
      exact ⟨z, _, rfl, rfl, e2, w1 _ H1 (Same.refl _) (.bl true) fun z => nomatch z⟩
  | bl _ => exact w1.elim
  | non => exact w1.elim
  | int _ => exact w1.elim
  | tup _ _ => exact w1.elim
  | lst _ _ _ => exact w1.elim
  | scr _ _ => exact w1.elim
  | dic _ _ _ _ => exact w1.elim
  | dit _ _ _ _ => exact w1.elim
  | dif _ _ _ => exact w1.elim
  | rng _ => exact w1.elim
  | dct _ _ _ _ => exact w1.elim
theorem de_notInTab {x : Str} {p : Pos} {kvs : List (Str × Int)} (T : TabC X.K X.mg X.w x kvs) (ha : DE X M F E la fa a f) (hg : Gl X x := by rfl) (hd : (x == ("__debug__" : Str)) = false := by decide) (hm : behindInMarks .NotIn (.Name x p) = false := by rfl) : DE X M F E la false (.Compare a [.NotIn] [.Name x p] pos) (r1 (tabIn kvs true) f) := by
  obtain ⟨⟨es, n, D⟩, g, T⟩ := T
  obtain ⟨t, pa, h⟩ := ha
  refine ⟨_, pe_cmpR (op_notIn_kd D) pa (pe_glob (v := .ref (He.ga X.K x)) hg g rfl hd) hm, fun σ H ρ er Q w => ?_⟩
  refine h σ H ρ er _ (we_step w fun d v H1 e s1 r1 _ w1 => ?_)
  cases r1 with
  | str z =>
    have w1 : WE X M F E la false σ ρ H1 (liftO (some (.bool (if (kvs.lookup z).isSome then !true else true)))) Q := w1
    cases q : kvs.lookup z with
    | none =>
      rw [q] at w1
      exact ⟨z, _, rfl, rfl, T.1 z (look_none q), w1 _ H1 (Same.refl _) (.bl true) fun z => nomatch z⟩
    | some i =>
      rw [q] at w1
      obtain ⟨tk, e2⟩ := T.2 _ (look_mem q)
      exact ⟨z, _, rfl, rfl, e2, w1 _ H1 (Same.refl _) (.bl false) fun z => nomatch z⟩
  | bl _ => exact w1.elim
  | non => exact w1.elim
  | int _ => exact w1.elim
  | tup _ _ => exact w1.elim
  | lst _ _ _ => exact w1.elim
  | scr _ _ => exact w1.elim
  | dic _ _ _ _ => exact w1.elim
  | dit _ _ _ _ => exact w1.elim
  | dif _ _ _ => exact w1.elim
  | rng _ => exact w1.elim
  | dct _ _ _ _ => exact w1.elim
theorem dt_notInTab {x : Str} {p : Pos} {kvs : List (Str × Int)} (T : TabC X.K X.mg X.w x kvs) (ha : DE X M F E la fa a f) (hg : Gl X x := by rfl) (hd : (x == ("__debug__" : Str)) = false := by decide) (hm : behindInMarks .NotIn (.Name x p) = false := by rfl) : DT X M F E (.Compare a [.NotIn] [.Name x p] pos) (asB (r1 (tabIn kvs true) f)) := by
  obtain ⟨⟨es, n, D⟩, g, T'⟩ := id T
  obtain ⟨t, pa, h⟩ := id ha
  refine ⟨_, pt_cmpR (op_notIn_kd D) pa (pe_glob (v := .ref (He.ga X.K x)) hg g rfl hd) hm, fun σ H ρ er Q w => ?_⟩
  refine wt_asB (lk := la) (fr := false) (h := r1 (tabIn kvs true) f) (fun σ H ρ er Q w => ?_) er w
  refine h σ H ρ er _ (we_step w fun d v H1 e s1 r1 _ w1 => ?_)
  cases r1 with
  | str z =>
    have w1 : WE X M F E la false σ ρ H1 (liftO (some (.bool (if (kvs.lookup z).isSome then !true else true)))) Q := w1
    cases q : kvs.lookup z with
    | none =>
      rw [q] at w1
      exact ⟨z, _, rfl, rfl, T'.1 z (look_none q), w1 _ H1 (Same.refl _) (.bl true) fun z => nomatch z⟩
    | some i =>
      rw [q] at w1
      obtain ⟨tk, e2⟩ := T'.2 _ (look_mem q)
      exact ⟨z, _, rfl, rfl, e2, w1 _ H1 (Same.refl _) (.bl false) fun z => nomatch z⟩
  | bl _ => exact w1.elim
  | non => exact w1.elim
  | int _ => exact w1.elim
  | tup _ _ => exact w1.elim
  | lst _ _ _ => exact w1.elim
  | scr _ _ => exact w1.elim
  | dic _ _ _ _ => exact w1.elim
  | dit _ _ _ _ => exact w1.elim
  | dif _ _ _ => exact w1.elim
  | rng _ => exact w1.elim
  | dct _ _ _ _ => exact w1.elim
theorem de_getTab {x : Str} {p : Pos} {kvs : List (Str × Int)} (T : TabC X.K X.mg X.w x kvs) (ha : DE X M F E la fa a f) (hg : Gl X x := by rfl) (hd : (x == ("__debug__" : Str)) = false := by decide) (hs : PlainIx a := by intro _ _; rfl) : DE X M F E la false (.Subscript (.Name x p) a pos) (r1 (tabGet kvs) f) := by
  obtain ⟨⟨es, n, D⟩, g, T⟩ := T
  obtain ⟨t, pa, h⟩ := ha
  refine ⟨_, pe_ix ix_kdict (pe_glob (v := .ref (He.ga X.K x)) hg g rfl hd) pa hs, fun σ H ρ er Q w => ?_⟩
  refine h σ H ρ er _ (we_step w fun d v H1 e s1 r1 _ w1 => ?_)
  cases r1 with
  | str z =>
    have w1 : WE X M F E la false σ ρ H1 (liftO ((kvs.lookup z).map PyData.int)) Q := w1
    cases q : kvs.lookup z with
    | none =>
      rw [q] at w1
      exact w1.elim
    | some i =>
      rw [q] at w1
      obtain ⟨tk, e2⟩ := T.2 _ (look_mem q)
      exact ⟨_, z, .int i, rfl, rfl, ⟨es, n, _, D.at_, D.lit, e2, ⟨tk, rfl⟩⟩, w1 _ H1 (Same.refl _) (.int i) fun z => nomatch z⟩
  | bl _ => exact w1.elim
  | non => exact w1.elim
  | int _ => exact w1.elim
  | tup _ _ => exact w1.elim
  | lst _ _ _ => exact w1.elim
  | scr _ _ => exact w1.elim
  | dic _ _ _ _ => exact w1.elim
  | dit _ _ _ _ => exact w1.elim
  | dif _ _ _ => exact w1.elim
  | rng _ => exact w1.elim
  | dct _ _ _ _ => exact w1.elim
end
/-! the head with tables -/
def obsT2 (fa : List He.Fa) (fx : List Fx2) (fn : List He.DefD) (ts : List (Str × List (Str × Int))) (K : PySem.W.Frag) : He.AlT := (((obsP fa fx fn K).1 && ts.all fun t => He.valsB K (He.ga K t.1) (t.2.map fun q => (q.1, .int q.2)), (obsP fa fx fn K).2), ts.map fun t => He.dicW K (He.ga K t.1))
def valT2 (fn : List He.DefD) (ts : List (Str × List (Str × Int))) (w : World) : He.AlT := (He.valD fn, ts.map fun t => some (He.keysIn w.params (t.2.map (·.1))))
def SaysT2 (fa : List He.Fa) (fx : List Fx2) (fn : List He.DefD) (ts : List (Str × List (Str × Int))) (w : World) (K : PySem.W.Frag) : Prop := obsT2 fa fx fn ts K = valT2 fn ts w
def obsT2G (n : Nat) (fa : List He.Fa) (fx : List Fx2) (fn : List He.DefD) (ts : List (Str × List (Str × Int))) (g : Addr → Option Obj) : He.AlT := obsT2 fa fx fn ts (He.frG g (He.asD g n))
def hookT2 (n : Nat) (fa : List He.Fa) (fx : List Fx2) (fn : List He.DefD) (ts : List (Str × List (Str × Int))) : PySem.W.Hook where
  α := He.AlT
  obs := fun s => obsT2G n fa fx fn ts s.heap.get?
  val := fun w => valT2 fn ts w
  says := fun w h => ∃ K : PySem.W.Frag, K.In h ∧ SaysT2 fa fx fn ts w K
  of := fun _ _ e => ⟨_, He.frG_in, e⟩
  keeps := fun _ _ _ ⟨K, hK, c⟩ k => ⟨K, PySem.W.Frag.In.keeps hK k, c⟩
section
variable {fa : List He.Fa} {fx : List Fx2} {fn : List He.DefD} {ts : List (Str × List (Str × Int))} {w : World} {K : PySem.W.Frag}
theorem obsT2G_eq {n : Nat} {g : Addr → Option Obj} {s : Shared} (h : ∀ a, g a = s.heap.get? a) : obsT2G n fa fx fn ts g = (hookT2 n fa fx fn ts).obs s := by
  rw [show g = s.heap.get? from funext h] <;> rfl
theorem SaysT2.p (c : SaysT2 fa fx fn ts w K) : SaysP fa fx fn K := by
  have c1 : obsT2 fa fx fn ts K = valT2 fn ts w := c
  have h1 : ((obsP fa fx fn K).1 && ts.all fun t => He.valsB K (He.ga K t.1) (t.2.map fun q => (q.1, .int q.2))) = true := congrArg (fun z : He.AlT => z.1.1) c1
  have h2 := congrArg (fun z : He.AlT => z.1.2) c1
  exact Prod.ext (He.ba h1).1 h2
theorem SaysT2.tab {mg : Str → Option Value} {h : Heap} (X : K.In h) (G : h.Ns mainGlobals mg) (c : SaysT2 fa fx fn ts w K) (i j : Nat) {x : Str} {kvs : List (Str × Int)} (ht : ts[i]? = some (x, kvs) := by rfl) (hg : fa[j]? = some (.glo x) := by rfl) : TabC K mg w x kvs := by
  have c1 : obsT2 fa fx fn ts K = valT2 fn ts w := c
  have h1 : ((obsP fa fx fn K).1 && ts.all fun t => He.valsB K (He.ga K t.1) (t.2.map fun q => (q.1, .int q.2))) = true := congrArg (fun z : He.AlT => z.1.1) c1
  have h3 : (ts.map fun t => He.dicW K (He.ga K t.1)) = ts.map fun t => some (He.keysIn w.params (t.2.map (·.1))) := congrArg (fun z : He.AlT => z.2) c1
  have e2 : (ts.map fun t => He.dicW K (He.ga K t.1))[i]? = (ts.map fun t => some (He.keysIn w.params (t.2.map (·.1))))[i]? := by rw [h3]
  rw [List.getElem?_map, List.getElem?_map, ht] at e2
  have v := List.all_eq_true.mp (He.ba h1).2 _ (List.mem_of_getElem? ht)
  refine ⟨He.dicW_ok (Option.some.inj e2), He.glo_ok X G (c.p.d.fact j hg), fun z hz => dicW_none (Option.some.inj e2) hz, fun q hq => ?_⟩
  obtain ⟨u, e, r⟩ := He.valsB_ok v (List.mem_map.mpr ⟨q, hq, rfl⟩)
  obtain ⟨t, rfl⟩ : ∃ t, u = .int q.2 t := r
  exact ⟨t, e⟩
end
end Pu

set_option Elab.async false
set_option linter.all false
set_option maxRecDepth 100000
set_option maxHeartbeats 2000000
/-! reckoning, more: star, exchanges, unpacked lists, words -/
namespace Pu
open PySem PySem.Spec PyProof.Rows L2
variable [TabL]
section
variable {ρ : Rho} {i j : Int}
def starR (ρ : Rho) (k m : Nat) : PyData → Sr
  | .tuple (x :: xs) => .nx ((ρ.set k (some x)).set m (some (.list xs)))
  | _ => .bad
@[simp] theorem starR_t (k m : Nat) (x : PyData) (xs : List PyData) : starR ρ k m (.tuple (x :: xs)) = .nx ((ρ.set k (some x)).set m (some (.list xs))) := (rfl)
@[simp] theorem ap_star (k m : Nat) (f : Rho → Re PyData) : sStar k m f ρ = (f ρ).st ρ (starR ρ k m) := by
  unfold sStar
  congr 1
@[simp] theorem gSeq2l (g : List PyData → Rho → Option Rho) (a b : PyData) : gSeqD 2 g (.list [a, b]) ρ = g [a, b] ρ := (rfl)
@[simp] theorem gSeq4l (g : List PyData → Rho → Option Rho) (a b c d : PyData) : gSeqD 4 g (.list [a, b, c, d]) ρ = g [a, b, c, d] ρ := (rfl)
@[simp] theorem gSeq4 (g : List PyData → Rho → Option Rho) (a b c d : PyData) : gSeqD 4 g (.tuple [a, b, c, d]) ρ = g [a, b, c, d] ρ := (rfl)
@[simp] theorem gSeq2tI (g : List PyData → Rho → Option Rho) (a b : Int) : gSeqD 2 g (tI [a, b]) ρ = g [.int a, .int b] ρ := (rfl)
@[simp] theorem gSeq2lI (g : List PyData → Rho → Option Rho) (a b : Int) : gSeqD 2 g (lI [a, b]) ρ = g [.int a, .int b] ρ := (rfl)
@[simp] theorem gSeq4tI (g : List PyData → Rho → Option Rho) (a b c d : Int) : gSeqD 4 g (tI [a, b, c, d]) ρ = g [.int a, .int b, .int c, .int d] ρ := (rfl)
@[simp] theorem gSeq4lI (g : List PyData → Rho → Option Rho) (a b c d : Int) : gSeqD 4 g (lI [a, b, c, d]) ρ = g [.int a, .int b, .int c, .int d] ρ := (rfl)
theorem lI_eq (ns : List Int) : PyData.list (ns.map PyData.int) = lI ns := rfl
theorem tI_eq (ns : List Int) : PyData.tuple (ns.map PyData.int) = tI ns := rfl
theorem li1 {a : Int} : PyData.list [.int a] = lI [a] := rfl
theorem li2 {a b : Int} : PyData.list [.int a, .int b] = lI [a, b] := rfl
theorem li4 {a b c d : Int} : PyData.list [.int a, .int b, .int c, .int d] = lI [a, b, c, d] := rfl
/-- x[i], x[j] = (y, z) -/
theorem put2_i {k : Nat} {gs : Rho → Re (List PyData)} {g1 g2 : Rho → Re PyData} {ns : List Int} {y z a b : Int} (hk : ρ[k]? = some (some (lI ns))) (hs : gs ρ = .ok [.int y, .int z]) (h1 : g1 ρ = .ok (.int a)) (h2 : g2 (ρ.set k (some (lI (ns.set a.toNat y)))) = .ok (.int b))
    (a0 : 0 ≤ a) (a1 : a < ns.length) (b0 : 0 ≤ b) (b1 : b < ns.length) : sPut2 k gs g1 g2 ρ = .nx (ρ.set k (some (lI ((ns.set a.toNat y).set b.toNat z)))) := by
  unfold sPut2
  rw [hs, stL_ok]
  show sSeq (sPut k false (rC (.int y)) g1) (sPut k false (rC (.int z)) g2) ρ = _
  have hkl : k < ρ.length := by
    rw [List.getElem?_eq_some_iff] at hk
    exact hk.1
  rw [ap_sSeq, put_i hk (ap_c _) h1 a0 a1, sqS_nx, put_i (ρ := ρ.set k (some (lI (ns.set a.toNat y)))) (ns := ns.set a.toNat y) (by rw [List.getElem?_set_self hkl]) (ap_c _) h2 b0 (by rw [List.length_set]; exact b1), List.set_set]
@[simp] theorem nat_nlt (i : Nat) : ((i : Int) < 0) = False := eq_false (by omega)
def lnkE : Option PyData → Re PyData → Re PyData
  | some (.bool true), r => r
  | some (.bool false), _ => .ok (.bool false)
  | _, _ => .bad
@[simp] theorem lnkE_b (b : Bool) (r : Re PyData) : lnkE (some (.bool b)) r = if b = true then r else .ok (.bool false) := by cases b <;> rfl
@[simp] theorem ap_link (gg : PyData → PyData → Option PyData) (g : Rho → Re PyData) (k : PyData → Rho → Re PyData) (d : PyData) : cLink gg g k d ρ = (g ρ).andThen fun e => lnkE (gg d e) (k e ρ) := by
  unfold cLink
  congr 1
  funext e
  rcases gg d e with _ | v
  · rfl
  · cases v with
    | bool b => cases b <;> rfl
    | _ => rfl
theorem run4 {m : Nat} {s : Rho → Sr} {a b c d : PyData} : runF 4 m s [a, b, c, d] = outR (s (some a :: some b :: some c :: some d :: List.replicate (m - 4) none)) := run_eq rfl
theorem run5 {m : Nat} {s : Rho → Sr} {a b c d e : PyData} : runF 5 m s [a, b, c, d, e] = outR (s (some a :: some b :: some c :: some d :: some e :: List.replicate (m - 5) none)) := run_eq rfl
theorem run0 {m : Nat} {s : Rho → Sr} : runF 0 m s [] = outR (s (List.replicate m none)) := run_eq rfl
@[simp] theorem ap_isi {T : String} {f : Rho → Re PyData} : rIsi T f ρ = (f ρ).andThen fun d => liftO ((isD d T).map PyData.bool) := (rfl)
@[simp] theorem isi_tup {ds : List PyData} : isD (.tuple ds) "tuple" = some true := by
  show kitB "tuple" "tuple" = some true
  decide +kernel
@[simp] theorem isi_tI {ns : List Int} : isD (tI ns) "tuple" = some true := isi_tup
@[simp] theorem isi_int {z : Int} : isD (.int z) "int" = some true := by
  show kitB "int" "int" = some true
  decide +kernel
@[simp] theorem isi_intb {z : Int} : isD (.int z) "bool" = some false := by
  show kitB "int" "bool" = some false
  decide +kernel
/-! words -/
theorem shp (x : Str) (h : SeqAt.shaped (.str x) = true := by decide +kernel) : SeqAt.shaped (.str x) = true := h
@[simp] theorem wq_swap_swap : oEq (.str ("swap" : Str)) (.str ("swap" : Str)) = some (.bool true) := by
  rw [oEq_s (shp _) (shp _)]
  simp
@[simp] theorem wn_swap_swap : oNe (.str ("swap" : Str)) (.str ("swap" : Str)) = some (.bool false) := by
  rw [oNe_s (shp _) (shp _)]
  simp
@[simp] theorem wq_swap_next : oEq (.str ("swap" : Str)) (.str ("next" : Str)) = some (.bool false) := by
  rw [oEq_s (shp _) (shp _)]
  congr 1
@[simp] theorem wn_swap_next : oNe (.str ("swap" : Str)) (.str ("next" : Str)) = some (.bool true) := by
  rw [oNe_s (shp _) (shp _)]
  congr 1
@[simp] theorem wq_swap_take : oEq (.str ("swap" : Str)) (.str ("take" : Str)) = some (.bool false) := by
  rw [oEq_s (shp _) (shp _)]
  congr 1
@[simp] theorem wn_swap_take : oNe (.str ("swap" : Str)) (.str ("take" : Str)) = some (.bool true) := by
  rw [oNe_s (shp _) (shp _)]
  congr 1
@[simp] theorem wq_swap_flip : oEq (.str ("swap" : Str)) (.str ("flip" : Str)) = some (.bool false) := by
  rw [oEq_s (shp _) (shp _)]
  congr 1
@[simp] theorem wn_swap_flip : oNe (.str ("swap" : Str)) (.str ("flip" : Str)) = some (.bool true) := by
  rw [oNe_s (shp _) (shp _)]
  congr 1
@[simp] theorem wq_swap_blocks : oEq (.str ("swap" : Str)) (.str ("blocks" : Str)) = some (.bool false) := by
  rw [oEq_s (shp _) (shp _)]
  congr 1
@[simp] theorem wn_swap_blocks : oNe (.str ("swap" : Str)) (.str ("blocks" : Str)) = some (.bool true) := by
  rw [oNe_s (shp _) (shp _)]
  congr 1
@[simp] theorem wq_swap_turn : oEq (.str ("swap" : Str)) (.str ("turn" : Str)) = some (.bool false) := by
  rw [oEq_s (shp _) (shp _)]
  congr 1
@[simp] theorem wn_swap_turn : oNe (.str ("swap" : Str)) (.str ("turn" : Str)) = some (.bool true) := by
  rw [oNe_s (shp _) (shp _)]
  congr 1
@[simp] theorem wq_next_swap : oEq (.str ("next" : Str)) (.str ("swap" : Str)) = some (.bool false) := by
  rw [oEq_s (shp _) (shp _)]
  congr 1
@[simp] theorem wn_next_swap : oNe (.str ("next" : Str)) (.str ("swap" : Str)) = some (.bool true) := by
  rw [oNe_s (shp _) (shp _)]
  congr 1
@[simp] theorem wq_next_next : oEq (.str ("next" : Str)) (.str ("next" : Str)) = some (.bool true) := by
  rw [oEq_s (shp _) (shp _)]
  simp
@[simp] theorem wn_next_next : oNe (.str ("next" : Str)) (.str ("next" : Str)) = some (.bool false) := by
  rw [oNe_s (shp _) (shp _)]
  simp
@[simp] theorem wq_next_take : oEq (.str ("next" : Str)) (.str ("take" : Str)) = some (.bool false) := by
  rw [oEq_s (shp _) (shp _)]
  congr 1
@[simp] theorem wn_next_take : oNe (.str ("next" : Str)) (.str ("take" : Str)) = some (.bool true) := by
  rw [oNe_s (shp _) (shp _)]
  congr 1
@[simp] theorem wq_next_flip : oEq (.str ("next" : Str)) (.str ("flip" : Str)) = some (.bool false) := by
  rw [oEq_s (shp _) (shp _)]
  congr 1
@[simp] theorem wn_next_flip : oNe (.str ("next" : Str)) (.str ("flip" : Str)) = some (.bool true) := by
  rw [oNe_s (shp _) (shp _)]
  congr 1
@[simp] theorem wq_next_blocks : oEq (.str ("next" : Str)) (.str ("blocks" : Str)) = some (.bool false) := by
  rw [oEq_s (shp _) (shp _)]
  congr 1
@[simp] theorem wn_next_blocks : oNe (.str ("next" : Str)) (.str ("blocks" : Str)) = some (.bool true) := by
  rw [oNe_s (shp _) (shp _)]
  congr 1
@[simp] theorem wq_next_turn : oEq (.str ("next" : Str)) (.str ("turn" : Str)) = some (.bool false) := by
  rw [oEq_s (shp _) (shp _)]
  congr 1
@[simp] theorem wn_next_turn : oNe (.str ("next" : Str)) (.str ("turn" : Str)) = some (.bool true) := by
  rw [oNe_s (shp _) (shp _)]
  congr 1
@[simp] theorem wq_take_swap : oEq (.str ("take" : Str)) (.str ("swap" : Str)) = some (.bool false) := by
  rw [oEq_s (shp _) (shp _)]
  congr 1
@[simp] theorem wn_take_swap : oNe (.str ("take" : Str)) (.str ("swap" : Str)) = some (.bool true) := by
  rw [oNe_s (shp _) (shp _)]
  congr 1
@[simp] theorem wq_take_next : oEq (.str ("take" : Str)) (.str ("next" : Str)) = some (.bool false) := by
  rw [oEq_s (shp _) (shp _)]
  congr 1
@[simp] theorem wn_take_next : oNe (.str ("take" : Str)) (.str ("next" : Str)) = some (.bool true) := by
  rw [oNe_s (shp _) (shp _)]
  congr 1
@[simp] theorem wq_take_take : oEq (.str ("take" : Str)) (.str ("take" : Str)) = some (.bool true) := by
  rw [oEq_s (shp _) (shp _)]
  simp
@[simp] theorem wn_take_take : oNe (.str ("take" : Str)) (.str ("take" : Str)) = some (.bool false) := by
  rw [oNe_s (shp _) (shp _)]
  simp
@[simp] theorem wq_take_flip : oEq (.str ("take" : Str)) (.str ("flip" : Str)) = some (.bool false) := by
  rw [oEq_s (shp _) (shp _)]
  congr 1
@[simp] theorem wn_take_flip : oNe (.str ("take" : Str)) (.str ("flip" : Str)) = some (.bool true) := by
  rw [oNe_s (shp _) (shp _)]
  congr 1
@[simp] theorem wq_take_blocks : oEq (.str ("take" : Str)) (.str ("blocks" : Str)) = some (.bool false) := by
  rw [oEq_s (shp _) (shp _)]
  congr 1
@[simp] theorem wn_take_blocks : oNe (.str ("take" : Str)) (.str ("blocks" : Str)) = some (.bool true) := by
  rw [oNe_s (shp _) (shp _)]
  congr 1
@[simp] theorem wq_take_turn : oEq (.str ("take" : Str)) (.str ("turn" : Str)) = some (.bool false) := by
  rw [oEq_s (shp _) (shp _)]
  congr 1
@[simp] theorem wn_take_turn : oNe (.str ("take" : Str)) (.str ("turn" : Str)) = some (.bool true) := by
  rw [oNe_s (shp _) (shp _)]
  congr 1
@[simp] theorem wq_flip_swap : oEq (.str ("flip" : Str)) (.str ("swap" : Str)) = some (.bool false) := by
  rw [oEq_s (shp _) (shp _)]
  congr 1
@[simp] theorem wn_flip_swap : oNe (.str ("flip" : Str)) (.str ("swap" : Str)) = some (.bool true) := by
  rw [oNe_s (shp _) (shp _)]
  congr 1
@[simp] theorem wq_flip_next : oEq (.str ("flip" : Str)) (.str ("next" : Str)) = some (.bool false) := by
  rw [oEq_s (shp _) (shp _)]
  congr 1
@[simp] theorem wn_flip_next : oNe (.str ("flip" : Str)) (.str ("next" : Str)) = some (.bool true) := by
  rw [oNe_s (shp _) (shp _)]
  congr 1
@[simp] theorem wq_flip_take : oEq (.str ("flip" : Str)) (.str ("take" : Str)) = some (.bool false) := by
  rw [oEq_s (shp _) (shp _)]
  congr 1
@[simp] theorem wn_flip_take : oNe (.str ("flip" : Str)) (.str ("take" : Str)) = some (.bool true) := by
  rw [oNe_s (shp _) (shp _)]
  congr 1
@[simp] theorem wq_flip_flip : oEq (.str ("flip" : Str)) (.str ("flip" : Str)) = some (.bool true) := by
  rw [oEq_s (shp _) (shp _)]
  simp
@[simp] theorem wn_flip_flip : oNe (.str ("flip" : Str)) (.str ("flip" : Str)) = some (.bool false) := by
  rw [oNe_s (shp _) (shp _)]
  simp
@[simp] theorem wq_flip_blocks : oEq (.str ("flip" : Str)) (.str ("blocks" : Str)) = some (.bool false) := by
  rw [oEq_s (shp _) (shp _)]
  congr 1
@[simp] theorem wn_flip_blocks : oNe (.str ("flip" : Str)) (.str ("blocks" : Str)) = some (.bool true) := by
  rw [oNe_s (shp _) (shp _)]
  congr 1
@[simp] theorem wq_flip_turn : oEq (.str ("flip" : Str)) (.str ("turn" : Str)) = some (.bool false) := by
  rw [oEq_s (shp _) (shp _)]
  congr 1
@[simp] theorem wn_flip_turn : oNe (.str ("flip" : Str)) (.str ("turn" : Str)) = some (.bool true) := by
  rw [oNe_s (shp _) (shp _)]
  congr 1
@[simp] theorem wq_blocks_swap : oEq (.str ("blocks" : Str)) (.str ("swap" : Str)) = some (.bool false) := by
  rw [oEq_s (shp _) (shp _)]
  congr 1
@[simp] theorem wn_blocks_swap : oNe (.str ("blocks" : Str)) (.str ("swap" : Str)) = some (.bool true) := by
  rw [oNe_s (shp _) (shp _)]
  congr 1
@[simp] theorem wq_blocks_next : oEq (.str ("blocks" : Str)) (.str ("next" : Str)) = some (.bool false) := by
  rw [oEq_s (shp _) (shp _)]
  congr 1
@[simp] theorem wn_blocks_next : oNe (.str ("blocks" : Str)) (.str ("next" : Str)) = some (.bool true) := by
  rw [oNe_s (shp _) (shp _)]
  congr 1
@[simp] theorem wq_blocks_take : oEq (.str ("blocks" : Str)) (.str ("take" : Str)) = some (.bool false) := by
  rw [oEq_s (shp _) (shp _)]
  congr 1
@[simp] theorem wn_blocks_take : oNe (.str ("blocks" : Str)) (.str ("take" : Str)) = some (.bool true) := by
  rw [oNe_s (shp _) (shp _)]
  congr 1
@[simp] theorem wq_blocks_flip : oEq (.str ("blocks" : Str)) (.str ("flip" : Str)) = some (.bool false) := by
  rw [oEq_s (shp _) (shp _)]
  congr 1
@[simp] theorem wn_blocks_flip : oNe (.str ("blocks" : Str)) (.str ("flip" : Str)) = some (.bool true) := by
  rw [oNe_s (shp _) (shp _)]
  congr 1
@[simp] theorem wq_blocks_blocks : oEq (.str ("blocks" : Str)) (.str ("blocks" : Str)) = some (.bool true) := by
  rw [oEq_s (shp _) (shp _)]
  simp
@[simp] theorem wn_blocks_blocks : oNe (.str ("blocks" : Str)) (.str ("blocks" : Str)) = some (.bool false) := by
  rw [oNe_s (shp _) (shp _)]
  simp
@[simp] theorem wq_blocks_turn : oEq (.str ("blocks" : Str)) (.str ("turn" : Str)) = some (.bool false) := by
  rw [oEq_s (shp _) (shp _)]
  congr 1
@[simp] theorem wn_blocks_turn : oNe (.str ("blocks" : Str)) (.str ("turn" : Str)) = some (.bool true) := by
  rw [oNe_s (shp _) (shp _)]
  congr 1
@[simp] theorem wq_turn_swap : oEq (.str ("turn" : Str)) (.str ("swap" : Str)) = some (.bool false) := by
  rw [oEq_s (shp _) (shp _)]
  congr 1
@[simp] theorem wn_turn_swap : oNe (.str ("turn" : Str)) (.str ("swap" : Str)) = some (.bool true) := by
  rw [oNe_s (shp _) (shp _)]
  congr 1
@[simp] theorem wq_turn_next : oEq (.str ("turn" : Str)) (.str ("next" : Str)) = some (.bool false) := by
  rw [oEq_s (shp _) (shp _)]
  congr 1
@[simp] theorem wn_turn_next : oNe (.str ("turn" : Str)) (.str ("next" : Str)) = some (.bool true) := by
  rw [oNe_s (shp _) (shp _)]
  congr 1
@[simp] theorem wq_turn_take : oEq (.str ("turn" : Str)) (.str ("take" : Str)) = some (.bool false) := by
  rw [oEq_s (shp _) (shp _)]
  congr 1
@[simp] theorem wn_turn_take : oNe (.str ("turn" : Str)) (.str ("take" : Str)) = some (.bool true) := by
  rw [oNe_s (shp _) (shp _)]
  congr 1
@[simp] theorem wq_turn_flip : oEq (.str ("turn" : Str)) (.str ("flip" : Str)) = some (.bool false) := by
  rw [oEq_s (shp _) (shp _)]
  congr 1
@[simp] theorem wn_turn_flip : oNe (.str ("turn" : Str)) (.str ("flip" : Str)) = some (.bool true) := by
  rw [oNe_s (shp _) (shp _)]
  congr 1
@[simp] theorem wq_turn_blocks : oEq (.str ("turn" : Str)) (.str ("blocks" : Str)) = some (.bool false) := by
  rw [oEq_s (shp _) (shp _)]
  congr 1
@[simp] theorem wn_turn_blocks : oNe (.str ("turn" : Str)) (.str ("blocks" : Str)) = some (.bool true) := by
  rw [oNe_s (shp _) (shp _)]
  congr 1
@[simp] theorem wq_turn_turn : oEq (.str ("turn" : Str)) (.str ("turn" : Str)) = some (.bool true) := by
  rw [oEq_s (shp _) (shp _)]
  simp
@[simp] theorem wn_turn_turn : oNe (.str ("turn" : Str)) (.str ("turn" : Str)) = some (.bool false) := by
  rw [oNe_s (shp _) (shp _)]
  simp
@[simp] theorem wq_no_swap : oEq (.str ("" : Str)) (.str ("swap" : Str)) = some (.bool false) := by
  rw [oEq_s (shp _) (shp _)]
  congr 1
@[simp] theorem wn_no_swap : oNe (.str ("" : Str)) (.str ("swap" : Str)) = some (.bool true) := by
  rw [oNe_s (shp _) (shp _)]
  congr 1
@[simp] theorem wq_no_next : oEq (.str ("" : Str)) (.str ("next" : Str)) = some (.bool false) := by
  rw [oEq_s (shp _) (shp _)]
  congr 1
@[simp] theorem wn_no_next : oNe (.str ("" : Str)) (.str ("next" : Str)) = some (.bool true) := by
  rw [oNe_s (shp _) (shp _)]
  congr 1
@[simp] theorem wq_no_take : oEq (.str ("" : Str)) (.str ("take" : Str)) = some (.bool false) := by
  rw [oEq_s (shp _) (shp _)]
  congr 1
@[simp] theorem wn_no_take : oNe (.str ("" : Str)) (.str ("take" : Str)) = some (.bool true) := by
  rw [oNe_s (shp _) (shp _)]
  congr 1
@[simp] theorem wq_no_flip : oEq (.str ("" : Str)) (.str ("flip" : Str)) = some (.bool false) := by
  rw [oEq_s (shp _) (shp _)]
  congr 1
@[simp] theorem wn_no_flip : oNe (.str ("" : Str)) (.str ("flip" : Str)) = some (.bool true) := by
  rw [oNe_s (shp _) (shp _)]
  congr 1
@[simp] theorem wq_no_blocks : oEq (.str ("" : Str)) (.str ("blocks" : Str)) = some (.bool false) := by
  rw [oEq_s (shp _) (shp _)]
  congr 1
@[simp] theorem wn_no_blocks : oNe (.str ("" : Str)) (.str ("blocks" : Str)) = some (.bool true) := by
  rw [oNe_s (shp _) (shp _)]
  congr 1
@[simp] theorem wq_no_turn : oEq (.str ("" : Str)) (.str ("turn" : Str)) = some (.bool false) := by
  rw [oEq_s (shp _) (shp _)]
  congr 1
@[simp] theorem wn_no_turn : oNe (.str ("" : Str)) (.str ("turn" : Str)) = some (.bool true) := by
  rw [oNe_s (shp _) (shp _)]
  congr 1
theorem bMinA_l1 {a : Int} : bMinA [lI [a]] = some (.int a) := rfl
theorem bMaxA_l1 {a : Int} : bMaxA [lI [a]] = some (.int a) := rfl
end
end Pu

set_option Elab.async false
set_option linter.all false
set_option maxRecDepth 100000
set_option maxHeartbeats 2000000
/-! the five kinds of moves of plain rows -/
namespace Pu
open PySem PySem.Spec PyProof.Rows L2
variable [TabL]
inductive Mv where
  | swap (i j : Nat)
  | next (i : Nat)
  | take (i j : Nat)
  | flip (i j : Nat)
  | blocks (i j k l : Nat)
def Mv.ok (n : Nat) : Mv → Prop
  | .swap i j => i < j ∧ j < n
  | .next i => i + 1 < n
  | .take i j => i < n ∧ j < n ∧ i ≠ j
  | .flip i j => i < j ∧ j < n
  | .blocks i j k l => i < j ∧ j ≤ k ∧ k < l ∧ l ≤ n
def Mv.D : Mv → PyData
  | .swap i j => .tuple [.str "swap", .int i, .int j]
  | .next i => .tuple [.str "next", .int i]
  | .take i j => .tuple [.str "take", .int i, .int j]
  | .flip i j => .tuple [.str "flip", .int i, .int j]
  | .blocks i j k l => .tuple [.str "blocks", .int i, .int j, .int k, .int l]
def Mv.kind : Mv → Str
  | .swap _ _ => "swap"
  | .next _ => "next"
  | .take _ _ => "take"
  | .flip _ _ => "flip"
  | .blocks _ _ _ _ => "blocks"
def takeZ (r : List Int) (i j : Nat) : List Int := (r.take i ++ r.drop (i + 1)).take j ++ (r.drop i).take 1 ++ (r.take i ++ r.drop (i + 1)).drop j
def flipZ (r : List Int) (i j : Nat) : List Int := r.take i ++ ((r.take (j + 1)).drop i).reverse ++ r.drop (j + 1)
def blkZ (r : List Int) (i j k l : Nat) : List Int := r.take i ++ (r.take l).drop k ++ (r.take k).drop j ++ (r.take j).drop i ++ r.drop l
def Mv.F (r : List Int) : Mv → List Int
  | .swap i j => swZ r i j
  | .next i => swZ r i ((i : Int) + 1)
  | .take i j => takeZ r i j
  | .flip i j => flipZ r i j
  | .blocks i j k l => blkZ r i j k l
theorem cut2 {r : List Int} {i j : Nat} (h : i ≤ j) : r.take i ++ (r.take j).drop i = r.take j := by
  have e : r.take i = (r.take j).take i := by rw [List.take_take, Nat.min_eq_left h]
  rw [e, List.take_append_drop]
theorem cut1 {r : List Int} {i : Nat} {x : Int} (h : r[i]? = some x) : (r.drop i).take 1 = [x] := by
  have hi : i < r.length := by
    obtain ⟨h1, _⟩ := List.getElem?_eq_some_iff.mp h
    exact h1
  rw [List.drop_eq_getElem_cons hi]
  obtain ⟨h1, h2⟩ := List.getElem?_eq_some_iff.mp h
  rw [h2]
  rfl
theorem take_perm {r : List Int} {i j : Nat} (h : i < r.length) : (takeZ r i j).Perm r := by
  obtain ⟨x, hx⟩ : ∃ x, r[i]? = some x := ⟨r[i], List.getElem?_eq_getElem h⟩
  unfold takeZ
  rw [cut1 hx]
  have e : r = r.take i ++ [x] ++ r.drop (i + 1) := by
    obtain ⟨h1, h2⟩ := List.getElem?_eq_some_iff.mp hx
    rw [List.append_assoc, List.singleton_append, ← h2, ← List.drop_eq_getElem_cons h1, List.take_append_drop]
  generalize hq : r.take i ++ r.drop (i + 1) = q
  have p1 : (q.take j ++ [x] ++ q.drop j).Perm (x :: q) := by
    rw [List.append_assoc, List.singleton_append]
    refine List.perm_middle.trans ?_
    rw [List.take_append_drop]
  refine p1.trans ?_
  rw [← hq]
  refine List.perm_middle.symm.trans ?_
  rw [← List.singleton_append, ← List.append_assoc, ← e]
theorem flip_perm {r : List Int} {i j : Nat} (h : i ≤ j) : (flipZ r i j).Perm r := by
  unfold flipZ
  refine (((List.reverse_perm _).append_left _).append_right _).trans ?_
  rw [cut2 (by omega), List.take_append_drop]
theorem blk_perm {r : List Int} {i j k l : Nat} (h1 : i ≤ j) (h2 : j ≤ k) (h3 : k ≤ l) : (blkZ r i j k l).Perm r := by
  unfold blkZ
  have e : r = r.take i ++ ((r.take j).drop i ++ (r.take k).drop j ++ (r.take l).drop k) ++ r.drop l := by
    rw [← List.append_assoc, ← List.append_assoc, cut2 h1, cut2 h2, cut2 h3, List.take_append_drop]
  refine List.Perm.trans ?_ (List.Perm.of_eq e.symm)
  refine List.Perm.append_right _ ?_
  rw [List.append_assoc, List.append_assoc]
  refine List.Perm.append_left _ ?_
  rw [← List.append_assoc]
  generalize (r.take j).drop i = a
  generalize (r.take k).drop j = b
  generalize (r.take l).drop k = c
  refine List.perm_append_comm.trans ?_
  rw [List.append_assoc]
  exact List.Perm.append_left _ List.perm_append_comm
theorem Mv.perm {n : Nat} {m : Mv} {r : List Int} (h : m.ok n) (hr : r.length = n) (nd : r.Nodup) : (m.F r).Perm r := by
  cases m with
  | swap i j =>
    obtain ⟨h1, h2⟩ := h
    exact swZ_perm nd (up_mem.mpr (by omega)) (up_mem.mpr (by omega)) (by omega)
  | next i =>
    have h : i + 1 < n := h
    exact swZ_perm nd (up_mem.mpr (by omega)) (up_mem.mpr (by omega)) (by omega)
  | take i j => exact take_perm (by rw [hr]; exact h.1)
  | flip i j => exact flip_perm (by have := h.1; omega)
  | blocks i j k l =>
    obtain ⟨h1, h2, h3, h4⟩ := h
    exact blk_perm (by omega) h2 (by omega)
theorem atZ_map (f : Int → Int) (r : List Int) (i : Int) : atZ (r.map f) i = (atZ r i).map f := by
  unfold atZ
  rw [List.length_map]
  cases ixN r.length i with
  | none => rfl
  | some j => simp
theorem swZ_map (f : Int → Int) {r : List Int} {i j : Int} (hi : i ∈ upI 0 r.length) (hj : j ∈ upI 0 r.length) : swZ (r.map f) i j = (swZ r i j).map f := by
  obtain ⟨h1, h2⟩ := up_mem.mp hi
  obtain ⟨h3, h4⟩ := up_mem.mp hj
  obtain ⟨x, e1, _⟩ := atZ_p (ns := r) h1 (by omega)
  obtain ⟨y, e2, _⟩ := atZ_p (ns := r) h3 (by omega)
  unfold swZ
  rw [atZ_map, atZ_map, e1, e2, List.map_set, List.map_set]
  rfl
theorem Mv.map {n : Nat} {m : Mv} {r : List Int} (f : Int → Int) (h : m.ok n) (hr : r.length = n) : m.F (r.map f) = (m.F r).map f := by
  cases m with
  | swap i j =>
    obtain ⟨h1, h2⟩ := h
    exact swZ_map f (up_mem.mpr (by omega)) (up_mem.mpr (by omega))
  | next i =>
    have h : i + 1 < n := h
    exact swZ_map f (up_mem.mpr (by omega)) (up_mem.mpr (by omega))
  | take i j => simp [Mv.F, takeZ, List.map_take, List.map_drop]
  | flip i j => simp [Mv.F, flipZ, List.map_take, List.map_drop]
  | blocks i j k l => simp [Mv.F, blkZ, List.map_take, List.map_drop]
theorem Mv.len {n : Nat} {m : Mv} {r : List Int} (h : m.ok n) (hr : r.length = n) (nd : r.Nodup) : (m.F r).length = n := by
  rw [(m.perm h hr nd).length_eq, hr]
theorem srt4 (x y z w : Int) {N : Int} (b0 : 0 ≤ x ∧ x < N) (b1 : 0 ≤ y ∧ y < N) (b2 : 0 ≤ z ∧ z < N) (b3 : 0 ≤ w ∧ w < N) : ∃ a b c d : Nat, srtZ [x, y, z, w] = [(a : Int), (b : Int), (c : Int), (d : Int)] ∧ a ≤ b ∧ b ≤ c ∧ c ≤ d ∧ (d : Int) < N := by
  have hp := srtZ_perm [x, y, z, w]
  have hs := srtZ_sorted [x, y, z, w]
  have hl := hp.length_eq
  have hm : ∀ v ∈ srtZ [x, y, z, w], 0 ≤ v ∧ v < N := fun v hv => by
    have := hp.mem_iff.mp hv
    simp at this
    rcases this with rfl | rfl | rfl | rfl
    · exact b0
    · exact b1
    · exact b2
    · exact b3
  generalize srtZ [x, y, z, w] = l at *
  match l, hl with
  | [p, q, r, s], _ =>
    have m1 := hm p (by simp)
    have m2 := hm q (by simp)
    have m3 := hm r (by simp)
    have m4 := hm s (by simp)
    simp at hs
    refine ⟨p.toNat, q.toNat, r.toNat, s.toNat, ?_, by omega, by omega, by omega, by omega⟩
    rw [Int.toNat_of_nonneg m1.1, Int.toNat_of_nonneg m2.1, Int.toNat_of_nonneg m3.1, Int.toNat_of_nonneg m4.1]
theorem cutZ_mid {r : List Int} {i j : Nat} : cutZ r (some (i : Int)) (some (j : Int)) = (r.take j).drop i := by
  unfold cutZ
  rw [HT.sIx_nat, HT.sIx_nat, List.drop_take]
  by_cases hi : i ≤ r.length
  · rw [Nat.min_eq_left hi]
    by_cases hj : j ≤ r.length
    · rw [Nat.min_eq_left hj]
    · rw [show min j r.length = r.length by omega, List.take_of_length_le (by rw [List.length_drop]; omega), List.take_of_length_le (by rw [List.length_drop]; omega)]
  · rw [show min i r.length = r.length by omega, List.drop_length, List.take_nil, List.drop_eq_nil_of_le (by omega), List.take_nil]
theorem cutZ_mid1 {r : List Int} {i j : Nat} : cutZ r (some (i : Int)) (some ((j : Int) + 1)) = (r.take (j + 1)).drop i := cutZ_mid (j := j + 1)
theorem cutZ_to1 {r : List Int} {k : Nat} (h : k + 1 ≤ r.length) : cutZ r none (some ((k : Int) + 1)) = r.take (k + 1) := cutZ_to (k := k + 1) h
theorem cutZ_from1 {r : List Int} {k : Nat} : cutZ r (some ((k : Int) + 1)) none = r.drop (k + 1) := cutZ_from (k := k + 1)
end Pu

set_option Elab.async false
set_option linter.all false
set_option maxRecDepth 100000
set_option maxHeartbeats 2000000
/-! the relative row of two plain rows -/
namespace Pu
open PySem PySem.Spec PyProof.Rows L2
variable [TabL]
def relZ (a b : List Int) : List Int := a.map fun x => (((idxZ x b).getD 0 : Nat) : Int) + 1
theorem idx_self {b : List Int} (nd : b.Nodup) {k : Nat} (h : k < b.length) : idxZ b[k] b = some k := by
  obtain ⟨j, ej⟩ := idxZ_mem (List.getElem_mem h)
  have gj := (idxZ_some ej).1
  obtain ⟨i1, j1⟩ := List.getElem?_eq_some_iff.mp gj
  have := (List.getElem_inj (h₀ := i1) (h₁ := h) nd).mp j1
  rw [ej, this]
theorem rel_self {n : Nat} {b : List Int} (nd : b.Nodup) (lb : b.length = n) : relZ b b = upI 1 n := by
  refine List.ext_getElem? fun k => ?_
  unfold relZ upI
  rw [List.getElem?_map, List.getElem?_map]
  by_cases c : k < n
  · rw [List.getElem?_eq_getElem (by omega), List.getElem?_range c, Option.map_some, Option.map_some, idx_self nd (by omega)]
    show some (((k : Nat) : Int) + 1) = some (1 + (k : Int))
    rw [Int.add_comm]
  · rw [List.getElem?_eq_none (by omega), List.getElem?_eq_none (by rw [List.length_range]; omega)]
    rfl
section
variable {n : Nat} {a b : List Int}
theorem rel_perm (T : Two n a b) : (relZ a b).Perm (upI 1 n) := by
  rw [← rel_self T.nb T.lb]
  exact (T.pa.trans T.pb.symm).map _
theorem rel_len (T : Two n a b) : (relZ a b).length = n := by
  unfold relZ
  rw [List.length_map, T.la]
theorem rel_at (T : Two n a b) {k : Nat} (h : k < n) : ∃ (x : Int) (j : Nat), a[k]? = some x ∧ b[j]? = some x ∧ j < n ∧ (relZ a b)[k]? = some ((j : Int) + 1) := by
  have la := T.la
  have lb := T.lb
  have hx : a[k] ∈ b := T.pb.mem_iff.mpr (T.pa.mem_iff.mp (List.getElem_mem _))
  obtain ⟨j, ej⟩ := idxZ_mem hx
  have gj := (idxZ_some ej).1
  refine ⟨a[k], j, List.getElem?_eq_getElem _, gj, by rw [← lb]; exact getSome gj, ?_⟩
  unfold relZ
  rw [List.getElem?_map, List.getElem?_eq_getElem (by omega : k < a.length), Option.map_some, ej]
  rfl
theorem rel_sorted (T : Two n a b) : relZ a b = upI 1 n ↔ a = b := by
  have la := T.la
  have lb := T.lb
  constructor
  · intro h
    refine List.ext_getElem? fun k => ?_
    by_cases c : k < n
    · obtain ⟨x, j, e1, e2, e3, e4⟩ := rel_at T c
      rw [h] at e4
      unfold upI at e4
      rw [List.getElem?_map, List.getElem?_range c] at e4
      have q : (1 : Int) + (k : Int) = (j : Int) + 1 := Option.some.inj e4
      have : j = k := by omega
      subst this
      rw [e1, e2]
    · rw [List.getElem?_eq_none (by omega), List.getElem?_eq_none (by omega)]
  · rintro rfl
    exact rel_self T.nb lb
end
theorem flipZ_get {r : List Int} {i j : Nat} (h1 : i ≤ j) (h2 : j < r.length) (m : Nat) : (flipZ r i j)[m]? = if i ≤ m ∧ m < j + 1 then r[i + j - m]? else r[m]? := by
  unfold flipZ
  have l1 : (r.take i).length = i := by rw [List.length_take]; omega
  have l2 : ((r.take (j + 1)).drop i).reverse.length = j + 1 - i := by
    rw [List.length_reverse, List.length_drop, List.length_take]
    omega
  by_cases a : m < i
  · rw [if_neg (by omega), List.append_assoc, List.getElem?_append_left (by omega), List.getElem?_take, if_pos a]
  · by_cases b : m < j + 1
    · rw [if_pos ⟨by omega, b⟩, List.append_assoc, List.getElem?_append_right (by omega), l1, List.getElem?_append_left (by omega)]
      rw [List.getElem?_reverse (by rw [List.length_drop, List.length_take]; omega), List.getElem?_drop, List.length_drop, List.length_take, Nat.min_eq_left (by omega), List.getElem?_take, if_pos (by omega)]
      rw [show i + (j + 1 - i - 1 - (m - i)) = i + j - m by omega]
    · rw [if_neg (by omega), List.getElem?_append_right (by rw [List.length_append]; omega), List.length_append, l1, l2, List.getElem?_drop]
      congr 1
      omega
section
variable {ρ : Rho}
theorem pop_i {k : Nat} {f : Rho → Re PyData} {ns : List Int} {z : Int} (hk : ρ[k]? = some (some (lI ns))) (hf : f ρ = .ok (.int z)) (h0 : 0 ≤ z) (h1 : z < ns.length) (h2 : ns.length ≤ 10000) : sPop k f ρ = .nx (ρ.set k (some (lI (ns.eraseIdx z.toNat)))) := by
  have e1 : getL ρ k = some (ns.map PyData.int) := by rw [getL_eq, hk]; rfl
  have hz : z.toNat < ns.length := by omega
  have e3 : popAt ρ k (.int z) = some (.int ns[z.toNat], (ns.map PyData.int).eraseIdx z.toNat) := by
    unfold popAt
    rw [e1]
    show (if okLen (ns.map PyData.int).length = true then (match ixN (ns.map PyData.int).length z with
      | some k => (match (ns.map PyData.int)[k]? with | some y => some (y, (ns.map PyData.int).eraseIdx k) | none => none)
      | none => none) else none) = _
    rw [if_pos (by rw [List.length_map]; exact decide_eq_true h2), List.length_map, ixN_p h0 h1]
    show (match (ns.map PyData.int)[z.toNat]? with | some y => some (y, (ns.map PyData.int).eraseIdx z.toNat) | none => none) = _
    rw [List.getElem?_map, List.getElem?_eq_getElem hz]
    rfl
  unfold sPop
  rw [e1, hf]
  show (match popAt ρ k (.int z) with
    | some (_, es') => Sr.nx (ρ.set k (some (.list es')))
    | none => .bad) = _
  rw [e3, erase_map]
  rfl
theorem ins_i {k : Nat} {f g : Rho → Re PyData} {ns : List Int} {z x : Int} (hk : ρ[k]? = some (some (lI ns))) (hf : f ρ = .ok (.int z)) (hg : g ρ = .ok (.int x)) (h0 : 0 ≤ z) (h1 : z < 1000000) (h2 : ns.length < 10000) : sIns k false f g ρ = .nx (ρ.set k (some (lI (ns.take z.toNat ++ [x] ++ ns.drop z.toNat)))) := by
  have e1 : getL ρ k = some (ns.map PyData.int) := by rw [getL_eq, hk]; rfl
  unfold sIns
  rw [e1, hf]
  show (g ρ).st ρ _ = _
  rw [hg]
  show (if okLen ((ns.map PyData.int).length + 1) = true ∧ 0 ≤ z ∧ z < 2 ^ 63 ∧ (false = true → imm (.int x) = true) then Sr.nx (ρ.set k (some (.list ((ns.map PyData.int).take z.toNat ++ [.int x] ++ (ns.map PyData.int).drop z.toNat)))) else .bad) = _
  rw [if_pos ⟨by rw [List.length_map]; exact decide_eq_true h2, h0, by omega, fun z => nomatch z⟩]
  unfold lI
  simp [List.map_take, List.map_drop]
end
end Pu

set_option Elab.async false
set_option linter.all false
set_option maxRecDepth 100000
set_option maxHeartbeats 2000000
namespace Pu
open PySem PySem.Spec PyProof.Rows L2
variable [TabL]
/-- a word and numbers -/
def mvR (w : Str) (ns : List Int) : PyData := .tuple (.str w :: ns.map PyData.int)
def words5 : List Str := ["swap", "next", "take", "flip", "blocks"]
def words7 : List Str := ["swap", "next", "take", "flip", "blocks", "turn", ""]
/-- a loop with an invariant, which may be left by break -/
theorem loop_brk {g : PyData → Rho → Option Rho} {body : Rho → Sr} (I : Nat → Rho → Prop) : ∀ (ds : List PyData) (k0 : Nat) (ρ : Rho), I k0 ρ → (∀ k d ρ, ds[k]? = some d → I (k0 + k) ρ → ∃ ρ1, g d ρ = some ρ1 ∧ ∃ ρ2, (body ρ1 = .nx ρ2 ∨ body ρ1 = .bk ρ2) ∧ I (k0 + k + 1) ρ2) →
    ∃ ρ' k', sLoop g body ds ρ = .nx ρ' ∧ k' ≤ k0 + ds.length ∧ I k' ρ'
  | [], k0, ρ, h, _ => ⟨ρ, k0, rfl, Nat.le_refl _, h⟩
  | d :: ds, k0, ρ, h, st => by
    obtain ⟨ρ1, e1, ρ2, e2, h2⟩ := st 0 d ρ rfl h
    rcases e2 with e2 | e2
    · obtain ⟨ρ', k', e3, h4, h3⟩ := loop_brk I ds (k0 + 1) ρ2 h2 fun k d' ρ'' hk hI => by
        have := st (k + 1) d' ρ'' (by simpa using hk) (by rw [show k0 + (k + 1) = k0 + 1 + k by omega]; exact hI)
        rw [show k0 + (k + 1) + 1 = k0 + 1 + k + 1 by omega] at this
        exact this
      exact ⟨ρ', k', (loop_nx e1 e2).trans e3, by rw [List.length_cons]; omega, h3⟩
    · refine ⟨ρ2, k0 + 1, ?_, by rw [List.length_cons]; omega, h2⟩
      show (match g d ρ with
        | none => Sr.bad
        | some ρ1 => match body ρ1 with
          | .nx ρ2 => sLoop g body ds ρ2
          | .ct ρ2 => sLoop g body ds ρ2
          | .bk ρ2 => .nx ρ2
          | .rt d => .rt d
          | .ex c ρ2 => .ex c ρ2
          | .bad => .bad) = _
      rw [e1]
      show (match body ρ1 with
        | .nx ρ2 => sLoop g body ds ρ2
        | .ct ρ2 => sLoop g body ds ρ2
        | .bk ρ2 => .nx ρ2
        | .rt d => .rt d
        | .ex c ρ2 => .ex c ρ2
        | .bad => .bad) = _
      rw [e2]
section
variable {ρ : Rho}
theorem seq_nx {s u : Rho → Sr} {ρ' : Rho} {R : Sr} (h : s ρ = .nx ρ') (k : u ρ' = R) : sSeq s u ρ = R := by
  rw [ap_sSeq, h, sqS_nx]
  exact k
theorem cutD_to {ds : List PyData} {k : Nat} (h : k ≤ ds.length) : cutD ds none (some (k : Int)) = ds.take k := by
  unfold cutD
  rw [HT.sIx_none, HT.sIx_nat]
  simp [Nat.min_eq_left h]
theorem cutD_from {ds : List PyData} {k : Nat} : cutD ds (some (k : Int)) none = ds.drop k := by
  unfold cutD
  rw [HT.sIx_none, HT.sIx_nat]
  by_cases h : k ≤ ds.length
  · rw [Nat.min_eq_left h, ← List.length_drop, List.take_length]
  · rw [Nat.min_eq_right (by omega), List.drop_length, List.take_nil, List.drop_eq_nil_of_le (by omega)]
@[simp] theorem oCut_d {ds : List PyData} {lo hi : Option Int} : oCut (.tuple ds) lo hi = .ok (.tuple (cutD ds lo hi)) := (rfl)
@[simp] theorem oCut_dl {ds : List PyData} {lo hi : Option Int} : oCut (.list ds) lo hi = .ok (.list (cutD ds lo hi)) := (rfl)
@[simp] theorem bList_d (ds : List PyData) : bList [.tuple ds] = some (.list ds) := (rfl)
@[simp] theorem bList_dl (ds : List PyData) : bList [.list ds] = some (.list ds) := (rfl)
@[simp] theorem cut1_d (a : PyData) (ds : List PyData) : cutD (a :: ds) (some 1) none = ds := (cutD_from (k := 1)).trans (by simp)
end
end Pu

set_option Elab.async false
set_option linter.all false
set_option maxRecDepth 100000
set_option maxHeartbeats 2000000
/-! list comprehensions of two clauses -/
namespace Pu
open PySem PySem.Spec PyProof.Rows L2
variable [TabL]
section
variable {X : Cx} {M : Nat → Bool} {F : Fx} {E : L2.St → XK} {σ σ1 : L2.St} {ρ ρ1 : Rho} {H H' H1 : Hp}
def canI (X : Cx) (M : Nat → Bool) (E : L2.St → XK) (f : Rho → Re (List PyData)) : TI := fun σ H R => ∃ (F : Fx) (ρ : Rho), ER X.K M F σ H ρ ∧ WI X M F E σ ρ H (f ρ) R
theorem canI_ok {tg it : Expr} {f : Rho → Re (List PyData)} (h : ∀ F, DI X M F E tg it f) : PI X tg it (canI X M E f) := ⟨fun pins s σ H R I ⟨F, ρ, er, w⟩ => by
  obtain ⟨t, pt, h⟩ := h F
  exact pt.run pins s σ H R I (h σ H ρ er R w)⟩
theorem own_set1 {i : Nat} (m : M i = false) (a : Addr) : OwnA M (σ.set i none) (ρ.set i none) a ↔ OwnA M σ ρ a := by
  constructor
  · rintro ⟨j, x, mj, r, s⟩
    have hj : i ≠ j := fun z => by
      subst z
      rw [m] at mj
      cases mj
    rw [List.getElem?_set_ne hj] at r s
    exact ⟨j, x, mj, r, s⟩
  · rintro ⟨j, x, mj, r, s⟩
    have hj : i ≠ j := fun z => by
      subst z
      rw [m] at mj
      cases mj
    exact ⟨j, x, mj, by rw [List.getElem?_set_ne hj]; exact r, by rw [List.getElem?_set_ne hj]; exact s⟩
theorem own_wipe : ∀ {vs : List Nat}, (∀ i ∈ vs, M i = false) → ∀ a, OwnA M (wipe σ vs) (wipeR ρ vs) a ↔ OwnA M σ ρ a
  | [], _, _ => Iff.rfl
  | v :: vs, h, a => (own_set1 (σ := wipe σ vs) (ρ := wipeR ρ vs) (h v List.mem_cons_self) a).trans (own_wipe (fun i hi => h i (List.mem_cons_of_mem _ hi)) a)
theorem wipe_same : ∀ (l : List Nat) (τ : L2.St), (∀ i ∈ l, i < τ.length → τ[i]? = some none) → wipe τ l = τ
  | [], _, _ => rfl
  | v :: l, τ, h => by
    show (wipe τ l).set v none = τ
    rw [wipe_same l τ fun i hi => h i (List.mem_cons_of_mem _ hi)]
    by_cases hv : v < τ.length
    · have := h v List.mem_cons_self hv
      obtain ⟨h1, h2⟩ := List.getElem?_eq_some_iff.mp this
      rw [← h2, List.set_getElem_self]
    · rw [List.set_eq_of_length_le (by omega)]
theorem wipe_get (σ : L2.St) : ∀ (l : List Nat) (i : Nat), i ∈ l → i < (wipe σ l).length → (wipe σ l)[i]? = some none
  | [], i, h, _ => nomatch h
  | v :: l, i, h, hl => by
    show ((wipe σ l).set v none)[i]? = some none
    have hl' : i < (wipe σ l).length := by
      have hl2 : i < ((wipe σ l).set v none).length := hl
      rwa [List.length_set] at hl2
    by_cases e : v = i
    · subst e
      rw [List.getElem?_set_self hl']
    · rw [List.getElem?_set_ne e]
      exact wipe_get σ l i ((List.mem_cons.mp h).resolve_left fun z => e z.symm) hl'
theorem wipe_wipe (σ : L2.St) (vs : List Nat) : wipe (wipe σ vs) vs = wipe σ vs := wipe_same vs _ fun i hi hl => wipe_get σ vs i hi hl
theorem ER.blk2 {Dd : Addr} (e : ER X.K M (inBlk F Dd) σ H ρ) {acc : List V} (hD : H Dd = some (.lst acc)) (sm : SameX Dd H H') (hD' : H' Dd ≠ none) : ER X.K M (inBlk F Dd) σ H' ρ := by
  have kp : Kp (RS M (inBlk F Dd) σ ρ false) H H' := ⟨fun a u q x n => sm.k a u (by
    rintro rfl
    rcases x with x | x
    · exact x.1.2 rfl
    · rw [hD] at q
      cases q
      exact x trivial) q n⟩
  refine ⟨e.len, .nil (sm.tab e.tab), fun a q => ?_, sm.tab e.tab, fun i d r m => ?_, fun i d r m => ?_, e.ap⟩
  · have na : a ≠ Dd := fun z => hD' (z ▸ q)
    exact e.new a (sm.free na q)
  · obtain ⟨v, s, rp⟩ := e.im i d r m
    exact ⟨v, s, rp.keep kp fun _ _ x _ _ => x⟩
  · obtain ⟨p, s, z, w⟩ := e.ow i d r m
    exact ⟨p, s, z, w.keep kp (fun _ _ x _ _ => x) fun u q n => sm.k p u z.2.2 q n⟩
def lcGo2 (g : PyData → Rho → Option Rho) (t : Rho → Re Bool) (its1 : Rho → Re (List PyData)) (vs1 : List Nat) (g1 : PyData → Rho → Option Rho) (t1 : Rho → Re Bool) (f : Rho → Re PyData) (ρ : Rho) : List PyData → Option (List PyData)
  | [] => some []
  | d :: ds => match g d ρ with
    | none => none
    | some ρ1 => match t ρ1 with
      | .ok true => (match its1 ρ1 with
        | .ok es => (match lcGo g1 t1 f (wipeR ρ1 vs1) es with
          | some xs => (match lcGo2 g t its1 vs1 g1 t1 f ρ ds with | some ys => some (xs ++ ys) | none => none)
          | none => none)
        | _ => none)
      | .ok false => lcGo2 g t its1 vs1 g1 t1 f ρ ds
      | _ => none
def rLc2 (its : Rho → Re (List PyData)) (vs : List Nat) (g : PyData → Rho → Option Rho) (t : Rho → Re Bool) (its1 : Rho → Re (List PyData)) (vs1 : List Nat) (g1 : PyData → Rho → Option Rho) (t1 : Rho → Re Bool) (f : Rho → Re PyData) : Rho → Re PyData := fun ρ => (its ρ).andThen fun ds => match lcGo2 g t its1 vs1 g1 t1 f (wipeR ρ vs) ds with | some xs => if okLen xs.length = true then .ok (.list xs) else .bad | none => .bad
theorem lc2_run {ts vs ts1 vs1 : List Nat} {wi : TI} {its its1 : Rho → Re (List PyData)} {gg gg1 : PyData → Rho → Option Rho} {tt tt1 : Rho → Re Bool} {f : Rho → Re PyData} {lk fr : Bool} (hi : ∀ σ H ρ, ER X.K M F σ H ρ → ∀ R, WI X M F E σ ρ H (its ρ) R → wi σ H R)
    (hv : ∀ i ∈ vs, M i = false) (hv1 : ∀ i ∈ vs1, M i = false) (hts : ∀ i ∈ ts, i ∈ vs) (hts1 : ∀ i ∈ ts1, i ∈ vs1) (er : ER X.K M F σ H ρ) {Q : VK} (w : WE X M F E lk true σ ρ H (rLc2 its vs gg tt its1 vs1 gg1 tt1 f ρ) Q) :
    tLc2 wi (canG X M ts gg) (canT X M E0s tt) (canI X M E0s its1) (canG X M ts1 gg1) (canT X M E0s tt1) (canE X M E0s lk fr f) vs vs1 σ H Q := by
  refine hi σ H ρ er _ ?_
  unfold rLc2 at w
  cases q : its ρ with
  | ex c =>
    rw [q] at w
    exact w
  | bad =>
    rw [q] at w
    exact w
  | ok ds =>
    rw [q] at w
    have w : WE X M F E lk true σ ρ H (match lcGo2 gg tt its1 vs1 gg1 tt1 f (wipeR ρ vs) ds with | some xs => if okLen xs.length = true then Re.ok (.list xs) else .bad | none => .bad) Q := w
    cases q2 : lcGo2 gg tt its1 vs1 gg1 tt1 f (wipeR ρ vs) ds with
    | none =>
      rw [q2] at w
      exact w.elim
    | some tot =>
      rw [q2] at w
      have w : WE X M F E lk true σ ρ H (if okLen tot.length = true then Re.ok (.list tot) else .bad) Q := w
      by_cases hz : okLen tot.length = true
      · rw [if_pos hz] at w
        refine fun J H1 sm wk Dd hD => ?_
        have er1 := er.same sm
        refine ⟨fun i m H2 => m = ds.length - i ∧ i ≤ ds.length ∧ Same H1 H2 ∧ ∃ acc accd rst, H2 Dd = some (.lst acc) ∧ RpA X.K H2 (fun a => RS M F σ ρ lk a ∧ a ≠ Dd) acc accd ∧ lcGo2 gg tt its1 vs1 gg1 tt1 f (wipeR ρ vs) (ds.drop i) = some rst ∧ tot = accd ++ rst,
          ⟨ds.length, by simp, Nat.zero_le _, same_new hD, [], [], tot, upd_same, .nil, q2, rfl⟩, ?_⟩
        rintro i m H2 ⟨rfl, hi', sm2, acc, accd, rst, e1, r1, g1, t1⟩
        have kp : Kp (fun a => RS M F σ ρ false a ∧ Nn H1 a) H1 H2 := kp_same sm2
        by_cases hlt : i < ds.length
        · obtain ⟨go, yl⟩ := (wk H2 kp i).1 _ (List.getElem?_eq_getElem hlt)
          refine .inr ⟨go, fun H3 => Same H1 H3 ∧ ∃ acc accd rst, H3 Dd = some (.lst acc) ∧ RpA X.K H3 (fun a => RS M F σ ρ lk a ∧ a ≠ Dd) acc accd ∧ lcGo2 gg tt its1 vs1 gg1 tt1 f (wipeR ρ vs) (ds.drop (i + 1)) = some rst ∧ tot = accd ++ rst, fun H3 x => ⟨ds.length - (i + 1), by omega, rfl, by omega, x⟩, fun x H3 y => ?_⟩
          obtain ⟨s3, rx⟩ := yl x H3 y
          rw [drop_get (List.getElem?_eq_getElem hlt)] at g1
          have g1 : (match gg ds[i] (wipeR ρ vs) with
            | none => none
            | some ρ1 => match tt ρ1 with
              | .ok true => (match its1 ρ1 with
                | .ok es => (match lcGo gg1 tt1 f (wipeR ρ1 vs1) es with
                  | some xs => (match lcGo2 gg tt its1 vs1 gg1 tt1 f (wipeR ρ vs) (ds.drop (i + 1)) with | some ys => some (xs ++ ys) | none => none)
                  | none => none)
                | _ => none)
              | .ok false => lcGo2 gg tt its1 vs1 gg1 tt1 f (wipeR ρ vs) (ds.drop (i + 1))
              | _ => none) = some rst := g1
          cases q3 : gg ds[i] (wipeR ρ vs) with
          | none =>
            rw [q3] at g1
            cases g1
          | some ρ1 =>
            rw [q3] at g1
            have g1 : (match tt ρ1 with
              | .ok true => (match its1 ρ1 with
                | .ok es => (match lcGo gg1 tt1 f (wipeR ρ1 vs1) es with
                  | some xs => (match lcGo2 gg tt its1 vs1 gg1 tt1 f (wipeR ρ vs) (ds.drop (i + 1)) with | some ys => some (xs ++ ys) | none => none)
                  | none => none)
                | _ => none)
              | .ok false => lcGo2 gg tt its1 vs1 gg1 tt1 f (wipeR ρ vs) (ds.drop (i + 1))
              | _ => none) = some rst := g1
            obtain ⟨erw, rsw⟩ := er1.wipe (vs := vs) hv
            have s13 : Same H1 H3 := sm2.trans s3
            have e3 : H3 Dd = some (.lst acc) := s3 _ _ e1
            have erb := erw.blk hD s13 e3
            have rx' : Rp X.K H3 (RS M (inBlk F Dd) (wipe σ vs) (wipeR ρ vs) false) x ds[i] := rx.wide fun a z => by
              have := rsw false
              refine ⟨⟨z.1.1, fun zz => ?_⟩, ?_⟩
              · rw [zz] at z
                exact z.2.not hD
              · have z1 : RS M F (wipe σ vs) (wipeR ρ vs) false a := by
                  rw [this]
                  exact z.1
                exact z1.2
            refine ⟨inBlk F Dd, wipeR ρ vs, ds[i], ρ1, erb, rx', q3, fun σ4 er4 ev4 wp4 ow4 => ⟨?_, ?_⟩⟩
            · rw [wp4 vs hts]
              exact wipe_wipe σ vs
            · refine ⟨inBlk F Dd, ρ1, er4, ?_⟩
              cases q4 : tt ρ1 with
              | ex c =>
                rw [q4] at g1
                cases g1
              | bad =>
                rw [q4] at g1
                cases g1
              | ok bb =>
                rw [q4] at g1
                cases bb with
                | false =>
                  refine fun H5 s5 => ?_
                  show (if false = true then _ else _)
                  rw [if_neg Bool.false_ne_true]
                  exact ⟨s13.trans s5, acc, accd, rst, s5 _ _ e3, r1.same (s3.trans s5), g1, t1⟩
                | true =>
                  refine fun H5 s5 => ?_
                  show (if true = true then _ else _)
                  rw [if_pos rfl]
                  have g1 : (match its1 ρ1 with
                    | .ok es => (match lcGo gg1 tt1 f (wipeR ρ1 vs1) es with
                      | some xs => (match lcGo2 gg tt its1 vs1 gg1 tt1 f (wipeR ρ vs) (ds.drop (i + 1)) with | some ys => some (xs ++ ys) | none => none)
                      | none => none)
                    | _ => none) = some rst := g1
                  cases q5 : its1 ρ1 with
                  | ex c =>
                    rw [q5] at g1
                    cases g1
                  | bad =>
                    rw [q5] at g1
                    cases g1
                  | ok es =>
                    rw [q5] at g1
                    have g1 : (match lcGo gg1 tt1 f (wipeR ρ1 vs1) es with
                      | some xs => (match lcGo2 gg tt its1 vs1 gg1 tt1 f (wipeR ρ vs) (ds.drop (i + 1)) with | some ys => some (xs ++ ys) | none => none)
                      | none => none) = some rst := g1
                    cases q6 : lcGo gg1 tt1 f (wipeR ρ1 vs1) es with
                    | none =>
                      rw [q6] at g1
                      cases g1
                    | some xs =>
                      rw [q6] at g1
                      have g1 : (match lcGo2 gg tt its1 vs1 gg1 tt1 f (wipeR ρ vs) (ds.drop (i + 1)) with | some ys => some (xs ++ ys) | none => none) = some rst := g1
                      cases q7 : lcGo2 gg tt its1 vs1 gg1 tt1 f (wipeR ρ vs) (ds.drop (i + 1)) with
                      | none =>
                        rw [q7] at g1
                        cases g1
                      | some ys =>
                        rw [q7] at g1
                        have g1 : some (xs ++ ys) = some rst := g1
                        cases g1
                        refine ⟨inBlk F Dd, ρ1, er4.same s5, ?_⟩
                        rw [q5]
                        refine fun J1 H6 s6 wk1 => ?_
                        have e6 : H6 Dd = some (.lst acc) := s6 _ _ (s5 _ _ e3)
                        have er6 := (er4.same s5).same s6
                        refine ⟨fun j k H' => k = es.length - j ∧ j ≤ es.length ∧ Same H1 H' ∧ SameX Dd H6 H' ∧ ∃ acc accd rst, H' Dd = some (.lst acc) ∧ RpA X.K H' (fun a => RS M F σ ρ lk a ∧ a ≠ Dd) acc accd ∧ lcGo gg1 tt1 f (wipeR ρ1 vs1) (es.drop j) = some rst ∧ tot = accd ++ (rst ++ ys),
                          ⟨es.length, by simp, Nat.zero_le _, s13.trans (s5.trans s6), .refl, acc, accd, xs, e6, r1.same (s3.trans (s5.trans s6)), q6, t1⟩, ?_⟩
                        rintro j k H7 ⟨rfl, hj', sm7, sb7, acc7, accd7, rst7, e7, r7, g7, t7⟩
                        have kp7 : Kp (fun a => RS M (inBlk F Dd) σ4 ρ1 false a ∧ Nn H6 a) H6 H7 := ⟨fun a u qa xa n => sb7.k a u (by
                          rintro rfl
                          rcases xa with xa | xa
                          · exact xa.1.1.2 rfl
                          · rw [e6] at qa
                            cases qa
                            exact xa trivial) qa n⟩
                        by_cases hlt7 : j < es.length
                        · obtain ⟨go7, yl7⟩ := (wk1 H7 kp7 j).1 _ (List.getElem?_eq_getElem hlt7)
                          refine .inr ⟨go7, fun H8 => Same H1 H8 ∧ SameX Dd H6 H8 ∧ ∃ acc accd rst, H8 Dd = some (.lst acc) ∧ RpA X.K H8 (fun a => RS M F σ ρ lk a ∧ a ≠ Dd) acc accd ∧ lcGo gg1 tt1 f (wipeR ρ1 vs1) (es.drop (j + 1)) = some rst ∧ tot = accd ++ (rst ++ ys), fun H8 x => ⟨es.length - (j + 1), by omega, rfl, by omega, x⟩, fun x8 H8 y8 => ?_⟩
                          obtain ⟨s8, rx8⟩ := yl7 x8 H8 y8
                          have er7 : ER X.K M (inBlk F Dd) σ4 H7 ρ1 := er6.blk2 e6 sb7 (by rw [e7]; exact nofun)
                          have er8 := er7.same s8
                          obtain ⟨erw8, rsw8⟩ := er8.wipe (vs := vs1) hv1
                          have rx8' : Rp X.K H8 (RS M (inBlk F Dd) (wipe σ4 vs1) (wipeR ρ1 vs1) false) x8 es[j] := rx8.wide fun a z => by
                            rw [rsw8 false]
                            exact z.1
                          rw [drop_get (List.getElem?_eq_getElem hlt7)] at g7
                          have g7 : (match gg1 es[j] (wipeR ρ1 vs1) with
                            | none => none
                            | some ρ2 => match tt1 ρ2 with
                              | .ok true => (match f ρ2 with | .ok x => (match lcGo gg1 tt1 f (wipeR ρ1 vs1) (es.drop (j + 1)) with | some xs => some (x :: xs) | none => none) | _ => none)
                              | .ok false => lcGo gg1 tt1 f (wipeR ρ1 vs1) (es.drop (j + 1))
                              | _ => none) = some rst7 := g7
                          cases q8 : gg1 es[j] (wipeR ρ1 vs1) with
                          | none =>
                            rw [q8] at g7
                            cases g7
                          | some ρ2 =>
                            rw [q8] at g7
                            have g7 : (match tt1 ρ2 with
                              | .ok true => (match f ρ2 with | .ok x => (match lcGo gg1 tt1 f (wipeR ρ1 vs1) (es.drop (j + 1)) with | some xs => some (x :: xs) | none => none) | _ => none)
                              | .ok false => lcGo gg1 tt1 f (wipeR ρ1 vs1) (es.drop (j + 1))
                              | _ => none) = some rst7 := g7
                            refine ⟨inBlk F Dd, wipeR ρ1 vs1, es[j], ρ2, erw8, rx8', q8, fun σ5 er5 ev5 wp5 ow5 => ⟨?_, ?_⟩⟩
                            · rw [wp5 vs1 hts1]
                              exact wipe_wipe σ4 vs1
                            · refine ⟨inBlk F Dd, ρ2, er5, ?_⟩
                              cases q9 : tt1 ρ2 with
                              | ex c =>
                                rw [q9] at g7
                                cases g7
                              | bad =>
                                rw [q9] at g7
                                cases g7
                              | ok bb =>
                                rw [q9] at g7
                                cases bb with
                                | false =>
                                  refine fun H9 s9 => ?_
                                  show (if false = true then _ else _)
                                  rw [if_neg Bool.false_ne_true]
                                  exact ⟨sm7.trans (s8.trans s9), sb7.trans (.of (s8.trans s9)), acc7, accd7, rst7, s9 _ _ (s8 _ _ e7), r7.same (s8.trans s9), g7, t7⟩
                                | true =>
                                  refine fun H9 s9 => ?_
                                  show (if true = true then _ else _)
                                  rw [if_pos rfl]
                                  have g7 : (match f ρ2 with | .ok x => (match lcGo gg1 tt1 f (wipeR ρ1 vs1) (es.drop (j + 1)) with | some xs => some (x :: xs) | none => none) | _ => none) = some rst7 := g7
                                  cases q10 : f ρ2 with
                                  | ex c =>
                                    rw [q10] at g7
                                    cases g7
                                  | bad =>
                                    rw [q10] at g7
                                    cases g7
                                  | ok xd =>
                                    rw [q10] at g7
                                    have g7 : (match lcGo gg1 tt1 f (wipeR ρ1 vs1) (es.drop (j + 1)) with | some xs => some (xd :: xs) | none => none) = some rst7 := g7
                                    cases q11 : lcGo gg1 tt1 f (wipeR ρ1 vs1) (es.drop (j + 1)) with
                                    | none =>
                                      rw [q11] at g7
                                      cases g7
                                    | some zs =>
                                      rw [q11] at g7
                                      have g7 : some (xd :: zs) = some rst7 := g7
                                      cases g7
                                      refine ⟨inBlk F Dd, ρ2, er5.same s9, ?_⟩
                                      rw [q10]
                                      refine fun v H10 s10 r10 _ => ?_
                                      have e9 : H9 Dd = some (.lst acc7) := s9 _ _ (s8 _ _ e7)
                                      have e10 : H10 Dd = some (.lst acc7) := s10 _ _ e9
                                      have acl : acc7.length < sizeLine := by
                                        have h1 := of_decide_eq_true hz
                                        have h2 := r7.length
                                        rw [t7, List.length_append, List.length_append, List.length_cons] at h1
                                        exact Nat.lt_of_lt_of_le (show acc7.length < 10001 by omega) (by decide)
                                      have s7t : Same H7 H10 := s8.trans (s9.trans s10)
                                      refine ⟨acc7, e10, acl, (sm7.trans s7t).put hD e10 plain_lst, (sb7.trans (.of s7t)).put e10 plain_lst, acc7 ++ [v], accd7 ++ [xd], zs, upd_same, ?_, rfl, ?_⟩
                                      · have kpD : Kp (fun a => RS M F σ ρ lk a ∧ a ≠ Dd) H10 (upd H10 Dd (.lst (acc7 ++ [v]))) := by
                                          refine ⟨fun a u qa xa _ => ?_⟩
                                          rw [upd_ne]
                                          · exact qa
                                          · intro za
                                            subst za
                                            rcases xa with xa | xa
                                            · exact xa.2 rfl
                                            · rw [e10] at qa
                                              cases qa
                                              exact xa trivial
                                        have rA : RpA X.K H10 (fun a => RS M F σ ρ lk a ∧ a ≠ Dd) acc7 accd7 := r7.same s7t
                                        have rV : Rp X.K H10 (fun a => RS M F σ ρ lk a ∧ a ≠ Dd) v xd := r10.wide fun a za => by
                                          refine ⟨⟨za.1.1, fun zl => fun o => ?_⟩, za.1.2⟩
                                          exact za.2 zl (ow5 a ((own_wipe hv1 a).mpr (ow4 a ((own_wipe hv a).mpr o))))
                                        exact (rA.append (.cons rV .nil)).keep kpD fun _ _ x _ _ => x
                                      · rw [t7, List.append_assoc]
                                        rfl
                        · have ej : j = es.length := by omega
                          subst ej
                          rw [List.drop_length] at g7
                          have g7 : some ([] : List PyData) = some rst7 := g7
                          cases g7
                          exact .inl ⟨(wk1 H7 kp7 _).2 rfl, sm7, acc7, accd7, ys, e7, r7, rfl, t7⟩
        · have ei : i = ds.length := by omega
          subst ei
          rw [List.drop_length] at g1
          have g1 : some ([] : List PyData) = some rst := g1
          cases g1
          rw [List.append_nil] at t1
          subst t1
          refine .inl ⟨(wk H2 kp _).2 rfl, w (.ref Dd) H2 (sm.trans sm2) (.lst e1 ?_ (r1.wide fun a x => x.1)) fun _ => ⟨Dd, rfl, sm.free hD, .lst e1 r1⟩⟩
          exact er1.freshS _ hD
      · rw [if_neg hz] at w
        exact w.elim
variable {elt tg iter tg1 iter1 : Expr} {ifs ifs1 : List Expr} {scope : Scope} {own : List (Str × Nat)} {ts ts1 vs1 : List Nat} {pos : Pos} {its its1 : Rho → Re (List PyData)} {gg gg1 : PyData → Rho → Option Rho} {tt tt1 : Rho → Re Bool} {f : Rho → Re PyData} {lk fr : Bool}
theorem de_lc2 (vs : List Nat) (hc : X.calm = true) (hN : X.N.Nodup) (hi : DI X M F E tg iter its) (ok : BlkOk X.N X.env.scope scope own) (hv : ∀ i ∈ vs, M i = false) (hvv : ∀ i ∈ vs1, i ∈ vs)
    (hg : ∀ (s : Shared) (H : Hp) (C : Addr) (cl : List (Str × Addr)) (fp : List Addr) (F : Fx), DG (X.blk s H scope (compEnvC scope cl C X.env) fp) M F tg ts gg)
    (ht : ∀ (s : Shared) (H : Hp) (C : Addr) (cl : List (Str × Addr)) (fp : List Addr), DTs (X.blk s H scope (compEnvC scope cl C X.env) fp) M E0s ifs tt)
    (hi1 : ∀ (s : Shared) (H : Hp) (C : Addr) (cl : List (Str × Addr)) (fp : List Addr) (F : Fx), DI (X.blk s H scope (compEnvC scope cl C X.env) fp) M F E0s tg1 iter1 its1)
    (hg1 : ∀ (s : Shared) (H : Hp) (C : Addr) (cl : List (Str × Addr)) (fp : List Addr) (F : Fx), DG (X.blk s H scope (compEnvC scope cl C X.env) fp) M F tg1 ts1 gg1)
    (ht1 : ∀ (s : Shared) (H : Hp) (C : Addr) (cl : List (Str × Addr)) (fp : List Addr), DTs (X.blk s H scope (compEnvC scope cl C X.env) fp) M E0s ifs1 tt1)
    (he : ∀ (s : Shared) (H : Hp) (C : Addr) (cl : List (Str × Addr)) (fp : List Addr) (F : Fx), DE (X.blk s H scope (compEnvC scope cl C X.env) fp) M F E0s lk fr elt f)
    (hvs : own.map (·.2) = vs := by rfl) (hts : ∀ i ∈ ts, i ∈ vs := by decide) (hts1 : ∀ i ∈ ts1, i ∈ vs1 := by decide) (hs : ∀ x, foldedSetIterable iter X.env x = pure x := by intro _; rfl) (hs1 : ∀ env x, foldedSetIterable iter1 env x = pure x := by intro _ _; rfl) :
    DE X M F E lk true (.ListComp elt [⟨tg, iter, ifs, 0⟩, ⟨tg1, iter1, ifs1, 0⟩] scope pos) (rLc2 its vs gg tt its1 vs1 gg1 tt1 f) := by
  subst hvs
  obtain ⟨wi, pw, hi⟩ := hi
  exact ⟨_, pe_lc2 (g := canG X M ts gg) (tt := canT X M E0s tt) (wi1 := canI X M E0s its1) (g1 := canG X M ts1 gg1) (tt1 := canT X M E0s tt1) (te := canE X M E0s lk fr f) hc hN pw ok hvv (fun s H C cl fp => canG_ok (hg s H C cl fp)) (fun s H C cl fp => ht s H C cl fp)
    (fun s H C cl fp => canI_ok (hi1 s H C cl fp)) (fun s H C cl fp => canG_ok (hg1 s H C cl fp)) (fun s H C cl fp => ht1 s H C cl fp) (fun s H C cl fp => canE_ok (he s H C cl fp)) hs hs1, fun σ H ρ er Q w => lc2_run hi hv (fun i h => hv i (hvv i h)) hts hts1 er w⟩
end
end Pu

set_option Elab.async false
set_option linter.all false
set_option maxRecDepth 100000
set_option maxHeartbeats 2000000
/-! pairs of places in the wrong order -/
namespace Pu
open PySem PySem.Spec PyProof.Rows L2
variable [TabL]
theorem phpA {α : Type} [DecidableEq α] : ∀ (l ks : List α), l.Nodup → (∀ x ∈ l, x ∈ ks) → l.length ≤ ks.length
  | [], _, _, _ => Nat.zero_le _
  | x :: l, ks, nd, h => by
    obtain ⟨n1, n2⟩ := List.nodup_cons.mp nd
    have hx := h x List.mem_cons_self
    have := phpA l (ks.erase x) n2 fun y hy => (List.mem_erase_of_ne (fun e => n1 (by rw [← e]; exact hy))).mpr (h y (List.mem_cons_of_mem _ hy))
    rw [List.length_erase_of_mem hx] at this
    have : 0 < ks.length := List.length_pos_of_mem hx
    rw [List.length_cons]
    omega
theorem injLe {α β : Type} [DecidableEq β] {l : List α} {k : List β} (φ : α → β) (nd : l.Nodup) (h : ∀ x ∈ l, φ x ∈ k) (inj : ∀ x ∈ l, ∀ y ∈ l, φ x = φ y → x = y) : l.length ≤ k.length := by
  have := phpA (l.map φ) k (by
    refine List.pairwise_map.mpr ?_
    exact nd.imp_of_mem fun {a b} ha hb hne e => hne (inj a ha b hb e)) fun y hy => by
      obtain ⟨x, hx, rfl⟩ := List.mem_map.mp hy
      exact h x hx
  rwa [List.length_map] at this
/-- the pairs p < q below n with f q < f p -/
def ivs (f : Int → Int) (n : Nat) : List (Int × Int) := (upI 0 n).flatMap fun p => ((upI (p + 1) ((n : Int) - (p + 1)).toNat).filter fun q => decide (f q < f p)).map fun q => (p, q)
def iv (f : Int → Int) (n : Nat) : Nat := (ivs f n).length
section
variable {f g : Int → Int} {n : Nat}
theorem mem_ivs {z : Int × Int} : z ∈ ivs f n ↔ 0 ≤ z.1 ∧ z.1 < z.2 ∧ z.2 < n ∧ f z.2 < f z.1 := by
  unfold ivs
  rw [List.mem_flatMap]
  constructor
  · rintro ⟨p, hp, h⟩
    obtain ⟨q, hq, rfl⟩ := List.mem_map.mp h
    obtain ⟨h1, h2⟩ := List.mem_filter.mp hq
    have a := up_mem.mp hp
    have b := up_mem.mp h1
    have c := of_decide_eq_true h2
    exact ⟨a.1, by omega, by omega, c⟩
  · rintro ⟨h1, h2, h3, h4⟩
    refine ⟨z.1, up_mem.mpr (by omega), List.mem_map.mpr ⟨z.2, List.mem_filter.mpr ⟨up_mem.mpr (by omega), decide_eq_true h4⟩, rfl⟩⟩
theorem ivs_nd : (ivs f n).Nodup := by
  unfold ivs
  refine List.pairwise_flatMap.mpr ⟨fun p _ => ?_, ?_⟩
  · refine List.pairwise_map.mpr ?_
    refine ((up_nodup _ _).filter _).imp fun h e => h ?_
    exact congrArg Prod.snd e
  · refine (up_nodup 0 n).imp fun {a b} h x hx y hy e => h ?_
    obtain ⟨q, _, rfl⟩ := List.mem_map.mp hx
    obtain ⟨q', _, rfl⟩ := List.mem_map.mp hy
    exact congrArg Prod.fst e
theorem iv_congr (h : ∀ p : Int, 0 ≤ p → p < n → f p = g p) : iv f n = iv g n := by
  have key : ∀ {f g : Int → Int}, (∀ p : Int, 0 ≤ p → p < n → f p = g p) → iv f n ≤ iv g n := fun {f g} h => phpA _ _ ivs_nd fun z hz => by
    obtain ⟨h1, h2, h3, h4⟩ := mem_ivs.mp hz
    refine mem_ivs.mpr ⟨h1, h2, h3, ?_⟩
    rw [← h _ (by omega) h3, ← h _ h1 (by omega)]
    exact h4
  exact Nat.le_antisymm (key h) (key fun p a b => (h p a b).symm)
/-- places i and i + 1 exchanged -/
def tau (i p : Int) : Int := if p = i then i + 1 else if p = i + 1 then i else p
theorem tau_tau (i p : Int) : tau i (tau i p) = p := by
  unfold tau
  by_cases h : p = i
  · rw [if_pos h, if_neg (by omega), if_pos rfl, h]
  · by_cases h2 : p = i + 1
    · rw [if_neg h, if_pos h2, if_pos rfl, h2]
    · rw [if_neg h, if_neg h2, if_neg h, if_neg h2]
theorem tau_b {i p : Int} (hi : 0 ≤ i) (hn : i + 1 < n) (h0 : 0 ≤ p) (h1 : p < n) : 0 ≤ tau i p ∧ tau i p < n := by
  unfold tau
  split
  · omega
  · split <;> omega
theorem tau_lt {i p q : Int} (h : p < q) (hn : ¬ (p = i ∧ q = i + 1)) : tau i p < tau i q := by
  unfold tau
  by_cases a : p = i
  · by_cases b : q = i + 1
    · exact absurd ⟨a, b⟩ hn
    · rw [if_pos a, if_neg (by omega), if_neg b]
      omega
  · by_cases c : p = i + 1
    · rw [if_neg a, if_pos c, if_neg (by omega), if_neg (by omega)]
      omega
    · rw [if_neg a, if_neg c]
      by_cases d : q = i
      · rw [if_pos d]
        omega
      · by_cases e : q = i + 1
        · rw [if_neg d, if_pos e]
          omega
        · rw [if_neg d, if_neg e]
          exact h
theorem iv_tau {i : Int} (hi : 0 ≤ i) (hn : i + 1 < n) (h : ∀ p : Int, 0 ≤ p → p < n → g p = f (tau i p)) : ((ivs g n).erase (i, i + 1)).length ≤ ((ivs f n).erase (i, i + 1)).length := by
  refine injLe (fun z => (tau i z.1, tau i z.2)) (ivs_nd.erase _) (fun z hz => ?_) fun x hx y hy e => ?_
  · have nd : (ivs g n).Nodup := ivs_nd
    obtain ⟨ne, hz⟩ := (List.Nodup.mem_erase_iff nd).mp hz
    obtain ⟨h1, h2, h3, h4⟩ := mem_ivs.mp hz
    have nn : ¬ (z.1 = i ∧ z.2 = i + 1) := fun q => ne (Prod.ext q.1 q.2)
    have b1 := tau_b hi hn h1 (show z.1 < n by omega)
    have b2 := tau_b hi hn (show 0 ≤ z.2 by omega) h3
    have lt := tau_lt h2 nn
    refine (List.Nodup.mem_erase_iff ivs_nd).mpr ⟨fun q => ?_, mem_ivs.mpr ⟨b1.1, lt, b2.2, ?_⟩⟩
    · have q1 : tau i z.1 = i := congrArg Prod.fst q
      have q2 : tau i z.2 = i + 1 := congrArg Prod.snd q
      have r1 := congrArg (tau i) q1
      have r2 := congrArg (tau i) q2
      rw [tau_tau] at r1 r2
      have e1 : tau i i = i + 1 := by unfold tau; rw [if_pos rfl]
      have e2 : tau i (i + 1) = i := by unfold tau; rw [if_neg (by omega), if_pos rfl]
      omega
    · show f (tau i z.2) < f (tau i z.1)
      rw [← h _ h1 (by omega), ← h _ (by omega) h3]
      exact h4
  · have e1 : tau i x.1 = tau i y.1 := congrArg Prod.fst e
    have e2 : tau i x.2 = tau i y.2 := congrArg Prod.snd e
    have r1 := congrArg (tau i) e1
    have r2 := congrArg (tau i) e2
    rw [tau_tau, tau_tau] at r1 r2
    exact Prod.ext r1 r2
theorem iv_step {i : Int} (hi : 0 ≤ i) (hn : i + 1 < n) (h : ∀ p : Int, 0 ≤ p → p < n → g p = f (tau i p)) : iv g n ≤ iv f n + 1 := by
  have k := iv_tau hi hn h
  rw [List.length_erase] at k
  have l := List.length_erase (a := (i, i + 1)) (l := ivs f n)
  unfold iv
  split at k <;> split at l <;> omega
theorem iv_down {i : Int} (hi : 0 ≤ i) (hn : i + 1 < n) (h : ∀ p : Int, 0 ≤ p → p < n → g p = f (tau i p)) (hd : f (i + 1) < f i) : iv f n = iv g n + 1 := by
  have h' : ∀ p : Int, 0 ≤ p → p < n → f p = g (tau i p) := fun p a b => by
    have := tau_b hi hn a b
    rw [h _ this.1 this.2, tau_tau]
  have k1 := iv_tau hi hn h
  have k2 := iv_tau hi hn h'
  have m : (i, i + 1) ∈ ivs f n := mem_ivs.mpr ⟨hi, by simp; omega, hn, hd⟩
  have nm : (i, i + 1) ∉ ivs g n := fun q => by
    obtain ⟨_, _, _, h4⟩ := mem_ivs.mp q
    have e1 : tau i i = i + 1 := by unfold tau; rw [if_pos rfl]
    have e2 : tau i (i + 1) = i := by unfold tau; rw [if_neg (by omega), if_pos rfl]
    have h4 : g (i + 1) < g i := h4
    rw [h _ (by omega) hn, h _ hi (by omega), e1, e2] at h4
    omega
  have p := List.length_pos_of_mem m
  rw [List.length_erase_of_mem m, List.erase_of_not_mem nm] at k1 k2
  unfold iv
  omega
theorem iv_mono (h : ∀ p q : Int, 0 ≤ p → p < q → q < n → f p ≤ f q) : iv f n = 0 := by
  unfold iv
  rw [List.length_eq_zero_iff]
  refine List.eq_nil_iff_forall_not_mem.mpr fun z hz => ?_
  obtain ⟨h1, h2, h3, h4⟩ := mem_ivs.mp hz
  have := h _ _ h1 h2 h3
  omega
theorem iv_inv (hf : ∀ p : Int, 0 ≤ p → p < n → 0 ≤ f p ∧ f p < n ∧ g (f p) = p) (hg : ∀ p : Int, 0 ≤ p → p < n → 0 ≤ g p ∧ g p < n ∧ f (g p) = p) : iv f n = iv g n := by
  have key : ∀ {f g : Int → Int}, (∀ p : Int, 0 ≤ p → p < n → 0 ≤ f p ∧ f p < n ∧ g (f p) = p) → (∀ p : Int, 0 ≤ p → p < n → 0 ≤ g p ∧ g p < n ∧ f (g p) = p) → iv f n ≤ iv g n := fun {f g} hf hg => by
    refine injLe (fun z => (f z.2, f z.1)) ivs_nd (fun z hz => ?_) fun x hx y hy e => ?_
    · obtain ⟨h1, h2, h3, h4⟩ := mem_ivs.mp hz
      have a1 := hf z.1 h1 (by omega)
      have a2 := hf z.2 (by omega) h3
      refine mem_ivs.mpr ⟨a2.1, h4, a1.2.1, ?_⟩
      show g (f z.1) < g (f z.2)
      omega
    · obtain ⟨x1, x2, x3, _⟩ := mem_ivs.mp hx
      obtain ⟨y1, y2, y3, _⟩ := mem_ivs.mp hy
      have e1 : f x.2 = f y.2 := congrArg Prod.fst e
      have e2 : f x.1 = f y.1 := congrArg Prod.snd e
      have a1 := (hf x.1 x1 (by omega)).2.2
      have a2 := (hf x.2 (by omega) x3).2.2
      have b1 := (hf y.1 y1 (by omega)).2.2
      have b2 := (hf y.2 (by omega) y3).2.2
      rw [e1] at a2
      rw [e2] at a1
      exact Prod.ext (by omega) (by omega)
  exact Nat.le_antisymm (key hf hg) (key hg hf)
theorem iv_le : iv f n ≤ n * n := by
  have : (ivs f n).length ≤ ((upI 0 n).flatMap fun p => (upI 0 n).map fun q => (p, q)).length := phpA _ _ ivs_nd fun z hz => by
    obtain ⟨h1, h2, h3, _⟩ := mem_ivs.mp hz
    exact List.mem_flatMap.mpr ⟨z.1, up_mem.mpr (by omega), List.mem_map.mpr ⟨z.2, up_mem.mpr (by omega), rfl⟩⟩
  rw [List.length_flatMap] at this
  simp only [List.length_map, upI_length] at this
  have e : ((upI 0 n).map fun _ => n).sum = n * n := by
    rw [List.map_const', List.sum_replicate_nat, upI_length]
  rw [e] at this
  exact this
end
end Pu

set_option Elab.async false
set_option linter.all false
set_option maxRecDepth 100000
set_option maxHeartbeats 2000000
/-! comprehensions of numbers with a test; scripts of moves -/
namespace Pu
open PySem PySem.Spec PyProof.Rows L2
variable [TabL]
section
variable {ρ : Rho}
theorem lcGo_f {v : Nat} {t : Rho → Re Bool} {f : Rho → Re PyData} {P : Int → Bool} {e : Int → PyData} : ∀ ms : List Int, (∀ q ∈ ms, t (ρ.set v (some (.int q))) = .ok (P q)) → (∀ q ∈ ms, P q = true → f (ρ.set v (some (.int q))) = .ok (e q)) →
    lcGo (gSlot v) t f ρ (ms.map PyData.int) = some ((ms.filter P).map e)
  | [], _, _ => rfl
  | q :: ms, ht, hf => by
    have ih := lcGo_f ms (fun x hx => ht x (List.mem_cons_of_mem _ hx)) fun x hx => hf x (List.mem_cons_of_mem _ hx)
    have h1 := ht q List.mem_cons_self
    show (match t (ρ.set v (some (.int q))) with
      | .ok true => (match f (ρ.set v (some (.int q))) with | .ok x => (match lcGo (gSlot v) t f ρ (ms.map PyData.int) with | some xs => some (x :: xs) | none => none) | _ => none)
      | .ok false => lcGo (gSlot v) t f ρ (ms.map PyData.int)
      | _ => none) = _
    rw [h1, ih, List.filter_cons]
    cases hp : P q with
    | true =>
      rw [hf q List.mem_cons_self hp]
      rfl
    | false => rfl
/-- [e(q) for q in numbers if P(q)] -/
theorem lc_f {its : Rho → Re (List PyData)} {v : Nat} {t : Rho → Re Bool} {f : Rho → Re PyData} {ms : List Int} {P : Int → Bool} {e : Int → PyData} (hi : its ρ = .ok (ms.map PyData.int)) (hl : ms.length ≤ 10000)
    (ht : ∀ q ∈ ms, t ((ρ.set v none).set v (some (.int q))) = .ok (P q)) (hf : ∀ q ∈ ms, P q = true → f ((ρ.set v none).set v (some (.int q))) = .ok (e q)) : rLc its [v] (gSlot v) t f ρ = .ok (.list ((ms.filter P).map e)) := by
  unfold rLc
  rw [hi, re_ok, if_pos (by rw [List.length_map]; exact decide_eq_true hl)]
  show (match lcGo (gSlot v) t f (ρ.set v none) (ms.map PyData.int) with | some xs => Re.ok (PyData.list xs) | none => .bad) = _
  rw [lcGo_f ms ht hf]
theorem lcGo2_f {u v : Nat} {t : Rho → Re Bool} {f : Rho → Re PyData} {its1 : Rho → Re (List PyData)} {P : Int → Int → Bool} {e : Int → Int → PyData} {ms : Int → List Int} : ∀ ns : List Int, (∀ p ∈ ns, its1 (ρ.set u (some (.int p))) = .ok ((ms p).map PyData.int)) →
    (∀ p ∈ ns, ∀ q ∈ ms p, t (((ρ.set u (some (.int p))).set v none).set v (some (.int q))) = .ok (P p q)) → (∀ p ∈ ns, ∀ q ∈ ms p, P p q = true → f (((ρ.set u (some (.int p))).set v none).set v (some (.int q))) = .ok (e p q)) →
    lcGo2 (gSlot u) yesR its1 [v] (gSlot v) t f ρ (ns.map PyData.int) = some (ns.flatMap fun p => ((ms p).filter (P p)).map (e p))
  | [], _, _, _ => rfl
  | p :: ns, hi, ht, hf => by
    have ih := lcGo2_f ns (fun x hx => hi x (List.mem_cons_of_mem _ hx)) (fun x hx => ht x (List.mem_cons_of_mem _ hx)) fun x hx => hf x (List.mem_cons_of_mem _ hx)
    show (match its1 (ρ.set u (some (.int p))) with
      | .ok es => (match lcGo (gSlot v) t f ((ρ.set u (some (.int p))).set v none) es with
        | some xs => (match lcGo2 (gSlot u) yesR its1 [v] (gSlot v) t f ρ (ns.map PyData.int) with | some ys => some (xs ++ ys) | none => none)
        | none => none)
      | _ => none) = _
    rw [hi p List.mem_cons_self]
    show (match lcGo (gSlot v) t f ((ρ.set u (some (.int p))).set v none) ((ms p).map PyData.int) with
        | some xs => (match lcGo2 (gSlot u) yesR its1 [v] (gSlot v) t f ρ (ns.map PyData.int) with | some ys => some (xs ++ ys) | none => none)
        | none => none) = _
    rw [lcGo_f (ms p) (ht p List.mem_cons_self) (hf p List.mem_cons_self), ih]
    rfl
end
/-! scripts -/
def runM (r : List Int) (ms : List Mv) : List Int := ms.foldl (fun r m => m.F r) r
section
variable {n : Nat} {a b r : List Int} {ms : List Mv}
theorem runM_app (r : List Int) (ms ks : List Mv) : runM r (ms ++ ks) = runM (runM r ms) ks := by
  unfold runM
  rw [List.foldl_append]
theorem mv_perm {m : Mv} (h : r.Perm (upI 1 n)) (ok : m.ok n) : (m.F r).Perm (upI 1 n) := by
  have hl : r.length = n := by rw [h.length_eq, upI_length]
  exact (m.perm ok hl (h.symm.nodup (up_nodup 1 n))).trans h
theorem runM_perm : ∀ {ms : List Mv} {r : List Int}, r.Perm (upI 1 n) → (∀ m ∈ ms, m.ok n) → (runM r ms).Perm (upI 1 n)
  | [], _, h, _ => h
  | m :: ms, r, h, ok => runM_perm (ms := ms) (mv_perm h (ok m List.mem_cons_self)) fun q hq => ok q (List.mem_cons_of_mem _ hq)
theorem Mv.lenF {m : Mv} {r : List Int} (h : m.ok n) (hr : r.length = n) : (m.F r).length = n := by
  cases m with
  | swap i j => exact (swZ_len _ _ _).trans hr
  | next i => exact (swZ_len _ _ _).trans hr
  | take i j => exact ((take_perm (by rw [hr]; exact h.1)).length_eq).trans hr
  | flip i j => exact ((flip_perm (by have := h.1; omega)).length_eq).trans hr
  | blocks i j k l =>
    obtain ⟨h1, h2, h3, h4⟩ := h
    exact ((blk_perm (by omega) h2 (by omega)).length_eq).trans hr
theorem runM_map (f : Int → Int) : ∀ {ms : List Mv} {r : List Int}, r.length = n → (∀ m ∈ ms, m.ok n) → runM (r.map f) ms = (runM r ms).map f
  | [], _, _, _ => rfl
  | m :: ms, r, h, ok => by
    have o := ok m List.mem_cons_self
    show runM (m.F (r.map f)) ms = (runM (m.F r) ms).map f
    rw [m.map f o h]
    exact runM_map f (ms := ms) (m.lenF o h) fun q hq => ok q (List.mem_cons_of_mem _ hq)
/-- what sorts the relative row leads from the first row to the second -/
theorem runM_sorts (T : Two n a b) (ok : ∀ m ∈ ms, m.ok n) (h : runM (relZ a b) ms = upI 1 n) : runM a ms = b := by
  have T' : Two n (runM a ms) b := ⟨runM_perm T.pa ok, T.pb⟩
  refine (rel_sorted T').mp ?_
  rw [← h]
  unfold relZ
  rw [runM_map _ T.la ok]
theorem mv_places {m : Mv} (h : m.ok n) : ∃ ps : List Int, m.D = mvR m.kind ps ∧ 1 ≤ ps.length ∧ ps.length ≤ 4 ∧ ∀ q ∈ ps, 0 ≤ q ∧ q ≤ n := by
  cases m with
  | swap i j =>
    obtain ⟨h1, h2⟩ := h
    exact ⟨[i, j], rfl, by simp, by simp, fun q hq => by
      simp at hq
      rcases hq with rfl | rfl <;> omega⟩
  | next i =>
    have h : i + 1 < n := h
    exact ⟨[i], rfl, by simp, by simp, fun q hq => by
      simp at hq
      subst hq
      omega⟩
  | take i j =>
    obtain ⟨h1, h2, _⟩ := h
    exact ⟨[i, j], rfl, by simp, by simp, fun q hq => by
      simp at hq
      rcases hq with rfl | rfl <;> omega⟩
  | flip i j =>
    obtain ⟨h1, h2⟩ := h
    exact ⟨[i, j], rfl, by simp, by simp, fun q hq => by
      simp at hq
      rcases hq with rfl | rfl <;> omega⟩
  | blocks i j k l =>
    obtain ⟨h1, h2, h3, h4⟩ := h
    exact ⟨[i, j, k, l], rfl, by simp, by simp, fun q hq => by
      simp at hq
      rcases hq with rfl | rfl | rfl | rfl <;> omega⟩
end
end Pu

set_option Elab.async false
set_option linter.all false
set_option maxRecDepth 100000
set_option maxHeartbeats 2000000
/-! neighbors exchanged, by the values of a row -/
namespace Pu
open PySem PySem.Spec PyProof.Rows L2
variable [TabL]
def valZ (r : List Int) (p : Int) : Int := (atZ r p).getD 0
section
variable {n : Nat} {a b r : List Int}
theorem val_at {p : Int} (hp : p ∈ upI 0 r.length) : atZ r p = some (valZ r p) := by
  obtain ⟨h1, h2⟩ := up_mem.mp hp
  obtain ⟨x, e1, _⟩ := atZ_p (ns := r) h1 (by omega)
  unfold valZ
  rw [e1]
  rfl
theorem at_tau {i p : Int} (hi : 0 ≤ i) (hn : i + 1 < r.length) (h0 : 0 ≤ p) (h1 : p < r.length) : atZ (swZ r i (i + 1)) p = atZ r (tau i p) := by
  rw [swZ_at (up_mem.mpr (by omega)) (up_mem.mpr (by omega)) (up_mem.mpr (by omega)) (by omega)]
  unfold tau
  by_cases c : p = i + 1
  · rw [if_pos c, if_neg (by omega), if_pos c]
  · rw [if_neg c]
    by_cases d : p = i
    · rw [if_pos d, if_pos d]
    · rw [if_neg d, if_neg d, if_neg c]
theorem val_tau {i p : Int} (hi : 0 ≤ i) (hn : i + 1 < r.length) (h0 : 0 ≤ p) (h1 : p < r.length) : valZ (swZ r i (i + 1)) p = valZ r (tau i p) := by
  unfold valZ
  rw [at_tau hi hn h0 h1]
theorem g_tau {i p : Int} (hi : 0 ≤ i) (hn : i + 1 < r.length) (h0 : 0 ≤ p) (h1 : p < r.length) : gZ (swZ r i (i + 1)) a p = gZ r a (tau i p) := by
  unfold gZ
  rw [at_tau hi hn h0 h1]
theorem rel_val (T : Two n a b) {p : Int} (h0 : 0 ≤ p) (h1 : p < n) : valZ (relZ a b) p = gZ a b p + 1 := by
  have la := T.la
  obtain ⟨x, e1, e2⟩ := atZ_p (ns := a) h0 (by omega)
  unfold valZ gZ relZ
  rw [atZ_map, e1]
  rfl
theorem iv_shift {f g : Int → Int} (h : ∀ p : Int, 0 ≤ p → p < n → f p = g p + 1) : iv f n = iv g n := by
  have e : iv f n = iv (fun p => g p + 1) n := iv_congr h
  rw [e]
  unfold iv ivs
  congr 2
  funext p
  congr 2
  funext q
  show decide (g q + 1 < g p + 1) = decide (g q < g p)
  exact decide_eq_decide.mpr ⟨fun h => by omega, fun h => by omega⟩
theorem iv_rel (T : Two n a b) : iv (valZ (relZ a b)) n = iv (gZ a b) n := iv_shift fun p h0 h1 => rel_val T h0 h1
theorem iv_back (T : Two n a b) : iv (gZ b a) n = iv (gZ a b) n := by
  have k : ∀ {a b : List Int}, Two n a b → ∀ p : Int, 0 ≤ p → p < n → 0 ≤ gZ a b p ∧ gZ a b p < n ∧ gZ b a (gZ a b p) = p := fun T p h0 h1 => by
    obtain ⟨x, _, _, h3, _⟩ := T.at (p := p) (up_mem.mpr (by omega))
    have := up_mem.mp h3
    exact ⟨by omega, by omega, T.inv p (up_mem.mpr (by omega))⟩
  exact iv_inv (k T.back) (k T)
theorem iv_self (h : r.Perm (upI 1 n)) : iv (gZ r r) n = 0 := by
  have T : Two n r r := ⟨h, h⟩
  refine iv_mono fun p q h0 h1 h2 => ?_
  have e : ∀ p : Int, 0 ≤ p → p < n → gZ r r p = p := fun p h0 h1 => by
    obtain ⟨x, a1, _, _, _⟩ := T.at (p := p) (up_mem.mpr (by omega))
    exact T.g_eq (up_mem.mpr (by omega)) (up_mem.mpr (by omega)) a1 a1
  rw [e p h0 (by omega), e q (by omega) h2]
  omega
theorem next_step (T : Two n a b) {i : Nat} (h : i + 1 < n) : Two n a ((Mv.next i).F b) ∧ iv (gZ a ((Mv.next i).F b)) n ≤ iv (gZ a b) n + 1 := by
  have T' : Two n a ((Mv.next i).F b) := ⟨T.pa, mv_perm T.pb h⟩
  refine ⟨T', ?_⟩
  rw [← iv_back T', ← iv_back T]
  have lb := T.lb
  exact iv_step (i := i) (by omega) (by omega) fun p h0 h1 => g_tau (by omega) (by omega) h0 (by omega)
/-- the first e numbers ascend -/
def asc (r : List Int) (e : Int) : Prop := ∀ i j : Int, 0 ≤ i → i < j → j < e → valZ r i < valZ r j
/-- .. but for that at p, which is less than those behind it -/
def hole (r : List Int) (p e : Int) : Prop := (∀ i j : Int, 0 ≤ i → i < j → j ≤ e → i ≠ p → j ≠ p → valZ r i < valZ r j) ∧ ∀ j : Int, p < j → j ≤ e → valZ r p < valZ r j
theorem hole_start {e : Int} (h : asc r e) : hole r e e := ⟨fun i j h0 h1 h2 _ h4 => h i j h0 h1 (by omega), fun j h1 h2 => by omega⟩
theorem hole_end {p e : Int} (hp : 0 ≤ p) (h : hole r p e) (hd : p = 0 ∨ valZ r (p - 1) < valZ r p) : asc r (e + 1) := fun i j h0 h1 h2 => by
  obtain ⟨k1, k2⟩ := h
  by_cases ei : i = p
  · subst ei
    exact k2 j h1 (by omega)
  · by_cases ej : j = p
    · subst ej
      rcases hd with hd | hd
      · omega
      · by_cases c : i = j - 1
        · subst c
          exact hd
        · have := k1 i (j - 1) h0 (by omega) (by omega) (by omega) (by omega)
          omega
    · exact k1 i j h0 h1 (by omega) ei ej
theorem hole_step {p e : Int} (hp : 0 < p) (he : p ≤ e) (hl : e < r.length) (h : hole r p e) (hd : valZ r p < valZ r (p - 1)) : hole (swZ r (p - 1) p) (p - 1) e := by
  obtain ⟨k1, k2⟩ := h
  have v : ∀ x : Int, 0 ≤ x → x < r.length → valZ (swZ r (p - 1) p) x = valZ r (tau (p - 1) x) := fun x h0 h1 => by
    have := val_tau (r := r) (i := p - 1) (p := x) (by omega) (by omega) h0 h1
    rwa [show p - 1 + 1 = p by omega] at this
  have t0 : tau (p - 1) (p - 1) = p := by
    unfold tau
    rw [if_pos rfl]
    omega
  have t1 : tau (p - 1) p = p - 1 := by
    unfold tau
    rw [if_neg (by omega), if_pos (by omega)]
  have t2 : ∀ x : Int, x ≠ p - 1 → x ≠ p → tau (p - 1) x = x := fun x a b => by
    unfold tau
    rw [if_neg a, if_neg (by omega)]
  refine ⟨fun i j h0 h1 h2 h3 h4 => ?_, fun j h1 h2 => ?_⟩
  · rw [v i h0 (by omega), v j (by omega) (by omega)]
    by_cases ei : i = p
    · subst ei
      rw [t1, t2 j (by omega) (by omega)]
      exact k1 _ _ (by omega) (by omega) h2 (by omega) (by omega)
    · rw [t2 i h3 ei]
      by_cases ej : j = p
      · subst ej
        rw [t1]
        exact k1 _ _ h0 (by omega) (by omega) (by omega) (by omega)
      · rw [t2 j h4 ej]
        exact k1 _ _ h0 h1 h2 ei ej
  · rw [v (p - 1) (by omega) (by omega), v j (by omega) (by omega), t0]
    by_cases ej : j = p
    · subst ej
      rw [t1]
      exact hd
    · rw [t2 j (by omega) ej]
      exact k2 j (by omega) h2
theorem asc_sorted (h : r.Perm (upI 1 n)) (ha : asc r n) : r = upI 1 n ∧ iv (valZ r) n = 0 := by
  have hl : r.length = n := by rw [h.length_eq, upI_length]
  constructor
  · have e1 := srtZ_uniq h (List.pairwise_iff_getElem.mpr fun i j hi hj hij => by
      have := ha (i : Int) (j : Int) (by omega) (by omega) (by omega)
      unfold valZ at this
      rw [atZ_nat hi, atZ_nat hj, List.getElem?_eq_getElem hi, List.getElem?_eq_getElem hj] at this
      exact Int.le_of_lt this)
    have e2 := srtZ_uniq (.refl (upI 1 n)) (by
      unfold upI
      refine List.pairwise_map.mpr ?_
      exact List.pairwise_lt_range.imp fun h => by omega)
    rw [e1, ← e2]
  · exact iv_mono fun p q h0 h1 h2 => Int.le_of_lt (ha p q h0 h1 h2)
end
theorem kind_swap {m : Mv} (h : m.kind = "swap") : ∃ i j : Nat, m = .swap i j := by
  cases m with
  | swap i j => exact ⟨i, j, rfl⟩
  | next i => exact absurd h (show ¬ (("next" : Str) = "swap") by decide)
  | take i j => exact absurd h (show ¬ (("take" : Str) = "swap") by decide)
  | flip i j => exact absurd h (show ¬ (("flip" : Str) = "swap") by decide)
  | blocks i j k l => exact absurd h (show ¬ (("blocks" : Str) = "swap") by decide)
theorem kind_next {m : Mv} (h : m.kind = "next") : ∃ i : Nat, m = .next i := by
  cases m with
  | swap i j => exact absurd h (show ¬ (("swap" : Str) = "next") by decide)
  | next i => exact ⟨i, rfl⟩
  | take i j => exact absurd h (show ¬ (("take" : Str) = "next") by decide)
  | flip i j => exact absurd h (show ¬ (("flip" : Str) = "next") by decide)
  | blocks i j k l => exact absurd h (show ¬ (("blocks" : Str) = "next") by decide)
theorem kind_take {m : Mv} (h : m.kind = "take") : ∃ i j : Nat, m = .take i j := by
  cases m with
  | swap i j => exact absurd h (show ¬ (("swap" : Str) = "take") by decide)
  | next i => exact absurd h (show ¬ (("next" : Str) = "take") by decide)
  | take i j => exact ⟨i, j, rfl⟩
  | flip i j => exact absurd h (show ¬ (("flip" : Str) = "take") by decide)
  | blocks i j k l => exact absurd h (show ¬ (("blocks" : Str) = "take") by decide)
theorem kind_flip {m : Mv} (h : m.kind = "flip") : ∃ i j : Nat, m = .flip i j := by
  cases m with
  | swap i j => exact absurd h (show ¬ (("swap" : Str) = "flip") by decide)
  | next i => exact absurd h (show ¬ (("next" : Str) = "flip") by decide)
  | take i j => exact absurd h (show ¬ (("take" : Str) = "flip") by decide)
  | flip i j => exact ⟨i, j, rfl⟩
  | blocks i j k l => exact absurd h (show ¬ (("blocks" : Str) = "flip") by decide)
theorem kind_blocks {m : Mv} (h : m.kind = "blocks") : ∃ i j k l : Nat, m = .blocks i j k l := by
  cases m with
  | swap i j => exact absurd h (show ¬ (("swap" : Str) = "blocks") by decide)
  | next i => exact absurd h (show ¬ (("next" : Str) = "blocks") by decide)
  | take i j => exact absurd h (show ¬ (("take" : Str) = "blocks") by decide)
  | flip i j => exact absurd h (show ¬ (("flip" : Str) = "blocks") by decide)
  | blocks i j k l => exact ⟨i, j, k, l, rfl⟩
theorem val_ne {n : Nat} {r : List Int} (h : r.Perm (upI 1 n)) {p q : Int} (hp : p ∈ upI 0 n) (hq : q ∈ upI 0 n) (ne : p ≠ q) : valZ r p ≠ valZ r q := fun e => by
  have hl : r.length = n := by rw [h.length_eq, upI_length]
  have e1 := val_at (r := r) (p := p) (by rw [hl]; exact hp)
  have e2 := val_at (r := r) (p := q) (by rw [hl]; exact hq)
  rw [e] at e1
  exact ne (atZ_inj (h.symm.nodup (up_nodup 1 n)) (by rw [hl]; exact hp) (by rw [hl]; exact hq) e1 e2)
end Pu

set_option Elab.async false
set_option linter.all false
set_option maxRecDepth 100000
set_option maxHeartbeats 2000000
/-! for k in d, d a dict that is no own one -/
namespace Pu
open PySem PySem.Spec PyProof.Rows L2
variable [TabL]
section
variable {K : PySem.W.Frag} {H : Hp} {S : Addr → Prop} {d : Addr} {od : Obj} {ks : List Key} {xs : List V}
/-! what a lock changes -/
theorem tupD_lock {a : Addr} {ys : List V} (hd : H d = some (.dK (ks.zip xs))) (h : TupD K H a ys) : TupD K (upd H d (.frz od (.dK (ks.zip xs)))) a ys := by
  rcases h with ⟨o, h, hn⟩ | h
  · refine .inl ⟨o, ?_, hn⟩
    rw [upd_ne fun e => ?_]
    · exact h
    · rw [e, hd] at h
      cases h
  · exact .inr h
theorem fzL_lock {a : Addr} {ys : List V} (hd : H d = some (.dK (ks.zip xs))) (h : FzL K H S a ys) : FzL K (upd H d (.frz od (.dK (ks.zip xs)))) S a ys := by
  rcases h with ⟨h, z⟩ | ⟨o, h⟩ | h
  · refine .inl ⟨?_, z⟩
    rw [upd_ne fun e => ?_]
    · exact h
    · rw [e, hd] at h
      cases h
  · refine .inr (.inl ⟨o, ?_⟩)
    rw [upd_ne fun e => ?_]
    · exact h
    · rw [e, hd] at h
      cases h
  · exact .inr (.inr h)
theorem dctF_lock {a : Addr} {L : DEn} (hd : H d = some (.dK (ks.zip xs))) (h : DctF H S a L) : DctF (upd H d (.frz od (.dK (ks.zip xs)))) S a L := by
  rcases h with ⟨h, z⟩ | ⟨o, h⟩
  · refine .inl ⟨?_, z⟩
    rw [upd_ne fun e => ?_]
    · exact h
    · rw [e, hd] at h
      unfold DctO at h
      cases h
  · refine .inr ⟨o, ?_⟩
    rw [upd_ne fun e => ?_]
    · exact h
    · rw [e, hd] at h
      cases h
theorem dctK_lock {L : DEn} (hd : H d = some (.dK (ks.zip xs))) (h : DctK K H L) : DctK K (upd H d (.frz od (.dK (ks.zip xs)))) L := fun p hp => tupD_lock hd (h p hp)
mutual
theorem Rp.lock (hd : H d = some (.dK (ks.zip xs))) : ∀ {e : PyData} {v : V}, Rp K H S v e → Rp K (upd H d (.frz od (.dK (ks.zip xs)))) S v e
  | _, _, .non => .non
  | _, _, .bl b => .bl b
  | _, _, .int i => .int i
  | _, _, .str x => .str x
  | _, _, .tup h1 h2 => .tup (tupD_lock hd h1) (RpA.lock hd h2)
  | _, _, .lst (a := a) h1 h2 h3 => .lst (by
      rw [upd_ne fun e => ?_]
      · exact h1
      · rw [e, hd] at h1
        cases h1) h2 (RpA.lock hd h3)
  | _, _, .dct h1 h2 h3 h4 => .dct (dctF_lock hd h1) (dctK_lock hd h2) h3 h4
  | _, _, .scr h1 h3 => .scr (fzL_lock hd h1) (RpA.lock hd h3)
  | _, _, .dic (a := a) (ks := ks') (xs := xs') h1 h2 h3 h4 => by
      have r4 := RpA.lock hd h4
      by_cases e : a = d
      · have e2 : ks'.zip xs' = ks.zip xs := by
          rw [e, hd] at h1
          have := Option.some.inj h1
          exact (HO.dK.inj this).symm
        refine .dif (o := od) ?_ h3 r4
        rw [e, upd_same, e2]
      · exact .dic (by rw [upd_ne e]; exact h1) h2 h3 r4
  | _, _, .dit (a := a) h1 h2 h3 h4 => .dit (by
      rw [upd_ne fun e => ?_]
      · exact h1
      · rw [e, hd] at h1
        cases h1) h2 h3 (RpA.lock hd h4)
  | _, _, .dif (a := a) h1 h3 h4 => .dif (by
      rw [upd_ne fun e => ?_]
      · exact h1
      · rw [e, hd] at h1
        cases h1) h3 (RpA.lock hd h4)
  | _, _, .rng (a := a) h1 => .rng (by
      rw [upd_ne fun e => ?_]
      · exact h1
      · rw [e, hd] at h1
        cases h1)
theorem RpA.lock (hd : H d = some (.dK (ks.zip xs))) : ∀ {es : List PyData} {vs : List V}, RpA K H S vs es → RpA K (upd H d (.frz od (.dK (ks.zip xs)))) S vs es
  | _, _, .nil => .nil
  | _, _, .cons h1 h2 => .cons (Rp.lock hd h1) (RpA.lock hd h2)
end
theorem tupD_open {a : Addr} {ys : List V} (hd : H d = some (.frz od (.dK (ks.zip xs)))) (h : TupD K H a ys) : TupD K (upd H d (.dK (ks.zip xs))) a ys := by
  rcases h with ⟨o, h, hn⟩ | h
  · refine .inl ⟨o, ?_, hn⟩
    rw [upd_ne fun e => ?_]
    · exact h
    · rw [e, hd] at h
      cases h
  · exact .inr h
theorem fzL_open {a : Addr} {ys : List V} (hd : H d = some (.frz od (.dK (ks.zip xs)))) (h : FzL K H S a ys) : FzL K (upd H d (.dK (ks.zip xs))) S a ys := by
  rcases h with ⟨h, z⟩ | ⟨o, h⟩ | h
  · refine .inl ⟨?_, z⟩
    rw [upd_ne fun e => ?_]
    · exact h
    · rw [e, hd] at h
      cases h
  · refine .inr (.inl ⟨o, ?_⟩)
    rw [upd_ne fun e => ?_]
    · exact h
    · rw [e, hd] at h
      cases h
  · exact .inr (.inr h)
theorem dctF_open {a : Addr} {L : DEn} (hd : H d = some (.frz od (.dK (ks.zip xs)))) (h : DctF H S a L) : DctF (upd H d (.dK (ks.zip xs))) S a L := by
  rcases h with ⟨h, z⟩ | ⟨o, h⟩
  · refine .inl ⟨?_, z⟩
    rw [upd_ne fun e => ?_]
    · exact h
    · rw [e, hd] at h
      unfold DctO at h
      cases h
  · refine .inr ⟨o, ?_⟩
    rw [upd_ne fun e => ?_]
    · exact h
    · rw [e, hd] at h
      unfold DctO at h
      cases h
theorem dctK_open {L : DEn} (hd : H d = some (.frz od (.dK (ks.zip xs)))) (h : DctK K H L) : DctK K (upd H d (.dK (ks.zip xs))) L := fun p hp => tupD_open hd (h p hp)
mutual
theorem Rp.open (hd : H d = some (.frz od (.dK (ks.zip xs)))) (hS : S d) : ∀ {e : PyData} {v : V}, Rp K H S v e → Rp K (upd H d (.dK (ks.zip xs))) S v e
  | _, _, .non => .non
  | _, _, .bl b => .bl b
  | _, _, .int i => .int i
  | _, _, .str x => .str x
  | _, _, .tup h1 h2 => .tup (tupD_open hd h1) (RpA.open hd hS h2)
  | _, _, .lst (a := a) h1 h2 h3 => .lst (by
      rw [upd_ne fun e => ?_]
      · exact h1
      · rw [e, hd] at h1
        cases h1) h2 (RpA.open hd hS h3)
  | _, _, .dct h1 h2 h3 h4 => .dct (dctF_open hd h1) (dctK_open hd h2) h3 h4
  | _, _, .scr h1 h3 => .scr (fzL_open hd h1) (RpA.open hd hS h3)
  | _, _, .dic (a := a) h1 h2 h3 h4 => .dic (by
      rw [upd_ne fun e => ?_]
      · exact h1
      · rw [e, hd] at h1
        cases h1) h2 h3 (RpA.open hd hS h4)
  | _, _, .dit (a := a) h1 h2 h3 h4 => .dit (by
      rw [upd_ne fun e => ?_]
      · exact h1
      · rw [e, hd] at h1
        cases h1) h2 h3 (RpA.open hd hS h4)
  | _, _, .dif (a := a) (ks := ks') (xs := xs') h1 h3 h4 => by
      have r4 := RpA.open hd hS h4
      by_cases e : a = d
      · have e2 : ks'.zip xs' = ks.zip xs := by
          rw [e, hd] at h1
          have := Option.some.inj h1
          exact (HO.dK.inj (HO.frz.inj this).2).symm
        refine .dic ?_ (e ▸ hS) h3 r4
        rw [e, upd_same, e2]
      · exact .dif (by rw [upd_ne e]; exact h1) h3 r4
  | _, _, .rng (a := a) h1 => .rng (by
      rw [upd_ne fun e => ?_]
      · exact h1
      · rw [e, hd] at h1
        cases h1)
theorem RpA.open (hd : H d = some (.frz od (.dK (ks.zip xs)))) (hS : S d) : ∀ {es : List PyData} {vs : List V}, RpA K H S vs es → RpA K (upd H d (.dK (ks.zip xs))) S vs es
  | _, _, .nil => .nil
  | _, _, .cons h1 h2 => .cons (Rp.open hd hS h1) (RpA.open hd hS h2)
end
end
/-! the loop -/
section
variable {X : Cx} {M : Nat → Bool} {F : Fx} {E : L2.St → XK} {σ σ1 : L2.St} {ρ ρ1 : Rho} {H H' H1 : Hp} {D : Ends} {s : Rho → Sr} {d : Addr} {od : Obj} {ks : List Key} {xs : List V}
def canS2 (X : Cx) (M : Nat → Bool) (E : L2.St → XK) (s : Rho → Sr) : TS := fun D σ H => ∃ (F : Fx) (ρ : Rho), ER X.K M F σ H ρ ∧ WS X M F E σ H ρ (s ρ) D
theorem canS2_ok {body : List Stmt} (h : ∀ F, DSs X M F E body s) : PSs X body (canS2 X M E s) := ⟨fun pins st σ H D I ⟨F, ρ, er, w⟩ => by
  obtain ⟨t, pt, h⟩ := h F
  exact pt.run pins st σ H D I (h σ H ρ er D w)⟩
theorem ps_or {st : Stmt} {t u : TS} (h : PS X st t) (k : PS X st u) : PS X st fun D σ H => t D σ H ∨ u D σ H := ⟨fun pins s σ H D I w => w.elim (h.run pins s σ H D I) (k.run pins s σ H D I)⟩
def lockF (F : Fx) (d : Addr) (u : HO) : Fx := ⟨upd F.H0 d u, F.S0⟩
theorem ER.lock (er : ER X.K M F σ H ρ) (hd : H d = some (.dK (ks.zip xs))) (no : ¬ OwnA M σ ρ d) : ER X.K M (lockF F d (.frz od (.dK (ks.zip xs)))) σ (upd H d (.frz od (.dK (ks.zip xs)))) ρ := by
  refine ⟨er.len, ⟨fun a u q nu => ?_, fun {a} q => ?_, fun _ => tab_upd er.tab hd plain_dK, fun a ps q => ?_⟩, fun a q => ?_, tab_upd er.tab hd plain_dK, fun i e r m => ?_, fun i e r m => ?_, er.ap⟩
  · by_cases c : a = d
    · subst c
      have q : upd F.H0 a (.frz od (.dK (ks.zip xs))) a = some u := q
      rw [upd_same] at q
      rw [upd_same]
      exact q
    · have q : upd F.H0 d (.frz od (.dK (ks.zip xs))) a = some u := q
      rw [upd_ne c] at q ⊢
      exact er.old a u q nu
  · show upd F.H0 d (.frz od (.dK (ks.zip xs))) a = none
    by_cases c : a = d
    · subst c
      rw [upd_same] at q
      cases q
    · rw [upd_ne c] at q ⊢
      exact er.old.free q
  · have q : upd F.H0 d (.frz od (.dK (ks.zip xs))) a = some (.tbl ps) := q
    by_cases c : a = d
    · subst c
      rw [upd_same] at q
      cases q
    · rw [upd_ne c] at q ⊢
      exact er.old.t a ps q
  · refine er.new a ?_
    by_cases c : a = d
    · subst c
      rw [upd_same] at q
      cases q
    · rwa [upd_ne c] at q
  · obtain ⟨v, hv, rp⟩ := er.im i e r m
    exact ⟨v, hv, Rp.lock hd rp⟩
  · obtain ⟨p, hp, z, w⟩ := er.ow i e r m
    have ne : p ≠ d := fun c => no ⟨i, e, m, r, c ▸ hp⟩
    refine ⟨p, hp, ⟨?_, z.2⟩, ?_⟩
    · show upd F.H0 d (.frz od (.dK (ks.zip xs))) p = none
      rw [upd_ne ne]
      exact z.1
    · cases w with
      | lst h0 r0 => exact .lst (by rw [upd_ne ne]; exact h0) (RpA.lock hd r0)
      | dic h0 l0 r0 => exact .dic (by rw [upd_ne ne]; exact h0) l0 (RpA.lock hd r0)
      | dct h0 l0 r0 => exact .dct (by rw [upd_ne ne]; exact h0) (dctK_lock hd l0) r0
      | dit h0 l0 r0 => exact .dit ⟨(upd_ne ne).trans h0.1, (upd_ne fun c => by
          have h2 := h0.2
          rw [c, hd] at h2
          cases h2).trans h0.2⟩ l0 (RpA.lock hd r0)
theorem ER.open (er : ER X.K M (lockF F d (.frz od (.dK (ks.zip xs)))) σ H ρ) (hF : ∀ u, F.H0 d = some u → u = .dK (ks.zip xs)) (hd : H d = some (.frz od (.dK (ks.zip xs)))) (hS : F.S0 d) (no : ¬ OwnA M σ ρ d) : ER X.K M F σ (upd H d (.dK (ks.zip xs))) ρ := by
  have rs : RS M (lockF F d (.frz od (.dK (ks.zip xs)))) σ ρ false d := ⟨hS, fun _ => no⟩
  refine ⟨er.len, ⟨fun a u q nu => ?_, fun {a} q => ?_, fun _ => tab_upd er.tab hd plain_frz, fun a ps q => ?_⟩, fun a q => ?_, tab_upd er.tab hd plain_frz, fun i e r m => ?_, fun i e r m => ?_, er.ap⟩
  · by_cases c : a = d
    · subst c
      rw [upd_same, hF u q]
    · rw [upd_ne c]
      refine er.old.k a u ?_ nu
      show upd F.H0 d (.frz od (.dK (ks.zip xs))) a = some u
      rw [upd_ne c]
      exact q
  · by_cases c : a = d
    · subst c
      rw [upd_same] at q
      cases q
    · rw [upd_ne c] at q
      have : upd F.H0 d (.frz od (.dK (ks.zip xs))) a = none := er.old.free q
      rwa [upd_ne c] at this
  · by_cases c : a = d
    · subst c
      cases hF _ q
    · rw [upd_ne c]
      refine er.old.t a ps ?_
      show upd F.H0 d (.frz od (.dK (ks.zip xs))) a = some (.tbl ps)
      rw [upd_ne c]
      exact q
  · refine er.new a ?_
    by_cases c : a = d
    · subst c
      rw [upd_same] at q
      cases q
    · rwa [upd_ne c] at q
  · obtain ⟨v, hv, rp⟩ := er.im i e r m
    exact ⟨v, hv, Rp.open hd rs rp⟩
  · obtain ⟨p, hp, z, w⟩ := er.ow i e r m
    have ne : p ≠ d := fun c => no ⟨i, e, m, r, c ▸ hp⟩
    refine ⟨p, hp, ⟨?_, z.2⟩, ?_⟩
    · have z1 : upd F.H0 d (.frz od (.dK (ks.zip xs))) p = none := z.1
      rwa [upd_ne ne] at z1
    · cases w with
      | lst h0 r0 => exact .lst (by rw [upd_ne ne]; exact h0) (RpA.open hd rs r0)
      | dic h0 l0 r0 => exact .dic (by rw [upd_ne ne]; exact h0) l0 (RpA.open hd rs r0)
      | dct h0 l0 r0 => exact .dct (by rw [upd_ne ne]; exact h0) (dctK_open hd l0) r0
      | dit h0 l0 r0 => exact .dit ⟨(upd_ne ne).trans h0.1, (upd_ne fun c => by
          have h2 := h0.2
          rw [c, hd] at h2
          cases h2).trans h0.2⟩ l0 (RpA.open hd rs r0)
theorem forD_core {i : Nat} {ts : List Nat} {gg : PyData → Rho → Option Rho} (hH : H d = some (.frz od (.dK (ks.zip xs)))) (hl : ks.length = xs.length) (er : ER X.K M F σ H ρ) (hs : σ[i]? = some (some (.ref d)))
    (w : WS X M F E0s σ H ρ (sLoop gg s (ks.map kD) ρ) D) : tFor (iKeys (tVar i)) (canG X M ts gg) (canS2 X M E0s s) D σ H := by
  have no : ¬ OwnA M σ ρ d := fun o => by
    obtain ⟨j, e, m, r, q⟩ := o
    obtain ⟨p, hp, _, w⟩ := er.ow j e r m
    rw [q] at hp
    cases hp
    obtain ⟨u, hu, mu⟩ := w.there
    rw [hH] at hu
    cases hu
    exact mu
  have kl : (ks.map kD).length = ks.length := List.length_map ..
  have zl : (ks.zip xs).length = ks.length := by rw [List.length_zip]; omega
  refine ⟨.ref d, hs, d, od, rfl, .inl ⟨ks.zip xs, hH, ?_⟩⟩
  refine ⟨fun j m σ' H' => m = ks.length - j ∧ j ≤ ks.length ∧ ∃ ρ', ER X.K M F σ' H' ρ' ∧ Evo M σ H ρ σ' H' ρ' ∧ WS X M F E0s σ' H' ρ' (sLoop gg s ((ks.map kD).drop j) ρ') D, ⟨ks.length, by simp, Nat.zero_le _, ρ, er, Evo.refl, w⟩, ?_⟩
  rintro j m σ' H' ⟨rfl, hj, ρ', er', ev', w'⟩
  have hd' : H' d = some (.frz od (.dK (ks.zip xs))) := (ev' d _ hH no (by first | assumption | exact fun _ z => nomatch z)).1
  by_cases hlt : j < ks.length
  · refine .inr ⟨⟨hd', by omega⟩, fun σ2 H2 => ks.length - (j + 1) = ks.length - (j + 1) ∧ j + 1 ≤ ks.length ∧ ∃ ρ2, ER X.K M F σ2 H2 ρ2 ∧ Evo M σ H ρ σ2 H2 ρ2 ∧ WS X M F E0s σ2 H2 ρ2 (sLoop gg s ((ks.map kD).drop (j + 1)) ρ2) D, fun σ2 H2 x => ⟨ks.length - (j + 1), by omega, x⟩, fun x H2 y => ?_⟩
    obtain ⟨rfl, k, v, hk, rfl⟩ := y
    have hk2 : ks[j]? = some k := (List.getElem?_zip_eq_some.mp hk).1
    have hkd : (ks.map kD)[j]? = some (kD k) := by rw [List.getElem?_map, hk2]; rfl
    rw [drop_get hkd] at w'
    have w' : WS X M F E0s σ' H2 ρ' (match gg (kD k) ρ' with
      | none => .bad
      | some ρ1 => match s ρ1 with
        | .nx ρ2 => sLoop gg s ((ks.map kD).drop (j + 1)) ρ2
        | .ct ρ2 => sLoop gg s ((ks.map kD).drop (j + 1)) ρ2
        | .bk ρ2 => .nx ρ2
        | .rt d => .rt d
        | .ex c ρ2 => .ex c ρ2
        | .bad => .bad) D := w'
    cases q1 : gg (kD k) ρ' with
    | none =>
      rw [q1] at w'
      exact w'.elim
    | some ρ1 =>
      rw [q1] at w'
      have rx : Rp X.K H2 (RS M F σ' ρ' false) (kV k) (kD k) := by
        cases k with
        | inl z => exact .int z
        | inr z => exact .str z
      refine ⟨F, ρ', kD k, ρ1, er', rx, q1, fun σ3 er3 ev3 _ _ => ⟨F, ρ1, er3, ?_⟩⟩
      have w3 := ws_evo ev3 w'
      have w3 : WS X M F E0s σ3 H2 ρ1 (match s ρ1 with
        | .nx ρ2 => sLoop gg s ((ks.map kD).drop (j + 1)) ρ2
        | .ct ρ2 => sLoop gg s ((ks.map kD).drop (j + 1)) ρ2
        | .bk ρ2 => .nx ρ2
        | .rt d => .rt d
        | .ex c ρ2 => .ex c ρ2
        | .bad => .bad) D := w3
      have ev3' := ev'.trans ev3
      cases q2 : s ρ1 with
      | nx ρ2 =>
        rw [q2] at w3
        exact fun σ4 H4 er4 ev4 => ⟨rfl, hlt, ρ2, er4, ev3'.trans ev4, ws_evo ev4 w3⟩
      | ct ρ2 =>
        rw [q2] at w3
        exact fun σ4 H4 er4 ev4 => ⟨rfl, hlt, ρ2, er4, ev3'.trans ev4, ws_evo ev4 w3⟩
      | bk ρ2 =>
        rw [q2] at w3
        exact w3
      | rt d =>
        rw [q2] at w3
        exact w3
      | ex c ρ2 =>
        rw [q2] at w3
        exact w3
      | bad =>
        rw [q2] at w3
        exact w3
  · have e : j = ks.length := by omega
    subst e
    rw [← kl, List.drop_length] at w'
    exact .inl ⟨⟨hd', by omega⟩, w' σ' H' er' Evo.refl⟩
def noX : Sr → Sr
  | .ex _ _ => .bad
  | r => r
def sForD (i : Nat) (g : PyData → Rho → Option Rho) (s : Rho → Sr) : Rho → Sr := fun ρ => match ρ[i]? with
  | some (some dd) => (match kvsOf dd with
    | some kvs => noX (sLoop g s (kvs.map (·.1)) ρ)
    | none => .bad)
  | _ => .bad
theorem ws_noX {r : Sr} (w : WS X M F E σ H ρ (noX r) D) : WS X M F E0s σ H ρ r D := by
  cases r with
  | ex c ρ2 => exact w.elim
  | nx _ => exact w
  | rt _ => exact w
  | bk _ => exact w
  | ct _ => exact w
  | bad => exact w
theorem ds_forD {i : Nat} {x : Str} {tg : Expr} {p pos : Pos} {ts : List Nat} {body : List Stmt} {gg : PyData → Rho → Option Rho} (mi : M i = false) (hp : PassesOwn (model X.prog X.w) X.A X.env X.xe) (hc : X.calm = true) (hg : ∀ F, DG X M F tg ts gg) (hb : ∀ F, DSs X M F E0s body s)
    (hN : X.N[i]? = some x := by rfl) (hv : Vis X.env.scope x := by first | exact Or.inl rfl | exact Or.inr (Or.inl rfl) | exact Or.inr (Or.inr rfl)) (hd : (x == ("__debug__" : Str)) = false := by decide) (hcd : (x == ("__classdict__" : Str)) = false := by decide)
    (hs : ∀ v, foldedSetIterable (.Name x p) X.env v = pure v := by intro _; rfl) : DS X M F E (.For tg (.Name x p) body [] pos) (sForD i gg s) := by
  have ph := ps_for (pos := pos) hp hc (pi_keys (tg := tg) (pe_var (pos := p) hN hv hd hcd)) (canG_ok hg) (canS2_ok hb) hs
  refine ⟨_, ps_or (ps_lock ph) ph, fun σ H ρ er D w => ?_⟩
  unfold sForD at w
  cases q : ρ[i]? with
  | none =>
    rw [q] at w
    exact w.elim
  | some o =>
    rw [q] at w
    cases o with
    | none => exact w.elim
    | some dd =>
      have w : WS X M F E σ H ρ (match kvsOf dd with | some kvs => noX (sLoop gg s (kvs.map (·.1)) ρ) | none => .bad) D := w
      cases qk : kvsOf dd with
      | none =>
        rw [qk] at w
        exact w.elim
      | some kvs =>
        rw [qk] at w
        have w := ws_noX w
        obtain ⟨v, hv0, rv⟩ := er.im i dd q mi
        have fst : ∀ {ks : List Key} {xs : List V} {ds : List PyData}, ks.length = xs.length → RpA X.K H (RS M F σ ρ false) xs ds → ((ks.map kD).zip ds).map (·.1) = ks.map kD := fun l r => zip_fst _ _ (by rw [List.length_map, l, r.length])
        cases rv with
        | dic h1 h2 h3 h4 =>
          rename_i a ks xs ds
          cases qk
          rw [fst h3 h4] at w
          refine .inl ⟨a, _, h1, trivial, fun od => ?_⟩
          have no : ¬ OwnA M σ ρ a := h2.2 rfl
          have er1 := er.lock (od := od) h1 no
          have hF : ∀ u, F.H0 a = some u → u = .dK (ks.zip xs) := fun u hu => by
            by_cases nu : NT u
            · have := er.old a u hu nu
              rw [h1] at this
              exact (Option.some.inj this).symm
            · exfalso
              refine nu fun ps e => ?_
              subst e
              obtain ⟨qs, e2⟩ := er.old.t a ps hu
              rw [h1] at e2
              cases e2
          refine forD_core (F := lockF F a (.frz od (.dK (ks.zip xs)))) upd_same h3 er1 hv0 ?_
          have back : ∀ {ρ' : Rho} {σ' : L2.St} {H' : Hp}, ER X.K M (lockF F a (.frz od (.dK (ks.zip xs)))) σ' H' ρ' → Evo M σ (upd H a (.frz od (.dK (ks.zip xs)))) ρ σ' H' ρ' → H' a = some (.frz od (.dK (ks.zip xs))) ∧ ER X.K M F σ' (upd H' a (.dK (ks.zip xs))) ρ' ∧ Evo M σ H ρ σ' (upd H' a (.dK (ks.zip xs))) ρ' := fun {ρ' σ' H'} er' ev' => by
            obtain ⟨g1, g2⟩ := ev' a _ upd_same no (by first | assumption | exact fun _ z => nomatch z)
            refine ⟨g1, er'.open hF g1 h2.1 g2, fun b u hb nb nu => ?_⟩
            by_cases c : b = a
            · subst c
              rw [h1] at hb
              cases hb
              exact ⟨upd_same, g2⟩
            · obtain ⟨k1, k2⟩ := ev' b u (by rw [upd_ne c]; exact hb) nb nu
              exact ⟨by rw [upd_ne c]; exact k1, k2⟩
          generalize sLoop gg s (ks.map kD) ρ = r at w ⊢
          cases r with
          | nx ρ' =>
            refine fun σ' H' er' ev' => ?_
            obtain ⟨k1, k2, k3⟩ := back er' ev'
            exact ⟨k1, w σ' _ k2 k3⟩
          | rt e =>
            refine fun v' H' sm rp => ?_
            have g1 : H' a = some (.frz od (.dK (ks.zip xs))) := sm a _ (by show upd F.H0 a _ a = _; exact upd_same)
            refine ⟨g1, w v' _ ⟨fun b u hb nu => ?_, fun {b} q => ?_, fun t => tab_upd (sm.tab ?_) g1 plain_frz, fun b ps q => ?_⟩ (Rp.open g1 h2.1 rp)⟩
            · by_cases c : b = a
              · subst c
                rw [upd_same, hF u hb]
              · rw [upd_ne c]
                exact sm.k b u (by show upd F.H0 a _ b = _; rw [upd_ne c]; exact hb) nu
            · by_cases c : b = a
              · subst c
                rw [upd_same] at q
                cases q
              · rw [upd_ne c] at q
                have : upd F.H0 a (.frz od (.dK (ks.zip xs))) b = none := sm.free q
                rwa [upd_ne c] at this
            · show LamX.Tabs TabL.T (upd F.H0 a (.frz od (.dK (ks.zip xs))))
              cases h0 : F.H0 a with
              | none => exact (same_new h0).tab t
              | some u => exact tab_upd t h0 (hF u h0 ▸ plain_dK)
            · by_cases c : b = a
              · subst c
                cases hF _ q
              · rw [upd_ne c]
                refine sm.t b ps ?_
                show upd F.H0 a _ b = _
                rw [upd_ne c]
                exact q
          | bk ρ' =>
            refine fun σ' H' er' ev' => ?_
            obtain ⟨k1, k2, k3⟩ := back er' ev'
            exact ⟨k1, w σ' _ k2 k3⟩
          | ct ρ' =>
            refine fun σ' H' er' ev' => ?_
            obtain ⟨k1, k2, k3⟩ := back er' ev'
            exact ⟨k1, w σ' _ k2 k3⟩
          | ex c ρ' => exact fun C σ' H' m er' ev' => id (α := False) (w C σ' (upd H' a (.dK (ks.zip xs))) m (back er' ev').2.1 (back er' ev').2.2)
          | bad => exact w
        | dif h1 h3 h4 =>
          rename_i a od ks xs ds
          cases qk
          rw [fst h3 h4] at w
          exact .inr (forD_core h1 h3 er hv0 w)
        | scr _ _ => cases qk
        | rng _ => cases qk
        | dct _ _ _ _ => cases qk
        | dit _ _ _ _ => cases qk
        | bl _ => cases qk
        | non => cases qk
        | int _ => cases qk
        | str _ => cases qk
        | tup _ _ => cases qk
        | lst _ _ _ => cases qk
end
end Pu

set_option Elab.async false
set_option linter.all false
set_option maxRecDepth 100000
set_option maxHeartbeats 2000000
/-! factorial, divmod, truth of a list, order of tuples, reversed(range(n)), max(x, default=d), xs[::-1] of a list -/
namespace Pu
open PySem PySem.Spec PyProof.Rows L2
variable [TabL]
/-! ### factorial -/
def facN : Nat → Nat
  | 0 => 1
  | n + 1 => (n + 1) * facN n
theorem fac_fold (n : Nat) : (List.range n).foldl (fun (p i : Nat) => p * (i + 1)) 1 = facN n := by
  induction n with
  | zero => rfl
  | succ n ih =>
    rw [List.range_succ, List.foldl_append, ih]
    show facN n * (n + 1) = (n + 1) * facN n
    exact Nat.mul_comm _ _
theorem facN_pos : ∀ n, 0 < facN n
  | 0 => Nat.one_pos
  | n + 1 => Nat.mul_pos (Nat.succ_pos n) (facN_pos n)
theorem facN_lt : ∀ n, n ≤ 100 → facN n < 2 ^ (7 * n + 1)
  | 0, _ => by decide
  | n + 1, h => by
    have ih := facN_lt n (by omega)
    have e : 7 * (n + 1) + 1 = 7 + (7 * n + 1) := by omega
    rw [e, Nat.pow_add]
    exact Nat.mul_lt_mul'' (show n + 1 < 2 ^ 7 by omega) ih
def rFac : List V → Hp → VK → Prop := fun vs H Q => ∃ n : Nat, vs = [.int (n : Int)] ∧ n ≤ 100 ∧ Q (.int (facN n : Nat)) H
theorem cr_fac {X : Cx} : CallR X (.builtin "math.factorial") rFac := by
  intro pins s σ H vs us Q I r h
  obtain ⟨n, rfl, hn, q⟩ := h
  obtain ⟨u, rfl, ⟨t, rfl⟩⟩ := vals1 r
  have e : Builtin.Math.factorialNat ((n : Int)).toNat = facN n := by
    show (List.range ((n : Int)).toNat).foldl (fun (p i : Nat) => p * (i + 1)) 1 = facN n
    rw [Int.toNat_natCast]
    exact fac_fold n
  refine PySem.W.mg_factorial_v (c := ((facN n : Nat) : Int)) ?_ ?_ ?_ (by rw [e]) ?_ ⟨.int _, H, I.tok _, ⟨_, rfl⟩, q⟩
  · have e2 : Builtin.Math.maxSsize = 9223372036854775807 := by decide
    rw [e2]
    omega
  · omega
  · have e2 : Builtin.Math.manyFactors = 20000 := by decide
    rw [e2]
    omega
  · have e2 : bitsLine = 134217728 := by decide
    rw [e2]
    have h1 : ((facN n : Nat) : Int).natAbs = facN n := rfl
    rw [h1]
    have h2 := facN_lt n hn
    have h3 := PySem.Flt.log2_lt_of (show 0 < 7 * n + 1 by omega) h2
    omega
def bFac : List PyData → Option PyData := fun ds => match ds with
  | [.int i] => if 0 ≤ i ∧ i ≤ 100 then some (.int (facN i.toNat : Nat)) else none
  | _ => none
theorem s_fac {K : PySem.W.Frag} : SemL K rFac false bFac := fun S H xs ds z Q new r q k => by
  unfold bFac at q
  split at q
  · rename_i i
    by_cases hi : 0 ≤ i ∧ i ≤ 100
    · rw [if_pos hi] at q
      cases q
      cases r with
      | cons r1 r2 =>
        cases r2
        cases r1
        exact ⟨i.toNat, by rw [Int.toNat_of_nonneg hi.1], by omega, k _ H (Same.refl H) (.int _) fun z => nomatch z⟩
    · rw [if_neg hi] at q
      cases q
  · cases q
@[simp] theorem bFac_n {n : Nat} (h : n ≤ 100) : bFac [.int (n : Int)] = some (.int (facN n : Nat)) := by
  show (if 0 ≤ (n : Int) ∧ (n : Int) ≤ 100 then some (PyData.int (facN ((n : Int)).toNat : Nat)) else none) = _
  rw [if_pos ⟨by omega, by omega⟩, Int.toNat_natCast]
/-! ### divmod -/
def rDmW : List V → Hp → VK → Prop := fun xs H Q => ∃ i j, xs = [.int i, .int j] ∧ CDivW i j ∧ NewT Q H [.int (i / j), .int (i % j)]
theorem cr_dm {X : Cx} : CallR X (.builtin "divmod") rDmW := by
  intro pins s σ H xs us Q I r h
  obtain ⟨i, j, rfl, ⟨h1, h2⟩, q⟩ := h
  obtain ⟨t, t', rfl⟩ := Vals.int2 r
  refine divmod_int (by omega) ?_ (.inl (PyProof.noPylong_of_log2 h2))
  rw [Int.fdiv_eq_ediv_of_nonneg i (by omega), Int.fmod_eq_emod_of_nonneg i (by omega)]
  have rv : Vals [V.int (i / j), V.int (i % j)] [Value.int (i / j) s.toks, Value.int (i % j) (s.toks + 1)] := .cons ⟨_, rfl⟩ (.cons ⟨_, rfl⟩ .nil)
  exact Inv.tupNew (h' := s.heap) (tk := s.toks + 1 + 1) (I.tok _) rv (by rw [sizeLine_eq]; show 2 ≤ 16777216; decide) q
def bDm : List PyData → Option PyData := fun ds => match ds with
  | [.int i, .int j] => if divOk j = true then some (.tuple [.int (i / j), .int (i % j)]) else none
  | _ => none
theorem s_dm {K : PySem.W.Frag} : SemL K rDmW false bDm := fun S H xs ds z Q new r q k => by
  unfold bDm at q
  split at q
  · rename_i i j
    by_cases hj : divOk j = true
    · rw [if_pos hj] at q
      cases q
      cases r with
      | cons r1 r2 =>
        cases r2 with
        | cons r2 r3 =>
          cases r3
          cases r1
          cases r2
          refine ⟨i, j, rfl, ?_, fun p o hp hd => k _ _ (same_new hp) (.tup (.inl ⟨o, upd_same, hd⟩) (.cons (.int _) (.cons (.int _) .nil))) fun z => nomatch z⟩
          unfold divOk at hj
          simp only [Bool.and_eq_true, decide_eq_true_eq] at hj
          exact wide_div (b := 240) hj.1 (by omega) (by decide) (by decide)
    · rw [if_neg hj] at q
      cases q
  · cases q
theorem bDm_p {i j : Int} (h : 0 < j) (h2 : j < 2 ^ 240) : bDm [.int i, .int j] = some (tI [i / j, i % j]) := by
  show (if divOk j = true then some (PyData.tuple [.int (i / j), .int (i % j)]) else none) = _
  rw [if_pos]
  · rfl
  · unfold divOk
    rw [decide_eq_true h, decide_eq_true h2]
    rfl
/-! ### the truth of a list or a tuple -/
def asL (f : Rho → Re PyData) : Rho → Re Bool := fun ρ => (f ρ).andThen fun d => match d with | .list ds => .ok (!ds.isEmpty) | .tuple ds => .ok (!ds.isEmpty) | _ => .bad
section
variable {X : Cx} {M : Nat → Bool} {F : Fx} {E : L2.St → XK} {la fa lb fb : Bool} {a b : Expr} {pos : Pos} {f g : Rho → Re PyData}
/-- a built-in function that a name of the module stands for -/
theorem de_callM {id : String} {fr : Bool} {r : List V → Hp → VK → Prop} {gg : List PyData → Option PyData} {x : Str} {es : List Expr} {gs : Rho → Re (List PyData)} {p : Pos} (hc : CallR X (.builtin id) r) (hS : SemL X.K r fr gg) (hm : X.mg x = some (.builtin id))
    (ha : DA X M F E la (a :: es) gs) (hg : Gl X x := by rfl) (hdb : (x == ("__debug__" : Str)) = false := by decide)
    (he : starEach (a :: es) X.env = (false, eval a X.env) :: starEach es X.env := by rfl) (hpl : (backTo pos (starEach es X.env)).any (·.1) = false := by rfl) :
    DE X M F E la fr (.Call (.Name x p) (a :: es) [] pos) (rB gg gs) := by
  obtain ⟨t, pa, ha⟩ := ha
  refine ⟨_, pe_callBfun hc hg hm pa hdb he hpl, fun σ H ρ er Q z => ?_⟩
  refine ha σ H ρ er _ (we_stepA z fun ds vs H1 e s r1 z1 => ?_)
  cases q : gg ds with
  | none =>
    rw [q] at z1
    exact z1.elim
  | some d =>
    rw [q] at z1
    exact hS (RS M F σ ρ la) H1 vs ds d Q (er.same s).freshS r1 q fun v' H' s' r' f' => z1 v' H' s' r' f'
/-- a number, whatever it was read from -/
def nOf : PyData → Re PyData
  | .int i => .ok (.int i)
  | _ => .bad
def rN (f : Rho → Re PyData) : Rho → Re PyData := fun ρ => (f ρ).andThen nOf
@[simp] theorem ap_rN {ρ : Rho} : rN f ρ = (f ρ).andThen nOf := (rfl)
@[simp] theorem nOf_i {i : Int} : nOf (.int i) = .ok (.int i) := (rfl)
theorem de_cast (ha : DE X M F E la fa a f) : DE X M F E false false a (rN f) := by
  obtain ⟨t, pa, ha⟩ := ha
  refine ⟨_, pa, fun σ H ρ er Q z => ?_⟩
  refine ha σ H ρ er _ (we_step z fun d v H1 e1 s1 r1 _ z1 => ?_)
  cases r1 with
  | int i => exact z1 _ H1 (Same.refl _) (.int i) fun z => nomatch z
  | lst _ _ _ => exact z1.elim
  | bl _ => exact z1.elim
  | non => exact z1.elim
  | str _ => exact z1.elim
  | tup _ _ => exact z1.elim
  | scr _ _ => exact z1.elim
  | dic _ _ _ _ => exact z1.elim
  | dit _ _ _ _ => exact z1.elim
  | dif _ _ _ => exact z1.elim
  | rng _ => exact z1.elim
  | dct _ _ _ _ => exact z1.elim
theorem rpA_empty {K : PySem.W.Frag} {H : Hp} {S : Addr → Prop} {vs : List V} {ds : List PyData} (r : RpA K H S vs ds) : (!vs.isEmpty) = !ds.isEmpty := by
  cases r with
  | nil => rfl
  | cons _ _ => rfl
theorem dt_lst (ha : DE X M F E la fa a f) (he : ∀ whole, isTrue a X.env whole = (do let v ← whole; standAt a.pos; holding [v] (truthy v)) := by intro _; rfl) : DT X M F E a (asL f) := by
  obtain ⟨ta, pa, ha⟩ := ha
  refine ⟨_, pt_truth pa he, fun σ H ρ er Q w => ?_⟩
  refine ha σ H ρ er _ (wt_step w fun d v H1 e s1 q1 _ w1 => ?_)
  cases q1 with
  | lst h1 _ rr =>
    refine ⟨_, .inl ⟨_, SqL.of h1, rfl⟩, ?_⟩
    rw [rpA_empty rr]
    exact w1 H1 (Same.refl _)
  | tup h1 rr =>
    refine ⟨_, .inr (.inl ⟨_, h1.sq, rfl⟩), ?_⟩
    rw [rpA_empty rr]
    exact w1 H1 (Same.refl _)
  | bl _ => exact w1.elim
  | non => exact w1.elim
  | int _ => exact w1.elim
  | str _ => exact w1.elim
  | scr _ _ => exact w1.elim
  | dic _ _ _ _ => exact w1.elim
  | dit _ _ _ _ => exact w1.elim
  | dif _ _ _ => exact w1.elim
  | rng _ => exact w1.elim
  | dct _ _ _ _ => exact w1.elim
/-! ### t < u of tuples of numbers -/
def oLtT : PyData → PyData → Option PyData := fun d e => match d, e with
  | .tuple xs, .tuple ys => (asInts xs).bind fun ns => (asInts ys).map fun ms => .bool (HT.lexLt ns ms)
  | _, _ => none
theorem s_ltT {K : PySem.W.Frag} : SemB K (rLtT K) false oLtT := fun S H x y d e z Q new rx ry q k => by
  unfold oLtT at q
  split at q
  · obtain ⟨ns, e1, q⟩ := Option.bind_eq_some_iff.mp q
    obtain ⟨ms, e2, rfl⟩ := Option.map_eq_some_iff.mp q
    rw [asInts_eq e1] at rx
    rw [asInts_eq e2] at ry
    cases rx with
    | tup h1 r1 =>
      cases ry with
      | tup h2 r2 =>
        rw [RpA.of_ints r1] at h1
        rw [RpA.of_ints r2] at h2
        exact ⟨_, _, ns, ms, rfl, rfl, h1.sq, h2.sq, k _ H (Same.refl H) (.bl _) fun z => nomatch z⟩
  · cases q
theorem op_ltT' {k : Nat} (r : Room k X.A) : OpR X (compareOp .Lt) (rLtT X.K) := op_ltT (by have := ru r; omega)
@[simp] theorem oLtT_t {ns ms : List Int} : oLtT (tI ns) (tI ms) = some (.bool (HT.lexLt ns ms)) := by
  show ((asInts (ns.map PyData.int)).bind fun ns => (asInts (ms.map PyData.int)).map fun ms => PyData.bool (HT.lexLt ns ms)) = _
  rw [asInts_map, asInts_map]
  rfl
/-! ### reversed(range(n)) -/
def dnI (n : Nat) : List Int := (List.range n).map fun (k : Nat) => (n : Int) - 1 - (k : Int)
def rgRev : List PyData → Re (List PyData) := fun ds => match ds with
  | [.int j] => if small62 j = true then .ok ((dnI j.toNat).map PyData.int) else .bad
  | _ => .bad
theorem walk_dn {S : Addr → Prop} {K : PySem.W.Frag} {H1 : Hp} (n : Nat) : Walks K S (Itc (0 + (n : Int) - 1) (-1) n) ((dnI n).map PyData.int) H1 := fun H2 kp i => by
  have hlen : ((dnI n).map PyData.int).length = n := by simp [dnI]
  refine ⟨fun d hd => ?_, fun hl => by rw [hlen] at hl; exact Nat.le_of_eq hl.symm⟩
  have hi : i < n := by
    have := getSome hd
    rwa [hlen] at this
  have hd' : d = .int ((n : Int) - 1 - (i : Int)) := by
    unfold dnI at hd
    rw [List.map_map, List.getElem?_map, List.getElem?_range hi] at hd
    exact (Option.some.inj hd).symm
  refine ⟨hi, fun x H' y => ?_⟩
  obtain ⟨rfl, rfl⟩ := y
  rw [hd', show (0 : Int) + (n : Int) - 1 + (i : Int) * (-1) = (n : Int) - 1 - (i : Int) by omega]
  exact ⟨Same.refl _, .int _⟩
theorem di_rev {tg : Expr} {p pp q : Pos} (hg : Gl X "reversed") (hm : X.mg "reversed" = none) (hg2 : Gl X "range") (hm2 : X.mg "range" = none) (ha : DE X M F E la fa a f)
    (na : starEach [a] X.env = (false, eval a X.env) :: starEach [] X.env := by rfl)
    (nc : starEach [Expr.Call (.Name "range" pp) [a] [] q] X.env = (false, eval (.Call (.Name "range" pp) [a] [] q) X.env) :: starEach [] X.env := by rfl) :
    DI X M F E tg (.Call (.Name "reversed" p) [.Call (.Name "range" pp) [a] [] q] [] pos) (fun ρ => (f ρ).andThen fun d => rgRev [d]) := by
  obtain ⟨t, pa, ha⟩ := ha
  refine ⟨_, pi_revR hg hm (prg_1 hg2 hm2 pa na) nc, fun σ H ρ er R w => ?_⟩
  refine ha σ H ρ er _ (wi_step w fun d v H1 e sm r w1 => ?_)
  unfold rgRev at w1
  cases r with
  | int j =>
    have w1 : WI X M F E σ ρ H1 (if small62 j = true then .ok ((dnI j.toNat).map PyData.int) else .bad) R := w1
    by_cases hj : small62 j = true
    · rw [if_pos hj] at w1
      unfold small62 at hj
      simp only [Bool.and_eq_true, decide_eq_true_eq] at hj
      refine ⟨j, rfl, by omega, by omega, by omega, by omega, w1 _ H1 (Same.refl _) ?_⟩
      rw [show (j - 0).toNat = j.toNat by omega]
      exact walk_dn j.toNat
    · rw [if_neg hj] at w1
      exact w1.elim
  | bl _ => exact w1.elim
  | non => exact w1.elim
  | str _ => exact w1.elim
  | tup _ _ => exact w1.elim
  | lst _ _ _ => exact w1.elim
  | scr _ _ => exact w1.elim
  | dic _ _ _ _ => exact w1.elim
  | dit _ _ _ _ => exact w1.elim
  | dif _ _ _ => exact w1.elim
  | rng _ => exact w1.elim
  | dct _ _ _ _ => exact w1.elim
def iRev (f : Rho → Re PyData) : Rho → Re (List PyData) := fun ρ => (f ρ).andThen fun d => rgRev [d]
@[simp] theorem ap_iRev {ρ : Rho} : iRev f ρ = (f ρ).andThen fun d => rgRev [d] := (rfl)
theorem rgRev_n {n : Nat} (h : n ≤ 1000000) : rgRev [.int (n : Int)] = .ok ((dnI n).map PyData.int) := by
  show (if small62 (n : Int) = true then Re.ok ((dnI ((n : Int)).toNat).map PyData.int) else .bad) = _
  rw [if_pos (small_ok (by omega) (by omega)), Int.toNat_natCast]
/-! ### max(x, default=d) of a list of numbers -/
def maxO (d : Int) : List Int → Int
  | [] => d
  | n :: ns => maxZ n ns
def rMaxKD (K : PySem.W.Frag) : List V → List V → Hp → VK → Prop := fun vs zs H Q => ∃ (a : Addr) (ns : List Int) (d : Int), vs = [.ref a] ∧ zs = [.int d] ∧ SqL K H a (ns.map V.int) ∧ Q (.int (maxO d ns)) H
theorem cr_maxD (hc : X.calm = true) {k : Nat} (hr : Room k X.A) : CallRK X (.builtin "max") [Str.ofString "default"] (rMaxKD X.K) := by
  intro pins s σ H vs zs us ws Q I r rz h
  obtain ⟨a, ns, d, rfl, rfl, hs, q⟩ := h
  obtain rfl := Vals.ref1 r
  obtain ⟨w1, rfl, ⟨td, rfl⟩⟩ := vals1 rz
  obtain ⟨its, rv, hl, hz⟩ := I.list hs
  obtain ⟨as, ra⟩ := Dp.readsAll I (ns.map PyData.int) _ its (dpAll_ints ns) rv
  have hu := hr.units
  have hde := depth_ints ns
  refine PySem.W.max_list_default (xs := ns.map PyData.int) (I.ok.hd hc) hl.isList ra (alike_ints ns) (by omega) (fun e h' tk kp => ?_) fun y ys i v h' tk bs e hv rd kp => ?_
  · have e2 : ns = [] := List.map_eq_nil_iff.mp e
    subst e2
    exact ⟨.int _, H, I.kept (t' := tk) kp, ⟨td, rfl⟩, q⟩
  · cases ns with
    | nil => cases e
    | cons n ns =>
      cases e
      rw [maxD_ints] at rd
      obtain ⟨t, rfl⟩ : ∃ t, v = .int (maxZ n ns) t := by
        cases rd
        exact ⟨_, rfl⟩
      exact ⟨.int _, H, I.kept (t' := tk) kp, ⟨t, rfl⟩, q⟩
def oMaxD : PyData → PyData → Option PyData := fun x d => match x, d with
  | .list xs, .int d => (asInts xs).map fun ns => .int (maxO d ns)
  | _, _ => none
theorem s_maxD {K : PySem.W.Frag} : SemB K (fun x y H Q => rMaxKD K [x] [y] H Q) false oMaxD := fun S H x y d e z Q new rx ry q k => by
  unfold oMaxD at q
  split at q
  · obtain ⟨ns, e, rfl⟩ := Option.map_eq_some_iff.mp q
    cases ry
    rw [asInts_eq e] at rx
    cases rx with
    | lst h1 s1 r1 =>
      rw [RpA.of_ints r1] at h1
      exact ⟨_, ns, _, rfl, rfl, SqL.of h1, k _ H (Same.refl H) (.int _) fun z => nomatch z⟩
  · cases q
theorem de_maxD {p kpos : Pos} {k : Nat} (hc : X.calm = true) (hr : Room k X.A) (hm : X.mg "max" = none) (ha : DE X M F E la fa a f) (hb : DE X M F E lb fb b g) (hg : Gl X "max" := by rfl)
    (hs : starEach [a] X.env = (false, eval a X.env) :: starEach [] X.env := by rfl)
    (he : backTo pos (starEach [a] X.env) = (false, eval a X.env) :: backTo pos (starEach [] X.env) := by rfl) (hpl : (backTo pos (starEach [a] X.env)).any (·.1) = false := by rfl)
    (hall : (backToKw pos (keywordEach [⟨some "default", b, kpos⟩] X.env)).all (·.1.isSome) = true := by rfl) (hnone : (backToKw pos (keywordEach [⟨some "default", b, kpos⟩] X.env)).any (·.1.isNone) = false := by rfl)
    (hks : (backToKw pos (keywordEach [⟨some "default", b, kpos⟩] X.env)).filterMap (·.1) = [Str.ofString "default"] := by rfl) :
    DE X M F E (la || lb) false (.Call (.Name "max" p) [a] [⟨some "default", b, kpos⟩] pos) (r2 oMaxD f g) := by
  obtain ⟨ta, pa, ha⟩ := ha
  obtain ⟨tb, pb, hb⟩ := hb
  exact ⟨_, pe_callBK (cr_maxD hc hr) hg hm (by decide +kernel) (pa_cons pa pa_nil hs) (pk_cons pb pk_nil) (by decide) (by decide) he hpl hall hnone hks, fun σ H ρ er Q w => two_run ha hb s_maxD er w⟩
@[simp] theorem oMaxD_l {ns : List Int} {d : Int} : oMaxD (lI ns) (.int d) = some (.int (maxO d ns)) := by
  show (asInts (ns.map PyData.int)).map _ = _
  rw [asInts_map]
  rfl
/-! ### xs[::-1] of a list -/
def oRevL : PyData → Option PyData := fun d => match d with | .list ds => some (.list ds.reverse) | _ => none
theorem de_revL {k : Nat} {p1 p2 p3 : Pos} (ha : DE X M F E la fa a f) : DE X M F E la false (.Subscript a (.Slice none none (some (.UnaryOp .USub (.Constant (.int 1) k p1) p2)) p3) pos) (r1 oRevL f) := by
  obtain ⟨ta, pa, ha⟩ := ha
  refine ⟨_, pe_revL pa, fun σ H ρ er Q z => ?_⟩
  refine ha σ H ρ er _ (we_step z fun d v H1 e1 s1 r1 _ z1 => ?_)
  cases r1 with
  | lst h1 ss rr => exact ⟨_, _, rfl, SqL.of h1, fun p hp => z1 _ _ (same_new hp) (.lst upd_same ((er.same s1).freshS p hp) ((rpA_rev rr).same (same_new hp))) fun z => nomatch z⟩
  | int _ => exact z1.elim
  | bl _ => exact z1.elim
  | non => exact z1.elim
  | str _ => exact z1.elim
  | tup _ _ => exact z1.elim
  | scr _ _ => exact z1.elim
  | dic _ _ _ _ => exact z1.elim
  | dit _ _ _ _ => exact z1.elim
  | dif _ _ _ => exact z1.elim
  | rng _ => exact z1.elim
  | dct _ _ _ _ => exact z1.elim
@[simp] theorem oRevL_l {ns : List Int} : oRevL (lI ns) = some (lI ns.reverse) := by
  show some (PyData.list (ns.map PyData.int).reverse) = _
  rw [← List.map_reverse]
  rfl
/-! ### x = y, y a list of the frame's own: it is x's from then on -/
def sMove (i j : Nat) : Rho → Sr := fun ρ => (vOf ρ[j]?).st ρ fun d => if i < ρ.length then .nx ((ρ.set j none).set i (some d)) else .bad
theorem own_forget {σ : L2.St} {ρ : Rho} {j : Nat} {a : Addr} (o : OwnA M σ (ρ.set j none) a) : OwnA M σ ρ a := by
  obtain ⟨k, d, m, r, s⟩ := o
  have hk : j ≠ k := fun z => by
    subst z
    have h := getSome r
    rw [List.length_set] at h
    rw [List.getElem?_set_self h] at r
    cases r
  rw [List.getElem?_set_ne hk] at r
  exact ⟨k, d, m, r, s⟩
theorem get_forget {ρ : Rho} {j k : Nat} {d : PyData} (r : (ρ.set j none)[k]? = some (some d)) : j ≠ k ∧ ρ[k]? = some (some d) := by
  have hk : j ≠ k := fun z => by
    subst z
    have h := getSome r
    rw [List.length_set] at h
    rw [List.getElem?_set_self h] at r
    cases r
  rw [List.getElem?_set_ne hk] at r
  exact ⟨hk, r⟩
theorem ER.forget {K : PySem.W.Frag} {σ : L2.St} {H : Hp} {ρ : Rho} (e : ER K M F σ H ρ) (j : Nat) : ER K M F σ H (ρ.set j none) := by
  have rs : ∀ a, RS M F σ ρ false a → RS M F σ (ρ.set j none) false a := fun a x => ⟨x.1, fun q o => x.2 q (own_forget o)⟩
  exact ⟨by rw [List.length_set]; exact e.len, e.old, e.new, e.tab, fun k d q mk => by
      obtain ⟨v, s, r⟩ := e.im k d (get_forget q).2 mk
      exact ⟨v, s, r.wide rs⟩, fun k d q mk => by
      obtain ⟨p, s, z, w⟩ := e.ow k d (get_forget q).2 mk
      exact ⟨p, s, z, w.keep (kp_same (Same.refl _)) (fun a _ x _ _ => rs a x) fun _ q _ => q⟩,
    fun i k d d' p mi mk q1 q2 s1 s2 => e.ap i k d d' p mi mk (get_forget q1).2 (get_forget q2).2 s1 s2⟩
theorem ds_move {i j : Nat} {x y : Str} {p1 p2 : Pos} (mi : M i = false) (mj : M j = true) (hN : X.N.Nodup) (hi : X.N[i]? = some x := by rfl) (hj : X.N[j]? = some y := by rfl) (hx : Loc X.env.scope x := by first | exact Or.inl rfl | exact Or.inr rfl)
    (hv : Vis X.env.scope y := by first | exact Or.inl rfl | exact Or.inr (Or.inl rfl) | exact Or.inr (Or.inr rfl)) (hd : (y == ("__debug__" : Str)) = false := by decide) (hcd : (y == ("__classdict__" : Str)) = false := by decide)
    (hs : swapsWith (.Name y p2) (some (.Name x p1)) pos.line X.env = pure false := by rfl) (hw : swappedStores [.Name x p1] (.Name y p2) X.env = pure none := by rfl) (hf : X.fn x = true ∨ X.env.scope.names.lookup x = some .local := by first | exact .inl rfl | exact .inr rfl) :
    DS X M F E (.Assign [.Name x p1] (.Name y p2) pos) (sMove i j) := by
  refine ⟨_, ps_asg (pe_var hj hv hd hcd) (pg_name hN hi hx hf) hs hw, fun σ H ρ er D w => ?_⟩
  unfold sMove at w
  cases q : ρ[j]? with
  | none =>
    rw [q] at w
    exact w.elim
  | some o =>
    cases o with
    | none =>
      rw [q] at w
      exact w.elim
    | some d =>
      rw [q] at w
      have w : WS X M F E σ H ρ (if i < ρ.length then .nx ((ρ.set j none).set i (some d)) else .bad) D := w
      by_cases hl : i < ρ.length
      · rw [if_pos hl] at w
        obtain ⟨p, s, z, ow⟩ := er.ow j d q mj
        have notown : ¬ OwnA M σ (ρ.set j none) p := fun o => by
          obtain ⟨k, d', mk, r, s'⟩ := o
          obtain ⟨hk, r'⟩ := get_forget r
          exact hk (er.ap j k d d' p mj mk q r' s s')
        have er' := er.forget j
        have rs : ∀ a, RS M F σ ρ false a → RS M F σ (ρ.set j none) false a := fun a x => ⟨x.1, fun q o => x.2 q (own_forget o)⟩
        have rp : Rp X.K H (RS M F σ (ρ.set j none) false) (.ref p) d := (ow.keep (kp_same (Same.refl _)) (fun a _ x _ _ => rs a x) fun _ q _ => q).rp ⟨z.2, fun _ => notown⟩
        refine ⟨.ref p, s, ?_⟩
        exact w _ H (er'.set mi rp) fun a u q n _ => ⟨q, fun o => n (own_forget ((own_set mi).mp o))⟩
      · rw [if_neg hl] at w
        exact w.elim
@[simp] theorem ap_sMove {ρ : Rho} {i j : Nat} : sMove i j ρ = (vOf ρ[j]?).st ρ fun d => if i < ρ.length then .nx ((ρ.set j none).set i (some d)) else .bad := (rfl)
def liOf : PyData → Re Bool
  | .list ds => .ok (!ds.isEmpty)
  | .tuple ds => .ok (!ds.isEmpty)
  | _ => .bad
@[simp] theorem ap_asL {ρ : Rho} : asL f ρ = (f ρ).andThen liOf := by
  unfold asL
  congr 1
@[simp] theorem liOf_l {ns : List Int} : liOf (lI ns) = .ok (!ns.isEmpty) := by
  cases ns <;> rfl
end
end Pu

set_option Elab.async false
set_option linter.all false
set_option maxRecDepth 100000
set_option maxHeartbeats 4000000
/-! dicts from tuples of numbers to numbers: the lock, the walk -/
namespace Pu
open PySem PySem.Spec PyProof.Rows L2
variable [TabL]
theorem dct_no {a : Addr} {L : DEn} {u : HO} {P : Prop} (h : some (DctO a L) = some u) (hu : ∀ f, u ≠ .ext f := by intro _ z; cases z) : P := by
  unfold DctO at h
  exact absurd (Option.some.inj h).symm (hu _)
section
variable {K : PySem.W.Frag} {H : Hp} {S : Addr → Prop} {d : Addr} {od : Obj} {L0 : DEn}
/-! what a lock changes -/
theorem tupD_lockT {a : Addr} {ys : List V} (hd : H d = some (DctO d L0)) (h : TupD K H a ys) : TupD K (upd H d (.frz od (DctO d L0))) a ys := by
  rcases h with ⟨o, h, hn⟩ | h
  · refine .inl ⟨o, ?_, hn⟩
    rw [upd_ne fun e => ?_]
    · exact h
    · rw [e, hd] at h
      exact dct_no h
  · exact .inr h
theorem fzL_lockT {a : Addr} {ys : List V} (hd : H d = some (DctO d L0)) (h : FzL K H S a ys) : FzL K (upd H d (.frz od (DctO d L0))) S a ys := by
  rcases h with ⟨h, z⟩ | ⟨o, h⟩ | h
  · refine .inl ⟨?_, z⟩
    rw [upd_ne fun e => ?_]
    · exact h
    · rw [e, hd] at h
      exact dct_no h
  · refine .inr (.inl ⟨o, ?_⟩)
    rw [upd_ne fun e => ?_]
    · exact h
    · rw [e, hd] at h
      exact dct_no h
  · exact .inr (.inr h)
theorem dctF_lockT {a : Addr} {L : DEn} (hd : H d = some (DctO d L0)) (h : DctF H S a L) : DctF (upd H d (.frz od (DctO d L0))) S a L := by
  by_cases e : a = d
  · subst e
    rcases h with ⟨h, z⟩ | ⟨o, h⟩
    · refine .inr ⟨od, ?_⟩
      rw [upd_same]
      have q : DctO a L0 = DctO a L := Option.some.inj (hd.symm.trans h)
      rw [q]
    · exact dct_no (hd.symm.trans h)
  · rcases h with ⟨h, z⟩ | ⟨o, h⟩
    · exact .inl ⟨by rw [upd_ne e]; exact h, z⟩
    · exact .inr ⟨o, by rw [upd_ne e]; exact h⟩
theorem dctK_lockT {L : DEn} (hd : H d = some (DctO d L0)) (h : DctK K H L) : DctK K (upd H d (.frz od (DctO d L0))) L := fun p hp => tupD_lockT hd (h p hp)
mutual
theorem Rp.lockT (hd : H d = some (DctO d L0)) : ∀ {e : PyData} {v : V}, Rp K H S v e → Rp K (upd H d (.frz od (DctO d L0))) S v e
  | _, _, .non => .non
  | _, _, .bl b => .bl b
  | _, _, .int i => .int i
  | _, _, .str x => .str x
  | _, _, .tup h1 h2 => .tup (tupD_lockT hd h1) (RpA.lockT hd h2)
  | _, _, .lst (a := a) h1 h2 h3 => .lst (by
      rw [upd_ne fun e => ?_]
      · exact h1
      · rw [e, hd] at h1
        exact dct_no h1) h2 (RpA.lockT hd h3)
  | _, _, .dct h1 h2 h3 h4 => .dct (dctF_lockT hd h1) (dctK_lockT hd h2) h3 h4
  | _, _, .scr h1 h3 => .scr (fzL_lockT hd h1) (RpA.lockT hd h3)
  | _, _, .dic (a := a) h1 h2 h3 h4 => .dic (by
      rw [upd_ne fun e => ?_]
      · exact h1
      · rw [e, hd] at h1
        exact dct_no h1) h2 h3 (RpA.lockT hd h4)
  | _, _, .dit (a := a) h1 h2 h3 h4 => .dit (by
      rw [upd_ne fun e => ?_]
      · exact h1
      · rw [e, hd] at h1
        exact dct_no h1) h2 h3 (RpA.lockT hd h4)
  | _, _, .dif (a := a) h1 h3 h4 => .dif (by
      rw [upd_ne fun e => ?_]
      · exact h1
      · rw [e, hd] at h1
        exact dct_no h1) h3 (RpA.lockT hd h4)
  | _, _, .rng (a := a) h1 => .rng (by
      rw [upd_ne fun e => ?_]
      · exact h1
      · rw [e, hd] at h1
        exact dct_no h1)
theorem RpA.lockT (hd : H d = some (DctO d L0)) : ∀ {es : List PyData} {vs : List V}, RpA K H S vs es → RpA K (upd H d (.frz od (DctO d L0))) S vs es
  | _, _, .nil => .nil
  | _, _, .cons h1 h2 => .cons (Rp.lockT hd h1) (RpA.lockT hd h2)
end
theorem tupD_openT {a : Addr} {ys : List V} (hd : H d = some (.frz od (DctO d L0))) (h : TupD K H a ys) : TupD K (upd H d (DctO d L0)) a ys := by
  rcases h with ⟨o, h, hn⟩ | h
  · refine .inl ⟨o, ?_, hn⟩
    rw [upd_ne fun e => ?_]
    · exact h
    · rw [e, hd] at h
      exact dct_no (congrArg some (HO.frz.inj (Option.some.inj h)).2)
  · exact .inr h
theorem fzL_openT {a : Addr} {ys : List V} (hd : H d = some (.frz od (DctO d L0))) (h : FzL K H S a ys) : FzL K (upd H d (DctO d L0)) S a ys := by
  rcases h with ⟨h, z⟩ | ⟨o, h⟩ | h
  · refine .inl ⟨?_, z⟩
    rw [upd_ne fun e => ?_]
    · exact h
    · rw [e, hd] at h
      cases h
  · refine .inr (.inl ⟨o, ?_⟩)
    rw [upd_ne fun e => ?_]
    · exact h
    · rw [e, hd] at h
      exact dct_no (congrArg some (HO.frz.inj (Option.some.inj h)).2)
  · exact .inr (.inr h)
theorem dctF_openT {a : Addr} {L : DEn} (hd : H d = some (.frz od (DctO d L0))) (hS : S d) (h : DctF H S a L) : DctF (upd H d (DctO d L0)) S a L := by
  by_cases e : a = d
  · subst e
    rcases h with ⟨h, z⟩ | ⟨o, h⟩
    · have q := hd.symm.trans h
      cases q
    · refine .inl ⟨?_, hS⟩
      rw [upd_same]
      have q : HO.frz od (DctO a L0) = HO.frz o (DctO a L) := Option.some.inj (hd.symm.trans h)
      exact congrArg some (HO.frz.inj q).2
  · rcases h with ⟨h, z⟩ | ⟨o, h⟩
    · exact .inl ⟨by rw [upd_ne e]; exact h, z⟩
    · exact .inr ⟨o, by rw [upd_ne e]; exact h⟩
theorem dctK_openT {L : DEn} (hd : H d = some (.frz od (DctO d L0))) (h : DctK K H L) : DctK K (upd H d (DctO d L0)) L := fun p hp => tupD_openT hd (h p hp)
mutual
theorem Rp.openT (hd : H d = some (.frz od (DctO d L0))) (hS : S d) : ∀ {e : PyData} {v : V}, Rp K H S v e → Rp K (upd H d (DctO d L0)) S v e
  | _, _, .non => .non
  | _, _, .bl b => .bl b
  | _, _, .int i => .int i
  | _, _, .str x => .str x
  | _, _, .tup h1 h2 => .tup (tupD_openT hd h1) (RpA.openT hd hS h2)
  | _, _, .lst (a := a) h1 h2 h3 => .lst (by
      rw [upd_ne fun e => ?_]
      · exact h1
      · rw [e, hd] at h1
        cases h1) h2 (RpA.openT hd hS h3)
  | _, _, .dct h1 h2 h3 h4 => .dct (dctF_openT hd hS h1) (dctK_openT hd h2) h3 h4
  | _, _, .scr h1 h3 => .scr (fzL_openT hd h1) (RpA.openT hd hS h3)
  | _, _, .dic (a := a) h1 h2 h3 h4 => .dic (by
      rw [upd_ne fun e => ?_]
      · exact h1
      · rw [e, hd] at h1
        cases h1) h2 h3 (RpA.openT hd hS h4)
  | _, _, .dit (a := a) h1 h2 h3 h4 => .dit (by
      rw [upd_ne fun e => ?_]
      · exact h1
      · rw [e, hd] at h1
        cases h1) h2 h3 (RpA.openT hd hS h4)
  | _, _, .dif (a := a) h1 h3 h4 => .dif (by
      rw [upd_ne fun e => ?_]
      · exact h1
      · rw [e, hd] at h1
        exact dct_no (congrArg some (HO.frz.inj (Option.some.inj h1)).2)) h3 (RpA.openT hd hS h4)
  | _, _, .rng (a := a) h1 => .rng (by
      rw [upd_ne fun e => ?_]
      · exact h1
      · rw [e, hd] at h1
        cases h1)
theorem RpA.openT (hd : H d = some (.frz od (DctO d L0))) (hS : S d) : ∀ {es : List PyData} {vs : List V}, RpA K H S vs es → RpA K (upd H d (DctO d L0)) S vs es
  | _, _, .nil => .nil
  | _, _, .cons h1 h2 => .cons (Rp.openT hd hS h1) (RpA.openT hd hS h2)
end
end

section
variable {X : Cx} {M : Nat → Bool} {F : Fx} {E : L2.St → XK} {σ σ1 : L2.St} {ρ ρ1 : Rho} {H H' H1 : Hp} {D : Ends} {s : Rho → Sr} {d : Addr} {od : Obj} {L0 : DEn}
theorem ER.lockT (er : ER X.K M F σ H ρ) (hd : H d = some (DctO d L0)) (no : ¬ OwnA M σ ρ d) : ER X.K M (lockF F d (.frz od (DctO d L0))) σ (upd H d (.frz od (DctO d L0))) ρ := by
  refine ⟨er.len, ⟨fun a u q nu => ?_, fun {a} q => ?_, fun _ => tab_upd er.tab hd plain_dct, fun a ps q => ?_⟩, fun a q => ?_, tab_upd er.tab hd plain_dct, fun i e r m => ?_, fun i e r m => ?_, er.ap⟩
  · by_cases c : a = d
    · subst c
      have q : upd F.H0 a (.frz od (DctO _ L0)) a = some u := q
      rw [upd_same] at q
      rw [upd_same]
      exact q
    · have q : upd F.H0 d (.frz od (DctO d L0)) a = some u := q
      rw [upd_ne c] at q ⊢
      exact er.old a u q nu
  · show upd F.H0 d (.frz od (DctO d L0)) a = Option.none
    by_cases c : a = d
    · subst c
      rw [upd_same] at q
      cases q
    · rw [upd_ne c] at q ⊢
      exact er.old.free q
  · have q : upd F.H0 d (.frz od (DctO d L0)) a = some (.tbl ps) := q
    by_cases c : a = d
    · subst c
      rw [upd_same] at q
      cases q
    · rw [upd_ne c] at q ⊢
      exact er.old.t a ps q
  · refine er.new a ?_
    by_cases c : a = d
    · subst c
      rw [upd_same] at q
      cases q
    · rwa [upd_ne c] at q
  · obtain ⟨v, hv, rp⟩ := er.im i e r m
    exact ⟨v, hv, Rp.lockT hd rp⟩
  · obtain ⟨p, hp, z, w⟩ := er.ow i e r m
    have ne : p ≠ d := fun c => no ⟨i, e, m, r, c ▸ hp⟩
    refine ⟨p, hp, ⟨?_, z.2⟩, ?_⟩
    · show upd F.H0 d (.frz od (DctO d L0)) p = Option.none
      rw [upd_ne ne]
      exact z.1
    · cases w with
      | lst h0 r0 => exact .lst (by rw [upd_ne ne]; exact h0) (RpA.lockT hd r0)
      | dic h0 l0 r0 => exact .dic (by rw [upd_ne ne]; exact h0) l0 (RpA.lockT hd r0)
      | dct h0 l0 r0 => exact .dct (by rw [upd_ne ne]; exact h0) (dctK_lockT hd l0) r0
      | dit h0 l0 r0 => exact .dit ⟨(upd_ne ne).trans h0.1, (upd_ne fun c => by
          have h2 := h0.2
          rw [c, hd] at h2
          cases h2).trans h0.2⟩ l0 (RpA.lockT hd r0)
theorem ER.openT (er : ER X.K M (lockF F d (.frz od (DctO d L0))) σ H ρ) (hF : ∀ u, F.H0 d = some u → u = DctO d L0) (hd : H d = some (.frz od (DctO d L0))) (hS : F.S0 d) (no : ¬ OwnA M σ ρ d) : ER X.K M F σ (upd H d (DctO d L0)) ρ := by
  have rs : RS M (lockF F d (.frz od (DctO d L0))) σ ρ false d := ⟨hS, fun _ => no⟩
  refine ⟨er.len, ⟨fun a u q nu => ?_, fun {a} q => ?_, fun _ => tab_upd er.tab hd plain_frz, fun a ps q => ?_⟩, fun a q => ?_, tab_upd er.tab hd plain_frz, fun i e r m => ?_, fun i e r m => ?_, er.ap⟩
  · by_cases c : a = d
    · subst c
      rw [upd_same, hF u q]
    · rw [upd_ne c]
      refine er.old.k a u ?_ nu
      show upd F.H0 d (.frz od (DctO d L0)) a = some u
      rw [upd_ne c]
      exact q
  · by_cases c : a = d
    · subst c
      rw [upd_same] at q
      cases q
    · rw [upd_ne c] at q
      have : upd F.H0 d (.frz od (DctO d L0)) a = Option.none := er.old.free q
      rwa [upd_ne c] at this
  · by_cases c : a = d
    · subst c
      cases hF _ q
    · rw [upd_ne c]
      refine er.old.t a ps ?_
      show upd F.H0 d (.frz od (DctO d L0)) a = some (.tbl ps)
      rw [upd_ne c]
      exact q
  · refine er.new a ?_
    by_cases c : a = d
    · subst c
      rw [upd_same] at q
      cases q
    · rwa [upd_ne c] at q
  · obtain ⟨v, hv, rp⟩ := er.im i e r m
    exact ⟨v, hv, Rp.openT hd rs rp⟩
  · obtain ⟨p, hp, z, w⟩ := er.ow i e r m
    have ne : p ≠ d := fun c => no ⟨i, e, m, r, c ▸ hp⟩
    refine ⟨p, hp, ⟨?_, z.2⟩, ?_⟩
    · have z1 : upd F.H0 d (.frz od (DctO d L0)) p = Option.none := z.1
      rwa [upd_ne ne] at z1
    · cases w with
      | lst h0 r0 => exact .lst (by rw [upd_ne ne]; exact h0) (RpA.openT hd rs r0)
      | dic h0 l0 r0 => exact .dic (by rw [upd_ne ne]; exact h0) l0 (RpA.openT hd rs r0)
      | dct h0 l0 r0 => exact .dct (by rw [upd_ne ne]; exact h0) (dctK_openT hd l0) r0
      | dit h0 l0 r0 => exact .dit ⟨(upd_ne ne).trans h0.1, (upd_ne fun c => by
          have h2 := h0.2
          rw [c, hd] at h2
          cases h2).trans h0.2⟩ l0 (RpA.openT hd rs r0)

end
end Pu

set_option Elab.async false
set_option linter.all false
set_option maxRecDepth 100000
set_option maxHeartbeats 4000000
/-! dicts from tuples of numbers to numbers: for k in d, [.. for k in d] -/
namespace Pu
open PySem PySem.Spec PyProof.Rows L2
/-! ### the walk over the keys -/
def Itx (d : Addr) (o : Obj) (L : DEn) : It :=
  ⟨fun i H => H d = some (.frz o (DctO d L)) ∧ i < L.length, fun i H x H' => H' = H ∧ ∃ p, L[i]? = some p ∧ x = .ref p.2.1, fun i H => H d = some (.frz o (DctO d L)) ∧ L.length ≤ i⟩
theorem vl_get {L : DEn} {xs : List (List Int × Addr × Value)} (h : VL L xs) : ∀ {i : Nat} {p : List Int × Addr × Int}, L[i]? = some p → ∃ q, xs[i]? = some q ∧ p.1 = q.1 ∧ p.2.1 = q.2.1 ∧ ∃ t, q.2.2 = Value.int p.2.2 t := by
  unfold VL at h
  induction h with
  | nil => intro i p e; simp at e
  | @cons a b as bs hab t ih =>
    intro i p e
    cases i with
    | zero =>
      have e : some a = some p := by simpa using e
      injection e with e
      rw [← e]
      exact ⟨b, by simp, hab⟩
    | succ i => exact (ih (by simpa using e)).imp fun q z => ⟨by simpa using z.1, z.2⟩
section
variable {X : Cx} {pins : List (Addr × Obj)} {σ : L2.St} {H : Hp} {s : Shared} {d : Addr} {o : Obj}
theorem frzX {L : DEn} (I : Inv X pins σ H s) (h : H d = some (.frz o (DctO d L))) : (d == sysModules) = false ∧ s.heap.get? d = some o ∧ o.ExactDict ∧ ∃ (es : Array DictEntry) (ep : Nat), o.data = .dict es ep ∧ es.size = L.length ∧
    ∀ (i : Nat) (p : List Int × Addr × Int), L[i]? = some p → ∃ en : DictEntry, es[i]? = some en ∧ en.key = .ref p.2.1 := by
  obtain ⟨hd, hp, _, _⟩ := I.hok d _ h
  have hp : dctP d L s.heap := hp
  obtain ⟨hs, hz, hn, o', es, ep, xs, ho, hx, hdt, vl, he⟩ := hp
  rw [hd] at ho
  cases ho
  have he := he X.prog X.w
  have l2 : L.length = xs.length := Paired.length vl
  refine ⟨hs, hd, hx, es, ep, hdt, ?_, fun i p e => ?_⟩
  · have l1 : es.size = xs.length := by
      rw [← Array.length_toList, he, List.length_map]
    omega
  · obtain ⟨q, hq, _, e2, _⟩ := vl_get vl e
    have z := entry_at he i
    rw [hq] at z
    exact ⟨_, z, by rw [e2]; rfl⟩
theorem turn_keysX {P : Program} {w : World} {K : PySem.W.Frag} {tg : Expr} {L : DEn} {es : Array DictEntry} {ep : Nat} (it : Addr) (hod : o.data = .dict es ep) : Turn P w K tg (Itx d o L) [it] it (fun i h => h.IsKeyIter it d i L.length ep) where
  mem := by simp
  obj := fun i h st b hb => by
    have e : b = it := by simpa using hb
    subst e
    obtain ⟨oi, e1, _, dd⟩ := st
    exact ⟨oi, e1, fun v z => by rw [dd] at z; cases z⟩
  keep := fun i h h2 st kp => st.at fun oi e => kp it (by simp) oi e
  item := by
    intro Y h1 h2 h3 hc i pp z τ G Ex I hf st hg
    subst h1 h2 h3
    obtain ⟨hd, hi⟩ := hg
    obtain ⟨f0, f1, f2, f3, f4, f5⟩ := hf it (by simp)
    obtain ⟨hs, hgd, hx, es2, ep2, hdt, hsz, ent⟩ := frzX I hd
    obtain ⟨rfl, rfl⟩ := dict_ep hod hdt
    obtain ⟨p, hp⟩ : ∃ p, L[i]? = some p := ⟨L[i], List.getElem?_eq_getElem hi⟩
    obtain ⟨en, hen, hkey⟩ := ent i p hp
    refine next_key_item st hgd hdt hsz hen fun g st2 sb => ?_
    have I1 : Inv Y pp τ G { z with heap := g } := I.turned (t' := z.toks) (fun b ob hb e => (sb.2 b hb).trans e) f0 f1 f3 f4 f5
    obtain ⟨oi, e, c, dd⟩ := id st2
    exact ⟨en.key, rfl, go_of (s := { z with heap := g }) e c dd (by decide) ⟨.ref p.2.1, G, I1, hkey, ⟨rfl, p, hp, rfl⟩, st2, fun b hb => (hf b hb).1⟩⟩
  done := by
    intro Y h1 h2 h3 hc i pp z τ G Ex I hf st hg
    subst h1 h2 h3
    obtain ⟨hd, hi⟩ := hg
    obtain ⟨f0, f1, f2, f3, f4, f5⟩ := hf it (by simp)
    obtain ⟨hs, hgd, hx, es2, ep2, hdt, hsz, ent⟩ := frzX I hd
    obtain ⟨rfl, rfl⟩ := dict_ep hod hdt
    exact next_key_end (I.ok.hd hc) st hgd hdt hsz hi fun g eb => ⟨rfl, I.turned (t' := z.toks) (fun b ob hb e => eb b ob hb e) f0 f1 f3 f4 f5⟩
  self := fun A i z Q Ex st h => by
    refine wpAny_pyIter_slot st.typeIs PySem.F.slot_dict_keyiterator_iter (wpAny_call_entry PySem.F.slot_dict_keyiterator_iter st.typeIs PySem.F.entry_dict_keyiterator_iter ?_ (PySem.F.args_dict_keyiterator_iter_1 _))
    show wpAny _ _ (ret (.ref it)) _ _ z
    exact wpAny_pure ⟨_, rfl, "dict_keyiterator", _, st.typeIs, PySem.F.slot_dict_keyiterator_next.lookup, h⟩
def iKeysX (td : TE) : TI := fun σ H R => td σ H fun x H1 => ∃ d o L, x = .ref d ∧ H1 d = some (.frz o (DctO d L)) ∧ R (Itx d o L) H1
theorem pi_keysX {tg e : Expr} {td : TE} (he : PE X e td) : PI X tg e (iKeysX td) := by
  refine ⟨fun pp z τ G R I h => ?_⟩
  refine thn (he.run pp z τ G _ I h) fun u s1 zz => ?_
  obtain ⟨x, H1, I1, rx, d, o, L, ex, hd, q⟩ := zz
  subst ex
  obtain rfl : u = Value.ref d := rx
  obtain ⟨hs, hgd, hx, es, ep, hdt, hsz, ent⟩ := frzX I1 hd
  refine iter_keys hs hgd hx hdt (pi_one (tk := s1.toks) I1 _ (turn_keysX _ hdt) ⟨_, Heap.get?_push_size _ rfl, rfl, ?_⟩ q)
  rw [hsz] <;> rfl
end
variable [TabL]
/-- the keys as data -/
def keysD (L : DEn) : List PyData := L.map fun p => .tuple (p.1.map .int)
theorem own_there {K : PySem.W.Frag} {M : Nat → Bool} {F : Fx} {σ : L2.St} {ρ : Rho} {H : Hp} {a : Addr} (er : ER K M F σ H ρ) (o : OwnA M σ ρ a) : ∃ u, H a = some u ∧ Mut (some u) := by
  obtain ⟨j, e, m, r, q⟩ := o
  obtain ⟨p, hp, _, w⟩ := er.ow j e r m
  rw [q] at hp
  cases hp
  exact w.there
section
variable {X : Cx} {M : Nat → Bool} {F : Fx} {E : L2.St → XK} {σ σ1 : L2.St} {ρ ρ1 : Rho} {H H' H1 : Hp} {D : Ends} {s : Rho → Sr} {d : Addr} {od : Obj} {L0 : DEn}
theorem forX_core {i : Nat} {ts : List Nat} {gg : PyData → Rho → Option Rho} (hH : H d = some (.frz od (DctO d L0))) (hk : DctK X.K H L0) (er : ER X.K M F σ H ρ) (hs : σ[i]? = some (some (.ref d)))
    (w : WS X M F E0s σ H ρ (sLoop gg s (keysD L0) ρ) D) : tFor (iKeysX (tVar i)) (canG X M ts gg) (canS2 X M E0s s) D σ H := by
  have no : ¬ OwnA M σ ρ d := fun o => by
    obtain ⟨j, e, m, r, q⟩ := o
    obtain ⟨p, hp, _, w⟩ := er.ow j e r m
    rw [q] at hp
    cases hp
    obtain ⟨u, hu, mu⟩ := w.there
    rw [hH] at hu
    cases hu
    exact mu
  have kl : (keysD L0).length = L0.length := List.length_map ..
  refine ⟨.ref d, hs, d, od, L0, rfl, hH, ?_⟩
  refine ⟨fun j m σ' H' => m = L0.length - j ∧ j ≤ L0.length ∧ ∃ ρ', ER X.K M F σ' H' ρ' ∧ Evo M σ H ρ σ' H' ρ' ∧ WS X M F E0s σ' H' ρ' (sLoop gg s ((keysD L0).drop j) ρ') D, ⟨L0.length, by simp, Nat.zero_le _, ρ, er, Evo.refl, w⟩, ?_⟩
  rintro j m σ' H' ⟨rfl, hj, ρ', er', ev', w'⟩
  have hd' : H' d = some (.frz od (DctO d L0)) := (ev' d _ hH no (by first | assumption | exact fun _ z => nomatch z)).1
  by_cases hlt : j < L0.length
  · refine .inr ⟨⟨hd', by omega⟩, fun σ2 H2 => L0.length - (j + 1) = L0.length - (j + 1) ∧ j + 1 ≤ L0.length ∧ ∃ ρ2, ER X.K M F σ2 H2 ρ2 ∧ Evo M σ H ρ σ2 H2 ρ2 ∧ WS X M F E0s σ2 H2 ρ2 (sLoop gg s ((keysD L0).drop (j + 1)) ρ2) D, fun σ2 H2 x => ⟨L0.length - (j + 1), by omega, x⟩, fun x H2 y => ?_⟩
    obtain ⟨rfl, p, hp, rfl⟩ := y
    have hkd : (keysD L0)[j]? = some (.tuple (p.1.map .int)) := by
      unfold keysD
      rw [List.getElem?_map, hp]
      rfl
    rw [drop_get hkd] at w'
    have w' : WS X M F E0s σ' H2 ρ' (match gg (PyData.tuple (p.1.map .int)) ρ' with
      | none => .bad
      | some ρ1 => match s ρ1 with
        | .nx ρ2 => sLoop gg s ((keysD L0).drop (j + 1)) ρ2
        | .ct ρ2 => sLoop gg s ((keysD L0).drop (j + 1)) ρ2
        | .bk ρ2 => .nx ρ2
        | .rt d => .rt d
        | .ex c ρ2 => .ex c ρ2
        | .bad => .bad) D := w'
    cases q1 : gg (PyData.tuple (p.1.map .int)) ρ' with
    | none =>
      rw [q1] at w'
      exact w'.elim
    | some ρ1 =>
      rw [q1] at w'
      have kp : DctK X.K H2 L0 := dctK_keep hk fun a u e nm n => (ev' a u e (fun o => nm (by
        obtain ⟨q, e2, m2⟩ := own_there er o
        rw [e] at e2
        cases e2
        exact m2)) n).1
      have rx : Rp X.K H2 (RS M F σ' ρ' false) (.ref p.2.1) (PyData.tuple (p.1.map .int)) := .tup (kp p (List.mem_of_getElem? hp)) (RpA.ints p.1)
      refine ⟨F, ρ', PyData.tuple (p.1.map .int), ρ1, er', rx, q1, fun σ3 er3 ev3 _ _ => ⟨F, ρ1, er3, ?_⟩⟩
      have w3 := ws_evo ev3 w'
      have w3 : WS X M F E0s σ3 H2 ρ1 (match s ρ1 with
        | .nx ρ2 => sLoop gg s ((keysD L0).drop (j + 1)) ρ2
        | .ct ρ2 => sLoop gg s ((keysD L0).drop (j + 1)) ρ2
        | .bk ρ2 => .nx ρ2
        | .rt d => .rt d
        | .ex c ρ2 => .ex c ρ2
        | .bad => .bad) D := w3
      have ev3' := ev'.trans ev3
      cases q2 : s ρ1 with
      | nx ρ2 =>
        rw [q2] at w3
        exact fun σ4 H4 er4 ev4 => ⟨rfl, hlt, ρ2, er4, ev3'.trans ev4, ws_evo ev4 w3⟩
      | ct ρ2 =>
        rw [q2] at w3
        exact fun σ4 H4 er4 ev4 => ⟨rfl, hlt, ρ2, er4, ev3'.trans ev4, ws_evo ev4 w3⟩
      | bk ρ2 =>
        rw [q2] at w3
        exact w3
      | rt d =>
        rw [q2] at w3
        exact w3
      | ex c ρ2 =>
        rw [q2] at w3
        exact w3
      | bad =>
        rw [q2] at w3
        exact w3
  · have e : j = L0.length := by omega
    subst e
    rw [← kl, List.drop_length] at w'
    exact .inl ⟨⟨hd', by omega⟩, w' σ' H' er' Evo.refl⟩

/-- the entries of such a dict -/
def asTI : PyData → Option (List Int)
  | .tuple xs => asInts xs
  | _ => none
def asEn : List (PyData × PyData) → Option (List (List Int × Int))
  | [] => some []
  | (k, .int v) :: r => (asTI k).bind fun ks => (asEn r).map fun l => (ks, v) :: l
  | _ :: _ => none
def entT : PyData → Option (List (List Int × Int))
  | .dict ((.bool true, .bool true) :: kvs) => asEn kvs
  | _ => none
/-- such a dict as data -/
def dT (l : List (List Int × Int)) : PyData := .dict ((.bool true, .bool true) :: l.map fun p => (.tuple (p.1.map .int), .int p.2))
theorem asEn_map : ∀ l : List (List Int × Int), asEn (l.map fun p => (PyData.tuple (p.1.map .int), PyData.int p.2)) = some l
  | [] => rfl
  | (k, v) :: l => by
    show (asTI (.tuple (k.map .int))).bind _ = _
    have : asTI (.tuple (k.map .int)) = some k := asInts_map k
    rw [this]
    show (asEn (l.map fun p => (PyData.tuple (p.1.map .int), PyData.int p.2))).map _ = _
    rw [asEn_map l]
    rfl
theorem entT_dT (l : List (List Int × Int)) : entT (dT l) = some l := asEn_map l
theorem dctD_dT (L : DEn) : PyData.dict ((.bool true, .bool true) :: dctD L) = dT (L.map fun p => (p.1, p.2.2)) := by
  unfold dctD dT
  rw [List.map_map]
  rfl
theorem keysD_l (L : DEn) : keysD L = (L.map fun p => (p.1, p.2.2)).map fun p => PyData.tuple (p.1.map .int) := by
  unfold keysD
  rw [List.map_map]
  rfl
def sForT (i : Nat) (g : PyData → Rho → Option Rho) (s : Rho → Sr) : Rho → Sr := fun ρ => match ρ[i]? with
  | some (some dd) => (match entT dd with
    | some l => noX (sLoop g s (l.map fun p => .tuple (p.1.map .int)) ρ)
    | none => .bad)
  | _ => .bad
theorem ds_forT {i : Nat} {x : Str} {tg : Expr} {p pos : Pos} {ts : List Nat} {body : List Stmt} {gg : PyData → Rho → Option Rho} (mi : M i = false) (hp : PassesOwn (model X.prog X.w) X.A X.env X.xe) (hc : X.calm = true) (hg : ∀ F, DG X M F tg ts gg) (hb : ∀ F, DSs X M F E0s body s)
    (hN : X.N[i]? = some x := by rfl) (hv : Vis X.env.scope x := by first | exact Or.inl rfl | exact Or.inr (Or.inl rfl) | exact Or.inr (Or.inr rfl)) (hd : (x == ("__debug__" : Str)) = false := by decide) (hcd : (x == ("__classdict__" : Str)) = false := by decide)
    (hs : ∀ v, foldedSetIterable (.Name x p) X.env v = pure v := by intro _; rfl) : DS X M F E (.For tg (.Name x p) body [] pos) (sForT i gg s) := by
  have ph := ps_for (pos := pos) hp hc (pi_keysX (tg := tg) (pe_var (pos := p) hN hv hd hcd)) (canG_ok hg) (canS2_ok hb) hs
  refine ⟨_, ps_or (ps_lock ph) ph, fun σ H ρ er D w => ?_⟩
  unfold sForT at w
  cases q : ρ[i]? with
  | none =>
    rw [q] at w
    exact w.elim
  | some o =>
    rw [q] at w
    cases o with
    | none => exact w.elim
    | some dd =>
      have w : WS X M F E σ H ρ (match entT dd with | some l => noX (sLoop gg s (l.map fun p => .tuple (p.1.map .int)) ρ) | none => .bad) D := w
      cases qk : entT dd with
      | none =>
        rw [qk] at w
        exact w.elim
      | some l =>
        rw [qk] at w
        have w := ws_noX w
        obtain ⟨v, hv0, rv⟩ := er.im i dd q mi
        cases rv with
        | dct h0 hk t1 t2 =>
          rename_i a L
          rw [dctD_dT, entT_dT] at qk
          injection qk with qk
          subst qk
          rw [← keysD_l] at w
          rcases h0 with ⟨h1, hS⟩ | ⟨o, h1⟩
          · refine .inl ⟨a, _, h1, by unfold DctO; trivial, fun od => ?_⟩
            have no : ¬ OwnA M σ ρ a := hS.2 rfl
            have er1 := er.lockT (od := od) h1 no
            have hF : ∀ u, F.H0 a = some u → u = DctO a L := fun u hu => by
              by_cases nu : NT u
              · have := er.old a u hu nu
                rw [h1] at this
                exact (Option.some.inj this).symm
              · exfalso
                refine nu fun ps e => ?_
                subst e
                obtain ⟨qs, e2⟩ := er.old.t a ps hu
                rw [h1] at e2
                cases e2
            refine forX_core (F := lockF F a (.frz od (DctO a L))) upd_same (dctK_lockT h1 hk) er1 hv0 ?_
            have back : ∀ {ρ' : Rho} {σ' : L2.St} {H' : Hp}, ER X.K M (lockF F a (.frz od (DctO a L))) σ' H' ρ' → Evo M σ (upd H a (.frz od (DctO a L))) ρ σ' H' ρ' → H' a = some (.frz od (DctO a L)) ∧ ER X.K M F σ' (upd H' a (DctO a L)) ρ' ∧ Evo M σ H ρ σ' (upd H' a (DctO a L)) ρ' := fun {ρ' σ' H'} er' ev' => by
              obtain ⟨g1, g2⟩ := ev' a _ upd_same no (by first | assumption | exact fun _ z => nomatch z)
              refine ⟨g1, er'.openT hF g1 hS.1 g2, fun b u hb nb nu => ?_⟩
              by_cases c : b = a
              · subst c
                rw [h1] at hb
                cases hb
                exact ⟨upd_same, g2⟩
              · obtain ⟨k1, k2⟩ := ev' b u (by rw [upd_ne c]; exact hb) nb nu
                exact ⟨by rw [upd_ne c]; exact k1, k2⟩
            generalize sLoop gg s (keysD L) ρ = r at w ⊢
            cases r with
            | nx ρ' =>
              refine fun σ' H' er' ev' => ?_
              obtain ⟨k1, k2, k3⟩ := back er' ev'
              exact ⟨k1, w σ' _ k2 k3⟩
            | rt e =>
              refine fun v' H' sm rp => ?_
              have g1 : H' a = some (.frz od (DctO a L)) := sm a _ (by show upd F.H0 a _ a = _; exact upd_same)
              refine ⟨g1, w v' _ ⟨fun b u hb nu => ?_, fun {b} q => ?_, fun t => tab_upd (sm.tab ?_) g1 plain_frz, fun b ps q => ?_⟩ (Rp.openT g1 hS.1 rp)⟩
              · by_cases c : b = a
                · subst c
                  rw [upd_same, hF u hb]
                · rw [upd_ne c]
                  exact sm.k b u (by show upd F.H0 a _ b = _; rw [upd_ne c]; exact hb) nu
              · by_cases c : b = a
                · subst c
                  rw [upd_same] at q
                  cases q
                · rw [upd_ne c] at q
                  have : upd F.H0 a (.frz od (DctO a L)) b = none := sm.free q
                  rwa [upd_ne c] at this
              · show LamX.Tabs TabL.T (upd F.H0 a (.frz od (DctO a L)))
                cases h0 : F.H0 a with
                | none => exact (same_new h0).tab t
                | some u => exact tab_upd t h0 (hF u h0 ▸ plain_dct)
              · by_cases c : b = a
                · subst c
                  cases hF _ q
                · rw [upd_ne c]
                  refine sm.t b ps ?_
                  show upd F.H0 a _ b = _
                  rw [upd_ne c]
                  exact q
            | bk ρ' =>
              refine fun σ' H' er' ev' => ?_
              obtain ⟨k1, k2, k3⟩ := back er' ev'
              exact ⟨k1, w σ' _ k2 k3⟩
            | ct ρ' =>
              refine fun σ' H' er' ev' => ?_
              obtain ⟨k1, k2, k3⟩ := back er' ev'
              exact ⟨k1, w σ' _ k2 k3⟩
            | ex c ρ' => exact fun C σ' H' m er' ev' => id (α := False) (w C σ' (upd H' a (DctO a L)) m (back er' ev').2.1 (back er' ev').2.2)
            | bad => exact w
          · exact .inr (forX_core h1 hk er hv0 w)
        | dic _ _ _ _ => cases qk
        | scr _ _ => cases qk
        | rng _ => cases qk
        | dit _ _ _ _ => cases qk
        | dif _ _ _ => cases qk
        | bl _ => cases qk
        | non => cases qk
        | int _ => cases qk
        | str _ => cases qk
        | tup _ _ => cases qk
        | lst _ _ _ => cases qk
end
end Pu

set_option Elab.async false
set_option linter.all false
set_option maxRecDepth 100000
set_option maxHeartbeats 4000000
/-! [.. for k in d], d a dict from tuples of numbers to numbers -/
namespace Pu
open PySem PySem.Spec PyProof.Rows L2
variable [TabL]
section
variable {X : Cx} {M : Nat → Bool} {F : Fx} {E : L2.St → XK} {σ σ1 : L2.St} {ρ ρ1 : Rho} {H H' H1 : Hp} {D : Ends}
variable {st : Stmt} {rest : List Stmt} {s u : Rho → Sr} {la fa lb fb : Bool} {a b : Expr} {f g : Rho → Re PyData} {p : Rho → Re Bool} {pos : Pos}
theorem lc_runS {ts vs : List Nat} {wi : TI} {its : Rho → Re (List PyData)} {gg : PyData → Rho → Option Rho} {tt : Rho → Re Bool} {lk fr : Bool} (hi : ∀ R, WI X M F E σ ρ H (its ρ) R → wi σ H R)
    (hv : ∀ i ∈ vs, M i = false) (hts : ∀ i ∈ ts, i ∈ vs) (er : ER X.K M F σ H ρ) {Q : VK} (w : WE X M F E lk true σ ρ H (rLc its vs gg tt f ρ) Q) : tLc wi (canG X M ts gg) (canT X M E0s tt) (canE X M E0s lk fr f) vs σ H Q := by
  refine hi _ ?_
  unfold rLc at w
  cases q : its ρ with
  | ex c =>
    rw [q] at w
    exact w
  | bad =>
    rw [q] at w
    exact w
  | ok ds =>
    rw [q] at w
    have w : WE X M F E lk true σ ρ H (if okLen ds.length = true then (match lcGo gg tt f (wipeR ρ vs) ds with | some xs => .ok (.list xs) | none => .bad) else .bad) Q := w
    by_cases hz : okLen ds.length = true
    · rw [if_pos hz] at w
      cases q2 : lcGo gg tt f (wipeR ρ vs) ds with
      | none =>
        rw [q2] at w
        exact w.elim
      | some tot =>
        rw [q2] at w
        refine fun J H1 sm wk Dd hD => ?_
        have er1 := er.same sm
        refine ⟨fun i m H2 => m = ds.length - i ∧ i ≤ ds.length ∧ Same H1 H2 ∧ ∃ acc accd rst, H2 Dd = some (.lst acc) ∧ RpA X.K H2 (fun a => RS M F σ ρ lk a ∧ a ≠ Dd) acc accd ∧ acc.length ≤ i ∧ lcGo gg tt f (wipeR ρ vs) (ds.drop i) = some rst ∧ tot = accd ++ rst,
          ⟨ds.length, by simp, Nat.zero_le _, same_new hD, [], [], tot, upd_same, .nil, Nat.le_refl _, q2, rfl⟩, ?_⟩
        rintro i m H2 ⟨rfl, hi', sm2, acc, accd, rst, e1, r1, l1, g1, t1⟩
        have kp : Kp (fun a => RS M F σ ρ false a ∧ Nn H1 a) H1 H2 := kp_same sm2
        by_cases hlt : i < ds.length
        · obtain ⟨go, yl⟩ := (wk H2 kp i).1 _ (List.getElem?_eq_getElem hlt)
          refine .inr ⟨go, fun H3 => ds.length - (i + 1) = ds.length - (i + 1) ∧ i + 1 ≤ ds.length ∧ Same H1 H3 ∧ ∃ acc accd rst, H3 Dd = some (.lst acc) ∧ RpA X.K H3 (fun a => RS M F σ ρ lk a ∧ a ≠ Dd) acc accd ∧ acc.length ≤ i + 1 ∧ lcGo gg tt f (wipeR ρ vs) (ds.drop (i + 1)) = some rst ∧ tot = accd ++ rst, fun H3 x => ⟨ds.length - (i + 1), by omega, x⟩, fun x H3 y => ?_⟩
          obtain ⟨s3, rx⟩ := yl x H3 y
          rw [drop_get (List.getElem?_eq_getElem hlt)] at g1
          have g1 : (match gg ds[i] (wipeR ρ vs) with
            | none => none
            | some ρ1 => match tt ρ1 with
              | .ok true => (match f ρ1 with | .ok x => (match lcGo gg tt f (wipeR ρ vs) (ds.drop (i + 1)) with | some xs => some (x :: xs) | none => none) | _ => none)
              | .ok false => lcGo gg tt f (wipeR ρ vs) (ds.drop (i + 1))
              | _ => none) = some rst := g1
          cases q3 : gg ds[i] (wipeR ρ vs) with
          | none =>
            rw [q3] at g1
            cases g1
          | some ρ1 =>
            rw [q3] at g1
            have g1 : (match tt ρ1 with
              | .ok true => (match f ρ1 with | .ok x => (match lcGo gg tt f (wipeR ρ vs) (ds.drop (i + 1)) with | some xs => some (x :: xs) | none => none) | _ => none)
              | .ok false => lcGo gg tt f (wipeR ρ vs) (ds.drop (i + 1))
              | _ => none) = some rst := g1
            obtain ⟨erw, rsw⟩ := er1.wipe (vs := vs) hv
            have s13 : Same H1 H3 := sm2.trans s3
            have e3 : H3 Dd = some (.lst acc) := s3 _ _ e1
            have erb := erw.blk hD s13 e3
            have rx' : Rp X.K H3 (RS M (inBlk F Dd) (wipe σ vs) (wipeR ρ vs) false) x ds[i] := rx.wide fun a z => by
              have := rsw false
              refine ⟨⟨z.1.1, fun zz => ?_⟩, ?_⟩
              · rw [zz] at z
                exact z.2.not hD
              · have z1 : RS M F (wipe σ vs) (wipeR ρ vs) false a := by
                  rw [this]
                  exact z.1
                exact z1.2
            refine ⟨inBlk F Dd, wipeR ρ vs, ds[i], ρ1, erb, rx', q3, fun σ4 er4 ev4 wp4 ow4 => ⟨?_, ?_⟩⟩
            · rw [wp4 vs hts]
              exact (show wipe (wipe σ vs) vs = wipe σ vs from by
                have : ∀ (l : List Nat) (τ : L2.St), (∀ i ∈ l, i < τ.length → τ[i]? = some none) → wipe τ l = τ := by
                  intro l
                  induction l with
                  | nil => intro τ _; rfl
                  | cons v l ih =>
                    intro τ h
                    show (wipe τ l).set v none = τ
                    rw [ih τ fun i hi => h i (List.mem_cons_of_mem _ hi)]
                    by_cases hv : v < τ.length
                    · have := h v List.mem_cons_self hv
                      obtain ⟨h1, h2⟩ := List.getElem?_eq_some_iff.mp this
                      rw [← h2, List.set_getElem_self]
                    · rw [List.set_eq_of_length_le (by omega)]
                refine this vs _ fun i hi hl => ?_
                have mem : ∀ (l : List Nat) (i : Nat), i ∈ l → i < (wipe σ l).length → (wipe σ l)[i]? = some none := by
                  intro l
                  induction l with
                  | nil => intro i h; cases h
                  | cons v l ih =>
                    intro i h hl
                    show ((wipe σ l).set v none)[i]? = some none
                    have hl' : i < (wipe σ l).length := by
                      have hl2 : i < ((wipe σ l).set v none).length := hl
                      rwa [List.length_set] at hl2
                    by_cases e : v = i
                    · subst e
                      rw [List.getElem?_set_self hl']
                    · rw [List.getElem?_set_ne e]
                      exact ih i ((List.mem_cons.mp h).resolve_left fun z => e z.symm) hl'
                exact mem vs i hi hl)
            · refine ⟨inBlk F Dd, ρ1, er4, ?_⟩
              cases q4 : tt ρ1 with
              | ex c =>
                rw [q4] at g1
                cases g1
              | bad =>
                rw [q4] at g1
                cases g1
              | ok bb =>
                rw [q4] at g1
                cases bb with
                | false =>
                  refine fun H5 s5 => ?_
                  show (if false = true then _ else _)
                  rw [if_neg Bool.false_ne_true]
                  exact ⟨rfl, hlt, s13.trans s5, acc, accd, rst, s5 _ _ e3, r1.same (s3.trans s5), by omega, g1, t1⟩
                | true =>
                  refine fun H5 s5 => ?_
                  show (if true = true then _ else _)
                  rw [if_pos rfl]
                  have g1 : (match f ρ1 with | .ok x => (match lcGo gg tt f (wipeR ρ vs) (ds.drop (i + 1)) with | some xs => some (x :: xs) | none => none) | _ => none) = some rst := g1
                  cases q5 : f ρ1 with
                  | ex c =>
                    rw [q5] at g1
                    cases g1
                  | bad =>
                    rw [q5] at g1
                    cases g1
                  | ok xd =>
                    rw [q5] at g1
                    have g1 : (match lcGo gg tt f (wipeR ρ vs) (ds.drop (i + 1)) with | some xs => some (xd :: xs) | none => none) = some rst := g1
                    cases q6 : lcGo gg tt f (wipeR ρ vs) (ds.drop (i + 1)) with
                    | none =>
                      rw [q6] at g1
                      cases g1
                    | some xs =>
                      rw [q6] at g1
                      have g1 : some (xd :: xs) = some rst := g1
                      cases g1
                      refine ⟨inBlk F Dd, ρ1, er4.same s5, ?_⟩
                      rw [q5]
                      refine fun v H6 s6 r6 _ => ?_
                      have e6 : H6 Dd = some (.lst acc) := s6 _ _ (s5 _ _ e3)
                      have acl : acc.length < sizeLine := by
                        have := of_decide_eq_true hz
                        exact Nat.lt_of_lt_of_le (show acc.length < 10001 by omega) (by decide)
                      refine ⟨acc, e6, acl, rfl, hlt, ((s13.trans s5).trans s6).put hD e6 plain_lst, acc ++ [v], accd ++ [xd], xs, upd_same, ?_, ?_, rfl, ?_⟩
                      · have kpD : Kp (fun a => RS M F σ ρ lk a ∧ a ≠ Dd) H6 (upd H6 Dd (.lst (acc ++ [v]))) := by
                          refine ⟨fun a u qa xa _ => ?_⟩
                          rw [upd_ne]
                          · exact qa
                          · intro za
                            subst za
                            rcases xa with xa | xa
                            · exact xa.2 rfl
                            · rw [e6] at qa
                              cases qa
                              exact xa trivial
                        have rA : RpA X.K H6 (fun a => RS M F σ ρ lk a ∧ a ≠ Dd) acc accd := r1.same ((s3.trans s5).trans s6)
                        have rV : Rp X.K H6 (fun a => RS M F σ ρ lk a ∧ a ≠ Dd) v xd := r6.wide fun a za => by
                          refine ⟨⟨za.1.1, fun zl => fun o => ?_⟩, za.1.2⟩
                          have rw0 := rsw false
                          -- an own address ahead is own in the block
                          obtain ⟨hh0, hs0, uu, hu⟩ := er1.own o
                          have nb : ¬ OwnA M (wipe σ vs) (wipeR ρ vs) a → False := fun nn => by
                            have : RS M F (wipe σ vs) (wipeR ρ vs) false a := ⟨hs0, fun _ => nn⟩
                            rw [rw0] at this
                            exact this.2 rfl o
                          refine za.2 zl ?_
                          by_cases ob : OwnA M (wipe σ vs) (wipeR ρ vs) a
                          · exact ow4 a ob
                          · exact (nb ob).elim
                        exact (rA.append (.cons rV .nil)).keep kpD fun _ _ x _ _ => x
                      · rw [List.length_append]
                        show acc.length + 1 ≤ i + 1
                        omega
                      · rw [t1, List.append_assoc]
                        rfl
        · have ei : i = ds.length := by omega
          subst ei
          rw [List.drop_length] at g1
          have g1 : some ([] : List PyData) = some rst := g1
          cases g1
          rw [List.append_nil] at t1
          subst t1
          refine .inl ⟨(wk H2 kp _).2 rfl, w (.ref Dd) H2 (sm.trans sm2) (.lst e1 ?_ (r1.wide fun a x => x.1)) fun _ => ⟨Dd, rfl, sm.free hD, .lst e1 r1⟩⟩
          exact er1.freshS _ hD
    · rw [if_neg hz] at w
      exact w.elim

end
theorem OwR.openT {K : PySem.W.Frag} {H : Hp} {S : Addr → Prop} {d pp : Addr} {od : Obj} {L0 : DEn} {e : PyData} (hd : H d = some (.frz od (DctO d L0))) (hS : S d) (w : OwR K H S pp e) : OwR K (upd H d (DctO d L0)) S pp e := by
  have ne : pp ≠ d := fun c => by
    obtain ⟨u, hu, mu⟩ := w.there
    rw [c, hd] at hu
    cases hu
    exact mu
  cases w with
  | lst h0 r0 => exact .lst (by rw [upd_ne ne]; exact h0) (RpA.openT hd hS r0)
  | dic h0 l0 r0 => exact .dic (by rw [upd_ne ne]; exact h0) l0 (RpA.openT hd hS r0)
  | dct h0 l0 r0 => exact .dct (by rw [upd_ne ne]; exact h0) (dctK_openT hd l0) r0
  | dit h0 l0 r0 => exact .dit ⟨(upd_ne ne).trans h0.1, (upd_ne fun c => by
      have h2 := h0.2
      rw [c, hd] at h2
      cases h2).trans h0.2⟩ l0 (RpA.openT hd hS r0)
def itK (dd : PyData) : Re (List PyData) := match entT dd with
  | some l => .ok (l.map fun p => .tuple (p.1.map .int))
  | none => .bad
section
variable {X : Cx} {M : Nat → Bool} {F : Fx} {E : L2.St → XK} {f : Rho → Re PyData} {elt tg iter : Expr} {ifs : List Expr} {scope : Scope} {own : List (Str × Nat)} {ts : List Nat} {pos : Pos} (vs : List Nat) {gg : PyData → Rho → Option Rho} {tt : Rho → Re Bool} {lk fr : Bool}
theorem de_lcT {i : Nat} {x : Str} {p : Pos} (mi : M i = false) (hc : X.calm = true) (hN : X.N.Nodup) (ok : BlkOk X.N X.env.scope scope own) (hv : ∀ i ∈ vs, M i = false)
    (hg : ∀ (s : Shared) (H : Hp) (C : Addr) (cl : List (Str × Addr)) (fp : List Addr) (F : Fx), DG (X.blk s H scope (compEnvC scope cl C X.env) fp) M F tg ts gg)
    (ht : ∀ (s : Shared) (H : Hp) (C : Addr) (cl : List (Str × Addr)) (fp : List Addr), DTs (X.blk s H scope (compEnvC scope cl C X.env) fp) M E0s ifs tt)
    (he : ∀ (s : Shared) (H : Hp) (C : Addr) (cl : List (Str × Addr)) (fp : List Addr) (F : Fx), DE (X.blk s H scope (compEnvC scope cl C X.env) fp) M F E0s lk fr elt f)
    (hx : X.N[i]? = some x := by rfl) (hvx : Vis X.env.scope x := by first | exact Or.inl rfl | exact Or.inr (Or.inl rfl) | exact Or.inr (Or.inr rfl)) (hd : (x == ("__debug__" : Str)) = false := by decide) (hcd : (x == ("__classdict__" : Str)) = false := by decide)
    (hvs : own.map (·.2) = vs := by rfl) (hts : ∀ i ∈ ts, i ∈ vs := by decide) (hs : ∀ v, foldedSetIterable (.Name x p) X.env v = pure v := by intro _; rfl) :
    DE X M F E lk true (.ListComp elt [⟨tg, .Name x p, ifs, 0⟩] scope pos) (rLc (iOf itK (rVar i)) vs gg tt f) := by
  subst hvs
  have pl := pe_lc (g := canG X M ts gg) (tt := canT X M E0s tt) (te := canE X M E0s lk fr f) (elt := elt) (pos := pos) hc hN (pi_keysX (tg := tg) (pe_var (pos := p) hx hvx hd hcd)) ok (fun s H C cl fp => canG_ok (hg s H C cl fp)) (fun s H C cl fp => ht s H C cl fp) (fun s H C cl fp => canE_ok (he s H C cl fp)) hs
  refine ⟨fun σ H Q => tLockE (tLc (iKeysX (tVar i)) (canG X M ts gg) (canT X M E0s tt) (canE X M E0s lk fr f) (own.map (·.2))) σ H Q ∨ tLc (iKeysX (tVar i)) (canG X M ts gg) (canT X M E0s tt) (canE X M E0s lk fr f) (own.map (·.2)) σ H Q, ⟨fun pins s σ H Q I h => h.elim ((pe_lock pl).run pins s σ H Q I) (pl.run pins s σ H Q I)⟩, fun σ H ρ er Q w => ?_⟩
  cases q : ρ[i]? with
  | none =>
    have e : iOf itK (rVar i) ρ = .bad := by
      unfold iOf rVar
      rw [q]
      rfl
    unfold rLc at w
    rw [e] at w
    exact w.elim
  | some o =>
    cases o with
    | none =>
      have e : iOf itK (rVar i) ρ = .bad := by
        unfold iOf rVar
        rw [q]
        rfl
      unfold rLc at w
      rw [e] at w
      exact w.elim
    | some dd =>
      have e0 : iOf itK (rVar i) ρ = itK dd := by
        unfold iOf rVar
        rw [q]
        rfl
      cases qk : entT dd with
      | none =>
        have e : iOf itK (rVar i) ρ = .bad := by
          rw [e0]
          unfold itK
          rw [qk]
        unfold rLc at w
        rw [e] at w
        exact w.elim
      | some l =>
        obtain ⟨v, hv0, rv⟩ := er.im i dd q mi
        cases rv with
        | dct h0 hk t1 t2 =>
          rename_i a L
          have e : iOf itK (rVar i) ρ = .ok (keysD L) := by
            rw [e0]
            unfold itK
            rw [dctD_dT, entT_dT, keysD_l]
          have walk : ∀ {S : Addr → Prop} {od : Obj} {G : Hp}, G a = some (.frz od (DctO a L)) → DctK X.K G L → Walks X.K S (Itx a od L) (keysD L) G := fun {S od G} h1 h2 H2 kp i => by
            have h3 : H2 a = some (.frz od (DctO a L)) := kp _ _ h1 (.inr fun z => z)
            have k2 : DctK X.K H2 L := dctK_keep h2 fun b u e nm n => kp b u e (.inr nm) n
            have kl : (keysD L).length = L.length := List.length_map ..
            refine ⟨fun d hd => ⟨⟨h3, ?_⟩, fun x G2 y => ?_⟩, fun hi => ⟨h3, by omega⟩⟩
            · have := (List.getElem?_eq_some_iff.mp hd).1
              omega
            · obtain ⟨rfl, p, hp, rfl⟩ := y
              unfold keysD at hd
              rw [List.getElem?_map, hp] at hd
              cases hd
              exact ⟨Same.refl _, .tup (k2 p (List.mem_of_getElem? hp)) (RpA.ints p.1)⟩
          have go : ∀ {F1 : Fx} {G : Hp} {od : Obj}, ER X.K M F1 σ G ρ → G a = some (.frz od (DctO a L)) → DctK X.K G L → ∀ Q1 : VK, WE X M F1 E lk true σ ρ G (rLc (iOf itK (rVar i)) (own.map (·.2)) gg tt f ρ) Q1 → tLc (iKeysX (tVar i)) (canG X M ts gg) (canT X M E0s tt) (canE X M E0s lk fr f) (own.map (·.2)) σ G Q1 := fun {F1 G od} er1 g1 k1 Q1 w1 => by
            refine lc_runS (its := iOf itK (rVar i)) (fun R hR => ?_) hv hts er1 w1
            rw [e] at hR
            exact ⟨.ref a, hv0, a, od, L, rfl, g1, hR _ G (Same.refl _) (walk g1 k1)⟩
          rcases h0 with ⟨h1, hS⟩ | ⟨od, h1⟩
          · have no : ¬ OwnA M σ ρ a := hS.2 rfl
            refine .inl ⟨a, _, h1, by unfold DctO; trivial, fun od => ?_⟩
            refine go (er.lockT (od := od) h1 no) upd_same (dctK_lockT h1 hk) _ ?_
            have hF : ∀ u, F.H0 a = some u → u = DctO a L := fun u hu => by
              by_cases nu : NT u
              · have := er.old a u hu nu
                rw [h1] at this
                exact (Option.some.inj this).symm
              · exfalso
                refine nu fun ps e => ?_
                subst e
                obtain ⟨qs, e2⟩ := er.old.t a ps hu
                rw [h1] at e2
                exact dct_no e2
            have tabs := er.tab
            have nex : ∀ c, rLc (iOf itK (rVar i)) (own.map (·.2)) gg tt f ρ ≠ .ex c := fun c z => by
              unfold rLc at z
              rw [e] at z
              have z : (if okLen (keysD L).length = true then (match lcGo gg tt f (wipeR ρ (own.map (·.2))) (keysD L) with | some xs => Re.ok (PyData.list xs) | none => .bad) else .bad) = .ex c := z
              split at z
              · split at z <;> cases z
              · cases z
            generalize rLc (iOf itK (rVar i)) (own.map (·.2)) gg tt f ρ = r at w nex ⊢
            cases r with
            | bad => exact w
            | ex c => exact (nex c rfl).elim
            | ok d =>
              refine fun v G sm rp ff => ?_
              have g1 : G a = some (.frz od (DctO a L)) := sm a _ upd_same
              refine ⟨g1, w v _ ⟨fun b u hb nu => ?_, fun {b} q => ?_, fun t => tab_upd (sm.tab (tab_upd tabs h1 plain_dct)) g1 plain_frz, fun b ps q => ?_⟩ (Rp.openT g1 ⟨hS.1, fun _ => no⟩ rp) fun hfr => ?_⟩
              · by_cases c : b = a
                · subst c
                  rw [h1] at hb
                  cases hb
                  exact upd_same
                · rw [upd_ne c]
                  exact sm b u (by rw [upd_ne c]; exact hb) nu
              · by_cases c : b = a
                · subst c
                  rw [upd_same] at q
                  cases q
                · rw [upd_ne c] at q
                  have := sm.free q
                  rwa [upd_ne c] at this
              · by_cases c : b = a
                · subst c
                  rw [h1] at q
                  exact dct_no q
                · rw [upd_ne c]
                  exact sm.t b ps (by rw [upd_ne c]; exact q)
              · obtain ⟨pp, e1, e2, e3⟩ := ff hfr
                have npa : pp ≠ a := fun c => by
                  rw [c, upd_same] at e2
                  cases e2
                refine ⟨pp, e1, by rwa [upd_ne npa] at e2, ?_⟩
                exact e3.openT g1 ⟨⟨hS.1, fun _ => no⟩, npa.symm⟩
          · exact .inr (go er h1 hk Q w)
        | dic _ _ _ _ => cases qk
        | scr _ _ => cases qk
        | rng _ => cases qk
        | dit _ _ _ _ => cases qk
        | dif _ _ _ => cases qk
        | bl _ => cases qk
        | non => cases qk
        | int _ => cases qk
        | str _ => cases qk
        | tup _ _ => cases qk
        | lst _ _ _ => cases qk
end
end Pu

set_option Elab.async false
set_option linter.all false
set_option maxRecDepth 100000
set_option maxHeartbeats 4000000
/-! dicts from tuples of numbers to numbers: d[k], d.get(k, x), d[k] = v, {}, {k: v} -/
namespace Pu
open PySem PySem.Spec PyProof.Rows L2
def valE (L : DEn) (k : List Int) : Option Int := (L.find? fun p => decide (p.1 = k)).map (·.2.2)
def putA (k : List Int) (v : Int) (p : List Int × Addr × Int) : List Int × Addr × Int := if p.1 = k then (p.1, p.2.1, v) else p
def putE (L : DEn) (k : List Int) (b : Addr) (v : Int) : DEn := if (valE L k).isSome = true then L.map (putA k v) else L ++ [(k, b, v)]
theorem vl_at {L : DEn} {xs : List (List Int × Addr × Value)} (h : VL L xs) (k : List Int) : match valE L k with
    | some v => ∃ q t, atKey xs k = some q ∧ q.2 = Value.int v t
    | none => atKey xs k = none := by
  unfold VL at h
  induction h with
  | nil => exact rfl
  | @cons p q ps qs hpq t ih =>
    obtain ⟨h1, h2, tk, h3⟩ := hpq
    by_cases e : p.1 = k
    · have e1 : valE (p :: ps) k = some p.2.2 := by
        unfold valE
        rw [List.find?_cons, decide_eq_true e]
        rfl
      have e2 : atKey (q :: qs) k = some q.2 := by
        unfold atKey
        rw [List.find?_cons, decide_eq_true (h1.symm.trans e)]
        rfl
      rw [e1]
      exact ⟨q.2, tk, e2, h3⟩
    · have e1 : valE (p :: ps) k = valE ps k := by
        unfold valE
        rw [List.find?_cons, decide_eq_false e]
      have e2 : atKey (q :: qs) k = atKey qs k := by
        unfold atKey
        rw [List.find?_cons, decide_eq_false fun z => e (h1.trans z)]
      rw [e1, e2]
      exact ih
theorem vl_map {L : DEn} {xs : List (List Int × Addr × Value)} (h : VL L xs) (k : List Int) (v : Int) (t : Tok) : VL (L.map (putA k v)) (xs.map (putAt k (.int v t))) := by
  unfold VL at h ⊢
  induction h with
  | nil => exact .nil
  | @cons p q ps qs hpq tl ih =>
    rw [List.map_cons, List.map_cons]
    refine .cons ?_ ih
    obtain ⟨h1, h2, tk, h3⟩ := hpq
    unfold putA putAt
    by_cases e : p.1 = k
    · rw [if_pos e, if_pos (h1.symm.trans e)]
      exact ⟨h1, h2, t, rfl⟩
    · rw [if_neg e, if_neg fun z => e (h1.trans z)]
      exact ⟨h1, h2, tk, h3⟩
theorem vl_snoc {L : DEn} {xs : List (List Int × Addr × Value)} (h : VL L xs) (k : List Int) (b : Addr) (v : Int) (t : Tok) : VL (L ++ [(k, b, v)]) (xs ++ [(k, b, .int v t)]) := by
  unfold VL at h ⊢
  induction h with
  | nil => exact .cons ⟨rfl, rfl, t, rfl⟩ .nil
  | cons hpq tl ih => exact .cons hpq ih
theorem vl_put {L : DEn} {xs : List (List Int × Addr × Value)} (h : VL L xs) (k : List Int) (b : Addr) (v : Int) (t : Tok) : VL (putE L k b v) (storedH xs k b (.int v t)) := by
  have a := vl_at h k
  unfold putE storedH
  cases q : valE L k with
  | some z =>
    rw [q] at a
    obtain ⟨q1, t1, e1, _⟩ := a
    rw [e1]
    show VL (if true = true then _ else _) (if true = true then _ else _)
    rw [if_pos rfl, if_pos rfl]
    exact vl_map h k v t
  | none =>
    rw [q] at a
    have a : atKey xs k = none := a
    rw [a]
    show VL (if false = true then _ else _) (if false = true then _ else _)
    rw [if_neg (by decide), if_neg (by decide)]
    exact vl_snoc h k b v t
theorem vl_keys {L : DEn} {xs : List (List Int × Addr × Value)} (h : VL L xs) : L.map (·.1) = xs.map (·.1) := by
  unfold VL at h
  induction h with
  | nil => rfl
  | cons hpq tl ih => rw [List.map_cons, List.map_cons, ih, hpq.1]
theorem putE_len (L : DEn) (k : List Int) (b : Addr) (v : Int) : (putE L k b v).length ≤ L.length + 1 := by
  unfold putE
  split
  · rw [List.length_map]
    omega
  · rw [List.length_append]
    simp
section
variable {X : Cx} {pins : List (Addr × Obj)} {σ : L2.St} {H : Hp} {s : Shared} {a b : Addr} {L : DEn} {k : List Int}
theorem items_int {P : Program} {w : World} : ∀ {ks : List Int} {us : List Value}, Vals (ks.map V.int) us → ItemsAre (intKind P w) ks us
  | [], _, r => by
    rw [List.map_nil] at r
    cases r
    exact .nil
  | k :: ks, _, r => by
    rw [List.map_cons] at r
    cases r with
    | cons h t =>
      obtain ⟨t1, e⟩ := h
      subst e
      exact .cons (by show Value.isInt k (.int k t1) = true; simp [Value.isInt]) (items_int t)
theorem tup_key (I : Inv X pins σ H s) (h : TupD X.K H b (k.map V.int)) : (tupleKind (intKind X.prog X.w)).is s.heap k b := by
  obtain ⟨its, rv, ⟨o, e, c, n, dd⟩, hz⟩ := I.tuple h.sq
  exact ⟨o, its.toArray, n, e, c, dd, by simpa using items_int rv⟩
def DctAny (H : Hp) (a : Addr) (L : DEn) : Prop := H a = some (DctO a L) ∨ ∃ o, H a = some (.frz o (DctO a L))
theorem dct_phi (I : Inv X pins σ H s) (h : DctAny H a L) : dctP a L s.heap := by
  rcases h with h | ⟨o, h⟩
  · exact (I.hok a _ h).1
  · exact (I.hok a _ h).2.1
theorem dct_of (I : Inv X pins σ H s) (h : dctP a L s.heap) (hk : DctK X.K H L) : ∃ xs, VL L xs ∧ s.heap.DictOfH (tupleKind (intKind X.prog X.w)) a xs ∧ (a == sysModules) = false ∧ L.length ≤ sizeLine := by
  obtain ⟨hs, hz, hn, o, es, ep, xs, ho, hx, hdt, vl, he⟩ := h
  refine ⟨xs, vl, ⟨o, es, ep, ho, hx, hdt, he _ _, fun x hx => ?_, by rw [← vl_keys vl]; exact hn⟩, hs, hz⟩
  obtain ⟨i, hi, e⟩ := List.mem_iff_getElem.mp hx
  have ln : L.length = xs.length := Paired.length vl
  obtain ⟨q, hq, e1, e2, _⟩ := vl_get vl (List.getElem?_eq_getElem (show i < L.length by omega))
  have : q = x := by
    rw [List.getElem?_eq_getElem hi, e] at hq
    exact (Option.some.inj hq).symm
  subst this
  have := tup_key I (hk L[i] (List.getElem_mem _))
  rw [e1, e2] at this
  exact this
theorem dct_new {P : Program} {w : World} {H : Hp} {h : Heap} {xs : List (List Int × Addr × Value)} (hs : (a == sysModules) = false) (hz : L.length ≤ sizeLine) (vl : VL L xs) (d : h.DictOfH (tupleKind (intKind P w)) a xs) : ObjOk P w H h a (DctO a L) := by
  obtain ⟨o, es, ep, ho, hx, hdt, he, _, hn⟩ := d
  refine ⟨⟨hs, hz, by rw [vl_keys vl]; exact hn, o, es, ep, xs, ho, hx, hdt, vl, fun P2 w2 => he⟩, ⟨o, ho⟩, fun h1 h2 p st => ?_⟩
  obtain ⟨p1, p2, p3, o2, es2, ep2, xs2, ho2, r⟩ := p
  exact ⟨p1, p2, p3, o2, es2, ep2, xs2, st _ ho2, r⟩
end
section
variable {X : Cx} {o i e f : Expr} {td ty tx tv : TE} {pos apos cpos pos2 : Pos}
def tDGT (K : PySem.W.Frag) (td ty : TE) : TE := fun σ H Q => td σ H fun x H1 => ty σ H1 fun y H2 => ∃ (a : Addr) (L : DEn) (b : Addr) (k : List Int) (v : Int), x = .ref a ∧ y = .ref b ∧ DctAny H2 a L ∧ DctK K H2 L ∧ TupD K H2 b (k.map V.int) ∧ valE L k = some v ∧ Q (.int v) H2
theorem pe_dgetT (hu : X.A.units + 1 < cLine) (ho : PE X o td) (hi : PE X i ty) (hs : NoSl i) : PE X (.Subscript o i pos) (tDGT X.K td ty) := by
  refine ⟨fun pins s σ H Q I h => ?_⟩
  refine subD_of PySem.F.slot_dict_getitem.lookup hs (thn (ho.run pins s σ H _ I h) fun u s1 zz => ?_)
  obtain ⟨x, H1, I1, rx, q1⟩ := zz
  refine thn (hi.run pins s1 σ H1 _ I1 q1) fun iv s2 zz => ?_
  obtain ⟨y, H2, I2, ry, a, L, b, k, v, rfl, rfl, hd, hk, ht, hv, q2⟩ := zz
  obtain rfl : u = Value.ref a := rx
  obtain rfl : iv = Value.ref b := ry
  obtain ⟨xs, vl, dd, hs2, hz⟩ := dct_of I2 (dct_phi I2 hd) hk
  refine ⟨dd.typeIs, ?_⟩
  have at1 := vl_at vl k
  rw [hv] at at1
  obtain ⟨q, t, e1, e2⟩ := at1
  refine wpAny_getItem_heap (tupleKind_room_in1 hu) (tup_key I2 ht) dd e1 ?_
  rw [e2]
  exact ⟨.int v, H2, I2.tok _, ⟨t, rfl⟩, q2⟩
def tDGO (K : PySem.W.Frag) (td ty tx : TE) : TE := fun σ H Q => td σ H fun x H1 => ∃ (a : Addr) (L0 : DEn), x = .ref a ∧ DctAny H1 a L0 ∧ ty σ H1 fun y H2 => tx σ H2 fun z H3 => ∃ (L : DEn) (b : Addr) (k : List Int) (v : Int), y = .ref b ∧ z = .int v ∧ DctAny H3 a L ∧ DctK K H3 L ∧ TupD K H3 b (k.map V.int) ∧ Q (.int ((valE L k).getD v)) H3
theorem pe_dgetOrT (hu : X.A.units + 1 < cLine) (ho : PE X o td) (he : PE X e ty) (hf : PE X f tx) (m : M2 X o "get" apos e f cpos) : PE X (.Call (.Attribute o "get" apos) [e, f] [] cpos) (tDGO X.K td ty tx) := by
  refine ⟨fun pins s σ H Q I h => ?_⟩
  refine wpAny_Call_method m.base m.few m.line PySem.F.plainAttrs_dict PySem.F.slot_dict_get PySem.F.type_dict_get (thn (ho.run pins s σ H _ I h) fun u s1 zz => ?_)
  obtain ⟨x, H1, I1, rx, a, L0, rfl, hd0, q1⟩ := zz
  obtain rfl : u = Value.ref a := rx
  obtain ⟨_, _, _, ob, es0, ep0, xs0, g1, g2, _⟩ := dct_phi I1 hd0
  refine ⟨⟨ob, g1, g2.1⟩, fun b q => ?_, ?_⟩
  · cases q
    exact ⟨ob, g1, g2.2.1⟩
  rw [m.trees]
  refine Calls.callWith_builtin rfl (Calls.evalArgs_plain (Calls.spliced_cons (thn (he.run pins s1 σ H1 _ I1 q1) fun iv s2 zz => ?_)))
  obtain ⟨y, H2, I2, ry, q2⟩ := zz
  refine Calls.spliced_cons (thn (hf.run pins s2 σ H2 _ I2 q2) fun fv s3 zz => ?_)
  obtain ⟨z, H3, I3, rz, L, b, k, v, rfl, rfl, hd, hk, ht, q3⟩ := zz
  obtain rfl : iv = Value.ref b := ry
  obtain ⟨t, rfl⟩ := rz
  refine Calls.spliced_nil ?_
  obtain ⟨xs, vl, dd, hs2, hz⟩ := dct_of I3 (dct_phi I3 hd) hk
  refine getOr_keyed (tupleKind_room_in1 hu) (tup_key I3 ht) hs2 ⟨xs, dd, rfl⟩ ?_
  rw [valueAt_pairsH]
  have at1 := vl_at vl k
  cases hv : valE L k with
  | some z =>
    rw [hv] at at1 q3
    obtain ⟨q, t1, e1, e2⟩ := at1
    rw [e1]
    show EP X pins σ Q (q.2) _
    rw [e2]
    exact ⟨.int z, H3, I3.tok _, ⟨t1, rfl⟩, q3⟩
  | none =>
    rw [hv] at at1 q3
    have at1 : atKey xs k = none := at1
    rw [at1]
    exact ⟨.int v, H3, I3.tok _, ⟨t, rfl⟩, q3⟩
def sDPT (K : PySem.W.Frag) (td ty tv : TE) : TS := fun D σ H => tv σ H fun v H1 => td σ H1 fun x H2 => ty σ H2 fun y H3 => ∃ (a : Addr) (L : DEn) (b : Addr) (k : List Int) (n : Int), x = .ref a ∧ y = .ref b ∧ v = .int n ∧ H3 a = some (DctO a L) ∧ DctK K H3 L ∧ TupD K H3 b (k.map V.int) ∧ L.length < sizeLine ∧ D.nx σ (upd H3 a (DctO a (putE L k b n)))
theorem ps_dputT (hu : X.A.units + 1 < cLine) (ho : PE X o td) (hi : PE X i ty) (hv : PE X e tv) (hs : swapsWith e (some (.Subscript o i pos2)) pos.line X.env = pure false) :
    PS X (.Assign [.Subscript o i pos2] e pos) (sDPT X.K td ty tv) := by
  refine ⟨fun pins s σ H D I h => ?_⟩
  refine wpAny_Assign_Subscript (thn (hv.run pins s σ H _ I h) fun r s1 zz => ?_) hs
  obtain ⟨v, H1, I1, rv, q1⟩ := zz
  refine thn (ho.run pins s1 σ H1 _ I1 q1) fun u s2 zz => ?_
  obtain ⟨x, H2, I2, rx, q2⟩ := zz
  refine thn (hi.run pins s2 σ H2 _ I2 q2) fun iv s3 zz => ?_
  obtain ⟨y, H3, I3, ry, a, L, b, k, n, rfl, rfl, rfl, hd, hk, ht, hl, q3⟩ := zz
  obtain rfl : u = Value.ref a := rx
  obtain rfl : iv = Value.ref b := ry
  obtain ⟨t, rfl⟩ := rv
  obtain ⟨xs, vl, dd, hs2, hz⟩ := dct_of I3 (dct_phi I3 (.inl hd)) hk
  have ln : L.length = xs.length := Paired.length vl
  refine wpAny_setItem_heap (hsz := by omega) (tupleKind_room_in1 hu) (tup_key I3 ht) dd fun h2 dd2 sb => ?_
  have he : ∃ q, h2.get? a = some q := let ⟨q, _, _, hq, _⟩ := dd2; ⟨q, hq⟩
  refine ⟨σ, _, d_write (t' := _) I3 (by rw [hd]; unfold DctO; exact True.intro) sb he (dct_new hs2 ?_ (vl_put vl k b n t) dd2), q3⟩
  have := putE_len L k b n
  omega
def tDNT : TE := fun _ H Q => ∀ p, H p = none → Q (.ref p) (upd H p (DctO p []))
theorem dct_empty {P : Program} {w : World} {H : Hp} (h : Heap) (hb : sysModules < h.objs.size) : ObjOk P w H (h.push { cls := .type "dict", data := .dict #[] }) h.objs.size (DctO h.objs.size []) :=
  dct_new (xs := []) (beq_eq_false_iff_ne.mpr (Ne.symm (Nat.ne_of_lt hb))) (Nat.zero_le _) .nil (Heap.DictOfH.new h)
theorem pe_dnT : PE X (.Dict [] [] pos) tDNT := ⟨fun pins s σ H Q I h =>
  wpAny_Dict_empty ⟨.ref s.heap.objs.size, _, I.laid (a := s.heap.objs.size) (o := DctO s.heap.objs.size []) (t' := s.toks) (fun _ _ q => Heap.get?_push_of_some _ q) (Nat.le_refl _) (dct_empty s.heap I.big), rfl, h _ (I.hok.fresh (Nat.le_refl _))⟩⟩
end
end Pu

set_option Elab.async false
set_option linter.all false
set_option maxRecDepth 100000
set_option maxHeartbeats 4000000
/-! dicts from tuples of numbers to numbers, by data -/
namespace Pu
open PySem PySem.Spec PyProof.Rows L2
def lookT (l : List (List Int × Int)) (k : List Int) : Option Int := (l.find? fun p => decide (p.1 = k)).map (·.2)
def putT (l : List (List Int × Int)) (k : List Int) (v : Int) : List (List Int × Int) := if (lookT l k).isSome = true then l.map (fun p => if p.1 = k then (p.1, v) else p) else l ++ [(k, v)]
abbrev plE (L : DEn) : List (List Int × Int) := L.map fun p => (p.1, p.2.2)
theorem look_pl (L : DEn) (k : List Int) : lookT (plE L) k = valE L k := by
  unfold lookT valE plE
  induction L with
  | nil => rfl
  | cons p L ih =>
    rw [List.map_cons, List.find?_cons, List.find?_cons]
    by_cases e : p.1 = k
    · rw [decide_eq_true e]
      rfl
    · rw [decide_eq_false e]
      exact ih
theorem put_pl (L : DEn) (k : List Int) (b : Addr) (v : Int) : plE (putE L k b v) = putT (plE L) k v := by
  unfold putT putE
  rw [look_pl]
  split
  · show (L.map (putA k v)).map _ = (L.map _).map _
    rw [List.map_map, List.map_map]
    refine List.map_congr_left fun p _ => ?_
    show ((putA k v p).1, (putA k v p).2.2) = (if p.1 = k then (p.1, v) else (p.1, p.2.2))
    unfold putA
    split <;> rfl
  · show (L ++ [(k, b, v)]).map _ = L.map _ ++ [(k, v)]
    rw [List.map_append]
    rfl
def oDGT (d e : PyData) : Option PyData := (entT d).bind fun l => (asTI e).bind fun k => (lookT l k).map .int
def oDGO (d e x : PyData) : Option PyData := (entT d).bind fun l => (asTI e).bind fun k => match x with | .int v => some (.int ((lookT l k).getD v)) | _ => none
theorem asTI_eq {e : PyData} {k : List Int} (h : asTI e = some k) : e = .tuple (k.map .int) := by
  unfold asTI at h
  split at h
  · rw [asInts_eq h]
  · cases h
variable [TabL]
theorem rpA_int_of {K : PySem.W.Frag} {H : Hp} {S : Addr → Prop} : ∀ {ks : List Int} {vs : List V}, RpA K H S vs (ks.map .int) → vs = ks.map V.int
  | [], _, .nil => rfl
  | k :: ks, _, .cons h1 h2 => by
    cases h1
    rw [rpA_int_of h2]
    rfl
theorem dct_of_rp {K : PySem.W.Frag} {H : Hp} {S : Addr → Prop} {v : V} {d : PyData} {l : List (List Int × Int)} (r : Rp K H S v d) (h : entT d = some l) : ∃ a L, v = .ref a ∧ DctF H S a L ∧ DctK K H L ∧ plE L = l := by
  cases r with
  | dct h0 hk t1 t2 =>
    rename_i a L
    rw [dctD_dT, entT_dT] at h
    injection h with h
    exact ⟨a, L, rfl, h0, hk, h⟩
  | dic _ _ _ _ => cases h
  | scr _ _ => cases h
  | rng _ => cases h
  | dit _ _ _ _ => cases h
  | dif _ _ _ => cases h
  | bl _ => cases h
  | non => cases h
  | int _ => cases h
  | str _ => cases h
  | tup _ _ => cases h
  | lst _ _ _ => cases h
theorem key_of_rp {K : PySem.W.Frag} {H : Hp} {S : Addr → Prop} {v : V} {d : PyData} {k : List Int} (r : Rp K H S v d) (h : asTI d = some k) : ∃ b, v = .ref b ∧ TupD K H b (k.map V.int) := by
  have e := asTI_eq h
  subst e
  cases r with
  | tup h1 h2 =>
    rw [rpA_int_of h2] at h1
    exact ⟨_, rfl, h1⟩
theorem DctF.any {H : Hp} {S : Addr → Prop} {a : Addr} {L : DEn} (h : DctF H S a L) : DctAny H a L := by
  rcases h with ⟨h, _⟩ | h
  · exact .inl h
  · exact .inr h
theorem any_same {H H' : Hp} {a : Addr} {L : DEn} (h : DctAny H a L) (s : Same H H') : DctAny H' a L := by
  rcases h with h | ⟨o, h⟩
  · exact .inl (s.k _ _ h dct_ne_tbl)
  · exact .inr ⟨o, s.k _ _ h fun _ z => nomatch z⟩
theorem dctK_same {K : PySem.W.Frag} {H H' : Hp} {L : DEn} (h : DctK K H L) (s : Same H H') : DctK K H' L := dctK_keep h fun a u e _ n => s.k a u e n
section
variable {X : Cx} {M : Nat → Bool} {F : Fx} {E : L2.St → XK} {la fa lb fb lc fc : Bool} {a b c : Expr} {f g h : Rho → Re PyData} {pos : Pos}
theorem de_dgetT (hu : X.A.units + 64 < cLine) (ha : DE X M F E la fa a f) (hb : DE X M F E lb fb b g) (hs : NoSl b := by intro _ _; rfl) : DE X M F E false false (.Subscript a b pos) (r2 oDGT f g) := by
  obtain ⟨ta, pa, ha⟩ := ha
  obtain ⟨tb, pb, hb⟩ := hb
  refine ⟨_, pe_dgetT (by omega) pa pb hs, fun σ H ρ er Q z => ?_⟩
  refine ha σ H ρ er _ (we_step z fun d v H1 e1 s1 r1 _ z1 => ?_)
  refine hb σ H1 ρ (er.same s1) _ (we_step (lk' := lb) (fr' := fb) z1 fun e u H2 e2 s2 r2 _ z2 => ?_)
  have z3 : WE X M F E false false σ ρ H2 (liftO (oDGT d e)) Q := z2
  unfold oDGT at z3
  cases q1 : entT d with
  | none =>
    rw [q1] at z3
    exact z3.elim
  | some l =>
    cases q2 : asTI e with
    | none =>
      rw [q1, q2] at z3
      exact z3.elim
    | some k =>
      cases q3 : lookT l k with
      | none =>
        rw [q1, q2, Option.bind_some, Option.bind_some, q3] at z3
        exact z3.elim
      | some n =>
        rw [q1, q2, Option.bind_some, Option.bind_some, q3] at z3
        obtain ⟨a, L, rfl, h0, hk, rfl⟩ := dct_of_rp r1 q1
        obtain ⟨b, rfl, ht⟩ := key_of_rp r2 q2
        rw [look_pl] at q3
        exact ⟨a, L, b, k, n, rfl, rfl, any_same h0.any s2, dctK_same hk s2, ht, q3, z3 _ H2 (Same.refl _) (.int n) fun z => nomatch z⟩
def rDGO (f g h : Rho → Re PyData) : Rho → Re PyData := fun ρ => (f ρ).andThen fun d => (entC d).andThen fun _ => (g ρ).andThen fun e => (h ρ).andThen fun x => liftO (oDGO d e x)
where entC (d : PyData) : Re Unit := match entT d with | some _ => .ok () | none => .bad
theorem de_dgetOr {apos : Pos} (hu : X.A.units + 64 < cLine) (ha : DE X M F E la fa a f) (hb : DE X M F E lb fb b g) (hc : DE X M F E lc fc c h) (m : M2 X a "get" apos b c pos) : DE X M F E false false (.Call (.Attribute a "get" apos) [b, c] [] pos) (rDGO f g h) := by
  obtain ⟨ta, pa, ha⟩ := ha
  obtain ⟨tb, pb, hb⟩ := hb
  obtain ⟨tc, pc, hc⟩ := hc
  refine ⟨_, pe_dgetOrT (by omega) pa pb pc m, fun σ H ρ er Q z => ?_⟩
  refine ha σ H ρ er _ (we_step z fun d v H1 e1 s1 r1 _ z1 => ?_)
  have z1 : WE X M F E false false σ ρ H1 ((rDGO.entC d).andThen fun _ => (g ρ).andThen fun e => (h ρ).andThen fun x => liftO (oDGO d e x)) Q := z1
  unfold rDGO.entC at z1
  cases q1 : entT d with
  | none =>
    rw [q1] at z1
    exact z1.elim
  | some l =>
    rw [q1] at z1
    have z1 : WE X M F E false false σ ρ H1 ((g ρ).andThen fun e => (h ρ).andThen fun x => liftO (oDGO d e x)) Q := z1
    obtain ⟨a, L, rfl, h0, hk, rfl⟩ := dct_of_rp r1 q1
    refine ⟨a, L, rfl, h0.any, hb σ H1 ρ (er.same s1) _ (we_step (lk' := lb) (fr' := fb) z1 fun e u H2 e2 s2 r2 _ z2 => ?_)⟩
    refine hc σ H2 ρ ((er.same s1).same s2) _ (we_step (lk' := lc) (fr' := fc) z2 fun x w H3 e3 s3 r3 _ z3 => ?_)
    have z3 : WE X M F E false false σ ρ H3 (liftO (oDGO d e x)) Q := z3
    unfold oDGO at z3
    cases q2 : asTI e with
    | none =>
      rw [q1, q2] at z3
      exact z3.elim
    | some k =>
      rw [q1, q2, Option.bind_some, Option.bind_some] at z3
      obtain ⟨b, rfl, ht⟩ := key_of_rp r2 q2
      cases r3 with
      | int n =>
        have z3 : WE X M F E false false σ ρ H3 (.ok (.int ((lookT (plE L) k).getD n))) Q := z3
        rw [look_pl] at z3
        have tk : TupD X.K H3 b (k.map V.int) := tupD_keep ht fun u e nm n => s3.k b u e n
        exact ⟨L, b, k, n, rfl, rfl, any_same (any_same h0.any s2) s3, dctK_same (dctK_same hk s2) s3, tk, z3 _ H3 (Same.refl _) (.int _) fun z => nomatch z⟩
      | bl _ => exact z3.elim
      | non => exact z3.elim
      | str _ => exact z3.elim
      | tup _ _ => exact z3.elim
      | lst _ _ _ => exact z3.elim
      | scr _ _ => exact z3.elim
      | dic _ _ _ _ => exact z3.elim
      | dit _ _ _ _ => exact z3.elim
      | dif _ _ _ => exact z3.elim
      | rng _ => exact z3.elim
      | dct _ _ _ _ => exact z3.elim
theorem de_dnT : DE X M F E false true (.Dict [] [] pos) (rC (dT [])) := by
  refine ⟨_, pe_dnT, fun σ H ρ er Q z => ?_⟩
  intro p hp
  have e : (dT [] : PyData) = .dict ((.bool true, .bool true) :: dctD []) := rfl
  have z : WE X M F E false true σ ρ H (.ok (dT [])) Q := z
  rw [e] at z
  have nk : DctK X.K (upd H p (DctO p [])) [] := fun q hq => nomatch hq
  exact z (.ref p) _ (same_new hp) (.dct (.inl ⟨upd_same, er.freshS p hp⟩) nk trivial trivial) fun _ => ⟨p, rfl, hp, .dct upd_same nk trivial⟩
end
end Pu

set_option Elab.async false
set_option linter.all false
set_option maxRecDepth 100000
set_option maxHeartbeats 4000000
/-! dicts from tuples of numbers to numbers: d[k] = v, {k: v} -/
namespace Pu
open PySem PySem.Spec PyProof.Rows L2
variable [TabL]
section
variable {X : Cx} {M : Nat → Bool} {F : Fx} {E : L2.St → XK} {σ : L2.St} {ρ : Rho} {H : Hp} {la fa lb fb : Bool} {a b : Expr} {f g : Rho → Re PyData} {pos : Pos}
theorem ER.dctO (er : ER X.K M F σ H ρ) {i : Nat} {dd : PyData} {l : List (List Int × Int)} (m : M i = true) (h : ρ[i]? = some (some dd)) (hk : entT dd = some l) : ∃ (pp : Addr) (L : DEn), σ[i]? = some (some (.ref pp)) ∧ H pp = some (DctO pp L) ∧ DctK X.K H L ∧ plE L = l := by
  obtain ⟨pp, hs, _, w⟩ := er.ow i _ h m
  cases w with
  | lst e r => cases hk
  | dic e l r => cases hk
  | dit e l r => cases hk
  | dct e kk t =>
    rename_i L
    rw [dctD_dT, entT_dT] at hk
    injection hk with hk
    exact ⟨pp, L, hs, e, kk, hk⟩
def sPutT (i : Nat) (f g : Rho → Re PyData) : Rho → Sr := fun ρ => (f ρ).st ρ fun d => (match ρ[i]? with
  | some (some dd) => (g ρ).st ρ fun e => (match entT dd, asTI e, d with
    | some l, some k, .int n => if okLen (l.length + 1) = true then .nx (ρ.set i (some (dT (putT l k n)))) else .bad
    | _, _, _ => .bad)
  | _ => .bad)
theorem ds_dputT {i : Nat} {x : Str} {p1 p2 : Pos} (hu : X.A.units + 64 < cLine) (m : M i = true) (h : DE X M F E la fa a f) (hg : DE X M F E lb fb b g) (hN : X.N[i]? = some x := by rfl) (hv : Vis X.env.scope x := by first | exact Or.inl rfl | exact Or.inr (Or.inl rfl) | exact Or.inr (Or.inr rfl)) (hd : (x == ("__debug__" : Str)) = false := by decide)
    (hcd : (x == ("__classdict__" : Str)) = false := by decide) (hs : swapsWith a (some (.Subscript (.Name x p1) b p2)) pos.line X.env = pure false := by rfl) :
    DS X M F E (.Assign [.Subscript (.Name x p1) b p2] a pos) (sPutT i f g) := by
  obtain ⟨ta, pa, h⟩ := h
  obtain ⟨tb, pb, hg⟩ := hg
  refine ⟨_, ps_dputT (by omega) (pe_var hN hv hd hcd) pb pa hs, fun σ H ρ er D w => ?_⟩
  refine h σ H ρ er _ (ws_step er w fun d v H1 e1 s1 r1 _ w1 => ?_)
  have er1 := er.same s1
  cases q : ρ[i]? with
  | none =>
    rw [q] at w1
    exact w1.elim
  | some o =>
    cases o with
    | none =>
      rw [q] at w1
      exact w1.elim
    | some dd =>
      rw [q] at w1
      obtain ⟨pp, sp, _, w0⟩ := er1.ow i dd q m
      refine ⟨.ref pp, sp, ?_⟩
      refine hg σ H1 ρ er1 _ (ws_step (lk := lb) (fr := fb) er1 w1 fun e u H2 e2 s2 r2 _ w2 => ?_)
      have er2 := er1.same s2
      cases qk : entT dd with
      | none =>
        rw [qk] at w2
        exact w2.elim
      | some l =>
        cases qe : asTI e with
        | none =>
          rw [qk, qe] at w2
          exact w2.elim
        | some k =>
          rw [qk, qe] at w2
          obtain ⟨b, rfl, ht⟩ := key_of_rp r2 qe
          cases r1 with
          | int n =>
            have w2 : WS X M F E σ H2 ρ (if okLen (l.length + 1) = true then .nx (ρ.set i (some (dT (putT l k n)))) else .bad) D := w2
            by_cases c : okLen (l.length + 1) = true
            · rw [if_pos c] at w2
              obtain ⟨pp2, L, sp2, hx, kk, rfl⟩ := er2.dctO m q qk
              rw [sp] at sp2
              cases sp2
              have hlen : L.length < sizeLine := by
                have := of_decide_eq_true c
                rw [List.length_map] at this
                exact Nat.lt_of_lt_of_le (Nat.lt_of_succ_le this) (by decide)
              have neq : ∀ c u, H2 c = some u → ¬ Mut (some u) → c ≠ pp := fun c u e1 nm z => by
                rw [z, hx] at e1
                cases e1
                exact nm (by unfold DctO; trivial)
              have kp : ∀ {c : Addr} {ys : List V}, TupD X.K H2 c ys → TupD X.K (upd H2 pp (DctO pp (putE L k b n))) c ys := fun {c ys} h => tupD_keep h fun u e nm _ => by
                rw [upd_ne (neq c u e nm)]
                exact e
              have nk : DctK X.K (upd H2 pp (DctO pp (putE L k b n))) (putE L k b n) := fun p hp => by
                unfold putE at hp
                split at hp
                · obtain ⟨p0, h0, rfl⟩ := List.mem_map.mp hp
                  have := kp (kk p0 h0)
                  unfold putA
                  split <;> exact this
                · rcases List.mem_append.mp hp with h0 | h0
                  · exact kp (kk p h0)
                  · rw [List.mem_singleton] at h0
                    subst h0
                    exact kp ht
              have ed : dT (putT (plE L) k n) = .dict ((.bool true, .bool true) :: dctD (putE L k b n)) := by
                rw [dctD_dT]
                exact congrArg dT (put_pl L k b n).symm
              obtain ⟨er3, ev3⟩ := er2.put (o := DctO pp (putE L k b n)) (d' := dT (putT (plE L) k n)) m q sp (by
                rw [ed]
                exact .dct upd_same nk trivial)
              exact ⟨pp, L, b, k, n, rfl, rfl, rfl, hx, kk, ht, hlen, w2 σ _ er3 ev3⟩
            · rw [if_neg c] at w2
              exact w2.elim
          | bl _ => exact w2.elim
          | non => exact w2.elim
          | str _ => exact w2.elim
          | tup _ _ => exact w2.elim
          | lst _ _ _ => exact w2.elim
          | scr _ _ => exact w2.elim
          | dic _ _ _ _ => exact w2.elim
          | dit _ _ _ _ => exact w2.elim
          | dif _ _ _ => exact w2.elim
          | rng _ => exact w2.elim
          | dct _ _ _ _ => exact w2.elim
/-! {k: v} -/
def tDP1 (K : PySem.W.Frag) (tk tv : TE) : TE := fun σ H Q => ∀ p, H p = none → tk σ (upd H p (DctO p [])) fun y H1 => tv σ H1 fun z H2 => ∃ (b : Addr) (k : List Int) (v : Int), y = .ref b ∧ z = .int v ∧ H2 p = some (DctO p []) ∧ TupD K H2 b (k.map V.int) ∧ Q (.ref p) (upd H2 p (DctO p [(k, b, v)]))
theorem pe_dp1 {tk tv : TE} (hu : X.A.units + 1 < cLine) (hk : PE X a tk) (hv : PE X b tv) : PE X (.Dict [some a] [b] pos) (tDP1 X.K tk tv) := by
  refine ⟨fun pins s σ H Q I h => ?_⟩
  have hn := I.hok.fresh (Nat.le_refl s.heap.objs.size)
  have I1 := I.laid (a := s.heap.objs.size) (o := DctO s.heap.objs.size []) (h' := s.heap.push { cls := .type "dict", data := .dict #[] }) (t' := s.toks) (fun _ _ q => Heap.get?_push_of_some _ q) (Nat.le_refl _) (dct_empty s.heap I.big)
  refine PySem.wpAny_Dict_any rfl rfl (by simp) (show (1 : Nat) ≤ 15 by decide) ?_
  show wpAny _ _ (evalPairs [(eval a X.env, do let x ← eval b X.env; standAt pos; pure x)]) _ _ _
  show wpAny _ _ (do let kv ← eval a X.env; let vv ← holding [kv] (do let x ← eval b X.env; standAt pos; pure x); return (kv, vv) :: (← holding [kv, vv] (evalPairs []))) _ _ _
  refine wpAny_bind (thn (hk.run pins _ σ _ _ I1 (h _ hn)) fun kv s1 zz => ?_)
  obtain ⟨y, H1, I2, ry, q1⟩ := zz
  refine wpAny_bind (wpAny_holding (wpAny_bind (thn (hv.run pins s1 σ H1 _ I2 q1) fun vv s2 zz => ?_)))
  obtain ⟨z, H2, I3, rz, bb, k, v, rfl, rfl, hd, ht, q2⟩ := zz
  refine wpAny_bind (wpAny_standAt (wpAny_pure ?_))
  refine wpAny_bind (wpAny_holding ?_)
  refine wpAny_pure (wpAny_pure ?_)
  obtain rfl : kv = Value.ref bb := ry
  obtain ⟨t, rfl⟩ := rz
  obtain ⟨xs, vl, dd, hs2, hz⟩ := dct_of I3 (dct_phi I3 (.inl hd)) (fun p hp => nomatch hp)
  have ex : xs = [] := by
    have : ([] : DEn).length = xs.length := Paired.length vl
    exact List.length_eq_zero_iff.mp this.symm
  subst ex
  have key := tup_key I3 ht
  refine wpAny_storeAllH (knd := tupleKind (intKind X.prog X.w)) (show X.A.units < cLine by omega) [(.ref bb, .int v t)] [(k, bb, .int v t)] [] s2 _ ⟨rfl, rfl, key, trivial⟩ dd (show 0 + 1 ≤ sizeLine by decide) fun h2 tk2 dd2 sb => ?_
  have he : ∃ q, h2.get? s.heap.objs.size = some q := let ⟨q, _, _, hq, _⟩ := dd2; ⟨q, hq⟩
  refine ⟨.ref s.heap.objs.size, _, d_write (t' := _) I3 (by rw [hd]; unfold DctO; exact True.intro) sb he (dct_new (L := [(k, bb, v)]) hs2 (show 1 ≤ sizeLine by decide) (.cons ⟨rfl, rfl, t, rfl⟩ .nil) dd2), rfl, q2⟩
def dispT : Option (List Int) → PyData → Re PyData
  | some k, .int v => .ok (dT [(k, v)])
  | _, _ => .bad
def rDispT (f g : Rho → Re PyData) : Rho → Re PyData := fun ρ => (f ρ).andThen fun d => (g ρ).andThen fun e => dispT (asTI d) e
theorem de_dispT (hu : X.A.units + 64 < cLine) (ha : DE X M F E la fa a f) (hb : DE X M F E lb fb b g) : DE X M F E (la || lb) true (.Dict [some a] [b] pos) (rDispT f g) := by
  obtain ⟨ta, pa, ha⟩ := ha
  obtain ⟨tb, pb, hb⟩ := hb
  refine ⟨_, pe_dp1 (by omega) pa pb, fun σ H ρ er Q w => ?_⟩
  intro p hp
  have s0 : Same H (upd H p (DctO p [])) := same_new hp
  have er0 := er.same s0
  unfold rDispT at w
  refine ha σ _ ρ er0 _ ?_
  cases qf : f ρ with
  | ex c =>
    rw [qf] at w
    exact fun C G m s => w C G m (s0.trans s)
  | bad =>
    rw [qf] at w
    exact w.elim
  | ok d =>
    rw [qf] at w
    refine fun v H1 s1 r1 _ => ?_
    refine hb σ H1 ρ (er0.same s1) _ ?_
    cases qg : g ρ with
    | ex c =>
      rw [qg] at w
      exact fun C G m s => w C G m ((s0.trans s1).trans s)
    | bad =>
      rw [qg] at w
      exact w.elim
    | ok e =>
      rw [qg] at w
      refine fun u H2 s2 r2 _ => ?_
      have w : WE X M F E (la || lb) true σ ρ H (dispT (asTI d) e) Q := w
      cases qd : asTI d with
      | none =>
        rw [qd] at w
        exact w.elim
      | some k =>
        rw [qd] at w
        obtain ⟨bb, rfl, ht⟩ := key_of_rp r1 qd
        cases r2 with
        | int n =>
          have at2 : H2 p = some (DctO p []) := s2.k _ _ (s1.k _ _ upd_same dct_ne_tbl) dct_ne_tbl
          have ht2 : TupD X.K H2 bb (k.map V.int) := tupD_keep ht fun u e nm nn => s2.k bb u e nn
          have kp : TupD X.K (upd H2 p (DctO p [(k, bb, n)])) bb (k.map V.int) := tupD_keep ht2 fun u e nm _ => by
            rw [upd_ne fun z => ?_]
            · exact e
            · rw [z, at2] at e
              cases e
              exact nm (by unfold DctO; trivial)
          have nk : DctK X.K (upd H2 p (DctO p [(k, bb, n)])) [(k, bb, n)] := fun q hq => by
            rw [List.mem_singleton] at hq
            subst hq
            exact kp
          refine ⟨bb, k, n, rfl, rfl, at2, ht2, ?_⟩
          have sm : Same H (upd H2 p (DctO p [(k, bb, n)])) := ((s0.trans s1).trans s2).put hp at2 plain_dct
          exact w (.ref p) _ sm (.dct (.inl ⟨upd_same, er.freshS p hp⟩) nk trivial trivial) fun _ => ⟨p, rfl, hp, .dct upd_same nk trivial⟩
        | bl _ => exact w.elim
        | non => exact w.elim
        | str _ => exact w.elim
        | tup _ _ => exact w.elim
        | lst _ _ _ => exact w.elim
        | scr _ _ => exact w.elim
        | dic _ _ _ _ => exact w.elim
        | dit _ _ _ _ => exact w.elim
        | dif _ _ _ => exact w.elim
        | rng _ => exact w.elim
        | dct _ _ _ _ => exact w.elim
end
end Pu

set_option Elab.async false
set_option linter.all false
set_option maxRecDepth 100000
set_option maxHeartbeats 4000000
/-! in the mirrors: dicts from tuples of numbers to numbers -/
namespace Pu
open PySem PySem.Spec PyProof.Rows L2
variable {ρ : Rho} {l : List (List Int × Int)} {k : List Int}
@[simp] theorem asTI_t : asTI (tI k) = some k := asInts_map k
@[simp] theorem entT_d2 : entT (dT l) = some l := entT_dT l
theorem oDGT_d : oDGT (dT l) (tI k) = (lookT l k).map .int := by
  unfold oDGT
  rw [entT_dT, Option.bind_some, asTI_t, Option.bind_some]
theorem rDGO_d {f g h : Rho → Re PyData} {v : Int} (hf : f ρ = .ok (dT l)) (hg : g ρ = .ok (tI k)) (hh : h ρ = .ok (.int v)) : rDGO f g h ρ = .ok (.int ((lookT l k).getD v)) := by
  unfold rDGO
  rw [hf]
  show (rDGO.entC (dT l)).andThen _ = _
  unfold rDGO.entC
  rw [entT_dT]
  show (g ρ).andThen _ = _
  rw [hg]
  show (h ρ).andThen _ = _
  rw [hh]
  show liftO (oDGO (dT l) (tI k) (.int v)) = _
  unfold oDGO
  rw [entT_dT, Option.bind_some, asTI_t, Option.bind_some]
  rfl
theorem putT_go {i : Nat} {f g : Rho → Re PyData} {n : Int} (hi : ρ[i]? = some (some (dT l))) (hf : f ρ = .ok (.int n)) (hg : g ρ = .ok (tI k)) (hl : l.length < 10000) : sPutT i f g ρ = .nx (ρ.set i (some (dT (putT l k n)))) := by
  unfold sPutT
  rw [hf, st_ok, hi]
  show (g ρ).st ρ _ = _
  rw [hg, st_ok]
  have e : entT (dT l) = some l := entT_dT l
  have e2 : asTI (tI k) = some k := asTI_t
  generalize dT l = d at e
  generalize tI k = t at e2
  show (match entT d, asTI t, PyData.int n with
    | some l, some k, .int n => if okLen (l.length + 1) = true then Sr.nx (ρ.set i (some (dT (putT l k n)))) else .bad
    | _, _, _ => .bad) = _
  rw [e, e2]
  exact if_pos (decide_eq_true hl)
theorem forT_go {i : Nat} {g : PyData → Rho → Option Rho} {s : Rho → Sr} (hi : ρ[i]? = some (some (dT l))) : sForT i g s ρ = noX (sLoop g s (l.map fun (p : List Int × Int) => tI p.1) ρ) := by
  unfold sForT
  rw [hi]
  show (match entT (dT l) with | some l => noX (sLoop g s (l.map fun (p : List Int × Int) => PyData.tuple (p.1.map .int)) ρ) | none => .bad) = _
  rw [entT_dT]
  rfl
theorem itK_d : itK (dT l) = .ok (l.map fun (p : List Int × Int) => tI p.1) := by
  unfold itK
  rw [entT_dT]
  rfl
theorem rDispT_d {f g : Rho → Re PyData} {v : Int} (hf : f ρ = .ok (tI k)) (hg : g ρ = .ok (.int v)) : rDispT f g ρ = .ok (dT [(k, v)]) := by
  unfold rDispT
  rw [hf]
  show (g ρ).andThen _ = _
  rw [hg]
  show dispT (asTI (tI k)) (.int v) = _
  rw [asTI_t]
  rfl
end Pu

set_option Elab.async false
set_option linter.all false
set_option maxRecDepth 100000
set_option maxHeartbeats 4000000
namespace Gn
open PySem PySem.Spec PyProof.Rows L2 Pu
noncomputable section
/-! ### the mirror -/
def tab_NUMBERS : List (Str × Int) := [("swap", 2), ("next", 1), ("take", 2), ("flip", 2), ("blocks", 4)]
def N__law_cell : List Str := ["script", "k"]
def s__law_cell : Rho → Sr := (sSeq (sIf (asB (r2 oLt (rVar 1) (rB bLen (aCons (rVar 0) aNil)))) (sRet (r2 oIx (rVar 0) (rVar 1))) sNil)
    (sRet (rC (.int 0))))
def m__law_cell : List PyData → Re PyData := runF 2 2 s__law_cell
def N__law_digits : List Str := ["cell", "sizes", "row", "size"]
def s__law_digits : Rho → Sr := (sSeq (sSetO 2 false (rLst aNil))
    (sSeq (sFor (iOf itS (rVar 1)) (gSlot 3) (sSeq (sApp 2 false (r2 oMod (rB bInt (aCons (rVar 0) aNil)) (rVar 3)))
    (sSet 0 false (r2 oDiv (rVar 0) (rVar 3)))))
    (sRet (rVar 2))))
def m__law_digits : List PyData → Re PyData := runF 2 4 s__law_digits
def N__law_is_integer : List Str := ["actual"]
def s__law_is_integer : Rho → Sr := (sRet (rAnd (rIsi "int" (rVar 0)) (rNot (rIsi "bool" (rVar 0)))))
def m__law_is_integer : List PyData → Re PyData := runF 1 1 s__law_is_integer
def N__law_moved : List Str := ["row", "move", "cells", "k", "i", "j", "m"]
def s__law_moved : Rho → Sr := (sSeq (sSetO 2 false (rB bList (aCons (rVar 0) aNil)))
    (sSeq (sIf (asB (r2 oEq (r2 oIx (rVar 1) (rC (.int 0))) (rC (.str "swap")))) (sSeq (sPut 2 false (r2 oIx (rVar 0) (r2 oIx (rVar 1) (rC (.int 2)))) (r2 oIx (rVar 1) (rC (.int 1))))
    (sPut 2 false (r2 oIx (rVar 0) (r2 oIx (rVar 1) (rC (.int 1)))) (r2 oIx (rVar 1) (rC (.int 2))))) sNil)
    (sSeq (sIf (asB (r2 oEq (r2 oIx (rVar 1) (rC (.int 0))) (rC (.str "next")))) (sSeq (sPut 2 false (r2 oIx (rVar 0) (r2 oAdd (r2 oIx (rVar 1) (rC (.int 1))) (rC (.int 1)))) (r2 oIx (rVar 1) (rC (.int 1))))
    (sPut 2 false (r2 oIx (rVar 0) (r2 oIx (rVar 1) (rC (.int 1)))) (r2 oAdd (r2 oIx (rVar 1) (rC (.int 1))) (rC (.int 1))))) sNil)
    (sSeq (sIf (asB (r2 oEq (r2 oIx (rVar 1) (rC (.int 0))) (rC (.str "take")))) (sSeq (sPop 2 (r2 oIx (rVar 1) (rC (.int 1))))
    (sIns 2 false (r2 oIx (rVar 1) (rC (.int 2))) (r2 oIx (rVar 0) (r2 oIx (rVar 1) (rC (.int 1)))))) sNil)
    (sSeq (sIf (asB (r2 oEq (r2 oIx (rVar 1) (rC (.int 0))) (rC (.str "flip")))) (sFor (iR2 (aCons (r2 oIx (rVar 1) (rC (.int 1))) (aCons (r2 oAdd (r2 oIx (rVar 1) (rC (.int 2))) (rC (.int 1))) aNil))) (gSlot 3) (sPut 2 false (r2 oIx (rVar 0) (r2 oSub (r2 oAdd (r2 oIx (rVar 1) (rC (.int 1))) (r2 oIx (rVar 1) (rC (.int 2)))) (rVar 3))) (rVar 3))) sNil)
    (sSeq (sIf (asB (r2 oEq (r2 oIx (rVar 1) (rC (.int 0))) (rC (.str "blocks")))) (sSeq (sAsg false (gSeqD 4 (gMore (gSlot 4) (gMore (gSlot 5) (gMore (gSlot 3) (gMore (gSlot 6) gNone))))) (rCut (rVar 1) (asI (rC (.int 1))) noI))
    (sSetO 2 false (rB bList (aCons (r2 oAdd (r2 oAdd (r2 oAdd (r2 oAdd (rCut (rVar 0) noI (asI (rVar 4))) (rCut (rVar 0) (asI (rVar 3)) (asI (rVar 6)))) (rCut (rVar 0) (asI (rVar 5)) (asI (rVar 3)))) (rCut (rVar 0) (asI (rVar 4)) (asI (rVar 5)))) (rCut (rVar 0) (asI (rVar 6)) noI)) aNil)))) sNil)
    (sRet (rB bTuple (aCons (rVar 2) aNil)))))))))
def m__law_moved : List PyData → Re PyData := runF 2 7 s__law_moved
def N__law_rich : List Str := ["cell", "low", "high"]
def s__law_rich : Rho → Sr := (sSeq (sIf (asB (r2 oGe (rVar 0) (r2 oPow (rC (.int 10)) (rC (.int 18))))) (sRet (rVar 0)) sNil)
    (sSeq (sSet 1 false (r2 oMod (rB bInt (aCons (r2 oAdd (r2 oMul (rVar 0) (rC (.int 48271))) (rC (.int 11))) aNil)) (rC (.int 2147483647))))
    (sSeq (sSet 2 false (r2 oMod (rB bInt (aCons (r2 oAdd (r2 oAdd (r2 oMul (rVar 1) (rC (.int 69621))) (r2 oDiv (rVar 0) (rC (.int 7)))) (rC (.int 5))) aNil)) (rC (.int 2147483629))))
    (sRet (r2 oAdd (r2 oMul (rVar 1) (rC (.int 2147483629))) (rVar 2))))))
def m__law_rich : List PyData → Re PyData := runF 1 3 s__law_rich
def N__law_row : List Str := ["cell", "n", "left", "rest", "row", "k"]
def s__law_row : Rho → Sr := (sSeq (sSetO 2 false (rLc (iR1 (aCons (rVar 1) aNil)) [5] (gSlot 5) yesR (r2 oAdd (rVar 5) (rC (.int 1)))))
    (sSeq (sSet 3 false (rCall m__law_rich (aCons (rVar 0) aNil)))
    (sSeq (sSetO 4 false (rLst aNil))
    (sSeq (sFor (iR1 (aCons (rVar 1) aNil)) (gSlot 5) (sSeq (sAppPop 4 2 (r2 oMod (rB bInt (aCons (rVar 3) aNil)) (r2 oSub (rVar 1) (rVar 5))))
    (sSet 3 false (r2 oDiv (rVar 3) (r2 oSub (rVar 1) (rVar 5))))))
    (sRet (rB bTuple (aCons (rVar 4) aNil)))))))
def m__law_row : List PyData → Re PyData := runF 2 6 s__law_row
def N_sorted_row : List Str := ["n"]
def s_sorted_row : Rho → Sr := (sRet (rTupRg (rC (.int 1)) (r2 oAdd (rVar 0) (rC (.int 1)))))
def m_sorted_row : List PyData → Re PyData := runF 1 1 s_sorted_row
def N_check_row : List Str := ["row"]
def s_check_row : Rho → Sr := (sSeq (sIf (tOrR (asB (r2 oGt (rB bLen (aCons (rVar 0) aNil)) (rC (.int 40)))) (asB (r2 oNe (rB bTuple (aCons (rB bSorted (aCons (rVar 0) aNil)) aNil)) (rCall m_sorted_row (aCons (rB bLen (aCons (rVar 0) aNil)) aNil))))) (sErr "InvalidRow") sNil)
    (sRet (rVar 0)))
def m_check_row : List PyData → Re PyData := runF 1 1 s_check_row
def N_check_same_length : List Str := ["first", "second"]
def s_check_same_length : Rho → Sr := (sIf (asB (r2 oNe (rB bLen (aCons (rVar 0) aNil)) (rB bLen (aCons (rVar 1) aNil)))) (sErr "InvalidRow") sNil)
def m_check_same_length : List PyData → Re PyData := runF 2 2 s_check_same_length
def N_relative_row : List Str := ["first", "second", "piece"]
def s_relative_row : Rho → Sr := (sSeq (sDrop (rCall m_check_row (aCons (rVar 0) aNil)))
    (sSeq (sDrop (rCall m_check_row (aCons (rVar 1) aNil)))
    (sSeq (sDrop (rCall m_check_same_length (aCons (rVar 0) (aCons (rVar 1) aNil))))
    (sRet (rB bTuple (aCons (rLc (iOf itS (rVar 0)) [2] (gSlot 2) yesR (r2 oAdd (rMeth oIdx (rVar 1) (aCons (rVar 2) aNil)) (rC (.int 1)))) aNil))))))
def m_relative_row : List PyData → Re PyData := runF 2 3 s_relative_row
def N_wrong_pairs : List Str := ["row", "n", "p", "q"]
def s_wrong_pairs : Rho → Sr := (sSeq (sSet 1 false (rB bLen (aCons (rVar 0) aNil)))
    (sRet (rB bTuple (aCons (rLc2 (iR1 (aCons (rVar 1) aNil)) [2, 3] (gSlot 2) yesR (iR2 (aCons (r2 oAdd (rVar 2) (rC (.int 1))) (aCons (rVar 1) aNil))) [3] (gSlot 3) (asB (r2 oGt (r2 oIx (rVar 0) (rVar 2)) (r2 oIx (rVar 0) (rVar 3)))) (rTup (aCons (rVar 2) (aCons (rVar 3) aNil)))) aNil))))
def m_wrong_pairs : List PyData → Re PyData := runF 1 4 s_wrong_pairs
def N_least_nexts : List Str := ["first", "second"]
def s_least_nexts : Rho → Sr := (sRet (rB bLen (aCons (rCall m_wrong_pairs (aCons (rCall m_relative_row (aCons (rVar 0) (aCons (rVar 1) aNil))) aNil)) aNil)))
def m_least_nexts : List PyData → Re PyData := runF 2 2 s_least_nexts
def N_exchanged : List Str := ["row", "i", "j", "k", "l"]
def s_exchanged : Rho → Sr := (sRet (r2 oAdd (r2 oAdd (r2 oAdd (r2 oAdd (rCut (rVar 0) noI (asI (rVar 1))) (rCut (rVar 0) (asI (rVar 3)) (asI (rVar 4)))) (rCut (rVar 0) (asI (rVar 2)) (asI (rVar 3)))) (rCut (rVar 0) (asI (rVar 1)) (asI (rVar 2)))) (rCut (rVar 0) (asI (rVar 4)) noI)))
def m_exchanged : List PyData → Re PyData := runF 5 5 s_exchanged
def N_flipped : List Str := ["row", "i", "j"]
def s_flipped : Rho → Sr := (sRet (r2 oAdd (r2 oAdd (rCut (rVar 0) noI (asI (rVar 1))) (r2 oRev (rCut (rVar 0) (asI (rVar 1)) (asI (r2 oAdd (rVar 2) (rC (.int 1))))) (r1 oNeg (rC (.int 1))))) (rCut (rVar 0) (asI (r2 oAdd (rVar 2) (rC (.int 1)))) noI)))
def m_flipped : List PyData → Re PyData := runF 3 3 s_flipped
def N_is_move : List Str := ["n", "move", "word", "numbers", "i", "j", "k", "l"]
def s_is_move : Rho → Sr := (sSeq (sIf (tOrR (asB (r2 oEq (rB bLen (aCons (rVar 1) aNil)) (rC (.int 0)))) (tOrR (asB (r1 (tabIn tab_NUMBERS true) (r2 oIx (rVar 1) (rC (.int 0))))) (asB (r2 oNe (rB bLen (aCons (rVar 1) aNil)) (r2 oAdd (rC (.int 1)) (r1 (tabGet tab_NUMBERS) (r2 oIx (rVar 1) (rC (.int 0))))))))) (sRet (rC (.bool false))) sNil)
    (sSeq (sStar 2 3 (rVar 1))
    (sSeq (sIf (asB (r2 oEq (rVar 2) (rC (.str "blocks")))) (sSeq (sAsg false (gSeqD 4 (gMore (gSlot 4) (gMore (gSlot 5) (gMore (gSlot 6) (gMore (gSlot 7) gNone))))) (rVar 3))
    (sRet (rCh (rC (.int 0)) (cLink oLe (rVar 4) (cLink oLt (rVar 5) (cLink oLe (rVar 6) (cLink oLt (rVar 7) (cLast oLe (rVar 0))))))))) sNil)
    (sSeq (sIf (tOrR (asB (r2 oLt (rB bMinA (aCons (rVar 3) aNil)) (rC (.int 0)))) (asB (r2 oGe (rB bMaxA (aCons (rVar 3) aNil)) (rVar 0)))) (sRet (rC (.bool false))) sNil)
    (sSeq (sIf (asB (r2 oEq (rVar 2) (rC (.str "next")))) (sRet (r2 oLt (r2 oAdd (r2 oIx (rVar 3) (rC (.int 0))) (rC (.int 1))) (rVar 0))) sNil)
    (sSeq (sIf (asB (r2 oEq (rVar 2) (rC (.str "take")))) (sRet (r2 oNe (r2 oIx (rVar 3) (rC (.int 0))) (r2 oIx (rVar 3) (rC (.int 1))))) sNil)
    (sRet (r2 oLt (r2 oIx (rVar 3) (rC (.int 0))) (r2 oIx (rVar 3) (rC (.int 1)))))))))))
def m_is_move : List PyData → Re PyData := runF 2 8 s_is_move
def N_swapped : List Str := ["row", "i", "j", "pieces"]
def s_swapped : Rho → Sr := (sSeq (sSetO 3 false (rB bList (aCons (rVar 0) aNil)))
    (sSeq (sPut2 3 (aCons (r2 oIx (rVar 3) (rVar 2)) (aCons (r2 oIx (rVar 3) (rVar 1)) aNil)) (rVar 1) (rVar 2))
    (sRet (rB bTuple (aCons (rVar 3) aNil)))))
def m_swapped : List PyData → Re PyData := runF 3 4 s_swapped
def N_taken : List Str := ["row", "i", "j", "rest"]
def s_taken : Rho → Sr := (sSeq (sSet 3 false (r2 oAdd (rCut (rVar 0) noI (asI (rVar 1))) (rCut (rVar 0) (asI (r2 oAdd (rVar 1) (rC (.int 1)))) noI)))
    (sRet (r2 oAdd (r2 oAdd (rCut (rVar 3) noI (asI (rVar 2))) (rTup (aCons (r2 oIx (rVar 0) (rVar 1)) aNil))) (rCut (rVar 3) (asI (rVar 2)) noI))))
def m_taken : List PyData → Re PyData := runF 3 4 s_taken
def N_moved : List Str := ["row", "move", "word", "numbers", "i", "j", "k", "l"]
def s_moved : Rho → Sr := (sSeq (sIf (tNotR (asB (rCall m_is_move (aCons (rB bLen (aCons (rVar 0) aNil)) (aCons (rVar 1) aNil))))) (sErr "InvalidMove") sNil)
    (sSeq (sStar 2 3 (rVar 1))
    (sSeq (sIf (asB (r2 oEq (rVar 2) (rC (.str "next")))) (sRet (rCall m_swapped (aCons (rVar 0) (aCons (r2 oIx (rVar 3) (rC (.int 0))) (aCons (r2 oAdd (r2 oIx (rVar 3) (rC (.int 0))) (rC (.int 1))) aNil))))) sNil)
    (sSeq (sIf (asB (r2 oEq (rVar 2) (rC (.str "blocks")))) (sSeq (sAsg false (gSeqD 4 (gMore (gSlot 4) (gMore (gSlot 5) (gMore (gSlot 6) (gMore (gSlot 7) gNone))))) (rVar 3))
    (sRet (rCall m_exchanged (aCons (rVar 0) (aCons (rVar 4) (aCons (rVar 5) (aCons (rVar 6) (aCons (rVar 7) aNil)))))))) sNil)
    (sSeq (sAsg false (gSeqD 2 (gMore (gSlot 4) (gMore (gSlot 5) gNone))) (rVar 3))
    (sSeq (sIf (asB (r2 oEq (rVar 2) (rC (.str "swap")))) (sRet (rCall m_swapped (aCons (rVar 0) (aCons (rVar 4) (aCons (rVar 5) aNil))))) sNil)
    (sSeq (sIf (asB (r2 oEq (rVar 2) (rC (.str "take")))) (sRet (rCall m_taken (aCons (rVar 0) (aCons (rVar 4) (aCons (rVar 5) aNil))))) sNil)
    (sRet (rCall m_flipped (aCons (rVar 0) (aCons (rVar 4) (aCons (rVar 5) aNil))))))))))))
def m_moved : List PyData → Re PyData := runF 2 8 s_moved
def N_do_move : List Str := ["row", "move"]
def s_do_move : Rho → Sr := (sRet (rCall m_moved (aCons (rCall m_check_row (aCons (rVar 0) aNil)) (aCons (rVar 1) aNil))))
def m_do_move : List PyData → Re PyData := runF 2 2 s_do_move
def N_one_move_nearer : List Str := ["ways", "nearer", "row", "i", "after"]
def one_move_nearer_s0 : Rho → Sr := (sForT 0 (gSlot 2) (sFor (iR1 (aCons (r2 oSub (rB bLen (aCons (rVar 2) aNil)) (rC (.int 1))) aNil)) (gSlot 3) (sIf (asB (r2 oGt (r2 oIx (rVar 2) (rVar 3)) (r2 oIx (rVar 2) (r2 oAdd (rVar 3) (rC (.int 1)))))) (sSeq (sSet 4 false (rCall m_do_move (aCons (rVar 2) (aCons (rTup (aCons (rC (.str "next")) (aCons (rVar 3) aNil))) aNil)))) (sPutT 1 (r2 oAdd (rDGO (rVar 1) (rVar 4) (rC (.int 0))) (r2 oDGT (rVar 0) (rVar 2))) (rVar 4))) sNil)))
def s_one_move_nearer : Rho → Sr := (sSeq (sSetO 1 false (rC (dT []))) (sSeq one_move_nearer_s0 (sRet (rVar 1))))
def m_one_move_nearer : List PyData → Re PyData := runF 1 5 s_one_move_nearer
def N_next_ways : List Str := ["first", "second", "row", "ways", "_"]
def next_ways_s0 : Rho → Sr := (sSet 3 false (rCall m_one_move_nearer (aCons (rVar 3) aNil)))
def next_ways_s1 : Rho → Sr := (sFor (iOf itS (rCall m_wrong_pairs (aCons (rVar 2) aNil))) (gSlot 4) next_ways_s0)
def s_next_ways : Rho → Sr := (sSeq (sSet 2 false (rCall m_relative_row (aCons (rVar 0) (aCons (rVar 1) aNil)))) (sSeq (sIf (asB (r2 oGt (rB bLen (aCons (rVar 2) aNil)) (rC (.int 7)))) (sErr "OutOfRange") sNil) (sSeq (sSet 3 false (rDispT (rVar 2) (rC (.int 1)))) (sSeq next_ways_s1 (sRet (r2 oDGT (rVar 3) (rCall m_sorted_row (aCons (rB bLen (aCons (rVar 2) aNil)) aNil))))))))
def m_next_ways : List PyData → Re PyData := runF 2 5 s_next_ways
def N_law : List Str := ["script", "d", "n", "first", "second", "told", "total", "i", "other", "long_row"]
def law_s0 : Rho → Sr := (sSet 1 false (rCall m__law_digits (aCons (rCall m__law_rich (aCons (rCall m__law_cell (aCons (rVar 0) (aCons (rC (.int 0)) aNil))) aNil)) (aCons (rLst (aCons (rC (.int 7)) (aCons (rC (.int 8)) (aCons (rC (.int 33)) (aCons (rC (.int 3)) aNil))))) aNil))))
def law_s1 : Rho → Sr := (sIf (asB (r2 oLt (rCall m_least_nexts (aCons (rVar 8) (aCons (rVar 4) aNil))) (rCall m_least_nexts (aCons (rVar 3) (aCons (rVar 4) aNil))))) (sSet 6 false (r2 oAdd (rVar 6) (rCall m_next_ways (aCons (rVar 8) (aCons (rVar 4) aNil))))) sNil)
def law_s2 : Rho → Sr := (sSeq (sSet 8 false (rCall m__law_moved (aCons (rVar 3) (aCons (rTup (aCons (rC (.str "next")) (aCons (rVar 7) aNil))) aNil)))) law_s1)
def law_s3 : Rho → Sr := (sFor (iR1 (aCons (r2 oSub (rVar 2) (rC (.int 1))) aNil)) (gSlot 7) law_s2)
def law_s4 : Rho → Sr := (sTry "OutOfRange" (sDrop (rCall m_next_ways (aCons (rVar 9) (aCons (rVar 9) aNil)))) (sRet (rC (.bool true))))
def s_law : Rho → Sr := (sSeq law_s0 (sSeq (sSet 2 false (r2 oIx (rLst (aCons (r2 oIx (rVar 1) (rC (.int 0))) (aCons (rC (.int 7)) aNil))) (rB bInt (aCons (r2 oEq (r2 oIx (rVar 1) (rC (.int 1))) (rC (.int 0))) aNil)))) (sSeq (sSet 3 false (rCall m__law_row (aCons (rCall m__law_cell (aCons (rVar 0) (aCons (rC (.int 1)) aNil))) (aCons (rVar 2) aNil)))) (sSeq (sSet 4 false (rCall m__law_row (aCons (rCall m__law_cell (aCons (rVar 0) (aCons (rC (.int 2)) aNil))) (aCons (rVar 2) aNil)))) (sSeq (sIf (asB (r2 oEq (r2 oIx (rVar 1) (rC (.int 3))) (rC (.int 0)))) (sSet 4 false (rVar 3)) sNil) (sSeq (sSet 5 false (rCall m_next_ways (aCons (rVar 3) (aCons (rVar 4) aNil)))) (sSeq (sIf (tNotR (asB (rCall m__law_is_integer (aCons (rVar 5) aNil)))) (sRet (rC (.bool false))) sNil) (sSeq (sSet 6 false (rB bInt (aCons (r2 oEq (rVar 3) (rVar 4)) aNil))) (sSeq law_s3 (sSeq (sIf (asB (r2 oNe (rVar 5) (rVar 6))) (sRet (rC (.bool false))) sNil) (sSeq (sSet 9 false (rCall m__law_row (aCons (rCall m__law_cell (aCons (rVar 0) (aCons (rC (.int 3)) aNil))) (aCons (r2 oAdd (rC (.int 8)) (r2 oIx (rVar 1) (rC (.int 2)))) aNil)))) (sSeq law_s4 (sRet (rC (.bool false)))))))))))))))
def m_law : List PyData → Re PyData := runF 1 10 s_law
end
end Gn

set_option Elab.async false
set_option linter.all false
set_option maxRecDepth 100000
set_option maxHeartbeats 4000000
namespace Gn
open PySem PySem.Spec PyProof.Rows L2 Pu
/-! ### the text -/
def top (i : Nat) : Stmt := PySem.Challenge.pw_turnedrows_k14_ways_of_nexts.main.body.getD i (.Pass ⟨0, 0, 0, 0⟩)
abbrev st__law_cell : Stmt := top 27
abbrev st__law_digits : Stmt := top 28
abbrev st__law_is_integer : Stmt := top 32
abbrev st__law_moved : Stmt := top 31
abbrev st__law_rich : Stmt := top 29
abbrev st__law_row : Stmt := top 30
abbrev st_sorted_row : Stmt := top 7
abbrev st_check_row : Stmt := top 8
abbrev st_check_same_length : Stmt := top 9
abbrev st_relative_row : Stmt := top 10
abbrev st_wrong_pairs : Stmt := top 22
abbrev st_least_nexts : Stmt := top 23
abbrev st_exchanged : Stmt := top 17
abbrev st_flipped : Stmt := top 16
abbrev st_is_move : Stmt := top 13
abbrev st_swapped : Stmt := top 14
abbrev st_taken : Stmt := top 15
abbrev st_moved : Stmt := top 18
abbrev st_do_move : Stmt := top 19
abbrev st_one_move_nearer : Stmt := top 24
abbrev st_next_ways : Stmt := top 25
abbrev st_law : Stmt := top 33
/-! ### what the head tells -/
structure Ct (K : PySem.W.Frag) (mg : Str → Option Value) (w : World) : Prop where
  f__law_cell : FnAt K mg "_law_cell" st__law_cell
  f__law_digits : FnAt K mg "_law_digits" st__law_digits
  f__law_is_integer : FnAt K mg "_law_is_integer" st__law_is_integer
  f__law_moved : FnAt K mg "_law_moved" st__law_moved
  f__law_rich : FnAt K mg "_law_rich" st__law_rich
  f__law_row : FnAt K mg "_law_row" st__law_row
  f_sorted_row : FnAt K mg "sorted_row" st_sorted_row
  f_check_row : FnAt K mg "check_row" st_check_row
  f_check_same_length : FnAt K mg "check_same_length" st_check_same_length
  f_relative_row : FnAt K mg "relative_row" st_relative_row
  f_wrong_pairs : FnAt K mg "wrong_pairs" st_wrong_pairs
  f_least_nexts : FnAt K mg "least_nexts" st_least_nexts
  f_exchanged : FnAt K mg "exchanged" st_exchanged
  f_flipped : FnAt K mg "flipped" st_flipped
  f_is_move : FnAt K mg "is_move" st_is_move
  f_swapped : FnAt K mg "swapped" st_swapped
  f_taken : FnAt K mg "taken" st_taken
  f_moved : FnAt K mg "moved" st_moved
  f_do_move : FnAt K mg "do_move" st_do_move
  f_one_move_nearer : FnAt K mg "one_move_nearer" st_one_move_nearer
  f_next_ways : FnAt K mg "next_ways" st_next_ways
  f_law : FnAt K mg "law" st_law
  b_bool : mg "bool" = none
  b_int : mg "int" = none
  b_isinstance : mg "isinstance" = none
  b_len : mg "len" = none
  b_list : mg "list" = none
  b_max : mg "max" = none
  b_min : mg "min" = none
  b_range : mg "range" = none
  b_sorted : mg "sorted" = none
  b_tuple : mg "tuple" = none
  i_MOST_PIECES : ∃ t, mg "MOST_PIECES" = some (.int 40 t)
  i_MOST_TO_COUNT : ∃ t, mg "MOST_TO_COUNT" = some (.int 7 t)
  e_InvalidMove : ErrC K mg "InvalidMove" (He.ga K "InvalidMove")
  e_InvalidRow : ErrC K mg "InvalidRow" (He.ga K "InvalidRow")
  e_OutOfRange : ErrC K mg "OutOfRange" (He.ga K "OutOfRange")
  t_NUMBERS : TabC K mg w "NUMBERS" tab_NUMBERS
/-! ### each def is its mirror -/
section
variable {P : Program} {w : World} {K : PySem.W.Frag} {mg : Str → Option Value} {base : Heap}
theorem nd__law_cell : N__law_cell.Nodup := by decide +kernel
def M__law_cell : Nat → Bool := fun i => false
theorem sc__law_cell : FnScope N__law_cell ["script", "k"] (defScope st__law_cell) := ⟨rfl, rfl, rfl, nd__law_cell, rfl, by decide +kernel, by decide +kernel⟩
theorem bo__law_cell (c : Ct K mg w) (k : Nat) (fA : Addr) (cdv : Value) (A : Around) (outer : List Env) (sh : Shared) (H : Hp) (Ex : XK) (G : Gd (cxOf (L2.CX P w) P w K mg base N__law_cell "_law_cell" (defScope st__law_cell) fA cdv A outer sh H Ex) (fun _ => Ex) (k + 0)) (F : Fx) :
    DSs (cxOf (L2.CX P w) P w K mg base N__law_cell "_law_cell" (defScope st__law_cell) fA cdv A outer sh H Ex) M__law_cell F (fun _ => Ex) (defBody st__law_cell) s__law_cell :=
    (dss_cons (ds_if (dt_cmp op_lt s_lt (de_var 1) (db call_len_seq s_len c.b_len boot_len (da_cons (de_var 0) da_nil)) (by first | exact nomark _ | rfl)) (dss_one (ds_ret (de_ix (de_var 0) (de_var 1)))) dss_nil)
    (dss_one (ds_ret de_int)))
theorem has__law_cell (c : Ct K mg w) (k : Nat) : Has P w K mg base (k + 1) "_law_cell" ["script", "k"] m__law_cell := has_of c.f__law_cell sc__law_cell M__law_cell (by decide) s__law_cell (fun _ _ _ _ _ _ us hl => match us, hl with | [_, _], _ => rfl) (bo__law_cell c k)
theorem nd__law_digits : N__law_digits.Nodup := by decide +kernel
def M__law_digits : Nat → Bool := fun i => i == 2
theorem sc__law_digits : FnScope N__law_digits ["cell", "sizes"] (defScope st__law_digits) := ⟨rfl, rfl, rfl, nd__law_digits, rfl, by decide +kernel, by decide +kernel⟩
theorem bo__law_digits (c : Ct K mg w) (k : Nat) (fA : Addr) (cdv : Value) (A : Around) (outer : List Env) (sh : Shared) (H : Hp) (Ex : XK) (G : Gd (cxOf (L2.CX P w) P w K mg base N__law_digits "_law_digits" (defScope st__law_digits) fA cdv A outer sh H Ex) (fun _ => Ex) (k + 0)) (F : Fx) :
    DSs (cxOf (L2.CX P w) P w K mg base N__law_digits "_law_digits" (defScope st__law_digits) fA cdv A outer sh H Ex) M__law_digits F (fun _ => Ex) (defBody st__law_digits) s__law_digits :=
    (dss_cons (ds_setO (i := 2) rfl nd__law_digits (de_lst da_nil))
    (dss_cons (ds_for G.own rfl (di_seq (de_var 1)) (dg_name 3 rfl nd__law_digits) (dss_cons (ds_app (i := 2) rfl (de_op op_mod s_mod (dt call_int1 s_int c.b_int boot_int (da_cons (de_var 0) da_nil)) (de_var 3)))
    (dss_one (ds_set (i := 0) rfl nd__law_digits (de_op op_fdivW s_div (de_var 0) (de_var 3))))))
    (dss_one (ds_ret (de_var 2)))))
theorem has__law_digits (c : Ct K mg w) (k : Nat) : Has P w K mg base (k + 1) "_law_digits" ["cell", "sizes"] m__law_digits := has_of c.f__law_digits sc__law_digits M__law_digits (by decide) s__law_digits (fun _ _ _ _ _ _ us hl => match us, hl with | [_, _], _ => rfl) (bo__law_digits c k)
theorem nd__law_is_integer : N__law_is_integer.Nodup := by decide +kernel
def M__law_is_integer : Nat → Bool := fun i => false
theorem sc__law_is_integer : FnScope N__law_is_integer ["actual"] (defScope st__law_is_integer) := ⟨rfl, rfl, rfl, nd__law_is_integer, rfl, by decide +kernel, by decide +kernel⟩
theorem bo__law_is_integer (c : Ct K mg w) (k : Nat) (fA : Addr) (cdv : Value) (A : Around) (outer : List Env) (sh : Shared) (H : Hp) (Ex : XK) (G : Gd (cxOf (L2.CX P w) P w K mg base N__law_is_integer "_law_is_integer" (defScope st__law_is_integer) fA cdv A outer sh H Ex) (fun _ => Ex) (k + 0)) (F : Fx) :
    DSs (cxOf (L2.CX P w) P w K mg base N__law_is_integer "_law_is_integer" (defScope st__law_is_integer) fA cdv A outer sh H Ex) M__law_is_integer F (fun _ => Ex) (defBody st__law_is_integer) s__law_is_integer :=
    (dss_one (ds_ret (de_and (de_isi (p2 := ⟨0, 0, 0, 0⟩) (T := "int") rfl c.b_isinstance rfl c.b_int boot_int (de_var 0)) (de_one (de_not (de_isi (p2 := ⟨0, 0, 0, 0⟩) (T := "bool") rfl c.b_isinstance rfl c.b_bool boot_bool (de_var 0)))))))
theorem has__law_is_integer (c : Ct K mg w) (k : Nat) : Has P w K mg base (k + 1) "_law_is_integer" ["actual"] m__law_is_integer := has_of c.f__law_is_integer sc__law_is_integer M__law_is_integer (by decide) s__law_is_integer (fun _ _ _ _ _ _ us hl => match us, hl with | [_], _ => rfl) (bo__law_is_integer c k)
theorem nd__law_moved : N__law_moved.Nodup := by decide +kernel
def M__law_moved : Nat → Bool := fun i => i == 2
theorem sc__law_moved : FnScope N__law_moved ["row", "move"] (defScope st__law_moved) := ⟨rfl, rfl, rfl, nd__law_moved, rfl, by decide +kernel, by decide +kernel⟩
theorem bo__law_moved (c : Ct K mg w) (k : Nat) (fA : Addr) (cdv : Value) (A : Around) (outer : List Env) (sh : Shared) (H : Hp) (Ex : XK) (G : Gd (cxOf (L2.CX P w) P w K mg base N__law_moved "_law_moved" (defScope st__law_moved) fA cdv A outer sh H Ex) (fun _ => Ex) (k + 0)) (F : Fx) :
    DSs (cxOf (L2.CX P w) P w K mg base N__law_moved "_law_moved" (defScope st__law_moved) fA cdv A outer sh H Ex) M__law_moved F (fun _ => Ex) (defBody st__law_moved) s__law_moved :=
    (dss_cons (ds_setO (i := 2) rfl nd__law_moved (dt call_list_of s_list c.b_list boot_list (da_cons (de_var 0) da_nil)))
    (dss_cons (ds_if (dt_cmp (op_eqD (by exact ru G.room)) s_eq (de_ix (de_var 1) de_int) de_str (by first | exact nomark _ | rfl)) (dss_cons (ds_put (i := 2) rfl (de_ix (de_var 0) (de_ix (de_var 1) de_int)) (de_ix (de_var 1) de_int))
    (dss_one (ds_put (i := 2) rfl (de_ix (de_var 0) (de_ix (de_var 1) de_int)) (de_ix (de_var 1) de_int)))) dss_nil)
    (dss_cons (ds_if (dt_cmp (op_eqD (by exact ru G.room)) s_eq (de_ix (de_var 1) de_int) de_str (by first | exact nomark _ | rfl)) (dss_cons (ds_put (i := 2) rfl (de_ix (de_var 0) (de_op op_addA s_add (de_ix (de_var 1) de_int) de_int)) (de_ix (de_var 1) de_int))
    (dss_one (ds_put (i := 2) rfl (de_ix (de_var 0) (de_ix (de_var 1) de_int)) (de_op op_addA s_add (de_ix (de_var 1) de_int) de_int)))) dss_nil)
    (dss_cons (ds_if (dt_cmp (op_eqD (by exact ru G.room)) s_eq (de_ix (de_var 1) de_int) de_str (by first | exact nomark _ | rfl)) (dss_cons (ds_pop (j := 2) rfl (de_ix (de_var 1) de_int))
    (dss_one (ds_ins (i := 2) rfl (de_ix (de_var 1) de_int) (de_ix (de_var 0) (de_ix (de_var 1) de_int))))) dss_nil)
    (dss_cons (ds_if (dt_cmp (op_eqD (by exact ru G.room)) s_eq (de_ix (de_var 1) de_int) de_str (by first | exact nomark _ | rfl)) (dss_one (ds_for G.own rfl (di_rg2 (by rfl) c.b_range (da_cons (de_ix (de_var 1) de_int) (da_cons (de_op op_addA s_add (de_ix (de_var 1) de_int) de_int) da_nil))) (dg_name 3 rfl nd__law_moved) (dss_one (ds_put (i := 2) rfl (de_ix (de_var 0) (de_op op_sub s_sub (de_op op_addA s_add (de_ix (de_var 1) de_int) (de_ix (de_var 1) de_int)) (de_var 3))) (de_var 3))))) dss_nil)
    (dss_cons (ds_if (dt_cmp (op_eqD (by exact ru G.room)) s_eq (de_ix (de_var 1) de_int) de_str (by first | exact nomark _ | rfl)) (dss_cons (ds_asg (dg_seq rfl (dgs_cons (dg_name 4 rfl nd__law_moved) (dgs_cons (dg_name 5 rfl nd__law_moved) (dgs_cons (dg_name 3 rfl nd__law_moved) (dgs_cons (dg_name 6 rfl nd__law_moved) dgs_nil))))) (de_cut (de_var 1) (do_some de_int) do_none))
    (dss_one (ds_setO (i := 2) rfl nd__law_moved (dt call_list_of s_list c.b_list boot_list (da_cons (de_op op_addA s_add (de_op op_addA s_add (de_op op_addA s_add (de_op op_addA s_add (de_cut (de_var 0) do_none (do_some (de_var 4))) (de_cut (de_var 0) (do_some (de_var 3)) (do_some (de_var 6)))) (de_cut (de_var 0) (do_some (de_var 5)) (do_some (de_var 3)))) (de_cut (de_var 0) (do_some (de_var 4)) (do_some (de_var 5)))) (de_cut (de_var 0) (do_some (de_var 6)) do_none)) da_nil))))) dss_nil)
    (dss_one (ds_ret (dt call_tuple_ofF s_tuple c.b_tuple boot_tuple (da_cons (de_var 2) da_nil))))))))))
theorem has__law_moved (c : Ct K mg w) (k : Nat) : Has P w K mg base (k + 1) "_law_moved" ["row", "move"] m__law_moved := has_of c.f__law_moved sc__law_moved M__law_moved (by decide) s__law_moved (fun _ _ _ _ _ _ us hl => match us, hl with | [_, _], _ => rfl) (bo__law_moved c k)
theorem nd__law_rich : N__law_rich.Nodup := by decide +kernel
def M__law_rich : Nat → Bool := fun i => false
theorem sc__law_rich : FnScope N__law_rich ["cell"] (defScope st__law_rich) := ⟨rfl, rfl, rfl, nd__law_rich, rfl, by decide +kernel, by decide +kernel⟩
theorem bo__law_rich (c : Ct K mg w) (k : Nat) (fA : Addr) (cdv : Value) (A : Around) (outer : List Env) (sh : Shared) (H : Hp) (Ex : XK) (G : Gd (cxOf (L2.CX P w) P w K mg base N__law_rich "_law_rich" (defScope st__law_rich) fA cdv A outer sh H Ex) (fun _ => Ex) (k + 0)) (F : Fx) :
    DSs (cxOf (L2.CX P w) P w K mg base N__law_rich "_law_rich" (defScope st__law_rich) fA cdv A outer sh H Ex) M__law_rich F (fun _ => Ex) (defBody st__law_rich) s__law_rich :=
    (dss_cons (ds_if (dt_cmp op_ge s_ge (de_var 0) (de_op op_pow s_pow de_int de_int) (by first | exact nomark _ | rfl)) (dss_one (ds_ret (de_var 0))) dss_nil)
    (dss_cons (ds_set (i := 1) rfl nd__law_rich (de_op op_mod s_mod (dt call_int1 s_int c.b_int boot_int (da_cons (de_op op_addA s_add (de_op op_mulA s_mul (de_var 0) de_int) de_int) da_nil)) de_int))
    (dss_cons (ds_set (i := 2) rfl nd__law_rich (de_op op_mod s_mod (dt call_int1 s_int c.b_int boot_int (da_cons (de_op op_addA s_add (de_op op_addA s_add (de_op op_mulA s_mul (de_var 1) de_int) (de_op op_fdivW s_div (de_var 0) de_int)) de_int) da_nil)) de_int))
    (dss_one (ds_ret (de_op op_addA s_add (de_op op_mulA s_mul (de_var 1) de_int) (de_var 2)))))))
theorem has__law_rich (c : Ct K mg w) (k : Nat) : Has P w K mg base (k + 1) "_law_rich" ["cell"] m__law_rich := has_of c.f__law_rich sc__law_rich M__law_rich (by decide) s__law_rich (fun _ _ _ _ _ _ us hl => match us, hl with | [_], _ => rfl) (bo__law_rich c k)
theorem nd__law_row : N__law_row.Nodup := by decide +kernel
def M__law_row : Nat → Bool := fun i => i == 2 || i == 4
theorem sc__law_row : FnScope N__law_row ["cell", "n"] (defScope st__law_row) := ⟨rfl, rfl, rfl, nd__law_row, rfl, by decide +kernel, by decide +kernel⟩
theorem bo__law_row (c : Ct K mg w) (k : Nat) (fA : Addr) (cdv : Value) (A : Around) (outer : List Env) (sh : Shared) (H : Hp) (Ex : XK) (G : Gd (cxOf (L2.CX P w) P w K mg base N__law_row "_law_row" (defScope st__law_row) fA cdv A outer sh H Ex) (fun _ => Ex) (k + 1)) (F : Fx) :
    DSs (cxOf (L2.CX P w) P w K mg base N__law_row "_law_row" (defScope st__law_row) fA cdv A outer sh H Ex) M__law_row F (fun _ => Ex) (defBody st__law_row) s__law_row :=
    (dss_cons (ds_setOLc (i := 2) (own := [("k", 5)]) [5] rfl rfl nd__law_row (di_rg1 (by rfl) c.b_range (da_cons (de_var 1) da_nil)) (blkOk_by (own := [("k", 5)]) (N := N__law_row) (sc := defScope st__law_row) (by decide +kernel)) (by decide) (fun _ _ _ _ _ _ => (dg_name 5 rfl nd__law_row)) (fun _ _ _ _ _ => dts_nil) (fun _ _ _ _ _ _ => (de_op op_addA s_add (de_var 5) de_int)) (sw_true rfl rfl rfl (by decide +kernel)))
    (dss_cons (ds_set (i := 3) rfl nd__law_row (de_fn (has__law_rich c (k + 0)) G.room G.pass (da_cons (de_var 0) da_nil)))
    (dss_cons (ds_setO (i := 4) rfl nd__law_row (de_lst da_nil))
    (dss_cons (ds_for G.own rfl (di_rg1 (by rfl) c.b_range (da_cons (de_var 1) da_nil)) (dg_name 5 rfl nd__law_row) (dss_cons (ds_appPop (i := 4) (j := 2) rfl rfl (de_op op_mod s_mod (dt call_int1 s_int c.b_int boot_int (da_cons (de_var 3) da_nil)) (de_op op_sub s_sub (de_var 1) (de_var 5))))
    (dss_one (ds_set (i := 3) rfl nd__law_row (de_op op_fdivW s_div (de_var 3) (de_op op_sub s_sub (de_var 1) (de_var 5)))))))
    (dss_one (ds_ret (dt call_tuple_ofF s_tuple c.b_tuple boot_tuple (da_cons (de_var 4) da_nil))))))))
theorem has__law_row (c : Ct K mg w) (k : Nat) : Has P w K mg base (k + 2) "_law_row" ["cell", "n"] m__law_row := has_of c.f__law_row sc__law_row M__law_row (by decide) s__law_row (fun _ _ _ _ _ _ us hl => match us, hl with | [_, _], _ => rfl) (bo__law_row c k)
theorem nd_sorted_row : N_sorted_row.Nodup := by decide +kernel
def M_sorted_row : Nat → Bool := fun i => false
theorem sc_sorted_row : FnScope N_sorted_row ["n"] (defScope st_sorted_row) := ⟨rfl, rfl, rfl, nd_sorted_row, rfl, by decide +kernel, by decide +kernel⟩
theorem bo_sorted_row (c : Ct K mg w) (k : Nat) (fA : Addr) (cdv : Value) (A : Around) (outer : List Env) (sh : Shared) (H : Hp) (Ex : XK) (G : Gd (cxOf (L2.CX P w) P w K mg base N_sorted_row "sorted_row" (defScope st_sorted_row) fA cdv A outer sh H Ex) (fun _ => Ex) (k + 0)) (F : Fx) :
    DSs (cxOf (L2.CX P w) P w K mg base N_sorted_row "sorted_row" (defScope st_sorted_row) fA cdv A outer sh H Ex) M_sorted_row F (fun _ => Ex) (defBody st_sorted_row) s_sorted_row :=
    (dss_one (ds_ret (de_tupRg (by rfl) (by rfl) c.b_tuple (by rfl) c.b_range de_int (de_op op_addA s_add (de_var 0) de_int))))
theorem has_sorted_row (c : Ct K mg w) (k : Nat) : Has P w K mg base (k + 1) "sorted_row" ["n"] m_sorted_row := has_of c.f_sorted_row sc_sorted_row M_sorted_row (by decide) s_sorted_row (fun _ _ _ _ _ _ us hl => match us, hl with | [_], _ => rfl) (bo_sorted_row c k)
theorem nd_check_row : N_check_row.Nodup := by decide +kernel
def M_check_row : Nat → Bool := fun i => false
theorem sc_check_row : FnScope N_check_row ["row"] (defScope st_check_row) := ⟨rfl, rfl, rfl, nd_check_row, rfl, by decide +kernel, by decide +kernel⟩
theorem bo_check_row (c : Ct K mg w) (k : Nat) (fA : Addr) (cdv : Value) (A : Around) (outer : List Env) (sh : Shared) (H : Hp) (Ex : XK) (G : Gd (cxOf (L2.CX P w) P w K mg base N_check_row "check_row" (defScope st_check_row) fA cdv A outer sh H Ex) (fun _ => Ex) (k + 1)) (F : Fx) :
    DSs (cxOf (L2.CX P w) P w K mg base N_check_row "check_row" (defScope st_check_row) fA cdv A outer sh H Ex) M_check_row F (fun _ => Ex) (defBody st_check_row) s_check_row :=
    (dss_cons (ds_if (DW.pt (dw_or (dt_cmp op_gt s_gt (db call_len_seq s_len c.b_len boot_len (da_cons (de_var 0) da_nil)) (de_globE c.i_MOST_PIECES) (by first | exact nomark _ | rfl)) (dw_or1 (dt_cmp (op_neD (by exact ru G.room)) s_ne (dt call_tuple_ofF s_tuple c.b_tuple boot_tuple (da_cons (db cr_srt s_sorted c.b_sorted boot_sorted (da_cons (de_var 0) da_nil)) da_nil)) (de_fn (has_sorted_row c (k + 0)) G.room G.pass (da_cons (db call_len_seq s_len c.b_len boot_len (da_cons (de_var 0) da_nil)) da_nil)) (by first | exact nomark _ | rfl))))) (dss_one (ds_raise G rfl c.e_InvalidRow rfl)) dss_nil)
    (dss_one (ds_ret (de_var 0))))
theorem has_check_row (c : Ct K mg w) (k : Nat) : Has P w K mg base (k + 2) "check_row" ["row"] m_check_row := has_of c.f_check_row sc_check_row M_check_row (by decide) s_check_row (fun _ _ _ _ _ _ us hl => match us, hl with | [_], _ => rfl) (bo_check_row c k)
theorem nd_check_same_length : N_check_same_length.Nodup := by decide +kernel
def M_check_same_length : Nat → Bool := fun i => false
theorem sc_check_same_length : FnScope N_check_same_length ["first", "second"] (defScope st_check_same_length) := ⟨rfl, rfl, rfl, nd_check_same_length, rfl, by decide +kernel, by decide +kernel⟩
theorem bo_check_same_length (c : Ct K mg w) (k : Nat) (fA : Addr) (cdv : Value) (A : Around) (outer : List Env) (sh : Shared) (H : Hp) (Ex : XK) (G : Gd (cxOf (L2.CX P w) P w K mg base N_check_same_length "check_same_length" (defScope st_check_same_length) fA cdv A outer sh H Ex) (fun _ => Ex) (k + 0)) (F : Fx) :
    DSs (cxOf (L2.CX P w) P w K mg base N_check_same_length "check_same_length" (defScope st_check_same_length) fA cdv A outer sh H Ex) M_check_same_length F (fun _ => Ex) (defBody st_check_same_length) s_check_same_length :=
    (dss_one (ds_if (dt_cmp (op_neD (by exact ru G.room)) s_ne (db call_len_seq s_len c.b_len boot_len (da_cons (de_var 0) da_nil)) (db call_len_seq s_len c.b_len boot_len (da_cons (de_var 1) da_nil)) (by first | exact nomark _ | rfl)) (dss_one (ds_raise G rfl c.e_InvalidRow rfl)) dss_nil))
theorem has_check_same_length (c : Ct K mg w) (k : Nat) : Has P w K mg base (k + 1) "check_same_length" ["first", "second"] m_check_same_length := has_of c.f_check_same_length sc_check_same_length M_check_same_length (by decide) s_check_same_length (fun _ _ _ _ _ _ us hl => match us, hl with | [_, _], _ => rfl) (bo_check_same_length c k)
theorem nd_relative_row : N_relative_row.Nodup := by decide +kernel
def M_relative_row : Nat → Bool := fun i => false
theorem sc_relative_row : FnScope N_relative_row ["first", "second"] (defScope st_relative_row) := ⟨rfl, rfl, rfl, nd_relative_row, rfl, by decide +kernel, by decide +kernel⟩
theorem bo_relative_row (c : Ct K mg w) (k : Nat) (fA : Addr) (cdv : Value) (A : Around) (outer : List Env) (sh : Shared) (H : Hp) (Ex : XK) (G : Gd (cxOf (L2.CX P w) P w K mg base N_relative_row "relative_row" (defScope st_relative_row) fA cdv A outer sh H Ex) (fun _ => Ex) (k + 2)) (F : Fx) :
    DSs (cxOf (L2.CX P w) P w K mg base N_relative_row "relative_row" (defScope st_relative_row) fA cdv A outer sh H Ex) M_relative_row F (fun _ => Ex) (defBody st_relative_row) s_relative_row :=
    (dss_cons (ds_expr (de_fn (has_check_row c (k + 0)) G.room G.pass (da_cons (de_var 0) da_nil)))
    (dss_cons (ds_expr (de_fn (has_check_row c (k + 0)) G.room G.pass (da_cons (de_var 1) da_nil)))
    (dss_cons (ds_expr (de_fn (has_check_same_length c (k + 1)) G.room G.pass (da_cons (de_var 0) (da_cons (de_var 1) da_nil))))
    (dss_one (ds_ret (dt call_tuple_ofF s_tuple c.b_tuple boot_tuple (da_cons (de_lc (own := [("piece", 2)]) [2] rfl nd_relative_row (di_seq (de_var 0)) (blkOk_by (own := [("piece", 2)]) (N := N_relative_row) (sc := defScope st_relative_row) (by decide +kernel)) (by decide) (fun _ _ _ _ _ _ => (dg_name 2 rfl nd_relative_row)) (fun _ _ _ _ _ => dts_nil) (fun _ _ _ _ _ _ => (de_op op_addA s_add (de_idxT (de_var 1) (da_cons (de_var 2) da_nil)) de_int))) da_nil)))))))
theorem has_relative_row (c : Ct K mg w) (k : Nat) : Has P w K mg base (k + 3) "relative_row" ["first", "second"] m_relative_row := has_of c.f_relative_row sc_relative_row M_relative_row (by decide) s_relative_row (fun _ _ _ _ _ _ us hl => match us, hl with | [_, _], _ => rfl) (bo_relative_row c k)
theorem nd_wrong_pairs : N_wrong_pairs.Nodup := by decide +kernel
def M_wrong_pairs : Nat → Bool := fun i => false
theorem sc_wrong_pairs : FnScope N_wrong_pairs ["row"] (defScope st_wrong_pairs) := ⟨rfl, rfl, rfl, nd_wrong_pairs, rfl, by decide +kernel, by decide +kernel⟩
theorem bo_wrong_pairs (c : Ct K mg w) (k : Nat) (fA : Addr) (cdv : Value) (A : Around) (outer : List Env) (sh : Shared) (H : Hp) (Ex : XK) (G : Gd (cxOf (L2.CX P w) P w K mg base N_wrong_pairs "wrong_pairs" (defScope st_wrong_pairs) fA cdv A outer sh H Ex) (fun _ => Ex) (k + 0)) (F : Fx) :
    DSs (cxOf (L2.CX P w) P w K mg base N_wrong_pairs "wrong_pairs" (defScope st_wrong_pairs) fA cdv A outer sh H Ex) M_wrong_pairs F (fun _ => Ex) (defBody st_wrong_pairs) s_wrong_pairs :=
    (dss_cons (ds_set (i := 1) rfl nd_wrong_pairs (db call_len_seq s_len c.b_len boot_len (da_cons (de_var 0) da_nil)))
    (dss_one (ds_ret (dt call_tuple_ofF s_tuple c.b_tuple boot_tuple (da_cons (de_lc2 (own := [("p", 2), ("q", 3)]) (vs1 := [3]) [2, 3] rfl nd_wrong_pairs (di_rg1 (by rfl) c.b_range (da_cons (de_var 1) da_nil)) (blkOk_by (own := [("p", 2), ("q", 3)]) (N := N_wrong_pairs) (sc := defScope st_wrong_pairs) (by decide +kernel)) (by decide) (by decide) (fun _ _ _ _ _ _ => (dg_name 2 rfl nd_wrong_pairs)) (fun _ _ _ _ _ => dts_nil) (fun _ _ _ _ _ _ => (di_rg2 (by rfl) c.b_range (da_cons (de_op op_addA s_add (de_var 2) de_int) (da_cons (de_var 1) da_nil)))) (fun _ _ _ _ _ _ => (dg_name 3 rfl nd_wrong_pairs)) (fun _ _ _ _ _ => (dts_one fun _ => (dt_cmp op_gt s_gt (de_ix (de_var 0) (de_var 2)) (de_ix (de_var 0) (de_var 3)) (by first | exact nomark _ | rfl)))) (fun _ _ _ _ _ _ => (de_tup (da_cons (de_var 2) (da_cons (de_var 3) da_nil))))) da_nil)))))
theorem has_wrong_pairs (c : Ct K mg w) (k : Nat) : Has P w K mg base (k + 1) "wrong_pairs" ["row"] m_wrong_pairs := has_of c.f_wrong_pairs sc_wrong_pairs M_wrong_pairs (by decide) s_wrong_pairs (fun _ _ _ _ _ _ us hl => match us, hl with | [_], _ => rfl) (bo_wrong_pairs c k)
theorem nd_least_nexts : N_least_nexts.Nodup := by decide +kernel
def M_least_nexts : Nat → Bool := fun i => false
theorem sc_least_nexts : FnScope N_least_nexts ["first", "second"] (defScope st_least_nexts) := ⟨rfl, rfl, rfl, nd_least_nexts, rfl, by decide +kernel, by decide +kernel⟩
theorem bo_least_nexts (c : Ct K mg w) (k : Nat) (fA : Addr) (cdv : Value) (A : Around) (outer : List Env) (sh : Shared) (H : Hp) (Ex : XK) (G : Gd (cxOf (L2.CX P w) P w K mg base N_least_nexts "least_nexts" (defScope st_least_nexts) fA cdv A outer sh H Ex) (fun _ => Ex) (k + 3)) (F : Fx) :
    DSs (cxOf (L2.CX P w) P w K mg base N_least_nexts "least_nexts" (defScope st_least_nexts) fA cdv A outer sh H Ex) M_least_nexts F (fun _ => Ex) (defBody st_least_nexts) s_least_nexts :=
    (dss_one (ds_ret (db call_len_seq s_len c.b_len boot_len (da_cons (de_fn (has_wrong_pairs c (k + 2)) G.room G.pass (da_cons (de_fn (has_relative_row c (k + 0)) G.room G.pass (da_cons (de_var 0) (da_cons (de_var 1) da_nil))) da_nil)) da_nil))))
theorem has_least_nexts (c : Ct K mg w) (k : Nat) : Has P w K mg base (k + 4) "least_nexts" ["first", "second"] m_least_nexts := has_of c.f_least_nexts sc_least_nexts M_least_nexts (by decide) s_least_nexts (fun _ _ _ _ _ _ us hl => match us, hl with | [_, _], _ => rfl) (bo_least_nexts c k)
theorem nd_exchanged : N_exchanged.Nodup := by decide +kernel
def M_exchanged : Nat → Bool := fun i => false
theorem sc_exchanged : FnScope N_exchanged ["row", "i", "j", "k", "l"] (defScope st_exchanged) := ⟨rfl, rfl, rfl, nd_exchanged, rfl, by decide +kernel, by decide +kernel⟩
theorem bo_exchanged (c : Ct K mg w) (k : Nat) (fA : Addr) (cdv : Value) (A : Around) (outer : List Env) (sh : Shared) (H : Hp) (Ex : XK) (G : Gd (cxOf (L2.CX P w) P w K mg base N_exchanged "exchanged" (defScope st_exchanged) fA cdv A outer sh H Ex) (fun _ => Ex) (k + 0)) (F : Fx) :
    DSs (cxOf (L2.CX P w) P w K mg base N_exchanged "exchanged" (defScope st_exchanged) fA cdv A outer sh H Ex) M_exchanged F (fun _ => Ex) (defBody st_exchanged) s_exchanged :=
    (dss_one (ds_ret (de_op op_addA s_add (de_op op_addA s_add (de_op op_addA s_add (de_op op_addA s_add (de_cut (de_var 0) do_none (do_some (de_var 1))) (de_cut (de_var 0) (do_some (de_var 3)) (do_some (de_var 4)))) (de_cut (de_var 0) (do_some (de_var 2)) (do_some (de_var 3)))) (de_cut (de_var 0) (do_some (de_var 1)) (do_some (de_var 2)))) (de_cut (de_var 0) (do_some (de_var 4)) do_none))))
theorem has_exchanged (c : Ct K mg w) (k : Nat) : Has P w K mg base (k + 1) "exchanged" ["row", "i", "j", "k", "l"] m_exchanged := has_of c.f_exchanged sc_exchanged M_exchanged (by decide) s_exchanged (fun _ _ _ _ _ _ us hl => match us, hl with | [_, _, _, _, _], _ => rfl) (bo_exchanged c k)
theorem nd_flipped : N_flipped.Nodup := by decide +kernel
def M_flipped : Nat → Bool := fun i => false
theorem sc_flipped : FnScope N_flipped ["row", "i", "j"] (defScope st_flipped) := ⟨rfl, rfl, rfl, nd_flipped, rfl, by decide +kernel, by decide +kernel⟩
theorem bo_flipped (c : Ct K mg w) (k : Nat) (fA : Addr) (cdv : Value) (A : Around) (outer : List Env) (sh : Shared) (H : Hp) (Ex : XK) (G : Gd (cxOf (L2.CX P w) P w K mg base N_flipped "flipped" (defScope st_flipped) fA cdv A outer sh H Ex) (fun _ => Ex) (k + 0)) (F : Fx) :
    DSs (cxOf (L2.CX P w) P w K mg base N_flipped "flipped" (defScope st_flipped) fA cdv A outer sh H Ex) M_flipped F (fun _ => Ex) (defBody st_flipped) s_flipped :=
    (dss_one (ds_ret (de_op op_addA s_add (de_op op_addA s_add (de_cut (de_var 0) do_none (do_some (de_var 1))) (de_rev (de_cut (de_var 0) (do_some (de_var 1)) (do_some (de_op op_addA s_add (de_var 2) de_int))) (de_un un_neg s_neg de_int))) (de_cut (de_var 0) (do_some (de_op op_addA s_add (de_var 2) de_int)) do_none))))
theorem has_flipped (c : Ct K mg w) (k : Nat) : Has P w K mg base (k + 1) "flipped" ["row", "i", "j"] m_flipped := has_of c.f_flipped sc_flipped M_flipped (by decide) s_flipped (fun _ _ _ _ _ _ us hl => match us, hl with | [_, _, _], _ => rfl) (bo_flipped c k)
theorem nd_is_move : N_is_move.Nodup := by decide +kernel
def M_is_move : Nat → Bool := fun i => false
theorem sc_is_move : FnScope N_is_move ["n", "move"] (defScope st_is_move) := ⟨rfl, rfl, rfl, nd_is_move, rfl, by decide +kernel, by decide +kernel⟩
theorem bo_is_move (c : Ct K mg w) (k : Nat) (fA : Addr) (cdv : Value) (A : Around) (outer : List Env) (sh : Shared) (H : Hp) (Ex : XK) (G : Gd (cxOf (L2.CX P w) P w K mg base N_is_move "is_move" (defScope st_is_move) fA cdv A outer sh H Ex) (fun _ => Ex) (k + 0)) (F : Fx) :
    DSs (cxOf (L2.CX P w) P w K mg base N_is_move "is_move" (defScope st_is_move) fA cdv A outer sh H Ex) M_is_move F (fun _ => Ex) (defBody st_is_move) s_is_move :=
    (dss_cons (ds_if (DW.pt (dw_or (dt_cmp (op_eqD (by exact ru G.room)) s_eq (db call_len_seq s_len c.b_len boot_len (da_cons (de_var 1) da_nil)) de_int (by first | exact nomark _ | rfl)) (dw_or (dt_notInTab c.t_NUMBERS (de_ix (de_var 1) de_int)) (dw_or1 (dt_cmp (op_neD (by exact ru G.room)) s_ne (db call_len_seq s_len c.b_len boot_len (da_cons (de_var 1) da_nil)) (de_op op_addA s_add de_int (de_getTab c.t_NUMBERS (de_ix (de_var 1) de_int))) (by first | exact nomark _ | rfl)))))) (dss_one (ds_ret de_bl)) dss_nil)
    (dss_cons (ds_star (i := 2) (j := 3) rfl rfl nd_is_move rfl (de_var 1))
    (dss_cons (ds_if (dt_cmp (op_eqD (by exact ru G.room)) s_eq (de_var 2) de_str (by first | exact nomark _ | rfl)) (dss_cons (ds_asg (dg_seq rfl (dgs_cons (dg_name 4 rfl nd_is_move) (dgs_cons (dg_name 5 rfl nd_is_move) (dgs_cons (dg_name 6 rfl nd_is_move) (dgs_cons (dg_name 7 rfl nd_is_move) dgs_nil))))) (de_var 3))
    (dss_one (ds_ret (de_chain de_int (dch_link op_le s_le (de_var 4) (dch_link op_lt s_lt (de_var 5) (dch_link op_le s_le (de_var 6) (dch_link op_lt s_lt (de_var 7) (dch_last op_le s_le (de_var 0)))))))))) dss_nil)
    (dss_cons (ds_if (DW.pt (dw_or (dt_cmp op_lt s_lt (db (cr_minA rfl G.room) s_minA c.b_min boot_min (da_cons (de_var 3) da_nil)) de_int (by first | exact nomark _ | rfl)) (dw_or1 (dt_cmp op_ge s_ge (db (cr_maxA rfl G.room) s_maxA c.b_max boot_max (da_cons (de_var 3) da_nil)) (de_var 0) (by first | exact nomark _ | rfl))))) (dss_one (ds_ret de_bl)) dss_nil)
    (dss_cons (ds_if (dt_cmp (op_eqD (by exact ru G.room)) s_eq (de_var 2) de_str (by first | exact nomark _ | rfl)) (dss_one (ds_ret (de_cmp op_lt s_lt (de_op op_addA s_add (de_ix (de_var 3) de_int) de_int) (de_var 0) (by first | exact nomark _ | rfl)))) dss_nil)
    (dss_cons (ds_if (dt_cmp (op_eqD (by exact ru G.room)) s_eq (de_var 2) de_str (by first | exact nomark _ | rfl)) (dss_one (ds_ret (de_cmp (op_neD (by exact ru G.room)) s_ne (de_ix (de_var 3) de_int) (de_ix (de_var 3) de_int) (by first | exact nomark _ | rfl)))) dss_nil)
    (dss_one (ds_ret (de_cmp op_lt s_lt (de_ix (de_var 3) de_int) (de_ix (de_var 3) de_int) (by first | exact nomark _ | rfl))))))))))
theorem has_is_move (c : Ct K mg w) (k : Nat) : Has P w K mg base (k + 1) "is_move" ["n", "move"] m_is_move := has_of c.f_is_move sc_is_move M_is_move (by decide) s_is_move (fun _ _ _ _ _ _ us hl => match us, hl with | [_, _], _ => rfl) (bo_is_move c k)
theorem nd_swapped : N_swapped.Nodup := by decide +kernel
def M_swapped : Nat → Bool := fun i => i == 3
theorem sc_swapped : FnScope N_swapped ["row", "i", "j"] (defScope st_swapped) := ⟨rfl, rfl, rfl, nd_swapped, rfl, by decide +kernel, by decide +kernel⟩
theorem bo_swapped (c : Ct K mg w) (k : Nat) (fA : Addr) (cdv : Value) (A : Around) (outer : List Env) (sh : Shared) (H : Hp) (Ex : XK) (G : Gd (cxOf (L2.CX P w) P w K mg base N_swapped "swapped" (defScope st_swapped) fA cdv A outer sh H Ex) (fun _ => Ex) (k + 0)) (F : Fx) :
    DSs (cxOf (L2.CX P w) P w K mg base N_swapped "swapped" (defScope st_swapped) fA cdv A outer sh H Ex) M_swapped F (fun _ => Ex) (defBody st_swapped) s_swapped :=
    (dss_cons (ds_setO (i := 3) rfl nd_swapped (dt call_list_of s_list c.b_list boot_list (da_cons (de_var 0) da_nil)))
    (dss_cons (ds_put2 (i := 3) rfl rfl (da_cons (de_ix (de_var 3) (de_var 2)) (da_cons (de_ix (de_var 3) (de_var 1)) da_nil)) (de_var 1) (de_var 2))
    (dss_one (ds_ret (dt call_tuple_ofF s_tuple c.b_tuple boot_tuple (da_cons (de_var 3) da_nil))))))
theorem has_swapped (c : Ct K mg w) (k : Nat) : Has P w K mg base (k + 1) "swapped" ["row", "i", "j"] m_swapped := has_of c.f_swapped sc_swapped M_swapped (by decide) s_swapped (fun _ _ _ _ _ _ us hl => match us, hl with | [_, _, _], _ => rfl) (bo_swapped c k)
theorem nd_taken : N_taken.Nodup := by decide +kernel
def M_taken : Nat → Bool := fun i => false
theorem sc_taken : FnScope N_taken ["row", "i", "j"] (defScope st_taken) := ⟨rfl, rfl, rfl, nd_taken, rfl, by decide +kernel, by decide +kernel⟩
theorem bo_taken (c : Ct K mg w) (k : Nat) (fA : Addr) (cdv : Value) (A : Around) (outer : List Env) (sh : Shared) (H : Hp) (Ex : XK) (G : Gd (cxOf (L2.CX P w) P w K mg base N_taken "taken" (defScope st_taken) fA cdv A outer sh H Ex) (fun _ => Ex) (k + 0)) (F : Fx) :
    DSs (cxOf (L2.CX P w) P w K mg base N_taken "taken" (defScope st_taken) fA cdv A outer sh H Ex) M_taken F (fun _ => Ex) (defBody st_taken) s_taken :=
    (dss_cons (ds_set (i := 3) rfl nd_taken (de_op op_addA s_add (de_cut (de_var 0) do_none (do_some (de_var 1))) (de_cut (de_var 0) (do_some (de_op op_addA s_add (de_var 1) de_int)) do_none)))
    (dss_one (ds_ret (de_op op_addA s_add (de_op op_addA s_add (de_cut (de_var 3) do_none (do_some (de_var 2))) (de_tup (da_cons (de_ix (de_var 0) (de_var 1)) da_nil))) (de_cut (de_var 3) (do_some (de_var 2)) do_none)))))
theorem has_taken (c : Ct K mg w) (k : Nat) : Has P w K mg base (k + 1) "taken" ["row", "i", "j"] m_taken := has_of c.f_taken sc_taken M_taken (by decide) s_taken (fun _ _ _ _ _ _ us hl => match us, hl with | [_, _, _], _ => rfl) (bo_taken c k)
theorem nd_moved : N_moved.Nodup := by decide +kernel
def M_moved : Nat → Bool := fun i => false
theorem sc_moved : FnScope N_moved ["row", "move"] (defScope st_moved) := ⟨rfl, rfl, rfl, nd_moved, rfl, by decide +kernel, by decide +kernel⟩
theorem bo_moved (c : Ct K mg w) (k : Nat) (fA : Addr) (cdv : Value) (A : Around) (outer : List Env) (sh : Shared) (H : Hp) (Ex : XK) (G : Gd (cxOf (L2.CX P w) P w K mg base N_moved "moved" (defScope st_moved) fA cdv A outer sh H Ex) (fun _ => Ex) (k + 1)) (F : Fx) :
    DSs (cxOf (L2.CX P w) P w K mg base N_moved "moved" (defScope st_moved) fA cdv A outer sh H Ex) M_moved F (fun _ => Ex) (defBody st_moved) s_moved :=
    (dss_cons (ds_if (dt_not (dt_val (de_fn (has_is_move c (k + 0)) G.room G.pass (da_cons (db call_len_seq s_len c.b_len boot_len (da_cons (de_var 0) da_nil)) (da_cons (de_var 1) da_nil))))) (dss_one (ds_raise G rfl c.e_InvalidMove rfl)) dss_nil)
    (dss_cons (ds_star (i := 2) (j := 3) rfl rfl nd_moved rfl (de_var 1))
    (dss_cons (ds_if (dt_cmp (op_eqD (by exact ru G.room)) s_eq (de_var 2) de_str (by first | exact nomark _ | rfl)) (dss_one (ds_ret (de_fn (has_swapped c (k + 0)) G.room G.pass (da_cons (de_var 0) (da_cons (de_ix (de_var 3) de_int) (da_cons (de_op op_addA s_add (de_ix (de_var 3) de_int) de_int) da_nil)))))) dss_nil)
    (dss_cons (ds_if (dt_cmp (op_eqD (by exact ru G.room)) s_eq (de_var 2) de_str (by first | exact nomark _ | rfl)) (dss_cons (ds_asg (dg_seq rfl (dgs_cons (dg_name 4 rfl nd_moved) (dgs_cons (dg_name 5 rfl nd_moved) (dgs_cons (dg_name 6 rfl nd_moved) (dgs_cons (dg_name 7 rfl nd_moved) dgs_nil))))) (de_var 3))
    (dss_one (ds_ret (de_fn (has_exchanged c (k + 0)) G.room G.pass (da_cons (de_var 0) (da_cons (de_var 4) (da_cons (de_var 5) (da_cons (de_var 6) (da_cons (de_var 7) da_nil))))))))) dss_nil)
    (dss_cons (ds_asg (dg_seq rfl (dgs_cons (dg_name 4 rfl nd_moved) (dgs_cons (dg_name 5 rfl nd_moved) dgs_nil))) (de_var 3))
    (dss_cons (ds_if (dt_cmp (op_eqD (by exact ru G.room)) s_eq (de_var 2) de_str (by first | exact nomark _ | rfl)) (dss_one (ds_ret (de_fn (has_swapped c (k + 0)) G.room G.pass (da_cons (de_var 0) (da_cons (de_var 4) (da_cons (de_var 5) da_nil)))))) dss_nil)
    (dss_cons (ds_if (dt_cmp (op_eqD (by exact ru G.room)) s_eq (de_var 2) de_str (by first | exact nomark _ | rfl)) (dss_one (ds_ret (de_fn (has_taken c (k + 0)) G.room G.pass (da_cons (de_var 0) (da_cons (de_var 4) (da_cons (de_var 5) da_nil)))))) dss_nil)
    (dss_one (ds_ret (de_fn (has_flipped c (k + 0)) G.room G.pass (da_cons (de_var 0) (da_cons (de_var 4) (da_cons (de_var 5) da_nil)))))))))))))
theorem has_moved (c : Ct K mg w) (k : Nat) : Has P w K mg base (k + 2) "moved" ["row", "move"] m_moved := has_of c.f_moved sc_moved M_moved (by decide) s_moved (fun _ _ _ _ _ _ us hl => match us, hl with | [_, _], _ => rfl) (bo_moved c k)
theorem nd_do_move : N_do_move.Nodup := by decide +kernel
def M_do_move : Nat → Bool := fun i => false
theorem sc_do_move : FnScope N_do_move ["row", "move"] (defScope st_do_move) := ⟨rfl, rfl, rfl, nd_do_move, rfl, by decide +kernel, by decide +kernel⟩
theorem bo_do_move (c : Ct K mg w) (k : Nat) (fA : Addr) (cdv : Value) (A : Around) (outer : List Env) (sh : Shared) (H : Hp) (Ex : XK) (G : Gd (cxOf (L2.CX P w) P w K mg base N_do_move "do_move" (defScope st_do_move) fA cdv A outer sh H Ex) (fun _ => Ex) (k + 2)) (F : Fx) :
    DSs (cxOf (L2.CX P w) P w K mg base N_do_move "do_move" (defScope st_do_move) fA cdv A outer sh H Ex) M_do_move F (fun _ => Ex) (defBody st_do_move) s_do_move :=
    (dss_one (ds_ret (de_fn (has_moved c (k + 0)) G.room G.pass (da_cons (de_fn (has_check_row c (k + 0)) G.room G.pass (da_cons (de_var 0) da_nil)) (da_cons (de_var 1) da_nil)))))
theorem has_do_move (c : Ct K mg w) (k : Nat) : Has P w K mg base (k + 3) "do_move" ["row", "move"] m_do_move := has_of c.f_do_move sc_do_move M_do_move (by decide) s_do_move (fun _ _ _ _ _ _ us hl => match us, hl with | [_, _], _ => rfl) (bo_do_move c k)
theorem nd_one_move_nearer : N_one_move_nearer.Nodup := by decide +kernel
def M_one_move_nearer : Nat → Bool := fun i => i == 1
theorem sc_one_move_nearer : FnScope N_one_move_nearer ["ways"] (defScope st_one_move_nearer) := ⟨rfl, rfl, rfl, nd_one_move_nearer, rfl, by decide +kernel, by decide +kernel⟩
theorem bo_one_move_nearer (c : Ct K mg w) (k : Nat) (fA : Addr) (cdv : Value) (A : Around) (outer : List Env) (sh : Shared) (H : Hp) (Ex : XK) (G : Gd (cxOf (L2.CX P w) P w K mg base N_one_move_nearer "one_move_nearer" (defScope st_one_move_nearer) fA cdv A outer sh H Ex) (fun _ => Ex) (k + 3)) (F : Fx) :
    DSs (cxOf (L2.CX P w) P w K mg base N_one_move_nearer "one_move_nearer" (defScope st_one_move_nearer) fA cdv A outer sh H Ex) M_one_move_nearer F (fun _ => Ex) (defBody st_one_move_nearer) s_one_move_nearer :=
    (dss_cons (ds_setO (i := 1) rfl nd_one_move_nearer de_dnT)
    (dss_cons (ds_forT (i := 0) rfl G.own rfl (fun F => (dg_name 2 rfl nd_one_move_nearer)) (fun F => (dss_one (ds_for G.own rfl (di_rg1 (by rfl) c.b_range (da_cons (de_op op_sub s_sub (db call_len_seq s_len c.b_len boot_len (da_cons (de_var 2) da_nil)) de_int) da_nil)) (dg_name 3 rfl nd_one_move_nearer) (dss_one (ds_if (dt_cmp op_gt s_gt (de_ix (de_var 2) (de_var 3)) (de_ix (de_var 2) (de_op op_addA s_add (de_var 3) de_int)) (by first | exact nomark _ | rfl)) (dss_cons (ds_set (i := 4) rfl nd_one_move_nearer (de_fn (has_do_move c (k + 0)) (by exact G.room) passF (da_cons (de_var 2) (da_cons (de_tup (da_cons de_str (da_cons (de_var 3) da_nil))) da_nil))))
    (dss_one (ds_dputT (i := 1) (ru G.room) rfl (de_op op_addA s_add (de_dgetOr (by exact ru G.room) (de_var 1) (de_var 4) de_int ⟨by rfl, by rfl, by rfl, by rfl⟩) (de_dgetT (by exact ru G.room) (de_var 0) (de_var 2))) (de_var 4)))) dss_nil))))))
    (dss_one (ds_ret (de_var 1)))))
theorem has_one_move_nearer (c : Ct K mg w) (k : Nat) : Has P w K mg base (k + 4) "one_move_nearer" ["ways"] m_one_move_nearer := has_of c.f_one_move_nearer sc_one_move_nearer M_one_move_nearer (by decide) s_one_move_nearer (fun _ _ _ _ _ _ us hl => match us, hl with | [_], _ => rfl) (bo_one_move_nearer c k)
theorem nd_next_ways : N_next_ways.Nodup := by decide +kernel
def M_next_ways : Nat → Bool := fun i => false
theorem sc_next_ways : FnScope N_next_ways ["first", "second"] (defScope st_next_ways) := ⟨rfl, rfl, rfl, nd_next_ways, rfl, by decide +kernel, by decide +kernel⟩
theorem bo_next_ways (c : Ct K mg w) (k : Nat) (fA : Addr) (cdv : Value) (A : Around) (outer : List Env) (sh : Shared) (H : Hp) (Ex : XK) (G : Gd (cxOf (L2.CX P w) P w K mg base N_next_ways "next_ways" (defScope st_next_ways) fA cdv A outer sh H Ex) (fun _ => Ex) (k + 4)) (F : Fx) :
    DSs (cxOf (L2.CX P w) P w K mg base N_next_ways "next_ways" (defScope st_next_ways) fA cdv A outer sh H Ex) M_next_ways F (fun _ => Ex) (defBody st_next_ways) s_next_ways :=
    (dss_cons (ds_set (i := 2) rfl nd_next_ways (de_fn (has_relative_row c (k + 1)) G.room G.pass (da_cons (de_var 0) (da_cons (de_var 1) da_nil))))
    (dss_cons (ds_if (dt_cmp op_gt s_gt (db call_len_seq s_len c.b_len boot_len (da_cons (de_var 2) da_nil)) (de_globE c.i_MOST_TO_COUNT) (by first | exact nomark _ | rfl)) (dss_one (ds_raise G rfl c.e_OutOfRange rfl)) dss_nil)
    (dss_cons (ds_set (i := 3) rfl nd_next_ways (de_dispT (ru G.room) (de_var 2) de_int))
    (dss_cons (ds_for G.own rfl (di_seq (de_fn (has_wrong_pairs c (k + 3)) G.room G.pass (da_cons (de_var 2) da_nil))) (dg_name 4 rfl nd_next_ways) (dss_one (ds_set (i := 3) rfl nd_next_ways (de_fn (has_one_move_nearer c (k + 0)) G.room G.pass (da_cons (de_var 3) da_nil)))))
    (dss_one (ds_ret (de_dgetT (by exact ru G.room) (de_var 3) (de_fn (has_sorted_row c (k + 3)) G.room G.pass (da_cons (db call_len_seq s_len c.b_len boot_len (da_cons (de_var 2) da_nil)) da_nil)))))))))
theorem has_next_ways (c : Ct K mg w) (k : Nat) : Has P w K mg base (k + 5) "next_ways" ["first", "second"] m_next_ways := has_of c.f_next_ways sc_next_ways M_next_ways (by decide) s_next_ways (fun _ _ _ _ _ _ us hl => match us, hl with | [_, _], _ => rfl) (bo_next_ways c k)
theorem nd_law : N_law.Nodup := by decide +kernel
def M_law : Nat → Bool := fun i => false
theorem sc_law : FnScope N_law ["script"] (defScope st_law) := ⟨rfl, rfl, rfl, nd_law, rfl, by decide +kernel, by decide +kernel⟩
theorem bo_law (c : Ct K mg w) (k : Nat) (fA : Addr) (cdv : Value) (A : Around) (outer : List Env) (sh : Shared) (H : Hp) (Ex : XK) (G : Gd (cxOf (L2.CX P w) P w K mg base N_law "law" (defScope st_law) fA cdv A outer sh H Ex) (fun _ => Ex) (k + 5)) (F : Fx) :
    DSs (cxOf (L2.CX P w) P w K mg base N_law "law" (defScope st_law) fA cdv A outer sh H Ex) M_law F (fun _ => Ex) (defBody st_law) s_law :=
    (dss_cons (ds_set (i := 1) rfl nd_law (de_fn (has__law_digits c (k + 4)) G.room G.pass (da_cons (de_fn (has__law_rich c (k + 4)) G.room G.pass (da_cons (de_fn (has__law_cell c (k + 4)) G.room G.pass (da_cons (de_var 0) (da_cons de_int da_nil))) da_nil)) (da_cons (de_lst (da_cons de_int (da_cons de_int (da_cons de_int (da_cons de_int da_nil))))) da_nil))))
    (dss_cons (ds_set (i := 2) rfl nd_law (de_ix (de_lst (da_cons (de_ix (de_var 1) de_int) (da_cons de_int da_nil))) (dt call_int1 s_int c.b_int boot_int (da_cons (de_cmp (op_eqD (by exact ru G.room)) s_eq (de_ix (de_var 1) de_int) de_int (by first | exact nomark _ | rfl)) da_nil))))
    (dss_cons (ds_set (i := 3) rfl nd_law (de_fn (has__law_row c (k + 3)) G.room G.pass (da_cons (de_fn (has__law_cell c (k + 4)) G.room G.pass (da_cons (de_var 0) (da_cons de_int da_nil))) (da_cons (de_var 2) da_nil))))
    (dss_cons (ds_set (i := 4) rfl nd_law (de_fn (has__law_row c (k + 3)) G.room G.pass (da_cons (de_fn (has__law_cell c (k + 4)) G.room G.pass (da_cons (de_var 0) (da_cons de_int da_nil))) (da_cons (de_var 2) da_nil))))
    (dss_cons (ds_if (dt_cmp (op_eqD (by exact ru G.room)) s_eq (de_ix (de_var 1) de_int) de_int (by first | exact nomark _ | rfl)) (dss_one (ds_set (i := 4) rfl nd_law (de_var 3))) dss_nil)
    (dss_cons (ds_set (i := 5) rfl nd_law (de_fn (has_next_ways c (k + 0)) G.room G.pass (da_cons (de_var 3) (da_cons (de_var 4) da_nil))))
    (dss_cons (ds_if (dt_not (dt_val (de_fn (has__law_is_integer c (k + 4)) G.room G.pass (da_cons (de_var 5) da_nil)))) (dss_one (ds_ret de_bl)) dss_nil)
    (dss_cons (ds_set (i := 6) rfl nd_law (dt call_int1 s_int c.b_int boot_int (da_cons (de_cmp (op_eqD (by exact ru G.room)) s_eq (de_var 3) (de_var 4) (by first | exact nomark _ | rfl)) da_nil)))
    (dss_cons (ds_for G.own rfl (di_rg1 (by rfl) c.b_range (da_cons (de_op op_sub s_sub (de_var 2) de_int) da_nil)) (dg_name 7 rfl nd_law) (dss_cons (ds_set (i := 8) rfl nd_law (de_fn (has__law_moved c (k + 4)) G.room G.pass (da_cons (de_var 3) (da_cons (de_tup (da_cons de_str (da_cons (de_var 7) da_nil))) da_nil))))
    (dss_one (ds_if (dt_cmp op_lt s_lt (de_fn (has_least_nexts c (k + 1)) G.room G.pass (da_cons (de_var 8) (da_cons (de_var 4) da_nil))) (de_fn (has_least_nexts c (k + 1)) G.room G.pass (da_cons (de_var 3) (da_cons (de_var 4) da_nil))) (by first | exact nomark _ | rfl)) (dss_one (ds_set (i := 6) rfl nd_law (de_op op_addA s_add (de_var 6) (de_fn (has_next_ways c (k + 0)) G.room G.pass (da_cons (de_var 8) (da_cons (de_var 4) da_nil)))))) dss_nil))))
    (dss_cons (ds_if (dt_cmp (op_neD (by exact ru G.room)) s_ne (de_var 5) (de_var 6) (by first | exact nomark _ | rfl)) (dss_one (ds_ret de_bl)) dss_nil)
    (dss_cons (ds_set (i := 9) rfl nd_law (de_fn (has__law_row c (k + 3)) G.room G.pass (da_cons (de_fn (has__law_cell c (k + 4)) G.room G.pass (da_cons (de_var 0) (da_cons de_int da_nil))) (da_cons (de_op op_addA s_add de_int (de_ix (de_var 1) de_int)) da_nil))))
    (dss_cons (ds_try G c.e_OutOfRange ⟨rfl, by decide⟩ (fun W pn xe G F => (dss_one (ds_expr (de_fn (has_next_ways c (k + 0)) G.room G.pass (da_cons (de_var 9) (da_cons (de_var 9) da_nil)))))) (fun a oe pn F => (dss_one (ds_ret de_bl))))
    (dss_one (ds_ret de_bl))))))))))))))
theorem has_law (c : Ct K mg w) (k : Nat) : Has P w K mg base (k + 6) "law" ["script"] m_law := has_of c.f_law sc_law M_law (by decide) s_law (fun _ _ _ _ _ _ us hl => match us, hl with | [_], _ => rfl) (bo_law c k)
end
end Gn

set_option Elab.async false
set_option linter.all false
set_option maxRecDepth 100000
set_option maxHeartbeats 0
namespace Gn
open PySem PySem.Spec PyProof.Rows L2 Pu
def fns : List He.DefD := [⟨("_law_cell", none), "_law_cell", "_law_cell", defArgs st__law_cell, defBody st__law_cell, defScope st__law_cell, [], []⟩, ⟨("_law_digits", none), "_law_digits", "_law_digits", defArgs st__law_digits, defBody st__law_digits, defScope st__law_digits, [], []⟩, ⟨("_law_is_integer", none), "_law_is_integer", "_law_is_integer", defArgs st__law_is_integer, defBody st__law_is_integer, defScope st__law_is_integer, [], []⟩, ⟨("_law_moved", none), "_law_moved", "_law_moved", defArgs st__law_moved, defBody st__law_moved, defScope st__law_moved, [], []⟩, ⟨("_law_rich", none), "_law_rich", "_law_rich", defArgs st__law_rich, defBody st__law_rich, defScope st__law_rich, [], []⟩, ⟨("_law_row", none), "_law_row", "_law_row", defArgs st__law_row, defBody st__law_row, defScope st__law_row, [], []⟩, ⟨("sorted_row", none), "sorted_row", "sorted_row", defArgs st_sorted_row, defBody st_sorted_row, defScope st_sorted_row, [], []⟩, ⟨("check_row", none), "check_row", "check_row", defArgs st_check_row, defBody st_check_row, defScope st_check_row, [], []⟩, ⟨("check_same_length", none), "check_same_length", "check_same_length", defArgs st_check_same_length, defBody st_check_same_length, defScope st_check_same_length, [], []⟩, ⟨("relative_row", none), "relative_row", "relative_row", defArgs st_relative_row, defBody st_relative_row, defScope st_relative_row, [], []⟩, ⟨("wrong_pairs", none), "wrong_pairs", "wrong_pairs", defArgs st_wrong_pairs, defBody st_wrong_pairs, defScope st_wrong_pairs, [], []⟩, ⟨("least_nexts", none), "least_nexts", "least_nexts", defArgs st_least_nexts, defBody st_least_nexts, defScope st_least_nexts, [], []⟩, ⟨("exchanged", none), "exchanged", "exchanged", defArgs st_exchanged, defBody st_exchanged, defScope st_exchanged, [], []⟩, ⟨("flipped", none), "flipped", "flipped", defArgs st_flipped, defBody st_flipped, defScope st_flipped, [], []⟩, ⟨("is_move", none), "is_move", "is_move", defArgs st_is_move, defBody st_is_move, defScope st_is_move, [], []⟩, ⟨("swapped", none), "swapped", "swapped", defArgs st_swapped, defBody st_swapped, defScope st_swapped, [], []⟩, ⟨("taken", none), "taken", "taken", defArgs st_taken, defBody st_taken, defScope st_taken, [], []⟩, ⟨("moved", none), "moved", "moved", defArgs st_moved, defBody st_moved, defScope st_moved, [], []⟩, ⟨("do_move", none), "do_move", "do_move", defArgs st_do_move, defBody st_do_move, defScope st_do_move, [], []⟩, ⟨("one_move_nearer", none), "one_move_nearer", "one_move_nearer", defArgs st_one_move_nearer, defBody st_one_move_nearer, defScope st_one_move_nearer, [], []⟩, ⟨("next_ways", none), "next_ways", "next_ways", defArgs st_next_ways, defBody st_next_ways, defScope st_next_ways, [], []⟩, ⟨("law", none), "law", "law", defArgs st_law, defBody st_law, defScope st_law, [], []⟩]
def fas : List He.Fa := [.glo "_law_cell", .glo "_law_digits", .glo "_law_is_integer", .glo "_law_moved", .glo "_law_rich", .glo "_law_row", .glo "sorted_row", .glo "check_row", .glo "check_same_length", .glo "relative_row", .glo "wrong_pairs", .glo "least_nexts", .glo "exchanged", .glo "flipped", .glo "is_move", .glo "swapped", .glo "taken", .glo "moved", .glo "do_move", .glo "one_move_nearer", .glo "next_ways", .glo "law", .glo "NUMBERS", .free "bool", .free "int", .free "isinstance", .free "len", .free "list", .free "max", .free "min", .free "range", .free "sorted", .free "tuple", .int "MOST_PIECES" 40, .int "MOST_TO_COUNT" 7, .glo "InvalidMove", .exc "InvalidMove", .exm "InvalidMove" "InvalidMove" true, .glo "InvalidRow", .exc "InvalidRow", .exm "InvalidRow" "InvalidRow" true, .glo "OutOfRange", .exc "OutOfRange", .exm "OutOfRange" "OutOfRange" true]
def fxs : List Fx2 := []
def tabs : List (Str × List (Str × Int)) := [("NUMBERS", tab_NUMBERS)]
theorem ct_of {K : PySem.W.Frag} {mg : Str → Option Value} {h : Heap} {w : World} (X : K.In h) (G : h.Ns mainGlobals mg) (c2 : SaysT2 fas fxs fns tabs w K) (c : SaysP fas fxs fns K) : Ct K mg w where
  f__law_cell := fnAt_of X G c 0 0
  f__law_digits := fnAt_of X G c 1 1
  f__law_is_integer := fnAt_of X G c 2 2
  f__law_moved := fnAt_of X G c 3 3
  f__law_rich := fnAt_of X G c 4 4
  f__law_row := fnAt_of X G c 5 5
  f_sorted_row := fnAt_of X G c 6 6
  f_check_row := fnAt_of X G c 7 7
  f_check_same_length := fnAt_of X G c 8 8
  f_relative_row := fnAt_of X G c 9 9
  f_wrong_pairs := fnAt_of X G c 10 10
  f_least_nexts := fnAt_of X G c 11 11
  f_exchanged := fnAt_of X G c 12 12
  f_flipped := fnAt_of X G c 13 13
  f_is_move := fnAt_of X G c 14 14
  f_swapped := fnAt_of X G c 15 15
  f_taken := fnAt_of X G c 16 16
  f_moved := fnAt_of X G c 17 17
  f_do_move := fnAt_of X G c 18 18
  f_one_move_nearer := fnAt_of X G c 19 19
  f_next_ways := fnAt_of X G c 20 20
  f_law := fnAt_of X G c 21 21
  b_bool := He.free_ok X G (c.d.fact 23 (f := .free "bool"))
  b_int := He.free_ok X G (c.d.fact 24 (f := .free "int"))
  b_isinstance := He.free_ok X G (c.d.fact 25 (f := .free "isinstance"))
  b_len := He.free_ok X G (c.d.fact 26 (f := .free "len"))
  b_list := He.free_ok X G (c.d.fact 27 (f := .free "list"))
  b_max := He.free_ok X G (c.d.fact 28 (f := .free "max"))
  b_min := He.free_ok X G (c.d.fact 29 (f := .free "min"))
  b_range := He.free_ok X G (c.d.fact 30 (f := .free "range"))
  b_sorted := He.free_ok X G (c.d.fact 31 (f := .free "sorted"))
  b_tuple := He.free_ok X G (c.d.fact 32 (f := .free "tuple"))
  i_MOST_PIECES := He.int_ok X G (c.d.fact 33 (f := .int "MOST_PIECES" 40))
  i_MOST_TO_COUNT := He.int_ok X G (c.d.fact 34 (f := .int "MOST_TO_COUNT" 7))
  e_InvalidMove := errC_of X G (c.d.fact 35 (f := .glo "InvalidMove")) (c.d.fact 36 (f := .exc "InvalidMove")) (c.d.fact 37 (f := .exm "InvalidMove" "InvalidMove" true))
  e_InvalidRow := errC_of X G (c.d.fact 38 (f := .glo "InvalidRow")) (c.d.fact 39 (f := .exc "InvalidRow")) (c.d.fact 40 (f := .exm "InvalidRow" "InvalidRow" true))
  e_OutOfRange := errC_of X G (c.d.fact 41 (f := .glo "OutOfRange")) (c.d.fact 42 (f := .exc "OutOfRange")) (c.d.fact 43 (f := .exm "OutOfRange" "OutOfRange" true))
  t_NUMBERS := SaysT2.tab X G c2 0 22
abbrev R : PySem.W.OpenRow := PySem.W.OpenLaw.row PySem.Challenge.rw_turnedrows_k14_ways_of_nexts
abbrev hk : PySem.W.Hook := hookT2 4 fas fxs fns tabs
def ob (s : PySem.W.SharedT) : He.AlT := obsT2G 4 fas fxs fns tabs (HandSHeadRun.getT s)
theorem ob_eq (s : PySem.W.SharedT) : ob s = hk.obs s.abs := obsT2G_eq (HandSHeadRun.getT_eq s)
def loose : List Str := "TurnedrowsError" :: "InvalidRow" :: "InvalidMove" :: "OutOfRange" :: "sorted_row" :: "check_row" :: "check_same_length" :: "relative_row" :: "is_move" :: "swapped" :: "taken" :: "flipped" :: "exchanged" :: "moved" :: "do_move" :: "wrong_pairs" :: "least_nexts" :: "one_move_nearer" :: "next_ways" :: "_law_cell" :: "_law_digits" :: "_law_rich" :: "_law_row" :: "_law_moved" :: "_law_is_integer" :: "MOST_PIECES" :: "MOST_TO_COUNT" :: "NUMBERS" :: "__name__" :: []
theorem hrunA (w : World) : HandSHeadRun.RunEq R (PySem.W.view R.prog [33]) hk ob 4000 loose (w.withFollow "special-get-raises" false) := by
  intro os
  kernel_rfl
theorem hrunB (w : World) : HandSHeadRun.RunEq R (PySem.W.view R.prog [33]) hk ob 4000 loose (w.withFollow "special-get-raises" true) := by
  intro os
  kernel_rfl
theorem run (w : World) : HandSHeadRun.RunEq R (PySem.W.view R.prog [33]) hk ob 4000 loose w := PySem.W.byRow2 "special-get-raises" (P := fun w => HandSHeadRun.RunEq R (PySem.W.view R.prog [33]) hk ob 4000 loose w) hrunA hrunB w
end Gn

set_option Elab.async false
set_option linter.all false
set_option maxRecDepth 100000
set_option maxHeartbeats 2000000
namespace Gn
open PySem PySem.Spec PyProof.Rows L2 Pu
/-! ### the law's own helpers -/
def cellZ (ns : List Int) (k : Nat) : Int := (ns[k]?).getD 0
theorem m_cell (ns : List Int) (k : Nat) : m__law_cell [scrD ns, .int (k : Int)] = .ok (.int (cellZ ns k)) := by
  unfold m__law_cell
  rw [run2]
  unfold s__law_cell
  by_cases h : k < ns.length
  · have e : atZ ns (k : Int) = some ns[k] := by rw [atZ_nat h, List.getElem?_eq_getElem h]
    simp [e, h, cellZ]
  · simp [h, cellZ]
def richZ (c : Int) : Int := if 1000000000000000000 ≤ c then c else (c * 48271 + 11) % 2147483647 * 2147483629 + ((c * 48271 + 11) % 2147483647 * 69621 + c / 7 + 5) % 2147483629
theorem m_rich (c : Int) : m__law_rich [.int c] = .ok (.int (richZ c)) := by
  unfold m__law_rich
  rw [run1]
  unfold s__law_rich
  have e1 : oPow (.int 10) (.int 18) = some (.int 1000000000000000000) := rfl
  have e2 : ∀ i : Int, oMul (.int i) (.int 48271) = some (.int (i * 48271)) := fun i => oMul_r (by decide)
  have e3 : ∀ i : Int, oMul (.int i) (.int 69621) = some (.int (i * 69621)) := fun i => oMul_r (by decide)
  have e4 : ∀ i : Int, oMul (.int i) (.int 2147483629) = some (.int (i * 2147483629)) := fun i => oMul_r (by decide)
  have e5 : ∀ i : Int, oDiv (.int i) (.int 7) = some (.int (i / 7)) := fun i => oDiv_p (by decide) (by decide)
  have e6 : ∀ i : Int, oMod (.int i) (.int 2147483647) = some (.int (i % 2147483647)) := fun i => oMod_p (by decide)
  have e7 : ∀ i : Int, oMod (.int i) (.int 2147483629) = some (.int (i % 2147483629)) := fun i => oMod_p (by decide)
  unfold richZ
  by_cases h : 1000000000000000000 ≤ c
  · simp [e1, h]
  · simp [e1, e2, e3, e4, e5, e6, e7, h]
/-- the digits of c -/
def digZ : Int → List Int → List Int
  | _, [] => []
  | c, z :: zs => c % z :: digZ (c / z) zs
theorem digZ_length : ∀ (zs : List Int) (c : Int), (digZ c zs).length = zs.length
  | [], _ => rfl
  | z :: zs, c => by
    unfold digZ
    rw [List.length_cons, List.length_cons, digZ_length zs]
theorem m_digits (c : Int) (zs : List Int) (hz : ∀ z ∈ zs, 0 < z ∧ z < 1000) (hl : zs.length ≤ 100) : m__law_digits [.int c, lI zs] = .ok (lI (digZ c zs)) := by
  unfold m__law_digits
  rw [run2]
  unfold s__law_digits
  have key : ∀ (zs : List Int) (c : Int) (x : PyData) (acc : List Int) (kk : Option PyData), (∀ z ∈ zs, 0 < z ∧ z < 1000) → acc.length + zs.length ≤ 100 →
      ∃ c' kk', sLoop (gSlot 3) (sSeq (sApp 2 false (r2 oMod (rB bInt (aCons (rVar 0) aNil)) (rVar 3))) (sSet 0 false (r2 oDiv (rVar 0) (rVar 3)))) (zs.map PyData.int) [some (.int c), some x, some (lI acc), kk] = .nx [some (.int c'), some x, some (lI (acc ++ digZ c zs)), kk'] := by
    intro zs
    induction zs with
    | nil =>
      intro c x acc kk _ _
      exact ⟨c, kk, by simp [sLoop, digZ]⟩
    | cons z zs ih =>
      intro c x acc kk h hl
      obtain ⟨h1, h2⟩ := h z List.mem_cons_self
      rw [List.length_cons] at hl
      obtain ⟨c', kk', e⟩ := ih (c / z) x (acc ++ [c % z]) (some (.int z)) (fun z' hz' => h z' (List.mem_cons_of_mem _ hz')) (by rw [List.length_append]; simp; omega)
      refine ⟨c', kk', ?_⟩
      have e1 : oMod (.int c) (.int z) = some (.int (c % z)) := oMod_p h1
      have e2 : oDiv (.int c) (.int z) = some (.int (c / z)) := oDiv_p h1 (by omega)
      rw [List.map_cons]
      unfold sLoop
      simp [gSlot, e1, e2, appR_i (show acc.length < 10000 by omega)]
      rw [e]
      simp [digZ]
  obtain ⟨c', kk', e⟩ := key zs c (lI zs) [] none hz (by simpa using hl)
  have e0 : mkL [] = .ok (lI []) := mkL_i (ns := []) (by simp)
  simp [e0, e]
/-- a row of n pieces that the law makes -/
theorem m_row (c : Int) (n : Nat) (hn : n ≤ 1000) : ∃ r : List Int, m__law_row [.int c, .int (n : Int)] = .ok (tI r) ∧ r.Perm (upI 1 n) := by
  unfold m__law_row
  rw [run2]
  unfold s__law_row
  have e : rLc (iR1 (aCons (rVar 1) aNil)) [5] (gSlot 5) yesR (r2 oAdd (rVar 5) (rC (.int 1))) [some (.int c), some (.int (n : Int)), none, none, none, none] = .ok (lI ((upI 0 n).map (· + 1))) := by
    refine lc_i (ns := upI 0 n) ?_ (by rw [upI_length]; omega) fun k _ => ?_
    · simp
      exact rg1_n (by omega)
    · simp
  have e2 : (upI 0 n).map (· + 1) = upI 1 n := by
    unfold upI
    rw [List.map_map]
    refine List.map_congr_left fun k _ => ?_
    simp
    omega
  rw [e2] at e
  obtain ⟨ρ', e3, hI⟩ := loop_inv (g := gSlot 5) (body := sSeq (sAppPop 4 2 (r2 oMod (rB bInt (aCons (rVar 3) aNil)) (r2 oSub (rVar 1) (rVar 5)))) (sSet 3 false (r2 oDiv (rVar 3) (r2 oSub (rVar 1) (rVar 5)))))
    (fun k ρ => ∃ l r x kk, ρ = [some (.int c), some (.int (n : Int)), some (lI l), some (.int x), some (lI r), kk] ∧ (r ++ l).Perm (upI 1 n) ∧ r.length = k ∧ l.length + k = n)
    ((upI 0 n).map PyData.int) 0 [some (.int c), some (.int (n : Int)), some (lI (upI 1 n)), some (.int (richZ c)), some (lI []), none] ⟨upI 1 n, [], richZ c, none, rfl, .refl _, rfl, by rw [upI_length]; rfl⟩ (by
      rintro k d ρ hd ⟨l, r, x, kk, rfl, hp, hr, hl⟩
      rw [Nat.zero_add] at hr hl ⊢
      rw [List.getElem?_map] at hd
      obtain ⟨y, hy, rfl⟩ := Option.map_eq_some_iff.mp hd
      have hk : k < n := by
        have := getSome hy
        rwa [upI_length] at this
      have hy2 : y = k := by
        unfold upI at hy
        rw [List.getElem?_map, List.getElem?_range hk] at hy
        have q : (0 : Int) + (k : Int) = y := Option.some.inj hy
        omega
      subst hy2
      refine ⟨_, rfl, ?_⟩
      have hpos : (0 : Int) < n - k := by omega
      have em : oMod (.int x) (.int ((n : Int) - k)) = some (.int (x % (n - k))) := oMod_p hpos
      have ed : oDiv (.int x) (.int ((n : Int) - k)) = some (.int (x / (n - k))) := oDiv_p hpos (by omega)
      have h0 := Int.emod_nonneg x (show (n : Int) - k ≠ 0 by omega)
      have h1 := Int.emod_lt_of_pos x hpos
      have hlen : (x % ((n : Int) - k)).toNat < l.length := by omega
      refine ⟨[some (.int c), some (.int (n : Int)), some (lI (l.eraseIdx (x % ((n : Int) - k)).toNat)), some (.int (x / (n - k))), some (lI (r ++ [l[(x % ((n : Int) - k)).toNat]])), some (.int k)], ?_, ?_⟩
      · rw [ap_sSeq, appPop_i (i := 4) (j := 2) (ns := r) (ms := l) (z := x % (n - k)) (x := l[(x % ((n : Int) - k)).toNat]) (by decide) (by simp) (by simp) (by simp [em]) h0 (by omega) (List.getElem?_eq_getElem hlen) (by omega) (by omega)]
        simp [ed]
      · refine ⟨_, _, _, _, rfl, ?_, by rw [List.length_append, hr]; rfl, by rw [List.length_eraseIdx, if_pos hlen]; omega⟩
        refine List.Perm.trans ?_ hp
        rw [List.append_assoc]
        refine List.Perm.append_left r ?_
        exact erase_perm l _ hlen)
  obtain ⟨l, r, x, kk, rfl, hp, hr, hl⟩ := hI
  rw [List.length_map, upI_length, Nat.zero_add] at hr hl
  have l0 : l = [] := List.length_eq_zero_iff.mp (by omega)
  subst l0
  rw [List.append_nil] at hp
  refine ⟨r, ?_, hp⟩
  refine go (ρ' := [some (.int c), some (.int (n : Int)), some (lI (upI 1 n)), none, none, none]) (by simp [e]) ?_
  refine go (ρ' := [some (.int c), some (.int (n : Int)), some (lI (upI 1 n)), some (.int (richZ c)), none, none]) (by simp [m_rich]) ?_
  refine go (ρ' := [some (.int c), some (.int (n : Int)), some (lI (upI 1 n)), some (.int (richZ c)), some (lI []), none]) (by simp) ?_
  refine go (ρ' := [some (.int c), some (.int (n : Int)), some (lI []), some (.int x), some (lI r), kk]) ?_ (by simp)
  simp [rg1_n (show n < 2 ^ 62 by omega)]
  simpa using e3
theorem up_sorted (a : Int) (n : Nat) : (upI a n).Pairwise (· ≤ ·) := by
  unfold upI
  refine List.pairwise_map.mpr ?_
  exact List.pairwise_lt_range.imp fun h => by omega
theorem m_sorted_n (n : Nat) (h : n ≤ 1000) : m_sorted_row [.int (n : Int)] = .ok (tI (upI 1 n)) := by
  unfold m_sorted_row
  rw [run1]
  unfold s_sorted_row
  have e : tupRg (.int 1) (.int ((n : Int) + 1)) = some (tI (upI 1 n)) := by
    rw [tupRg_i]
    · rw [show ((n : Int) + 1 - 1).toNat = n by omega]
    · unfold rgOk
      simp
      omega
  simp [e]
theorem mod_b (c : Int) {z : Int} (h : 0 < z) : 0 ≤ c % z ∧ c % z < z := ⟨Int.emod_nonneg c (by omega), Int.emod_lt_of_pos c h⟩
/-! ### plain rows -/
/-- a plain row -/
def isRow (r : List Int) : Prop := r.length ≤ 40 ∧ srtZ r = upI 1 r.length
instance (r : List Int) : Decidable (isRow r) := by
  unfold isRow
  infer_instance
theorem row_perm {r : List Int} {n : Nat} (h : r.Perm (upI 1 n)) (hn : n ≤ 40) : isRow r ∧ r.length = n := by
  have hl : r.length = n := by rw [h.length_eq, upI_length]
  refine ⟨⟨by omega, ?_⟩, hl⟩
  rw [hl]
  exact (srtZ_uniq h.symm (up_sorted 1 n)).symm
theorem isRow_perm {r : List Int} (h : isRow r) : r.Perm (upI 1 r.length) := by
  rw [← h.2]
  exact (srtZ_perm r).symm
theorem m_check (r : List Int) (h : r.length ≤ 1000) : m_check_row [tI r] = if isRow r then .ok (tI r) else .ex "InvalidRow" := by
  unfold m_check_row
  rw [run1]
  unfold s_check_row isRow
  by_cases h1 : r.length ≤ 40
  · have h1' : ¬ (40 : Int) < r.length := by omega
    by_cases h2 : srtZ r = upI 1 r.length
    · simp [m_sorted_n r.length h, h1, h1', h2]
    · simp [m_sorted_n r.length h, h1, h1', h2]
  · have h1' : (40 : Int) < r.length := by omega
    simp [h1, h1']
/-! ### the relative row -/
theorem m_same {a b : List Int} (h : a.length = b.length) : m_check_same_length [tI a, tI b] = .ok .none := by
  unfold m_check_same_length
  rw [run2]
  unfold s_check_same_length
  simp [h]
theorem m_relat {n : Nat} {a b : List Int} (T : Two n a b) (hn : n ≤ 40) : m_relative_row [tI a, tI b] = .ok (tI (relZ a b)) := by
  have la := T.la
  have lb := T.lb
  have h1 := (row_perm T.pa hn).1
  have h2 := (row_perm T.pb hn).1
  unfold m_relative_row
  rw [run2]
  unfold s_relative_row
  have e : rLc (iOf itS (rVar 0)) [2] (gSlot 2) yesR (r2 oAdd (rMeth oIdx (rVar 1) (aCons (rVar 2) aNil)) (rC (.int 1))) [some (tI a), some (tI b), none] = .ok (lI (relZ a b)) := by
    refine lc_i (ns := a) (by simp) (by omega) fun k hk => ?_
    have hkb : k ∈ b := T.pb.mem_iff.mpr (T.pa.mem_iff.mp hk)
    obtain ⟨j, hj⟩ := idxZ_mem hkb
    simp [oIdx_i, hj]
  refine go (ρ' := [some (tI a), some (tI b), none]) (by simp [m_check a (by omega), h1]) (go (ρ' := [some (tI a), some (tI b), none]) (by simp [m_check b (by omega), h2]) (go (ρ' := [some (tI a), some (tI b), none]) (by simp [m_same (la.trans lb.symm)]) ?_))
  simp [e]
/-! ### pairs in the wrong order -/
def pD (z : Int × Int) : PyData := tI [z.1, z.2]
theorem m_wrong {n : Nat} {r : List Int} (hr : r.length = n) (hn : n ≤ 40) : m_wrong_pairs [tI r] = .ok (.tuple ((ivs (valZ r) n).map pD)) := by
  unfold m_wrong_pairs
  rw [run1]
  unfold s_wrong_pairs
  have gen := lcGo2_f (ρ := [some (tI r), some (.int (n : Int)), none, none]) (u := 2) (v := 3) (t := asB (r2 oGt (r2 oIx (rVar 0) (rVar 2)) (r2 oIx (rVar 0) (rVar 3)))) (f := rTup (aCons (rVar 2) (aCons (rVar 3) aNil))) (its1 := iR2 (aCons (r2 oAdd (rVar 2) (rC (.int 1))) (aCons (rVar 1) aNil)))
    (P := fun p q => decide (valZ r q < valZ r p)) (e := fun p q => pD (p, q)) (ms := fun p => upI (p + 1) ((n : Int) - (p + 1)).toNat) (upI 0 n) (fun p hp => by
      have := up_mem.mp hp
      simp [rg2_i (show -1000000 ≤ p + 1 by omega) (by omega) (show -1000000 ≤ (n : Int) by omega) (by omega)]) (fun p hp q hq => by
      have h1 := up_mem.mp hp
      have h2 := up_mem.mp hq
      have e1 := val_at (r := r) (p := p) (up_mem.mpr (by omega))
      have e2 := val_at (r := r) (p := q) (up_mem.mpr (by omega))
      simp [e1, e2]) (fun p hp q hq _ => by
      have mk : mkT [.int p, .int q] = .ok (pD (p, q)) := mkT_i (ns := [p, q]) (by simp)
      simp [mk])
  have e0 : (upI 0 n).flatMap (fun p => ((upI (p + 1) ((n : Int) - (p + 1)).toNat).filter fun q => decide (valZ r q < valZ r p)).map fun q => pD (p, q)) = (ivs (valZ r) n).map pD := by
    unfold ivs
    rw [List.map_flatMap]
    congr 1
    funext p
    rw [List.map_map]
    rfl
  rw [e0] at gen
  have hl : ((ivs (valZ r) n).map pD).length ≤ 10000 := by
    rw [List.length_map]
    have h1 : (ivs (valZ r) n).length ≤ n * n := iv_le
    have h2 : n * n ≤ 40 * 40 := Nat.mul_le_mul hn hn
    omega
  have e : rLc2 (iR1 (aCons (rVar 1) aNil)) [2, 3] (gSlot 2) yesR (iR2 (aCons (r2 oAdd (rVar 2) (rC (.int 1))) (aCons (rVar 1) aNil))) [3] (gSlot 3) (asB (r2 oGt (r2 oIx (rVar 0) (rVar 2)) (r2 oIx (rVar 0) (rVar 3)))) (rTup (aCons (rVar 2) (aCons (rVar 3) aNil))) [some (tI r), some (.int (n : Int)), none, none] = .ok (.list ((ivs (valZ r) n).map pD)) := by
    unfold rLc2
    have it : iR1 (aCons (rVar 1) aNil) [some (tI r), some (.int (n : Int)), none, none] = .ok ((upI 0 n).map PyData.int) := by simp [rg1_n (show n < 2 ^ 62 by omega)]
    rw [it, re_ok]
    show (match lcGo2 _ yesR _ [3] (gSlot 3) _ _ [some (tI r), some (.int (n : Int)), none, none] ((upI 0 n).map PyData.int) with | some xs => if okLen xs.length = true then Re.ok (PyData.list xs) else .bad | none => .bad) = _
    rw [gen]
    exact if_pos (decide_eq_true hl)
  refine go (ρ' := [some (tI r), some (.int (n : Int)), none, none]) (by simp [hr]) ?_
  simp [e]
theorem m_leastN {n : Nat} {a b : List Int} (T : Two n a b) (hn : n ≤ 40) : m_least_nexts [tI a, tI b] = .ok (.int (iv (gZ a b) n : Nat)) := by
  unfold m_least_nexts
  rw [run2]
  unfold s_least_nexts
  have e : (ivs (valZ (relZ a b)) n).length = iv (gZ a b) n := iv_rel T
  simp [m_relat T hn, m_wrong (rel_len T) hn, e]
/-! ### the program's moves -/
theorem tb_swap : tabIn tab_NUMBERS true (.str ("swap" : Str)) = some (.bool false) := rfl
theorem tb_next : tabIn tab_NUMBERS true (.str ("next" : Str)) = some (.bool false) := rfl
theorem tb_take : tabIn tab_NUMBERS true (.str ("take" : Str)) = some (.bool false) := rfl
theorem tb_flip : tabIn tab_NUMBERS true (.str ("flip" : Str)) = some (.bool false) := rfl
theorem tb_blocks : tabIn tab_NUMBERS true (.str ("blocks" : Str)) = some (.bool false) := rfl
theorem tg_swap : tabGet tab_NUMBERS (.str ("swap" : Str)) = some (.int 2) := rfl
theorem tg_next : tabGet tab_NUMBERS (.str ("next" : Str)) = some (.int 1) := rfl
theorem tg_take : tabGet tab_NUMBERS (.str ("take" : Str)) = some (.int 2) := rfl
theorem tg_flip : tabGet tab_NUMBERS (.str ("flip" : Str)) = some (.int 2) := rfl
theorem tg_blocks : tabGet tab_NUMBERS (.str ("blocks" : Str)) = some (.int 4) := rfl
theorem min1 (a : Int) : bMinA [.list [.int a]] = some (.int a) := rfl
theorem max1 (a : Int) : bMaxA [.list [.int a]] = some (.int a) := rfl
theorem min2 (a b : Int) : bMinA [.list [.int a, .int b]] = some (.int (if b < a then b else a)) := rfl
theorem max2 (a b : Int) : bMaxA [.list [.int a, .int b]] = some (.int (if a < b then b else a)) := rfl
theorem m_ismv {n : Nat} {m : Mv} (h : m.ok n) : m_is_move [.int (n : Int), m.D] = .ok (.bool true) := by
  unfold m_is_move
  rw [run2]
  unfold s_is_move
  cases m with
  | swap i j =>
    obtain ⟨h1, h2⟩ := h
    have c1 : ¬ (j : Int) < i := by omega
    have c2 : (i : Int) < j := by omega
    have c3 : ¬ (n : Int) ≤ j := by omega
    simp [Mv.D, tb_swap, tg_swap, min2, max2, h1, h2, c1, c2, c3]
  | next i =>
    have h : i + 1 < n := h
    have c3 : ¬ (n : Int) ≤ i := by omega
    have c4 : (i : Int) + 1 < n := by omega
    simp [Mv.D, tb_next, tg_next, min1, max1, c3, c4]
  | take i j =>
    obtain ⟨h1, h2, h3⟩ := h
    have c0 : (i : Int) ≠ j := by omega
    by_cases c1 : (j : Int) < i
    · have c2 : ¬ (i : Int) < j := by omega
      have c3 : ¬ (n : Int) ≤ i := by omega
      have c4 : ¬ (i : Int) = j := by omega
      simp [Mv.D, tb_take, tg_take, min2, max2, c1, c2, c3, c4]
    · have c2 : (i : Int) < j := by omega
      have c3 : ¬ (n : Int) ≤ j := by omega
      have c4 : ¬ (i : Int) = j := by omega
      simp [Mv.D, tb_take, tg_take, min2, max2, c1, c2, c3, c4]
  | flip i j =>
    obtain ⟨h1, h2⟩ := h
    have c1 : ¬ (j : Int) < i := by omega
    have c2 : (i : Int) < j := by omega
    have c3 : ¬ (n : Int) ≤ j := by omega
    simp [Mv.D, tb_flip, tg_flip, min2, max2, h1, h2, c1, c2, c3]
  | blocks i j k l =>
    obtain ⟨h1, h2, h3, h4⟩ := h
    simp [Mv.D, tb_blocks, tg_blocks, h1, h2, h3, h4]
theorem m_swp {r : List Int} {i j : Int} (hi : i ∈ upI 0 r.length) (hj : j ∈ upI 0 r.length) : m_swapped [tI r, .int i, .int j] = .ok (tI (swZ r i j)) := by
  unfold m_swapped
  rw [run3]
  unfold s_swapped
  obtain ⟨h1, h2⟩ := up_mem.mp hi
  obtain ⟨h3, h4⟩ := up_mem.mp hj
  obtain ⟨x, e1, _⟩ := atZ_p (ns := r) h1 (by omega)
  obtain ⟨y, e3, _⟩ := atZ_p (ns := r) h3 (by omega)
  have es : swZ r i j = (r.set i.toNat y).set j.toNat x := by
    unfold swZ
    rw [e1, e3]
    rfl
  refine go (ρ' := [some (tI r), some (.int i), some (.int j), some (lI r)]) (by simp) ?_
  refine go (ρ' := [some (tI r), some (.int i), some (.int j), some (lI ((r.set i.toNat y).set j.toNat x))]) ?_ (by rw [es]; simp)
  exact put2_i (ns := r) (y := y) (z := x) (a := i) (b := j) (by simp) (by simp [e1, e3]) (by simp) (by simp) h1 (by omega) h3 (by omega)
theorem m_tkn {r : List Int} {i j : Nat} (hi : i < r.length) (hj : j < r.length) (hr : r.length ≤ 1000) : m_taken [tI r, .int i, .int j] = .ok (tI (takeZ r i j)) := by
  unfold m_taken
  rw [run3]
  unfold s_taken
  obtain ⟨x, hx⟩ : ∃ x, r[i]? = some x := ⟨r[i], List.getElem?_eq_getElem hi⟩
  have hx2 : atZ r (i : Int) = some x := by rw [atZ_nat hi, hx]
  have l1 : (r.take i ++ r.drop (i + 1)).length = r.length - 1 := by simp; omega
  have a1 : oAdd (tI (r.take i)) (tI (r.drop (i + 1))) = some (tI (r.take i ++ r.drop (i + 1))) := oAdd_t (by simp; omega)
  unfold takeZ
  rw [cut1 hx]
  have k1 : cutZ r none (some (i : Int)) = r.take i := cutZ_to (by omega)
  have k2 : cutZ r (some ((i : Int) + 1)) none = r.drop (i + 1) := cutZ_from1
  generalize r.take i ++ r.drop (i + 1) = q at a1 l1
  have k3 : cutZ q none (some (j : Int)) = q.take j := cutZ_to (by omega)
  have k4 : cutZ q (some (j : Int)) none = q.drop j := cutZ_from
  have a2 : oAdd (tI (q.take j)) (tI [x]) = some (tI (q.take j ++ [x])) := oAdd_t (by simp; omega)
  have a3 : oAdd (tI (q.take j ++ [x])) (tI (q.drop j)) = some (tI (q.take j ++ [x] ++ q.drop j)) := oAdd_t (by simp; omega)
  refine go (ρ' := [some (tI r), some (.int i), some (.int j), some (tI q)]) (by simp [k1, k2, a1]) ?_
  simp [k3, k4, hx2, a2, a3]
theorem m_flp {r : List Int} {i j : Nat} (hi : i ≤ j) (hj : j < r.length) (hr : r.length ≤ 1000) : m_flipped [tI r, .int i, .int j] = .ok (tI (flipZ r i j)) := by
  unfold m_flipped
  rw [run3]
  unfold s_flipped flipZ
  have k1 : cutZ r none (some (i : Int)) = r.take i := cutZ_to (by omega)
  have k2 : cutZ r (some ((j : Int) + 1)) none = r.drop (j + 1) := cutZ_from1
  have k3 : cutZ r (some (i : Int)) (some ((j : Int) + 1)) = (r.take (j + 1)).drop i := cutZ_mid1
  have lA : (r.take i).length ≤ 1000 := by simp; omega
  have lB : ((r.take (j + 1)).drop i).length ≤ 1000 := by simp; omega
  have lC : (r.drop (j + 1)).length ≤ 1000 := by simp; omega
  generalize r.take i = A at *
  generalize (r.take (j + 1)).drop i = B at *
  generalize r.drop (j + 1) = C at *
  have a1 : oAdd (tI A) (tI B.reverse) = some (tI (A ++ B.reverse)) := oAdd_t (by simp; omega)
  have a2 : oAdd (tI (A ++ B.reverse)) (tI C) = some (tI (A ++ B.reverse ++ C)) := oAdd_t (by simp; omega)
  simp [k1, k2, k3, a1, a2]
theorem m_exc {r : List Int} {i j k l : Nat} (h1 : i ≤ j) (h2 : j ≤ k) (h3 : k ≤ l) (h4 : l ≤ r.length) (hr : r.length ≤ 1000) : m_exchanged [tI r, .int i, .int j, .int k, .int l] = .ok (tI (blkZ r i j k l)) := by
  unfold m_exchanged
  rw [run5]
  unfold s_exchanged blkZ
  have k1 : cutZ r none (some (i : Int)) = r.take i := cutZ_to (by omega)
  have k2 : cutZ r (some (k : Int)) (some (l : Int)) = (r.take l).drop k := cutZ_mid
  have k3 : cutZ r (some (j : Int)) (some (k : Int)) = (r.take k).drop j := cutZ_mid
  have k4 : cutZ r (some (i : Int)) (some (j : Int)) = (r.take j).drop i := cutZ_mid
  have k5 : cutZ r (some (l : Int)) none = r.drop l := cutZ_from
  have lA : (r.take i).length ≤ 1000 := by simp; omega
  have lB : ((r.take l).drop k).length ≤ 1000 := by simp; omega
  have lC : ((r.take k).drop j).length ≤ 1000 := by simp; omega
  have lD : ((r.take j).drop i).length ≤ 1000 := by simp; omega
  have lE : (r.drop l).length ≤ 1000 := by simp; omega
  generalize r.take i = A at *
  generalize (r.take l).drop k = B at *
  generalize (r.take k).drop j = C at *
  generalize (r.take j).drop i = D at *
  generalize r.drop l = E at *
  have a1 : oAdd (tI A) (tI B) = some (tI (A ++ B)) := oAdd_t (by omega)
  have a2 : oAdd (tI (A ++ B)) (tI C) = some (tI (A ++ (B ++ C))) := (oAdd_t (by simp; omega)).trans (by simp)
  have a3 : oAdd (tI (A ++ (B ++ C))) (tI D) = some (tI (A ++ (B ++ (C ++ D)))) := (oAdd_t (by simp; omega)).trans (by simp)
  have a4 : oAdd (tI (A ++ (B ++ (C ++ D)))) (tI E) = some (tI (A ++ (B ++ (C ++ (D ++ E))))) := (oAdd_t (by simp; omega)).trans (by simp)
  simp [k1, k2, k3, k4, k5, a1, a2, a3, a4]
theorem m_mv {n : Nat} {m : Mv} {r : List Int} (h : m.ok n) (hr : r.length = n) (hn : n ≤ 1000) : m_moved [tI r, m.D] = .ok (tI (m.F r)) := by
  have ok := m_ismv h
  unfold m_moved
  rw [run2]
  unfold s_moved
  refine go (ρ' := [some (tI r), some m.D, none, none, none, none, none, none]) (by simp [hr, ok]) ?_
  clear ok
  cases m with
  | swap i j =>
    obtain ⟨h1, h2⟩ := h
    have q := m_swp (r := r) (i := i) (j := j) (up_mem.mpr (by omega)) (up_mem.mpr (by omega))
    simp [Mv.D, Mv.F, q]
  | next i =>
    have h : i + 1 < n := h
    have q := m_swp (r := r) (i := i) (j := (i : Int) + 1) (up_mem.mpr (by omega)) (up_mem.mpr (by omega))
    simp [Mv.D, Mv.F, q]
  | take i j =>
    have q := m_tkn (r := r) (i := i) (j := j) (by have := h.1; omega) (by have := h.2.1; omega) (by omega)
    simp [Mv.D, Mv.F, q]
  | flip i j =>
    obtain ⟨h1, h2⟩ := h
    have q := m_flp (r := r) (i := i) (j := j) (by omega) (by omega) (by omega)
    simp [Mv.D, Mv.F, q]
  | blocks i j k l =>
    obtain ⟨h1, h2, h3, h4⟩ := h
    have q := m_exc (r := r) (i := i) (j := j) (k := k) (l := l) (by omega) h2 (by omega) (by omega) (by omega)
    simp [Mv.D, Mv.F, q]
theorem m_dm {n : Nat} {m : Mv} {r : List Int} (h : m.ok n) (hr : r.Perm (upI 1 n)) (hn : n ≤ 40) : m_do_move [tI r, m.D] = .ok (tI (m.F r)) := by
  obtain ⟨h1, h2⟩ := row_perm hr hn
  unfold m_do_move
  rw [run2]
  unfold s_do_move
  simp [m_check r (by omega), h1, m_mv h h2 (by omega)]
/-! ### the law's own moves -/
theorem m_lmv {n : Nat} {m : Mv} {r : List Int} (h : m.ok n) (hr : r.length = n) (hn : n ≤ 1000) : m__law_moved [tI r, m.D] = .ok (tI (m.F r)) := by
  unfold m__law_moved
  rw [run2]
  unfold s__law_moved
  have sw : ∀ (i j : Int) (D : PyData), i ∈ upI 0 n → j ∈ upI 0 n → ∀ (fi fj gi gj : Rho → Re PyData),
      (∀ c, fi [some (tI r), some D, c, none, none, none, none] = .ok (.int i)) → (∀ c, fj [some (tI r), some D, c, none, none, none, none] = .ok (.int j)) →
      (∀ c, gi [some (tI r), some D, c, none, none, none, none] = .ok (.int ((atZ r i).getD 0))) → (∀ c, gj [some (tI r), some D, c, none, none, none, none] = .ok (.int ((atZ r j).getD 0))) →
      sSeq (sPut 2 false gj fi) (sPut 2 false gi fj) [some (tI r), some D, some (lI r), none, none, none, none] = .nx [some (tI r), some D, some (lI (swZ r i j)), none, none, none, none] := by
    intro i j D hi hj fi fj gi gj e1 e2 e3 e4
    obtain ⟨h1, h2⟩ := up_mem.mp hi
    obtain ⟨h3, h4⟩ := up_mem.mp hj
    have p1 := put_i (ρ := [some (tI r), some D, some (lI r), none, none, none, none]) (k := 2) (f := gj) (g := fi) (ns := r) (x := (atZ r j).getD 0) (z := i) (by simp) (e4 _) (e1 _) h1 (by omega)
    have p2 := put_i (ρ := [some (tI r), some D, some (lI (r.set i.toNat ((atZ r j).getD 0))), none, none, none, none]) (k := 2) (f := gi) (g := fj) (ns := r.set i.toNat ((atZ r j).getD 0)) (x := (atZ r i).getD 0) (z := j) (by simp) (e3 _) (e2 _) h3 (by rw [List.length_set]; omega)
    simp only [List.set_cons_succ, List.set_cons_zero] at p1 p2
    rw [ap_sSeq, p1, sqS_nx, p2]
    rfl
  have at0 : ∀ i : Int, i ∈ upI 0 n → atZ r i = some ((atZ r i).getD 0) := fun i hi => by
    obtain ⟨h1, h2⟩ := up_mem.mp hi
    obtain ⟨x, e1, _⟩ := atZ_p (ns := r) h1 (by omega)
    rw [e1]
    rfl
  refine go (ρ' := [some (tI r), some m.D, some (lI r), none, none, none, none]) (by simp) ?_
  cases m with
  | swap i j =>
    obtain ⟨h1, h2⟩ := h
    have hi : (i : Int) ∈ upI 0 n := up_mem.mpr (by omega)
    have hj : (j : Int) ∈ upI 0 n := up_mem.mpr (by omega)
    have q := sw i j (Mv.swap i j).D hi hj (r2 oIx (rVar 1) (rC (.int 1))) (r2 oIx (rVar 1) (rC (.int 2))) (r2 oIx (rVar 0) (r2 oIx (rVar 1) (rC (.int 1)))) (r2 oIx (rVar 0) (r2 oIx (rVar 1) (rC (.int 2))))
      (fun c => by simp [Mv.D]) (fun c => by simp [Mv.D]) (fun c => by simp [Mv.D]; rw [at0 i hi]; simp) (fun c => by simp [Mv.D]; rw [at0 j hj]; simp)
    refine go (ρ' := [some (tI r), some (Mv.swap i j).D, some (lI (swZ r i j)), none, none, none, none]) ?_ (by simp [Mv.D, Mv.F])
    rw [ap_sIf, q]
    simp [Mv.D]
  | next i =>
    have h : i + 1 < n := h
    have hi : (i : Int) ∈ upI 0 n := up_mem.mpr (by omega)
    have hj : (i : Int) + 1 ∈ upI 0 n := up_mem.mpr (by omega)
    have q := sw i ((i : Int) + 1) (Mv.next i).D hi hj (r2 oIx (rVar 1) (rC (.int 1))) (r2 oAdd (r2 oIx (rVar 1) (rC (.int 1))) (rC (.int 1))) (r2 oIx (rVar 0) (r2 oIx (rVar 1) (rC (.int 1)))) (r2 oIx (rVar 0) (r2 oAdd (r2 oIx (rVar 1) (rC (.int 1))) (rC (.int 1))))
      (fun c => by simp [Mv.D]) (fun c => by simp [Mv.D]) (fun c => by simp [Mv.D]; rw [at0 i hi]; simp) (fun c => by simp [Mv.D]; rw [at0 _ hj]; simp)
    refine go (ρ' := [some (tI r), some (Mv.next i).D, some (lI r), none, none, none, none]) (by simp [Mv.D]) ?_
    refine go (ρ' := [some (tI r), some (Mv.next i).D, some (lI (swZ r i ((i : Int) + 1))), none, none, none, none]) ?_ (by simp [Mv.D, Mv.F])
    rw [ap_sIf, q]
    simp [Mv.D]
  | take i j =>
    obtain ⟨h1, h2, h3⟩ := h
    have hi : (i : Int) ∈ upI 0 n := up_mem.mpr (by omega)
    have ex : r[i]? = some ((atZ r (i : Int)).getD 0) := by
      rw [← at0 i hi, atZ_nat (by omega)]
    have el : r.eraseIdx i = r.take i ++ r.drop (i + 1) := List.eraseIdx_eq_take_drop_succ _ _
    have ll : (r.eraseIdx i).length = n - 1 := by rw [List.length_eraseIdx, if_pos (by omega)]; omega
    have p1 := pop_i (ρ := [some (tI r), some (Mv.take i j).D, some (lI r), none, none, none, none]) (k := 2) (f := r2 oIx (rVar 1) (rC (.int 1))) (ns := r) (z := i) (by simp) (by simp [Mv.D]) (by omega) (by omega) (by omega)
    have p2 := ins_i (ρ := [some (tI r), some (Mv.take i j).D, some (lI (r.eraseIdx i)), none, none, none, none]) (k := 2) (f := r2 oIx (rVar 1) (rC (.int 2))) (g := r2 oIx (rVar 0) (r2 oIx (rVar 1) (rC (.int 1)))) (ns := r.eraseIdx i) (z := j) (x := (atZ r (i : Int)).getD 0) (by simp) (by simp [Mv.D]) (by simp [Mv.D]; rw [at0 _ hi]; simp) (by omega) (by omega) (by omega)
    simp only [List.set_cons_succ, List.set_cons_zero, Int.toNat_natCast] at p1 p2
    refine go (ρ' := [some (tI r), some (Mv.take i j).D, some (lI r), none, none, none, none]) (by simp [Mv.D]) ?_
    refine go (ρ' := [some (tI r), some (Mv.take i j).D, some (lI r), none, none, none, none]) (by simp [Mv.D]) ?_
    refine go (ρ' := [some (tI r), some (Mv.take i j).D, some (lI (takeZ r i j)), none, none, none, none]) ?_ (by simp [Mv.D, Mv.F])
    have e : (sSeq (sPop 2 (r2 oIx (rVar 1) (rC (.int 1)))) (sIns 2 false (r2 oIx (rVar 1) (rC (.int 2))) (r2 oIx (rVar 0) (r2 oIx (rVar 1) (rC (.int 1)))))) [some (tI r), some (Mv.take i j).D, some (lI r), none, none, none, none] = .nx [some (tI r), some (Mv.take i j).D, some (lI (takeZ r i j)), none, none, none, none] := by
      rw [ap_sSeq, p1, sqS_nx, p2, el]
      unfold takeZ
      rw [cut1 ex]
    rw [ap_sIf, e]
    simp [Mv.D]
  | flip i j =>
    obtain ⟨h1, h2⟩ := h
    refine go (ρ' := [some (tI r), some (Mv.flip i j).D, some (lI r), none, none, none, none]) (by simp [Mv.D]) ?_
    refine go (ρ' := [some (tI r), some (Mv.flip i j).D, some (lI r), none, none, none, none]) (by simp [Mv.D]) ?_
    refine go (ρ' := [some (tI r), some (Mv.flip i j).D, some (lI r), none, none, none, none]) (by simp [Mv.D]) ?_
    obtain ⟨ρ', e, hI⟩ := loop_inv (g := gSlot 3) (body := sPut 2 false (r2 oIx (rVar 0) (r2 oSub (r2 oAdd (r2 oIx (rVar 1) (rC (.int 1))) (r2 oIx (rVar 1) (rC (.int 2)))) (rVar 3))) (rVar 3))
      (fun k ρ => ∃ (c : List Int) (kk : Option PyData), ρ = [some (tI r), some (Mv.flip i j).D, some (lI c), kk, none, none, none] ∧ c.length = r.length ∧ ∀ m : Nat, c[m]? = if i ≤ m ∧ m < i + k then r[i + j - m]? else r[m]?)
      ((upI (i : Int) (j + 1 - i)).map PyData.int) 0 [some (tI r), some (Mv.flip i j).D, some (lI r), none, none, none, none] ⟨r, none, rfl, rfl, fun m => by rw [if_neg (by omega)]⟩ (by
        rintro k d ρ hd ⟨c, kk, rfl, hc, hm⟩
        rw [Nat.zero_add] at hm ⊢
        rw [List.getElem?_map] at hd
        obtain ⟨y, hy, rfl⟩ := Option.map_eq_some_iff.mp hd
        obtain ⟨rfl, hk⟩ := up_get hy
        have hx : j - k < r.length := by omega
        have e1 : atZ r ((i : Int) + j - ((i : Int) + k)) = some r[j - k] := by
          rw [show (i : Int) + j - ((i : Int) + k) = ((j - k : Nat) : Int) by omega, atZ_nat hx, List.getElem?_eq_getElem hx]
        refine ⟨_, rfl, [some (tI r), some (Mv.flip i j).D, some (lI (c.set (i + k) r[j - k])), some (.int ((i : Int) + k)), none, none, none], ?_, c.set (i + k) r[j - k], _, rfl, by rw [List.length_set, hc], fun m => ?_⟩
        · rw [put_i (ns := c) (x := r[j - k]) (z := (i : Int) + k) (by simp) (by simp [Mv.D, e1]) (by simp) (by omega) (by omega)]
          rw [show ((i : Int) + (k : Int)).toNat = i + k by omega]
          simp
        · by_cases q : i + k = m
          · subst q
            rw [List.getElem?_set_self (by omega), if_pos (by omega), show i + j - (i + k) = j - k by omega, List.getElem?_eq_getElem hx]
          · rw [List.getElem?_set_ne q, hm m]
            by_cases p : i ≤ m ∧ m < i + k
            · rw [if_pos p, if_pos (by omega)]
            · rw [if_neg p, if_neg (by omega)])
    obtain ⟨c, kk, rfl, hc, hm⟩ := hI
    rw [List.length_map, upI_length, Nat.zero_add] at hm
    have ec : c = flipZ r i j := List.ext_getElem? fun m => by
      rw [hm m, flipZ_get (by omega) (by omega) m, show i + (j + 1 - i) = j + 1 by omega]
    subst ec
    refine go (ρ' := [some (tI r), some (Mv.flip i j).D, some (lI (flipZ r i j)), kk, none, none, none]) ?_ (by simp [Mv.D, Mv.F])
    have er : rg2 [.int (i : Int), .int ((j : Int) + 1)] = .ok ((upI (i : Int) (j + 1 - i)).map PyData.int) := by
      rw [rg2_i (by omega) (by omega) (by omega) (by omega), show ((j : Int) + 1 - i).toNat = j + 1 - i by omega]
    have e2 : sFor (iR2 (aCons (r2 oIx (rVar 1) (rC (.int 1))) (aCons (r2 oAdd (r2 oIx (rVar 1) (rC (.int 2))) (rC (.int 1))) aNil))) (gSlot 3) (sPut 2 false (r2 oIx (rVar 0) (r2 oSub (r2 oAdd (r2 oIx (rVar 1) (rC (.int 1))) (r2 oIx (rVar 1) (rC (.int 2)))) (rVar 3))) (rVar 3)) [some (tI r), some (Mv.flip i j).D, some (lI r), none, none, none, none] = .nx [some (tI r), some (Mv.flip i j).D, some (lI (flipZ r i j)), kk, none, none, none] := by
      rw [ap_sFor]
      have it : iR2 (aCons (r2 oIx (rVar 1) (rC (.int 1))) (aCons (r2 oAdd (r2 oIx (rVar 1) (rC (.int 2))) (rC (.int 1))) aNil)) [some (tI r), some (Mv.flip i j).D, some (lI r), none, none, none, none] = .ok ((upI (i : Int) (j + 1 - i)).map PyData.int) := by
        simp [Mv.D, er]
      rw [it, stL_ok]
      exact e
    rw [ap_sIf, e2]
    simp [Mv.D]
  | blocks i j k l =>
    obtain ⟨h1, h2, h3, h4⟩ := h
    refine go (ρ' := [some (tI r), some (Mv.blocks i j k l).D, some (lI r), none, none, none, none]) (by simp [Mv.D]) ?_
    refine go (ρ' := [some (tI r), some (Mv.blocks i j k l).D, some (lI r), none, none, none, none]) (by simp [Mv.D]) ?_
    refine go (ρ' := [some (tI r), some (Mv.blocks i j k l).D, some (lI r), none, none, none, none]) (by simp [Mv.D]) ?_
    refine go (ρ' := [some (tI r), some (Mv.blocks i j k l).D, some (lI r), none, none, none, none]) (by simp [Mv.D]) ?_
    refine go (ρ' := [some (tI r), some (Mv.blocks i j k l).D, some (lI (blkZ r i j k l)), some (.int k), some (.int i), some (.int j), some (.int l)]) ?_ (by simp [Mv.D, Mv.F])
    have k1 : cutZ r none (some (i : Int)) = r.take i := cutZ_to (by omega)
    have k2 : cutZ r (some (k : Int)) (some (l : Int)) = (r.take l).drop k := cutZ_mid
    have k3 : cutZ r (some (j : Int)) (some (k : Int)) = (r.take k).drop j := cutZ_mid
    have k4 : cutZ r (some (i : Int)) (some (j : Int)) = (r.take j).drop i := cutZ_mid
    have k5 : cutZ r (some (l : Int)) none = r.drop l := cutZ_from
    have k6 : oCut (Mv.blocks i j k l).D (some 1) none = .ok (.tuple [.int (i : Int), .int (j : Int), .int (k : Int), .int (l : Int)]) := rfl
    have k7 : oIx (Mv.blocks i j k l).D (.int 0) = some (.str ("blocks" : Str)) := rfl
    unfold blkZ
    have lA : (r.take i).length ≤ 1000 := by simp; omega
    have lB : ((r.take l).drop k).length ≤ 1000 := by simp; omega
    have lC : ((r.take k).drop j).length ≤ 1000 := by simp; omega
    have lD : ((r.take j).drop i).length ≤ 1000 := by simp; omega
    have lE : (r.drop l).length ≤ 1000 := by simp; omega
    generalize r.take i = A at *
    generalize (r.take l).drop k = B at *
    generalize (r.take k).drop j = C at *
    generalize (r.take j).drop i = D at *
    generalize r.drop l = E at *
    have a1 : oAdd (tI A) (tI B) = some (tI (A ++ B)) := oAdd_t (by omega)
    have a2 : oAdd (tI (A ++ B)) (tI C) = some (tI (A ++ (B ++ C))) := (oAdd_t (by simp; omega)).trans (by simp)
    have a3 : oAdd (tI (A ++ (B ++ C))) (tI D) = some (tI (A ++ (B ++ (C ++ D)))) := (oAdd_t (by simp; omega)).trans (by simp)
    have a4 : oAdd (tI (A ++ (B ++ (C ++ D)))) (tI E) = some (tI (A ++ (B ++ (C ++ (D ++ E))))) := (oAdd_t (by simp; omega)).trans (by simp)
    simp [k1, k2, k3, k4, k5, k6, k7, a1, a2, a3, a4]
/-! ### d[k] = d.get(k, 0) + c, as a list of keys and numbers -/
section
variable {α : Type} [DecidableEq α]
def bump (k : α) (c : Int) : List (α × Int) → List (α × Int)
  | [] => [(k, c)]
  | (k', v) :: d => if k' = k then (k', v + c) :: d else (k', v) :: bump k c d
def valB (d : List (α × Int)) (k : α) : Int := match d.find? fun p => decide (p.1 = k) with
  | some p => p.2
  | none => 0
theorem valB_cons (p : α × Int) (d : List (α × Int)) (k : α) : valB (p :: d) k = if p.1 = k then p.2 else valB d k := by
  unfold valB
  rw [List.find?_cons]
  by_cases c : p.1 = k
  · rw [decide_eq_true c, if_pos c]
  · rw [decide_eq_false c, if_neg c]
theorem valB_bump (k : α) (c : Int) (k' : α) : ∀ d : List (α × Int), valB (bump k c d) k' = if k' = k then valB d k + c else valB d k'
  | [] => by
    unfold bump
    rw [valB_cons]
    by_cases h : k' = k
    · rw [if_pos h, if_pos h.symm]
      show c = 0 + c
      omega
    · rw [if_neg h, if_neg fun z => h z.symm]
  | (a, v) :: d => by
    have ih := valB_bump k c k' d
    unfold bump
    by_cases h1 : a = k
    · rw [if_pos h1, valB_cons, valB_cons, valB_cons]
      by_cases h : k' = k
      · rw [if_pos h, if_pos (show a = k' by rw [h1, h]), if_pos h1]
      · have n : ¬ a = k' := fun z => h (by rw [← z, h1])
        rw [if_neg h, if_neg n, if_neg n]
    · rw [if_neg h1, valB_cons, valB_cons, valB_cons, ih]
      by_cases h2 : a = k'
      · have n : ¬ k' = k := fun z => h1 (by rw [h2, z])
        rw [if_pos h2, if_neg n, if_pos h2]
      · rw [if_neg h2]
        by_cases h : k' = k
        · rw [if_pos h, if_pos h, if_neg h1]
        · rw [if_neg h, if_neg h, if_neg h2]
theorem bump_keys (k : α) (c : Int) : ∀ d : List (α × Int), (bump k c d).map (·.1) = if k ∈ d.map (·.1) then d.map (·.1) else d.map (·.1) ++ [k]
  | [] => rfl
  | (a, v) :: d => by
    have ih := bump_keys k c d
    unfold bump
    by_cases h1 : a = k
    · rw [if_pos h1, List.map_cons, List.map_cons, if_pos (by rw [h1]; exact .head _)]
    · rw [if_neg h1, List.map_cons, ih, List.map_cons]
      by_cases h : k ∈ d.map (·.1)
      · rw [if_pos h, if_pos (.tail _ h)]
      · rw [if_neg h, if_neg fun z => (List.mem_cons.mp z).elim (fun e => h1 e.symm) h]
        rfl
theorem bump_nd (k : α) (c : Int) {d : List (α × Int)} (h : (d.map (·.1)).Nodup) : ((bump k c d).map (·.1)).Nodup := by
  rw [bump_keys]
  split
  · exact h
  · rename_i n
    exact List.nodup_append.mpr ⟨h, by simp, fun a ha b hb e => by
      rw [List.mem_singleton.mp hb] at e
      exact n (e ▸ ha)⟩
theorem bump_mem (k : α) (c : Int) {d : List (α × Int)} {a : α} : a ∈ (bump k c d).map (·.1) ↔ a ∈ d.map (·.1) ∨ a = k := by
  rw [bump_keys]
  split
  · rename_i h
    exact ⟨.inl, fun z => z.elim id fun e => e ▸ h⟩
  · rw [List.mem_append, List.mem_singleton]
/-- each of ks counted once -/
def bumps (ks : List α) (d : List (α × Int)) : List (α × Int) := ks.foldl (fun d k => bump k 1 d) d
theorem bumps_val (a : α) : ∀ (ks : List α) (d : List (α × Int)), valB (bumps ks d) a = valB d a + ((ks.filter fun k => decide (a = k)).length : Int)
  | [], d => by
    show valB d a = valB d a + ((0 : Nat) : Int)
    omega
  | k :: ks, d => by
    show valB (bumps ks (bump k 1 d)) a = _
    rw [bumps_val a ks, valB_bump, List.filter_cons]
    by_cases h : a = k
    · rw [if_pos h, if_pos (decide_eq_true h), List.length_cons, h]
      omega
    · rw [if_neg h, if_neg (by simpa using h)]
theorem bumps_mem (a : α) : ∀ (ks : List α) (d : List (α × Int)), a ∈ (bumps ks d).map (·.1) ↔ a ∈ d.map (·.1) ∨ a ∈ ks
  | [], d => by simp [bumps]
  | k :: ks, d => by
    show a ∈ (bumps ks (bump k 1 d)).map (·.1) ↔ _
    rw [bumps_mem a ks, bump_mem, List.mem_cons]
    constructor
    · rintro ((h | h) | h)
      · exact .inl h
      · exact .inr (.inl h)
      · exact .inr (.inr h)
    · rintro (h | h | h)
      · exact .inl (.inl h)
      · exact .inl (.inr h)
      · exact .inr h
theorem bumps_nd : ∀ (ks : List α) (d : List (α × Int)), (d.map (·.1)).Nodup → ((bumps ks d).map (·.1)).Nodup
  | [], _, h => h
  | k :: ks, d, h => bumps_nd ks (bump k 1 d) (bump_nd k 1 h)
/-- sums of what stands at the keys, weighed -/
def wtB (F : α → Int) (d : List (α × Int)) : Int := (d.map fun p => p.2 * F p.1).sum
theorem wtB_bump (F : α → Int) (k : α) (c : Int) : ∀ d : List (α × Int), wtB F (bump k c d) = wtB F d + c * F k
  | [] => by
    show c * F k + 0 = 0 + c * F k
    omega
  | (a, v) :: d => by
    have ih := wtB_bump F k c d
    unfold bump
    by_cases h : a = k
    · rw [if_pos h]
      show (v + c) * F a + (d.map fun p => p.2 * F p.1).sum = v * F a + (d.map fun p => p.2 * F p.1).sum + c * F k
      rw [h, Int.add_mul]
      omega
    · rw [if_neg h]
      show v * F a + wtB F (bump k c d) = v * F a + wtB F d + c * F k
      rw [ih]
      omega
end
/-! ### all the rows of given numbers -/
def insA (a : Int) : List Int → List (List Int)
  | [] => [[a]]
  | b :: l => (a :: b :: l) :: (insA a l).map (b :: ·)
def prm : List Int → List (List Int)
  | [] => [[]]
  | a :: l => (prm l).flatMap (insA a)
theorem insA_len (a : Int) : ∀ l : List Int, (insA a l).length = l.length + 1
  | [] => rfl
  | b :: l => by
    unfold insA
    rw [List.length_cons, List.length_map, insA_len a l, List.length_cons]
theorem insA_mem (a : Int) (t : List Int) : ∀ s : List Int, s ++ a :: t ∈ insA a (s ++ t)
  | [] => by
    cases t with
    | nil => exact .head _
    | cons b t => exact .head _
  | b :: s => by
    have ih := insA_mem a t s
    rw [List.cons_append, List.cons_append]
    unfold insA
    exact .tail _ (List.mem_map.mpr ⟨_, ih, rfl⟩)
theorem insA_each (a : Int) : ∀ l x : List Int, x ∈ insA a l → x.length = l.length + 1
  | [], x, h => by
    rw [List.mem_singleton.mp h]
    rfl
  | b :: l, x, h => by
    unfold insA at h
    rcases List.mem_cons.mp h with rfl | h
    · rfl
    · obtain ⟨y, hy, rfl⟩ := List.mem_map.mp h
      rw [List.length_cons, List.length_cons, insA_each a l y hy]
theorem prm_each : ∀ l x : List Int, x ∈ prm l → x.length = l.length
  | [], x, h => by
    rw [List.mem_singleton.mp h]
  | a :: l, x, h => by
    obtain ⟨y, hy, h2⟩ := List.mem_flatMap.mp h
    rw [insA_each a y x h2, prm_each l y hy, List.length_cons]
theorem prm_len : ∀ l : List Int, (prm l).length = facN l.length
  | [] => rfl
  | a :: l => by
    have ih := prm_len l
    have key : ∀ X : List (List Int), (∀ x ∈ X, x.length = l.length) → (X.flatMap (insA a)).length = X.length * (l.length + 1) := by
      intro X
      induction X with
      | nil => intro _; simp
      | cons x X ihX =>
        intro h
        rw [List.flatMap_cons, List.length_append, insA_len, ihX fun y hy => h y (.tail _ hy), h x (.head _), List.length_cons, Nat.add_mul, Nat.one_mul, Nat.add_comm]
    show ((prm l).flatMap (insA a)).length = _
    rw [key (prm l) (prm_each l), ih, List.length_cons, Nat.mul_comm]
    rfl
theorem prm_mem : ∀ l x : List Int, x.Perm l → x ∈ prm l
  | [], x, h => by
    rw [List.Perm.eq_nil h]
    exact .head _
  | a :: l, x, h => by
    obtain ⟨s, t, rfl⟩ := List.append_of_mem (h.mem_iff.mpr (.head _))
    have p : (s ++ t).Perm l := by
      have : (a :: (s ++ t)).Perm (a :: l) := List.perm_middle.symm.trans h
      exact this.cons_inv
    exact List.mem_flatMap.mpr ⟨s ++ t, prm_mem l _ p, insA_mem a t s⟩
/-! ### dicts of rows -/
abbrev RD := List (List Int × Int)
structure Gd (n : Nat) (d : RD) : Prop where
  nd : (d.map (·.1)).Nodup
  pm : ∀ k ∈ d.map (·.1), k.Perm (upI 1 n)
theorem Gd.len {n : Nat} {d : RD} (G : Gd n d) (hn : n ≤ 7) : d.length ≤ 5040 := by
  have h := phpA (d.map (·.1)) (prm (upI 1 n)) G.nd fun k hk => prm_mem _ _ (G.pm k hk)
  rw [List.length_map, prm_len, upI_length] at h
  have : facN n ≤ 5040 := by
    have : n = 0 ∨ n = 1 ∨ n = 2 ∨ n = 3 ∨ n = 4 ∨ n = 5 ∨ n = 6 ∨ n = 7 := by omega
    rcases this with rfl | rfl | rfl | rfl | rfl | rfl | rfl | rfl <;> decide
  omega
theorem Gd.bump {n : Nat} {d : RD} (G : Gd n d) {k : List Int} (c : Int) (hk : k.Perm (upI 1 n)) : Gd n (Gn.bump k c d) := ⟨bump_nd k c G.nd, fun a ha => (bump_mem k c).mp ha |>.elim (G.pm a) fun e => e ▸ hk⟩
theorem look_val (p : List Int) (d : RD) : (lookT d p).getD 0 = valB d p := by
  induction d with
  | nil => rfl
  | cons q d ih =>
    rw [valB_cons]
    unfold lookT at ih ⊢
    rw [List.find?_cons]
    by_cases c : q.1 = p
    · rw [if_pos c, decide_eq_true c]
      rfl
    · rw [if_neg c, decide_eq_false c]
      exact ih
theorem look_in (p : List Int) (d : RD) : (lookT d p).isSome = true ↔ p ∈ d.map (·.1) := by
  unfold lookT
  rw [Option.isSome_map, List.find?_isSome]
  constructor
  · rintro ⟨q, hq, e⟩
    exact List.mem_map.mpr ⟨q, hq, of_decide_eq_true e⟩
  · intro h
    obtain ⟨r, hr, rfl⟩ := List.mem_map.mp h
    exact ⟨r, hr, decide_eq_true rfl⟩
theorem look_some {p : List Int} {d : RD} (h : p ∈ d.map (·.1)) : lookT d p = some (valB d p) := by
  have h2 := (look_in p d).mpr h
  have h3 := look_val p d
  obtain ⟨v, e⟩ := Option.isSome_iff_exists.mp h2
  rw [e] at h3 ⊢
  rw [← h3]
  rfl
theorem put_bump (p : List Int) (c : Int) {d : RD} (nd : (d.map (·.1)).Nodup) : putT d p ((lookT d p).getD 0 + c) = bump p c d := by
  rw [look_val]
  unfold putT
  by_cases h : p ∈ d.map (·.1)
  · rw [if_pos ((look_in p d).mpr h)]
    induction d with
    | nil => exact nomatch h
    | cons q d ih =>
      rw [List.map_cons] at nd
      obtain ⟨n1, n2⟩ := List.nodup_cons.mp nd
      unfold bump
      by_cases e : q.1 = p
      · rw [valB_cons, if_pos e, if_pos e, List.map_cons, if_pos e]
        congr 1
        refine (List.map_congr_left fun r hr => ?_).trans (List.map_id _)
        refine if_neg fun z => n1 ?_
        rw [e, ← z]
        exact List.mem_map.mpr ⟨r, hr, rfl⟩
      · have hm : p ∈ d.map (·.1) := (List.mem_cons.mp h).elim (fun z => absurd z.symm e) id
        rw [valB_cons, if_neg e, if_neg e, List.map_cons, if_neg e, ih n2 hm]
  · rw [if_neg fun z => h ((look_in p d).mp z)]
    clear nd
    induction d with
    | nil =>
      show [(p, 0 + c)] = [(p, c)]
      rw [Int.zero_add]
    | cons q d ih =>
      have e : ¬ q.1 = p := fun z => h (List.mem_map.mpr ⟨q, .head _, z⟩)
      have h2 : p ∉ d.map (·.1) := fun z => h (.tail _ z)
      unfold bump
      rw [if_neg e, valB_cons, if_neg e, List.cons_append, ih h2]
theorem wt_val {F : List Int → Int} : ∀ {d : RD}, (d.map (·.1)).Nodup → wtB F d = ((d.map (·.1)).map fun k => valB d k * F k).sum
  | [], _ => rfl
  | q :: d, nd => by
    rw [List.map_cons] at nd
    obtain ⟨n1, n2⟩ := List.nodup_cons.mp nd
    have ih := wt_val (F := F) n2
    show q.2 * F q.1 + wtB F d = _
    rw [List.map_cons, List.map_cons, List.sum_cons, valB_cons, if_pos rfl, ih]
    congr 2
    refine List.map_congr_left fun k hk => ?_
    have ne : ¬ q.1 = k := fun z => n1 (by
      rw [z]
      exact hk)
    rw [valB_cons, if_neg ne]
/-! ### one move nearer, as data -/
def desc (r : List Int) (i : Int) : Bool := decide (valZ r (i + 1) < valZ r i)
def nrI (r : List Int) (c : Int) (is : List Int) (d : RD) : RD := (is.filter (desc r)).foldl (fun d i => bump (swZ r i (i + 1)) c d) d
def nrO (l : RD) (ks : List (List Int)) (d : RD) : RD := ks.foldl (fun d k => nrI k (valB l k) (upI 0 (k.length - 1)) d) d
theorem wt_nrI (F : List Int → Int) (r : List Int) (c : Int) (is : List Int) (d : RD) : wtB F (nrI r c is d) = wtB F d + c * ((is.filter (desc r)).map fun i => F (swZ r i (i + 1))).sum := by
  unfold nrI
  generalize is.filter (desc r) = js
  induction js generalizing d with
  | nil => simp
  | cons i js ih =>
    rw [List.foldl_cons, ih, wtB_bump, List.map_cons, List.sum_cons, Int.mul_add]
    omega
theorem wt_nrO (F : List Int → Int) (l : RD) (ks : List (List Int)) (d : RD) : wtB F (nrO l ks d) = wtB F d + (ks.map fun k => valB l k * (((upI 0 (k.length - 1)).filter (desc k)).map fun i => F (swZ k i (i + 1))).sum).sum := by
  unfold nrO
  induction ks generalizing d with
  | nil => simp
  | cons k ks ih =>
    rw [List.foldl_cons, ih, wt_nrI, List.map_cons, List.sum_cons]
    omega
theorem sw_perm {n : Nat} {r : List Int} (h : r.Perm (upI 1 n)) {i : Int} (h0 : 0 ≤ i) (h1 : i + 1 < n) : (swZ r i (i + 1)).Perm (upI 1 n) := by
  have hl : r.length = n := by rw [h.length_eq, upI_length]
  exact (swZ_perm (h.symm.nodup (up_nodup 1 n)) (up_mem.mpr (by omega)) (up_mem.mpr (by omega)) (by omega)).trans h
theorem gd_nrI {n : Nat} {r : List Int} (h : r.Perm (upI 1 n)) (c : Int) : ∀ (is : List Int) (d : RD), (∀ i ∈ is, 0 ≤ i ∧ i + 1 < n) → Gd n d → Gd n (nrI r c is d)
  | [], _, _, G => G
  | i :: is, d, hi, G => by
    have b := hi i (.head _)
    unfold nrI
    rw [List.filter_cons]
    split
    · exact gd_nrI h c is _ (fun j hj => hi j (.tail _ hj)) (G.bump c (sw_perm h b.1 b.2))
    · exact gd_nrI h c is _ (fun j hj => hi j (.tail _ hj)) G
/-- the ways down in so many moves -/
def pN : Nat → List Int → Int
  | 0, r => if r = upI 1 r.length then 1 else 0
  | d + 1, r => (((upI 0 (r.length - 1)).filter (desc r)).map fun i => pN d (swZ r i (i + 1))).sum
theorem pN_nn : ∀ (d : Nat) (r : List Int), 0 ≤ pN d r
  | 0, r => by
    unfold pN
    split <;> decide
  | d + 1, r => by
    unfold pN
    generalize (upI 0 (r.length - 1)).filter (desc r) = js
    induction js with
    | nil => exact Int.le_refl 0
    | cons i js ih =>
      rw [List.map_cons, List.sum_cons]
      have := pN_nn d (swZ r i (i + 1))
      omega
theorem iv_sw {n : Nat} {r : List Int} (hl : r.length = n) {i : Int} (h0 : 0 ≤ i) (h1 : i + 1 < n) (hd : desc r i = true) : iv (valZ r) n = iv (valZ (swZ r i (i + 1))) n + 1 :=
  iv_down h0 h1 (fun p h2 h3 => val_tau h0 (by omega) h2 (by omega)) (of_decide_eq_true hd)
theorem iv_zero {n : Nat} {r : List Int} (h : r.Perm (upI 1 n)) (z : iv (valZ r) n = 0) : r = upI 1 n := by
  refine (asc_sorted h fun i j h0 h1 h2 => ?_).1
  have ne : valZ r i ≠ valZ r j := val_ne h (up_mem.mpr (by omega)) (up_mem.mpr (by omega)) (by omega)
  have : (i, j) ∉ ivs (valZ r) n := fun hm => by
    unfold iv at z
    rw [List.length_eq_zero_iff.mp z] at hm
    exact nomatch hm
  rw [mem_ivs] at this
  simp only at this
  omega
theorem has_desc {n : Nat} {r : List Int} (h : r.Perm (upI 1 n)) (z : iv (valZ r) n ≠ 0) : ∃ i : Int, 0 ≤ i ∧ i + 1 < n ∧ desc r i = true := by
  refine Classical.byContradiction fun no => z ?_
  have le : ∀ i : Int, 0 ≤ i → i + 1 < n → valZ r i ≤ valZ r (i + 1) := fun i h0 h1 => by
    refine Classical.byContradiction fun c => no ⟨i, h0, h1, decide_eq_true (by omega)⟩
  refine iv_mono fun p q h0 h1 h2 => ?_
  obtain ⟨m, rfl⟩ : ∃ m : Nat, q = p + (m : Int) := ⟨(q - p).toNat, by omega⟩
  clear h1
  induction m with
  | zero => rw [show p + ((0 : Nat) : Int) = p by omega]; exact Int.le_refl _
  | succ m ih =>
    have a := ih (by omega)
    have b := le (p + (m : Int)) (by omega) (by omega)
    rw [show p + ((m + 1 : Nat) : Int) = p + (m : Int) + 1 by omega]
    omega
theorem pN_pos {n : Nat} : ∀ (d : Nat) (r : List Int), r.Perm (upI 1 n) → iv (valZ r) n = d → 1 ≤ pN d r
  | 0, r, h, z => by
    have e := iv_zero h z
    unfold pN
    rw [if_pos (by rw [e, upI_length])]
    exact Int.le_refl 1
  | d + 1, r, h, z => by
    have hl : r.length = n := by rw [h.length_eq, upI_length]
    obtain ⟨i, h0, h1, hd⟩ := has_desc h (by omega)
    have e := iv_sw hl h0 h1 hd
    have p := pN_pos d (swZ r i (i + 1)) (sw_perm h h0 h1) (by omega)
    have hm : i ∈ (upI 0 (r.length - 1)).filter (desc r) := List.mem_filter.mpr ⟨up_mem.mpr (by omega), hd⟩
    unfold pN
    generalize (upI 0 (r.length - 1)).filter (desc r) = js at hm
    have key : ∀ js : List Int, 0 ≤ (js.map fun i => pN d (swZ r i (i + 1))).sum := by
      intro js
      induction js with
      | nil => exact Int.le_refl 0
      | cons i js ih =>
        rw [List.map_cons, List.sum_cons]
        have := pN_nn d (swZ r i (i + 1))
        omega
    induction js with
    | nil => exact nomatch hm
    | cons j js ih =>
      rw [List.map_cons, List.sum_cons]
      have nn := pN_nn d (swZ r j (j + 1))
      rcases List.mem_cons.mp hm with rfl | hm
      · have := key js
        omega
      · have := ih hm
        omega
/-! ### one move nearer, by the program -/
def omB : Rho → Sr := sIf (asB (r2 oGt (r2 oIx (rVar 2) (rVar 3)) (r2 oIx (rVar 2) (r2 oAdd (rVar 3) (rC (.int 1)))))) (sSeq (sSet 4 false (rCall m_do_move (aCons (rVar 2) (aCons (rTup (aCons (rC (.str "next")) (aCons (rVar 3) aNil))) aNil)))) (sPutT 1 (r2 oAdd (rDGO (rVar 1) (rVar 4) (rC (.int 0))) (r2 oDGT (rVar 0) (rVar 2))) (rVar 4))) sNil
def omF : Rho → Sr := sFor (iR1 (aCons (r2 oSub (rB bLen (aCons (rVar 2) aNil)) (rC (.int 1))) aNil)) (gSlot 3) omB
section
variable {n : Nat} {l : RD}
theorem om_in (hn : n ≤ 7) {r : List Int} (hr : r.Perm (upI 1 n)) (hm : r ∈ l.map (·.1)) : ∀ (is : List Int) (d : RD) (x3 x4 : Option PyData), (∀ i ∈ is, 0 ≤ i ∧ i + 1 < n) → Gd n d → ∃ y3 y4, sLoop (gSlot 3) omB (is.map PyData.int) [some (dT l), some (dT d), some (tI r), x3, x4] = .nx [some (dT l), some (dT (nrI r (valB l r) is d)), some (tI r), y3, y4]
  | [], d, x3, x4, _, _ => ⟨x3, x4, rfl⟩
  | i :: is, d, x3, x4, hi, G => by
    have b := hi i (.head _)
    have hl : r.length = n := by rw [hr.length_eq, upI_length]
    have e1 : atZ r i = some (valZ r i) := val_at (up_mem.mpr (by omega))
    have e2 : atZ r (i + 1) = some (valZ r (i + 1)) := val_at (up_mem.mpr (by omega))
    rw [List.map_cons]
    by_cases c : desc r i = true
    · have G2 := G.bump (valB l r) (sw_perm hr b.1 b.2)
      obtain ⟨y3, y4, e⟩ := om_in hn hr hm is (bump (swZ r i (i + 1)) (valB l r) d) (some (.int i)) (some (tI (swZ r i (i + 1)))) (fun j hj => hi j (.tail _ hj)) G2
      refine ⟨y3, y4, ?_⟩
      have en : nrI r (valB l r) (i :: is) d = nrI r (valB l r) is (bump (swZ r i (i + 1)) (valB l r) d) := by
        unfold nrI
        rw [List.filter_cons, if_pos c]
        rfl
      rw [en]
      refine (loop_nx (ρ1 := [some (dT l), some (dT d), some (tI r), some (.int i), x4]) (ρ2 := [some (dT l), some (dT (bump (swZ r i (i + 1)) (valB l r) d)), some (tI r), some (.int i), some (tI (swZ r i (i + 1)))]) rfl ?_).trans e
      obtain ⟨j, rfl⟩ : ∃ j : Nat, i = (j : Int) := ⟨i.toNat, by omega⟩
      have dm := m_dm (m := .next j) (n := n) (show j + 1 < n by omega) hr (by omega)
      have dm : m_do_move [tI r, .tuple [.str ("next" : Str), .int (j : Int)]] = .ok (tI (swZ r j ((j : Int) + 1))) := dm
      have mt : mkT [.str ("next" : Str), .int (j : Int)] = .ok (.tuple [.str ("next" : Str), .int (j : Int)]) := rfl
      have gt : (asB (r2 oGt (r2 oIx (rVar 2) (rVar 3)) (r2 oIx (rVar 2) (r2 oAdd (rVar 3) (rC (.int 1)))))) [some (dT l), some (dT d), some (tI r), some (.int (j : Int)), x4] = .ok true := by
        have c := of_decide_eq_true c
        generalize dT l = L at *
        generalize dT d = D at *
        simp [e1, e2, c]
      unfold omB
      rw [ap_sIf, gt, stT_ok, if_pos rfl]
      refine seq_nx (ρ' := [some (dT l), some (dT d), some (tI r), some (.int (j : Int)), some (tI (swZ r j ((j : Int) + 1)))]) (by
        generalize dT l = L at *
        generalize dT d = D at *
        simp [mt, dm]) ?_
      have g := rDGO_d (ρ := [some (dT l), some (dT d), some (tI r), some (.int (j : Int)), some (tI (swZ r j ((j : Int) + 1)))]) (l := d) (k := swZ r j ((j : Int) + 1)) (f := rVar 1) (g := rVar 4) (h := rC (.int 0)) (v := 0) rfl rfl rfl
      have g2 : (r2 oDGT (rVar 0) (rVar 2)) [some (dT l), some (dT d), some (tI r), some (.int (j : Int)), some (tI (swZ r j ((j : Int) + 1)))] = .ok (.int (valB l r)) := by
        show liftO (oDGT (dT l) (tI r)) = _
        rw [oDGT_d, look_some hm]
        rfl
      rw [← put_bump (swZ r j ((j : Int) + 1)) (valB l r) G.nd]
      refine putT_go (ρ := [some (dT l), some (dT d), some (tI r), some (.int (j : Int)), some (tI (swZ r j ((j : Int) + 1)))]) (l := d) (k := swZ r j ((j : Int) + 1)) rfl ?_ rfl ?_
      · generalize rDGO (rVar 1) (rVar 4) (rC (.int 0)) = GG at *
        generalize r2 oDGT (rVar 0) (rVar 2) = G3 at *
        generalize (lookT d (swZ r j ((j : Int) + 1))).getD 0 = v at *
        generalize valB l r = v2 at *
        generalize [some (dT l), some (dT d), some (tI r), some (.int (j : Int)), some (tI (swZ r j ((j : Int) + 1)))] = ρ at *
        simp [g, g2]
      · have := G.len hn
        omega
    · obtain ⟨y3, y4, e⟩ := om_in hn hr hm is d (some (.int i)) x4 (fun j hj => hi j (.tail _ hj)) G
      refine ⟨y3, y4, ?_⟩
      have en : nrI r (valB l r) (i :: is) d = nrI r (valB l r) is d := by
        unfold nrI
        rw [List.filter_cons, if_neg c]
      rw [en]
      refine (loop_nx (ρ1 := [some (dT l), some (dT d), some (tI r), some (.int i), x4]) (ρ2 := [some (dT l), some (dT d), some (tI r), some (.int i), x4]) rfl ?_).trans e
      have c : ¬ valZ r (i + 1) < valZ r i := fun z => c (decide_eq_true z)
      unfold omB
      generalize dT l = L at *
      generalize dT d = D at *
      simp [e1, e2, c]
theorem om_out (hn : n ≤ 7) : ∀ (ks : List (List Int)) (d : RD) (x2 x3 x4 : Option PyData), (∀ k ∈ ks, k.Perm (upI 1 n) ∧ k ∈ l.map (·.1)) → Gd n d → ∃ y2 y3 y4, sLoop (gSlot 2) omF (ks.map tI) [some (dT l), some (dT d), x2, x3, x4] = .nx [some (dT l), some (dT (nrO l ks d)), y2, y3, y4] ∧ Gd n (nrO l ks d)
  | [], d, x2, x3, x4, _, G => ⟨x2, x3, x4, rfl, G⟩
  | r :: ks, d, x2, x3, x4, hk, G => by
    obtain ⟨hr, hm⟩ := hk r (.head _)
    have hl : r.length = n := by rw [hr.length_eq, upI_length]
    have hi : ∀ i ∈ upI 0 (r.length - 1), 0 ≤ i ∧ i + 1 < n := fun i hi => by
      have := up_mem.mp hi
      omega
    obtain ⟨y3, y4, e⟩ := om_in hn hr hm (upI 0 (r.length - 1)) d x3 x4 hi G
    obtain ⟨z2, z3, z4, e2, G2⟩ := om_out hn ks (nrI r (valB l r) (upI 0 (r.length - 1)) d) (some (tI r)) y3 y4 (fun k h => hk k (.tail _ h)) (gd_nrI hr _ _ _ hi G)
    refine ⟨z2, z3, z4, ?_, G2⟩
    rw [List.map_cons]
    refine (loop_nx (ρ1 := [some (dT l), some (dT d), some (tI r), x3, x4]) (ρ2 := [some (dT l), some (dT (nrI r (valB l r) (upI 0 (r.length - 1)) d)), some (tI r), y3, y4]) rfl ?_).trans e2
    have rg : rg1 [.int ((r.length : Int) - 1)] = .ok ((upI 0 (r.length - 1)).map PyData.int) := by
      by_cases c : r.length = 0
      · rw [c]
        rfl
      · rw [show (r.length : Int) - 1 = ((r.length - 1 : Nat) : Int) by omega]
        exact rg1_n (by omega)
    unfold omF
    have ei : (iR1 (aCons (r2 oSub (rB bLen (aCons (rVar 2) aNil)) (rC (.int 1))) aNil)) [some (dT l), some (dT d), some (tI r), x3, x4] = .ok ((upI 0 (r.length - 1)).map PyData.int) := by
      generalize dT l = L at *
      generalize dT d = D at *
      generalize (upI 0 (r.length - 1)).map PyData.int = U at *
      simp [rg]
    rw [ap_sFor, ei, stL_ok]
    exact e
theorem m_nearer (hn : n ≤ 7) (G : Gd n l) : m_one_move_nearer [dT l] = .ok (dT (nrO l (l.map (·.1)) [])) ∧ Gd n (nrO l (l.map (·.1)) []) := by
  obtain ⟨y2, y3, y4, e, G2⟩ := om_out (l := l) hn (l.map (·.1)) [] none none none (fun k hk => ⟨G.pm k hk, hk⟩) ⟨.nil, fun _ h => nomatch h⟩
  refine ⟨?_, G2⟩
  unfold m_one_move_nearer
  rw [run1]
  unfold s_one_move_nearer
  refine go (ρ' := [some (dT l), some (dT []), none, none, none]) (by rfl) ?_
  refine go (ρ' := [some (dT l), some (dT (nrO l (l.map (·.1)) [])), y2, y3, y4]) ?_ (by
    generalize dT l = L
    generalize dT (nrO l (l.map (·.1)) []) = D
    simp)
  have em : (l.map fun (p : List Int × Int) => tI p.1) = (l.map (·.1)).map tI := by
    rw [List.map_map]
    rfl
  show sForT 0 (gSlot 2) omF [some (dT l), some (dT []), none, none, none] = _
  rw [forT_go (l := l) rfl, em, e]
  rfl
end
/-! ### level by level -/
section
variable {n : Nat}
theorem wt_nearer {l : RD} (G : Gd n l) (e : Nat) : wtB (pN e) (nrO l (l.map (·.1)) []) = wtB (pN (e + 1)) l := by
  rw [wt_nrO, wt_val G.nd]
  show 0 + _ = _
  rw [Int.zero_add]
  rfl
theorem nw_levels (hn : n ≤ 7) (x0 x1 x2 : Option PyData) : ∀ (L : List PyData) (l : RD) (x4 : Option PyData), Gd n l → ∃ (l' : RD) (y4 : Option PyData), sLoop (gSlot 4) next_ways_s0 L [x0, x1, x2, some (dT l), x4] = .nx [x0, x1, x2, some (dT l'), y4] ∧ Gd n l' ∧ ∀ e, wtB (pN e) l' = wtB (pN (e + L.length)) l
  | [], l, x4, G => ⟨l, x4, rfl, G, fun e => rfl⟩
  | d :: L, l, x4, G => by
    obtain ⟨m, G2⟩ := m_nearer hn G
    obtain ⟨l', y4, e, G3, w⟩ := nw_levels hn x0 x1 x2 L (nrO l (l.map (·.1)) []) (some d) G2
    refine ⟨l', y4, ?_, G3, fun e => ?_⟩
    · refine (loop_nx (ρ1 := [x0, x1, x2, some (dT l), some d]) (ρ2 := [x0, x1, x2, some (dT (nrO l (l.map (·.1)) [])), some d]) rfl ?_).trans e
      unfold next_ways_s0
      generalize dT l = D at *
      generalize dT (nrO l (l.map (·.1)) []) = D2 at *
      simp [m]
    · rw [w e, wt_nearer G, List.length_cons]
      rfl
/-- the ways of a plain row to be sorted by neighbors -/
theorem r_ways {a b : List Int} (T : Two n a b) (hn : n ≤ 7) : m_next_ways [tI a, tI b] = .ok (.int (pN (iv (gZ a b) n) (relZ a b))) := by
  have rl := m_relat T (by omega)
  have rp := rel_perm T
  have ll := rel_len T
  have iv1 : (ivs (valZ (relZ a b)) n).length = iv (gZ a b) n := iv_rel T
  generalize relZ a b = r at *
  have mw := m_wrong ll (show n ≤ 40 by omega)
  have G0 : Gd n [(r, 1)] := ⟨by simp, fun k hk => by
    have : k = r := by simpa using hk
    rw [this]
    exact rp⟩
  obtain ⟨l', y4, e, G, w⟩ := nw_levels hn (some (tI a)) (some (tI b)) (some (tI r)) ((ivs (valZ r) n).map pD) [(r, 1)] none G0
  have w0 := w 0
  rw [List.length_map, iv1, Nat.zero_add] at w0
  have w1 : wtB (pN (iv (gZ a b) n)) [(r, 1)] = pN (iv (gZ a b) n) r := by
    show 1 * pN (iv (gZ a b) n) r + 0 = _
    omega
  rw [w1] at w0
  have pos := pN_pos (iv (gZ a b) n) r rp iv1
  -- the sorted row is there
  have z0 : ∀ k ∈ l'.map (·.1), pN 0 k = if k = upI 1 n then 1 else 0 := fun k hk => by
    have := (G.pm k hk).length_eq
    rw [upI_length] at this
    show (if k = upI 1 k.length then (1 : Int) else 0) = _
    rw [this]
  have wv : wtB (pN 0) l' = ((l'.map (·.1)).map fun k => valB l' k * if k = upI 1 n then 1 else 0).sum := by
    rw [wt_val G.nd]
    refine congrArg List.sum (List.map_congr_left fun k hk => ?_)
    rw [z0 k hk]
  have pick : ∀ ks : List (List Int), ks.Nodup → (ks.map fun k => valB l' k * if k = upI 1 n then 1 else 0).sum = if upI 1 n ∈ ks then valB l' (upI 1 n) else 0 := by
    intro ks
    induction ks with
    | nil => intro _; simp
    | cons k ks ih =>
      intro nd
      obtain ⟨n1, n2⟩ := List.nodup_cons.mp nd
      rw [List.map_cons, List.sum_cons, ih n2]
      by_cases c : k = upI 1 n
      · have h2 : upI 1 n ∉ ks := fun z => n1 (by
          rw [c]
          exact z)
        rw [if_pos c, if_neg h2, if_pos (by rw [c]; exact .head _), c]
        omega
      · rw [if_neg c]
        by_cases h2 : upI 1 n ∈ ks
        · rw [if_pos h2, if_pos (.tail _ h2)]
          omega
        · have h3 : upI 1 n ∉ k :: ks := fun z => (List.mem_cons.mp z).elim (fun e => c e.symm) h2
          rw [if_neg h2, if_neg h3]
          omega
  rw [wv, pick _ G.nd] at w0
  have hin : upI 1 n ∈ l'.map (·.1) := Classical.byContradiction fun z => by
    rw [if_neg z] at w0
    omega
  rw [if_pos hin] at w0
  have lk := look_some hin
  rw [w0] at lk
  generalize pN (iv (gZ a b) n) r = V at *
  have so := m_sorted_n n (by omega)
  have og : oDGT (dT l') (tI (upI 1 n)) = some (.int V) := by
    rw [oDGT_d, lk]
    rfl
  have dp := rDispT_d (ρ := [some (tI a), some (tI b), some (tI r), none, none]) (k := r) (f := rVar 2) (g := rC (.int 1)) (v := 1) rfl rfl
  have h7 : ¬ (7 : Int) < n := by omega
  unfold m_next_ways
  rw [run2]
  unfold s_next_ways
  refine go (ρ' := [some (tI a), some (tI b), some (tI r), none, none]) (by simp [rl]) ?_
  refine go (ρ' := [some (tI a), some (tI b), some (tI r), none, none]) (by simp [ll, h7]) ?_
  refine go (ρ' := [some (tI a), some (tI b), some (tI r), some (dT [(r, 1)]), none]) (by
    rw [ap_sSet, dp]
    rfl) ?_
  refine go (ρ' := [some (tI a), some (tI b), some (tI r), some (dT l'), y4]) ?_ ?_
  · unfold next_ways_s1
    have ei : (iOf itS (rCall m_wrong_pairs (aCons (rVar 2) aNil))) [some (tI a), some (tI b), some (tI r), some (dT [(r, 1)]), none] = .ok ((ivs (valZ r) n).map pD) := by
      generalize dT [(r, 1)] = D at *
      generalize (ivs (valZ r) n).map pD = V at *
      simp [mw]
    rw [ap_sFor, ei, stL_ok, e]
  · generalize dT l' = D at *
    generalize upI 1 n = U at *
    simp [ll, so, og]
theorem x_ways {a : List Int} (h : a.Perm (upI 1 n)) (h8 : 8 ≤ n) (hn : n ≤ 40) : m_next_ways [tI a, tI a] = .ex "OutOfRange" := by
  have T : Two n a a := ⟨h, h⟩
  have rl := m_relat T hn
  have ll := rel_len T
  generalize relZ a a = r at *
  have h7 : (7 : Int) < n := by omega
  unfold m_next_ways
  rw [run2]
  unfold s_next_ways
  refine go (ρ' := [some (tI a), some (tI a), some (tI r), none, none]) (by simp [rl]) ?_
  exact go_ex (ρ' := [some (tI a), some (tI a), some (tI r), none, none]) (by simp [ll, h7])
theorem m_int (z : Int) : m__law_is_integer [.int z] = .ok (.bool true) := by
  unfold m__law_is_integer
  rw [run1]
  unfold s__law_is_integer
  simp
/-! ### the sum over the first moves -/
def sT (n : Nat) (a b : List Int) (is : List Int) : Int := ((is.filter (desc (relZ a b))).map fun i => pN (iv (gZ a b) n - 1) (swZ (relZ a b) i (i + 1))).sum
theorem two_sw {a b : List Int} (T : Two n a b) {i : Int} (h0 : 0 ≤ i) (h1 : i + 1 < n) : Two n (swZ a i (i + 1)) b ∧ relZ (swZ a i (i + 1)) b = swZ (relZ a b) i (i + 1) := by
  have la := T.la
  refine ⟨⟨sw_perm T.pa h0 h1, T.pb⟩, ?_⟩
  unfold relZ
  exact (swZ_map _ (up_mem.mpr (by omega)) (up_mem.mpr (by omega))).symm
theorem iv_sw2 {a b : List Int} (T : Two n a b) {i : Int} (h0 : 0 ≤ i) (h1 : i + 1 < n) : (desc (relZ a b) i = true → iv (gZ (swZ a i (i + 1)) b) n + 1 = iv (gZ a b) n) ∧ (desc (relZ a b) i = false → iv (gZ a b) n + 1 = iv (gZ (swZ a i (i + 1)) b) n) := by
  obtain ⟨T2, e2⟩ := two_sw T h0 h1
  have ll := rel_len T
  have a1 := iv_rel T
  have a2 := iv_rel T2
  rw [e2] at a2
  rw [← a1, ← a2]
  constructor
  · intro h
    exact (iv_sw ll h0 h1 h).symm
  · intro h
    have ne := val_ne (rel_perm T) (p := i) (q := i + 1) (up_mem.mpr (by omega)) (up_mem.mpr (by omega)) (by omega)
    have h := of_decide_eq_false h
    have l2 : (swZ (relZ a b) i (i + 1)).length = n := by rw [swZ_len, ll]
    refine (iv_down (f := valZ (swZ (relZ a b) i (i + 1))) (g := valZ (relZ a b)) h0 h1 (fun p h2 h3 => ?_) ?_).symm
    · have tb := tau_b h0 h1 h2 h3
      rw [val_tau h0 (by omega) tb.1 (by omega), tau_tau]
    · rw [val_tau h0 (by omega) (by omega) (by omega), val_tau h0 (by omega) h0 (by omega)]
      have e1 : tau i (i + 1) = i := by
        unfold tau
        rw [if_neg (by omega), if_pos rfl]
      have e3 : tau i i = i + 1 := by
        unfold tau
        rw [if_pos rfl]
      rw [e1, e3]
      omega
theorem told_eq {a b : List Int} (T : Two n a b) : pN (iv (gZ a b) n) (relZ a b) = (if a = b then 1 else 0) + sT n a b (upI 0 (n - 1)) := by
  have ll := rel_len T
  cases hD : iv (gZ a b) n with
  | zero =>
    have e := iv_zero (rel_perm T) (by rw [iv_rel T]; exact hD)
    have ab := (rel_sorted T).mp e
    have nil : (upI 0 (n - 1)).filter (desc (relZ a b)) = [] := by
      rw [List.filter_eq_nil_iff]
      intro i hi hd
      have := up_mem.mp hi
      have := (iv_sw2 T (i := i) (by omega) (by omega)).1 hd
      omega
    unfold sT pN
    rw [nil, if_pos ab, if_pos (by rw [ll]; exact e)]
    rfl
  | succ d =>
    have ab : ¬ a = b := fun z => by
      rw [z, iv_self T.pb] at hD
      omega
    unfold sT
    rw [if_neg ab, hD, Int.zero_add, Nat.add_sub_cancel]
    show (((upI 0 ((relZ a b).length - 1)).filter (desc (relZ a b))).map fun i => pN d (swZ (relZ a b) i (i + 1))).sum = _
    rw [ll]
theorem law_loop {a b : List Int} (T : Two n a b) (hn : n ≤ 7) (x0 x1 x2 x5 x9 : Option PyData) : ∀ (is : List Int) (t : Int) (x7 x8 : Option PyData), (∀ i ∈ is, 0 ≤ i ∧ i + 1 < n) → ∃ y7 y8, sLoop (gSlot 7) law_s2 (is.map PyData.int) [x0, x1, x2, some (tI a), some (tI b), x5, some (.int t), x7, x8, x9] = .nx [x0, x1, x2, some (tI a), some (tI b), x5, some (.int (t + sT n a b is)), y7, y8, x9]
  | [], t, x7, x8, _ => ⟨x7, x8, by
    have : t + sT n a b [] = t := by
      unfold sT
      simp
    rw [this]
    rfl⟩
  | i :: is, t, x7, x8, hi => by
    have bi := hi i (.head _)
    obtain ⟨T2, e2⟩ := two_sw T bi.1 bi.2
    obtain ⟨v1, v2⟩ := iv_sw2 T bi.1 bi.2
    obtain ⟨j, rfl⟩ : ∃ j : Nat, i = (j : Int) := ⟨i.toNat, by omega⟩
    have lm := m_lmv (m := .next j) (n := n) (r := a) (show j + 1 < n by omega) T.la (by omega)
    have lm : m__law_moved [tI a, .tuple [.str ("next" : Str), .int (j : Int)]] = .ok (tI (swZ a j ((j : Int) + 1))) := lm
    have mt : mkT [.str ("next" : Str), .int (j : Int)] = .ok (.tuple [.str ("next" : Str), .int (j : Int)]) := rfl
    have l1 := m_leastN T (show n ≤ 40 by omega)
    have l2 := m_leastN T2 (show n ≤ 40 by omega)
    have nw := r_ways T2 hn
    rw [e2] at nw
    rw [List.map_cons]
    by_cases c : desc (relZ a b) j = true
    · have q := v1 c
      have lt : ((iv (gZ (swZ a j ((j : Int) + 1)) b) n : Nat) : Int) < ((iv (gZ a b) n : Nat) : Int) := by omega
      have q2 : iv (gZ (swZ a j ((j : Int) + 1)) b) n = iv (gZ a b) n - 1 := by omega
      rw [q2] at nw
      obtain ⟨y7, y8, e⟩ := law_loop T hn x0 x1 x2 x5 x9 is (t + pN (iv (gZ a b) n - 1) (swZ (relZ a b) j ((j : Int) + 1))) (some (.int (j : Int))) (some (tI (swZ a j ((j : Int) + 1)))) (fun k hk => hi k (.tail _ hk))
      refine ⟨y7, y8, ?_⟩
      have es : t + sT n a b ((j : Int) :: is) = t + pN (iv (gZ a b) n - 1) (swZ (relZ a b) j ((j : Int) + 1)) + sT n a b is := by
        unfold sT
        rw [List.filter_cons, if_pos c, List.map_cons, List.sum_cons]
        omega
      rw [es]
      refine (loop_nx (ρ1 := [x0, x1, x2, some (tI a), some (tI b), x5, some (.int t), some (.int (j : Int)), x8, x9]) (ρ2 := [x0, x1, x2, some (tI a), some (tI b), x5, some (.int (t + pN (iv (gZ a b) n - 1) (swZ (relZ a b) j ((j : Int) + 1)))), some (.int (j : Int)), some (tI (swZ a j ((j : Int) + 1))), x9]) rfl ?_).trans e
      unfold law_s2 law_s1
      generalize pN (iv (gZ a b) n - 1) (swZ (relZ a b) j ((j : Int) + 1)) = V at *
      generalize iv (gZ (swZ a j ((j : Int) + 1)) b) n = V2 at *
      generalize iv (gZ a b) n = V1 at *
      generalize swZ a j ((j : Int) + 1) = a2 at *
      clear es e e2 q q2 v1 v2
      simp [lm, mt, l1, l2, nw, lt]
    · have cf : desc (relZ a b) j = false := by simpa using c
      have q := v2 cf
      have lt : ¬ ((iv (gZ (swZ a j ((j : Int) + 1)) b) n : Nat) : Int) < ((iv (gZ a b) n : Nat) : Int) := by omega
      obtain ⟨y7, y8, e⟩ := law_loop T hn x0 x1 x2 x5 x9 is t (some (.int (j : Int))) (some (tI (swZ a j ((j : Int) + 1)))) (fun k hk => hi k (.tail _ hk))
      refine ⟨y7, y8, ?_⟩
      have es : sT n a b ((j : Int) :: is) = sT n a b is := by
        unfold sT
        rw [List.filter_cons, if_neg c]
      rw [es]
      refine (loop_nx (ρ1 := [x0, x1, x2, some (tI a), some (tI b), x5, some (.int t), some (.int (j : Int)), x8, x9]) (ρ2 := [x0, x1, x2, some (tI a), some (tI b), x5, some (.int t), some (.int (j : Int)), some (tI (swZ a j ((j : Int) + 1))), x9]) rfl ?_).trans e
      unfold law_s2 law_s1
      generalize iv (gZ (swZ a j ((j : Int) + 1)) b) n = V2 at *
      generalize iv (gZ a b) n = V1 at *
      generalize swZ a j ((j : Int) + 1) = a2 at *
      clear es e e2 q v1 v2
      simp [lm, mt, l1, l2, lt]
/-! ### the law -/
theorem law_true (ns : List Int) (_h : ns.length ≤ 63) : m_law [scrD ns] = .ok (.bool true) := by
  unfold m_law
  rw [run1]
  unfold s_law
  have eD := m_digits (richZ (cellZ ns 0)) [7, 8, 33, 3] (by decide) (by decide)
  have eC0 : m__law_cell [scrD ns, .int 0] = .ok (.int (cellZ ns 0)) := m_cell ns 0
  have eC1 : m__law_cell [scrD ns, .int 1] = .ok (.int (cellZ ns 1)) := m_cell ns 1
  have eC2 : m__law_cell [scrD ns, .int 2] = .ok (.int (cellZ ns 2)) := m_cell ns 2
  have eC3 : m__law_cell [scrD ns, .int 3] = .ok (.int (cellZ ns 3)) := m_cell ns 3
  obtain ⟨d0, d1, d2, d3, hd, b0, b2⟩ : ∃ d0 d1 d2 d3 : Int, digZ (richZ (cellZ ns 0)) [7, 8, 33, 3] = [d0, d1, d2, d3] ∧ (0 ≤ d0 ∧ d0 < 7) ∧ (0 ≤ d2 ∧ d2 < 33) :=
    ⟨_, _, _, _, rfl, mod_b _ (by decide), mod_b _ (by decide)⟩
  rw [hd] at eD
  obtain ⟨n, hn, en⟩ : ∃ n : Nat, n ≤ 7 ∧ atZ [d0, 7] (if d1 = 0 then 1 else 0) = some (n : Int) := by
    by_cases c : d1 = 0
    · rw [if_pos c]
      exact ⟨7, by omega, rfl⟩
    · rw [if_neg c]
      exact ⟨d0.toNat, by omega, by rw [Int.toNat_of_nonneg (by omega)]; rfl⟩
  obtain ⟨a, ea, pa⟩ := m_row (cellZ ns 1) n (by omega)
  obtain ⟨b0', eb, pb0⟩ := m_row (cellZ ns 2) n (by omega)
  obtain ⟨m, hm⟩ : ∃ m : Nat, 8 + d2 = (m : Int) := ⟨(8 + d2).toNat, by omega⟩
  obtain ⟨c, ec, pc⟩ := m_row (cellZ ns 3) m (by omega)
  have mk4 : mkL [.int 7, .int 8, .int 33, .int 3] = .ok (lI [7, 8, 33, 3]) := rfl
  have mk2 : mkL [.int d0, .int 7] = .ok (lI [d0, 7]) := rfl
  have x0 : atZ [d0, d1, d2, d3] 0 = some d0 := rfl
  have x1 : atZ [d0, d1, d2, d3] 1 = some d1 := rfl
  have x2 : atZ [d0, d1, d2, d3] 2 = some d2 := rfl
  have x3 : atZ [d0, d1, d2, d3] 3 = some d3 := rfl
  refine go (ρ' := [some (scrD ns), some (lI [d0, d1, d2, d3]), none, none, none, none, none, none, none, none]) (by unfold law_s0; simp [eC0, m_rich, mk4, eD]) ?_
  refine go (ρ' := [some (scrD ns), some (lI [d0, d1, d2, d3]), some (.int (n : Int)), none, none, none, none, none, none, none]) (by simp [x0, x1, mk2, en]) ?_
  refine go (ρ' := [some (scrD ns), some (lI [d0, d1, d2, d3]), some (.int (n : Int)), some (tI a), none, none, none, none, none, none]) (by simp [eC1, ea]) ?_
  refine go (ρ' := [some (scrD ns), some (lI [d0, d1, d2, d3]), some (.int (n : Int)), some (tI a), some (tI b0'), none, none, none, none, none]) (by simp [eC2, eb]) ?_
  obtain ⟨b, pb, es⟩ : ∃ b : List Int, b.Perm (upI 1 n) ∧ (sIf (asB (r2 oEq (r2 oIx (rVar 1) (rC (.int 3))) (rC (.int 0)))) (sSet 4 false (rVar 3)) sNil) [some (scrD ns), some (lI [d0, d1, d2, d3]), some (.int (n : Int)), some (tI a), some (tI b0'), none, none, none, none, none] = .nx [some (scrD ns), some (lI [d0, d1, d2, d3]), some (.int (n : Int)), some (tI a), some (tI b), none, none, none, none, none] := by
    by_cases q : d3 = 0
    · exact ⟨a, pa, by simp [x3, q]⟩
    · exact ⟨b0', pb0, by simp [x3, q]⟩
  refine go (ρ' := [some (scrD ns), some (lI [d0, d1, d2, d3]), some (.int (n : Int)), some (tI a), some (tI b), none, none, none, none, none]) es ?_
  have T : Two n a b := ⟨pa, pb⟩
  have nw := r_ways T hn
  have te := told_eq T
  obtain ⟨y7, y8, el⟩ := law_loop T hn (some (scrD ns)) (some (lI [d0, d1, d2, d3])) (some (.int (n : Int))) (some (.int (pN (iv (gZ a b) n) (relZ a b)))) none (upI 0 (n - 1)) (if a = b then 1 else 0) none none (fun i hi => by
    have := up_mem.mp hi
    omega)
  rw [← te] at el
  have xw := x_ways pc (by omega) (by omega)
  generalize pN (iv (gZ a b) n) (relZ a b) = V at *
  have mi := m_int V
  refine go (ρ' := [some (scrD ns), some (lI [d0, d1, d2, d3]), some (.int (n : Int)), some (tI a), some (tI b), some (.int V), none, none, none, none]) (by simp [nw]) ?_
  refine go (ρ' := [some (scrD ns), some (lI [d0, d1, d2, d3]), some (.int (n : Int)), some (tI a), some (tI b), some (.int V), none, none, none, none]) (by simp [mi]) ?_
  refine go (ρ' := [some (scrD ns), some (lI [d0, d1, d2, d3]), some (.int (n : Int)), some (tI a), some (tI b), some (.int V), some (.int (if a = b then 1 else 0)), none, none, none]) (by
    by_cases q : a = b
    · simp [q]
    · simp [q]) ?_
  refine go (ρ' := [some (scrD ns), some (lI [d0, d1, d2, d3]), some (.int (n : Int)), some (tI a), some (tI b), some (.int V), some (.int V), y7, y8, none]) ?_ ?_
  · have rg : rg1 [.int ((n : Int) - 1)] = .ok ((upI 0 (n - 1)).map PyData.int) := by
      by_cases c : n = 0
      · rw [c]
        rfl
      · rw [show (n : Int) - 1 = ((n - 1 : Nat) : Int) by omega]
        exact rg1_n (by omega)
    unfold law_s3
    have ei : (iR1 (aCons (r2 oSub (rVar 2) (rC (.int 1))) aNil)) [some (scrD ns), some (lI [d0, d1, d2, d3]), some (.int (n : Int)), some (tI a), some (tI b), some (.int V), some (.int (if a = b then 1 else 0)), none, none, none] = .ok ((upI 0 (n - 1)).map PyData.int) := by
      generalize (upI 0 (n - 1)).map PyData.int = U at *
      simp [rg]
    rw [ap_sFor, ei, stL_ok, el]
  refine go (ρ' := [some (scrD ns), some (lI [d0, d1, d2, d3]), some (.int (n : Int)), some (tI a), some (tI b), some (.int V), some (.int V), y7, y8, none]) (by simp) ?_
  refine go (ρ' := [some (scrD ns), some (lI [d0, d1, d2, d3]), some (.int (n : Int)), some (tI a), some (tI b), some (.int V), some (.int V), y7, y8, some (tI c)]) (by simp [eC3, x2, hm, ec]) ?_
  refine go_rt ?_
  unfold law_s4
  rw [try_ex (ρ' := [some (scrD ns), some (lI [d0, d1, d2, d3]), some (.int (n : Int)), some (tI a), some (tI b), some (.int V), some (.int V), y7, y8, some (tI c)]) (by simp [xw])]
  simp
end
end Gn

set_option Elab.async false
set_option linter.all false
set_option maxRecDepth 100000
set_option maxHeartbeats 0
open PySem PySem.W PySem.Calls PyProof.Rows
theorem PySem.Challenge.cw_turnedrows_k14_ways_of_nexts_holds : PySem.Challenge.rw_turnedrows_k14_ways_of_nexts.Holds := by
  w_on; o_law
  refine HandSHeadRun.head_any (r := OpenLaw.row PySem.Challenge.rw_turnedrows_k14_ways_of_nexts) (q := view (OpenLaw.row PySem.Challenge.rw_turnedrows_k14_ways_of_nexts).prog [33]) (H := Gn.hk) (ob := Gn.ob) (M := 4000) (loose := Gn.loose) (d := HandSHeadRun.topDef (OpenLaw.row PySem.Challenge.rw_turnedrows_k14_ways_of_nexts).prog 33) (kwd := []) Gn.ob_eq (by kernel_rfl)
    (fun s => by kernel_rfl) Gn.run (by kernel_rfl) (by kernel_rfl) (by kernel_rfl) (by rfl) (by first | assumption | decide +kernel) (by decide +kernel)
    ⟨rfl, rfl, rfl, rfl, rfl, by decide +kernel⟩ ?hw ?hc
  case hw => w_witness2
  case hc =>
    refine Pu.walkT (l := PySem.Challenge.rw_turnedrows_k14_ways_of_nexts) (n := 63) (k := 6) (x := "script") (f := Gn.m_law) rfl (by decide) (by kernel_rfl) ⟨rfl, by decide, by decide⟩ Gn.law_true ?F
    intro w mg fa h Y G hmg0
    obtain ⟨K, KX, c⟩ := Y
    have hmg : mg ("law" : PySem.Str) = some (.ref fa) := by
      rw [← show (HandSHeadRun.topDef (OpenLaw.row PySem.Challenge.rw_turnedrows_k14_ways_of_nexts).prog 33).name = ("law" : PySem.Str) by kernel_rfl]
      exact hmg0
    have ct := Gn.ct_of KX G c c.p
    obtain ⟨fd, hb, hF⟩ := Pu.law_fn (P := (PySem.Challenge.rw_turnedrows_k14_ways_of_nexts).prog) (w := w) (p := "script") (k := 6) (f := Gn.m_law) hmg ct.f_law (fun _ _ _ _ _ _ us hl => match us, hl with | [_], _ => rfl)
      fun base _ _ fA fd Fd _ => Pu.def_ok Fd Gn.sc_law Gn.M_law (by decide) Gn.s_law fun cdv A outer sh H Ex Gx F => Gn.bo_law ct 0 fA cdv A outer sh H Ex Gx F
    exact ⟨K, fd, [], [], KX, (fun _ h => nomatch h), (fun _ h => nomatch h), (fun _ h => nomatch h), (fun _ h => nomatch h), hb, fun base h1 h2 _ => hF base h1 h2⟩

