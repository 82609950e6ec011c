import PyProof.Rows.All
import Wide.All
import OpenK.AllK
import Wide.FinOn
import HandS.ForMost
import HandS.Conv
import HandS.TupAny
import HandS.HeadHook1
import HandS.Exc
import HandS.TryOnly
import HandS.ExcOwn
import HandS.WordsExc
import HandS.Wide
import HandS.SortInts
import HandS.Lambda
import HandS.More
import HandS.ExcIs
import HandS.Defaults
import HandS.HeadHook2
import HandS.HeadEnd
import HandS.Strs
import HandS.IsInst
import KE.DataMinMax
import HandS.Head0
import HandS.Head1
import HandS.Head2
import HandS.EndTab
import HandS.DictComp
import PyProof.CollectIter
import PyProof.WalksMore
import HandS.Zip
import KE.GoesMore
import KE.GoesEnum
import KE.KStateDown
import HandS.Flow
import HandS.Deep
import HandS.SetFor
import HandS.TupLe
import PyProof.DictUpdate
import PyProof.P3In
import KE.SortData
import KE.SortKeyHeap
import HandS.Iter
import HandS.Text
import HandS.RaiseMore
import KE.GoesRaise
import KE.IntTextLaws
import HandS.Replace
import KE.GoesComp
import HandS.ReplaceDef
import HandS.ReplaceLit
import HandS.FStr
import KE.KxField
import HandS.ReplaceList
import PySem.Challenge.RW_turnedrows_k48_rows_written_and_read
set_option Elab.async false
set_option linter.all false
set_option maxRecDepth 100000
set_option maxHeartbeats 2000000
/-! tuples whose object is known to bear no dict of its own -/
namespace Pu
open PySem PySem.Spec PyProof.Rows L2
def TupD (K : PySem.W.Frag) (H : Hp) (a : Addr) (xs : List V) : Prop := (∃ o : Obj, H a = some (.frz o (.tup xs)) ∧ o.dict = none) ∨
  ∃ (o : Obj) (its : Array Value) (n : Nat), K.lookup a = some o ∧ o.cls = .type "tuple" ∧ o.dict = none ∧ o.data = .seq its n ∧ its.size ≤ sizeLine ∧ Vals xs its.toList
theorem TupD.sq {K : PySem.W.Frag} {H : Hp} {a : Addr} {xs : List V} (h : TupD K H a xs) : SqT K H a xs := by
  rcases h with ⟨o, h, _⟩ | ⟨o, its, n, h1, h2, _, h3, h4, h5⟩
  · exact .inl (.inr ⟨o, h⟩)
  · exact .inr ⟨o, its, n, h1, h2, h3, h4, h5⟩
/-- a new tuple at p -/
abbrev NewT (Q : VK) (H : Hp) (xs : List V) : Prop := ∀ (p : Addr) (o : Obj), H p = none → o.dict = none → Q (.ref p) (upd H p (.frz o (.tup xs)))
section
variable {X : Cx} {pins : List (Addr × Obj)} {σ : L2.St} {H : Hp} {s : Shared}
theorem Inv.tupNew {h' : Heap} {its : List Value} {xs : List V} {Q : VK} {tk : Nat} (I1 : Inv X pins σ H { s with heap := h', toks := tk }) (r : Vals xs its) (hz : xs.length ≤ sizeLine) (q : NewT Q H xs) :
    EP X pins σ Q (.ref h'.objs.size) { s with heap := h'.push { cls := .type "tuple", data := .seq its.toArray }, toks := tk } := by
  refine ⟨.ref h'.objs.size, upd H h'.objs.size (.frz { cls := .type "tuple", data := .seq its.toArray } (.tup xs)), ?_, rfl, q _ _ (I1.hok.fresh (Nat.le_refl _)) rfl⟩
  exact I1.laid (t' := tk) (fun b o e => Heap.get?_push_of_some _ e) (Nat.le_refl _) ⟨Heap.get?_push_size _ rfl, hz, its, r, IsTup.new _ _⟩
def tTupF (t : TA) : TE := fun σ H Q => t σ H fun xs H1 => xs.length ≤ sizeLine ∧ NewT Q H1 xs
theorem pe_tupF {es : List Expr} {x1 : Nat} {pos : Pos} {t : TA} (h : PA X es t) : PE X (.Tuple es x1 pos) (tTupF t) := by
  refine ⟨fun pins s σ H Q I hq => wpAny_Tuple_spliced (thn (h.run pos pins s σ H _ I hq) ?_)⟩
  rintro us s1 ⟨xs, H1, I1, r, z, q⟩
  exact ⟨by rw [← r.length]; exact z, Inv.tupNew (h' := s1.heap) (tk := s1.toks) I1 r z q⟩
def rSlF (K : PySem.W.Frag) : V → Option Int → Option Int → Hp → VK → Prop := fun x lo hi H Q => ∃ a xs, x = .ref a ∧ SqT K H a xs ∧
  ((HT.sIx xs.length 0 lo = 0 ∧ HT.sIx xs.length xs.length hi = xs.length) → Q (.ref a) H) ∧ (¬ (HT.sIx xs.length 0 lo = 0 ∧ HT.sIx xs.length xs.length hi = xs.length) → NewT Q H (cutV xs lo hi))
theorem sl_tupF : SlR X (rSlF X.K) := by
  intro pins s σ H x v vl vu lo hi sl Q I rx hs pl pu h
  obtain ⟨a, xs, rfl, hx, q1, q2⟩ := h
  cases rx
  obtain ⟨its, r, ht, hz⟩ := I.tuple hx
  have hlen : its.toArray.size = xs.length := by
    rw [List.size_toArray]
    exact r.length.symm
  refine ⟨"tuple", _, PyProof.Rows.slot_tuple_getitem.lookup, ht.typeIs, ?_⟩
  by_cases hw : HT.sIx xs.length 0 lo = 0 ∧ HT.sIx xs.length xs.length hi = xs.length
  · exact getItem_tuple_whole ht hs pl pu (by rw [hlen]; exact hw) ⟨.ref a, H, I, rfl, q1 hw⟩
  · refine HT.getItem_tuple_cut ht hs pl pu (by rw [hlen]; exact hw) ?_ (by rw [hlen]; exact hz)
    rw [hlen]
    exact Inv.tupNew (h' := s.heap) (tk := s.toks) I ((r.drop (HT.sIx xs.length 0 lo)).take _) (Nat.le_trans (cutV_length xs lo hi) hz) (q2 hw)
def rCatF (K : PySem.W.Frag) : R2 := fun x y H Q => ∃ a b xs ys, x = .ref a ∧ y = .ref b ∧ SqT K H a xs ∧ SqT K H b ys ∧ xs.length + ys.length ≤ sizeLine ∧
  (xs = [] → Q (.ref b) H) ∧ (xs ≠ [] → ys = [] → Q (.ref a) H) ∧ (xs ≠ [] → ys ≠ [] → NewT Q H (xs ++ ys))
theorem op_catF : OpR X (binaryOp .Add) (rCatF X.K) := by
  intro pins s σ H x y v u Q I rx ry h
  obtain ⟨a, b, xs, ys, rfl, rfl, ha, hb, hz, q0, q1, q2⟩ := h
  cases rx
  cases ry
  obtain ⟨its, r1, p1, _⟩ := I.tuple ha
  obtain ⟨jts, r2, p2, _⟩ := I.tuple hb
  by_cases hx : xs = []
  · subst hx
    cases r1
    exact cat_tup0 p1 p2 ⟨.ref b, H, I, rfl, q0 rfl⟩
  · refine HT.cat_tup p1 p2 (fun z => hx (r1.nil_iff.mp z)) (fun z => ⟨.ref a, H, I, rfl, q1 hx (r2.nil_iff.mp z)⟩) (fun z => ?_) (by rw [← r1.length, ← r2.length]; exact hz)
    exact Inv.tupNew (h' := s.heap) (tk := s.toks) I (r1.append r2) (by rw [List.length_append]; exact hz) (q2 hx fun w => z (r2.nil_iff.mpr w))
def rTupOfF (K : PySem.W.Frag) : List V → Hp → VK → Prop := fun xs H Q => ∃ p ys, xs = [.ref p] ∧ ((SqL K H p ys ∧ NewT Q H ys) ∨ (SqT K H p ys ∧ Q (.ref p) H))
theorem call_tuple_ofF : CallR X (.type "tuple") (rTupOfF X.K) := by
  intro pins s σ H xs us Q I r h
  obtain ⟨p, ys, rfl, h⟩ := h
  obtain ⟨u, rfl, rx⟩ := vals1 r
  cases rx
  rcases h with ⟨hq, q⟩ | ⟨hq, q⟩
  · obtain ⟨its, r1, pl, hz⟩ := I.list hq
    have hlen := r1.length
    refine call_tuple_list pl.isList (fun h1 kp => ?_) (by rw [List.size_toArray]; omega)
    exact Inv.tupNew (h' := h1) (tk := s.toks) (I.kept (t' := s.toks) kp) r1 hz q
  · obtain ⟨its, r1, pl, hz⟩ := I.tuple hq
    exact call_tuple_same pl ⟨.ref p, H, I, rfl, q⟩
def tTupRgF (te : L2.St → Hp → (Int → Int → Hp → Prop) → Prop) : TE := fun σ H Q => te σ H fun a b H1 => RgOk a b ∧ NewT Q H1 (rgV a b)
theorem pe_tupRgF {e : Expr} {te : L2.St → Hp → (Int → Int → Hp → Prop) → Prop} {p pos : Pos} (hc : X.calm = true) (hg : Gl X "tuple") (hm : X.mg "tuple" = none) (he : PRg X e te) (na : starEach [e] X.env = (false, eval e X.env) :: starEach [] X.env := by rfl) : PE X (.Call (.Name "tuple" p) [e] [] pos) (tTupRgF te) := by
  refine ⟨fun pins s σ H Q I h => Call_ (ld_blt I hg hm (show bootBuiltins "tuple" = some (.type "tuple") by decide +kernel) (PyProof.Rows.callWith_type1 (args_cons (thn (he pins s σ H _ I h) ?_) na) na))⟩
  rintro x s1 ⟨r, a, b, t, u, v, H1, rfl, hr, I1, ⟨b1, b2, b3, b4, b5⟩, q⟩
  refine args_nil (call_tuple_range (n := (b - a).toNat) (I1.ok.hd hc) hr (small_one b1 b2 b3 b4) (rangeSize_nat a b) b5 fun h1 tk acc hk hi => ?_)
  have ea : acc = acc.toList.toArray := by simp
  rw [ea]
  exact Inv.tupNew (h' := h1) (tk := tk) (I1.kept hk) (vals_rg hi) (by rw [rgV_length, sizeLine_eq]; omega) q
def rDmF : List V → Hp → VK → Prop := fun xs H Q => ∃ i j, xs = [.int i, .int j] ∧ CDiv i j ∧ NewT Q H [.int (i / j), .int (i % j)]
/-- o.m(..) of a built-in type, its kind told by one's own words -/
def tBMG (ty : V → Hp → Prop) (r : V → List V → Hp → VK → Prop) (to : TE) (t : TA) : TE := fun σ H Q => to σ H fun x H1 => ty x H1 ∧ t σ H1 fun xs H2 => r x xs H2 Q
theorem pe_bmG {T id : String} {name : Str} {o e : Expr} {es : List Expr} {to : TE} {t : TA} {apos cpos : Pos} {r : V → List V → Hp → VK → Prop} {ty : V → Hp → Prop}
    (hk : ∀ (pins : List (Addr × Obj)) (σ : L2.St) (H : Hp) (s : Shared) (x : V) (v : Value), Inv X pins σ H s → RelV x v → ty x H → s.TypeIs v T ∧ ∀ a, v = .ref a → ∃ ob, s.heap.get? a = some ob ∧ ob.dict = none)
    (pa : PlainAttrs T) (slot : Slot T name id) (hty : typeOf (.builtin id) = pure (.type "method_descriptor")) (hm : MtR X id r) (ho : PE X o to) (ha : PA X (e :: es) t)
    (hbase : attributeBase o name X.env (eval o X.env) = eval o X.env)
    (hfew : ((backTo cpos (starEach (e :: es) X.env)).all (fun x => !x.1) && (backToKw cpos (keywordEach [] X.env)).all (fun x => x.1.isSome) && decide ((e :: es).length + ([] : List Keyword).length + (if ([] : List Keyword).isEmpty then 0 else 1) < 30)) = true)
    (hline : (apos.endLine == cpos.line) = true) (hs : starEach (e :: es) X.env = (false, eval e X.env) :: starEach es X.env) (hplain : (backTo cpos (starEach es X.env)).any (·.1) = false) :
    PE X (.Call (.Attribute o name apos) (e :: es) [] cpos) (tBMG ty r to t) := by
  refine ⟨fun pins s σ H Q I h => wpAny_Call_method_late hbase hfew hline rfl (thn (ho.run pins s σ H _ I h) ?_)⟩
  rintro v s1 ⟨x, H1, I1, r1, tyx, q1⟩
  have hA := ha.run cpos pins s1 σ H1 _ I1 q1
  obtain ⟨k1, k2⟩ := hk pins σ H1 s1 x v I1 r1 tyx
  refine ⟨T, id, pa, slot, hty, k1, k2, ?_⟩
  rw [hs] at hA ⊢
  refine Calls.callWith_builtin (show (false || (backTo cpos (starEach es X.env)).any (·.1)) = false by rw [hplain]; rfl) (Calls.evalArgs_plain (thn hA ?_))
  rintro us s2 ⟨vs, H2, I2, r2, q2⟩
  exact hm pins s2 σ H2 x vs v us Q I2 r1 r2 q2
/-- a tuple of ours -/
theorem ty_tupD : ∀ (pins : List (Addr × Obj)) (σ : L2.St) (H : Hp) (s : Shared) (x : V) (v : Value), Inv X pins σ H s → RelV x v → (∃ a xs, x = .ref a ∧ TupD X.K H a xs) → s.TypeIs v "tuple" ∧ ∀ a, v = .ref a → ∃ ob, s.heap.get? a = some ob ∧ ob.dict = none := by
  rintro pins σ H s x v I rx ⟨a, xs, rfl, h⟩
  cases rx
  rcases h with ⟨o, h, hd⟩ | ⟨o, its, n, h1, h2, hd, _⟩
  · obtain ⟨e, _, jts, _, o2, e2, c2, _⟩ := I.hok a _ h
    rw [e] at e2
    cases e2
    exact ⟨⟨o, e, c2⟩, fun b z => by
      cases z
      exact ⟨o, e, hd⟩⟩
  · exact ⟨⟨o, I.kIn a o h1, h2⟩, fun b z => by
      cases z
      exact ⟨o, I.kIn a o h1, hd⟩⟩
end
end Pu

set_option Elab.async false
set_option linter.all false
set_option maxRecDepth 100000
set_option maxHeartbeats 2000000
/-! Pu: a layer over HandS in which a piece of syntax is read as a function of plain data; no heap is seen above it. -/
namespace Pu
open PySem PySem.Spec PyProof.Rows L2

/-- the tables of code objects that may be written, each with the name that its code objects bear -/
class TabL where
  T : List (Addr × Str)
instance (priority := low) tabNil : TabL := ⟨[]⟩
def NT (u : HO) : Prop := ∀ ps, u ≠ .tbl ps
/-- a known thing that is no table -/
def Nn (H : Hp) (a : Addr) : Prop := ∃ u, H a = some u ∧ NT u
theorem Nn.not {H : Hp} {a : Addr} (h : Nn H a) (z : H a = none) : False := by
  obtain ⟨u, e, _⟩ := h
  rw [z] at e
  cases e
variable [TabL]
/-- all is kept but the tables, which stay tables -/
structure Same (H H' : Hp) : Prop where
  k : ∀ a u, H a = some u → NT u → H' a = some u
  free : ∀ {a}, H' a = none → H a = none
  tab : LamX.Tabs TabL.T H → LamX.Tabs TabL.T H'
  t : ∀ a ps, H a = some (.tbl ps) → ∃ qs, H' a = some (.tbl qs)
theorem Same.app {H H' : Hp} (s : Same H H') (a : Addr) (u : HO) (h : H a = some u) (n : NT u := by first | assumption | exact fun _ z => nomatch z) : H' a = some u := s.k a u h n
instance {H H' : Hp} : CoeFun (Same H H') fun _ => ∀ a u, H a = some u → (n : NT u := by first | assumption | exact fun _ z => nomatch z) → H' a = some u := ⟨fun s => @Same.app _ _ _ s⟩
theorem Same.of {H H' : Hp} (h : L2.Same H H') : Same H H' := ⟨fun a u e _ => h a u e, fun e => h.free e, fun t => t.ext h, fun a ps e => ⟨ps, h a _ e⟩⟩
theorem Same.refl (H : Hp) : Same H H := .of (L2.Same.refl H)
theorem Same.trans {H H1 H2 : Hp} (a : Same H H1) (b : Same H1 H2) : Same H H2 := ⟨fun c o h n => b c o (a c o h n) n, fun e => a.free (b.free e), fun t => b.tab (a.tab t), fun c ps e => by
  obtain ⟨qs, e2⟩ := a.t c ps e
  exact b.t c qs e2⟩
theorem Same.nil {H : Hp} (h : LamX.Tabs TabL.T H) : Same (fun _ => Option.none) H := ⟨fun a u q => (nomatch q), fun _ => rfl, fun _ => h, fun a ps q => (nomatch q)⟩
/-- neither a table nor a thing told of the heap -/
def Plain (u : HO) : Prop := (∀ ps, u ≠ .tbl ps) ∧ ∀ f, u ≠ .ext f
theorem plain_lst {xs : List V} : Plain (.lst xs) := ⟨fun _ z => (nomatch z), fun _ z => nomatch z⟩
theorem plain_frz {o : Obj} {u : HO} : Plain (.frz o u) := ⟨fun _ z => (nomatch z), fun _ z => nomatch z⟩
theorem plain_dK {kvs : List (Key × V)} : Plain (.dK kvs) := ⟨fun _ z => (nomatch z), fun _ z => nomatch z⟩
theorem plain_ins {C dx : Addr} {fs : List (Str × V)} : Plain (.ins C dx fs) := ⟨fun _ z => (nomatch z), fun _ z => nomatch z⟩
theorem tab_upd {H : Hp} {pp : Addr} {u o : HO} (t : LamX.Tabs TabL.T H) (h : H pp = some u) (hu : Plain u) : LamX.Tabs TabL.T (upd H pp o) := fun p hp => by
  obtain ⟨ps, h1, h2, h3⟩ := t p hp
  refine ⟨ps, ?_, h2, fun pos cv e => ?_⟩
  · rw [upd_ne]
    · exact h1
    · intro z
      rw [z, h] at h1
      exact hu.1 ps (Option.some.inj h1)
  · obtain ⟨c, e1, e2⟩ := h3 pos cv e
    refine ⟨c, e1, ?_⟩
    rw [upd_ne]
    · exact e2
    · intro z
      rw [z, h] at e2
      exact hu.2 _ (Option.some.inj e2)
theorem Same.put {H0 H : Hp} {pp : Addr} {u o : HO} (s : Same H0 H) (h0 : H0 pp = none) (h : H pp = some u) (hu : Plain u) : Same H0 (upd H pp o) := ⟨fun a v q n => by
    rw [upd_ne]
    · exact s a v q n
    · intro z
      exact absurd q (by rw [z, h0]; simp), fun {a} q => by
    by_cases z : a = pp
    · rw [z, upd_same] at q
      cases q
    · rw [upd_ne z] at q
      exact s.free q, fun t => tab_upd (s.tab t) h hu, fun a ps q => by
    rw [upd_ne]
    · exact s.t a ps q
    · intro z
      rw [z, h0] at q
      cases q⟩
/-- all is kept but what stands at Dd (and the tables) -/
structure SameX (Dd : Addr) (H H' : Hp) : Prop where
  k : ∀ a u, a ≠ Dd → H a = some u → NT u → H' a = some u
  free : ∀ {a}, a ≠ Dd → H' a = none → H a = none
  tab : LamX.Tabs TabL.T H → LamX.Tabs TabL.T H'
  t : ∀ a ps, a ≠ Dd → H a = some (.tbl ps) → ∃ qs, H' a = some (.tbl qs)
theorem SameX.refl {Dd : Addr} {H : Hp} : SameX Dd H H := ⟨fun _ _ _ h _ => h, fun _ h => h, fun t => t, fun _ ps _ h => ⟨ps, h⟩⟩
theorem SameX.trans {Dd : Addr} {H H1 H2 : Hp} (a : SameX Dd H H1) (b : SameX Dd H1 H2) : SameX Dd H H2 := ⟨fun x u n h w => b.k x u n (a.k x u n h w) w, fun n h => a.free n (b.free n h), fun t => b.tab (a.tab t), fun c ps n h => by
  obtain ⟨qs, e⟩ := a.t c ps n h
  exact b.t c qs n e⟩
theorem SameX.of {Dd : Addr} {H H' : Hp} (s : Same H H') : SameX Dd H H' := ⟨fun a u _ h w => s.k a u h w, fun _ h => s.free h, s.tab, fun a ps _ h => s.t a ps h⟩
theorem SameX.put {Dd : Addr} {H H' : Hp} {u o : HO} (s : SameX Dd H H') (h : H' Dd = some u) (hu : Plain u) : SameX Dd H (upd H' Dd o) := ⟨fun a v n q w => by
    rw [upd_ne n]
    exact s.k a v n q w, fun n q => by
    rw [upd_ne n] at q
    exact s.free n q, fun t => tab_upd (s.tab t) h hu, fun a ps n q => by
    rw [upd_ne n]
    exact s.t a ps n q⟩
theorem SameX.back {Dd : Addr} {H1 H2 : Hp} {o : HO} (hD : H1 Dd = none) (b : SameX Dd (upd H1 Dd o) H2) : Same H1 H2 := by
  have up : ∀ a, a ≠ Dd → upd H1 Dd o a = H1 a := fun a n => upd_ne n
  refine ⟨fun a u h n => ?_, fun {a} h => ?_, fun t => b.tab (t.ext fun a u h => ?_), fun a ps h => ?_⟩
  · have ne : a ≠ Dd := fun z => by
      rw [z, hD] at h
      cases h
    exact b.k a u ne ((up a ne).trans h) n
  · by_cases z : a = Dd
    · rw [z]
      exact hD
    · exact (up a z).symm.trans (b.free z h)
  · have ne : a ≠ Dd := fun z => by
      rw [z, hD] at h
      cases h
    exact (up a ne).trans h
  · have ne : a ≠ Dd := fun z => by
      rw [z, hD] at h
      cases h
    exact b.t a ps ne ((up a ne).trans h)
theorem NT.mut {u : HO} (h : Mut (some u)) : NT u := fun ps e => by
  subst e
  exact h
abbrev Rho := List (Option PyData)
/-- an outcome: a value, an own error of that name, or nothing that is promised -/
inductive Re (α : Type) where
  | ok (a : α)
  | ex (c : Str)
  | bad
def Re.andThen {α β : Type} : Re α → (α → Re β) → Re β
  | .ok a, f => f a
  | .ex c, _ => .ex c
  | .bad, _ => .bad
/-! data that holds no list and no dict -/
mutual
def imm : PyData → Bool
  | .list _ => false
  | .dict _ => false
  | .tuple xs => immAll xs
  | _ => true
def immAll : List PyData → Bool
  | [] => true
  | x :: xs => imm x && immAll xs
end
/-- a key as data -/
def kD : Key → PyData
  | .inl i => .int i
  | .inr s => .str s
/-- a key that is a tuple -/
def ktD (k : List Key) : PyData := .tuple (k.map kD)
/-- a list that is only read -/
def FzL (K : PySem.W.Frag) (H : Hp) (S : Addr → Prop) (a : Addr) (xs : List V) : Prop := (H a = some (.lst xs) ∧ S a) ∨ (∃ o, H a = some (.frz o (.lst xs))) ∨ ∀ H' : Hp, SqL K H' a xs
/-! the value v is the data d; the lists and dicts in it stand at addresses of S -/
mutual
inductive Rp (K : PySem.W.Frag) (H : Hp) (S : Addr → Prop) : V → PyData → Prop
  | non : Rp K H S .non .none
  | bl (b : Bool) : Rp K H S (.bl b) (.bool b)
  | int (i : Int) : Rp K H S (.int i) (.int i)
  | str (x : Str) : Rp K H S (.str x) (.str x)
  | tup {a : Addr} {xs : List V} {ds : List PyData} : TupD K H a xs → RpA K H S xs ds → Rp K H S (.ref a) (.tuple ds)
  | lst {a : Addr} {xs : List V} {ds : List PyData} : H a = some (.lst xs) → S a → RpA K H S xs ds → Rp K H S (.ref a) (.list ds)
  | scr {a : Addr} {xs : List V} {ds : List PyData} : FzL K H S a xs → RpA K H S xs ds → Rp K H S (.ref a) (.dict [(.none, .list ds)])
  | dic {a : Addr} {ks : List Key} {xs : List V} {ds : List PyData} : H a = some (.dK (ks.zip xs)) → S a → ks.length = xs.length → RpA K H S xs ds → Rp K H S (.ref a) (.dict ((.bool true, .none) :: (ks.map kD).zip ds))
  | dit {a dx : Addr} {c : Str} {tag : PyData} {ks : List Str} {xs : List V} {ds : List PyData} : H a = some (.ins (He.ga K c) dx (ks.zip xs)) → S a → ks.length = xs.length → RpA K H S xs ds → Rp K H S (.ref a) (.dict ((.bool false, .tuple [.str c, tag]) :: (ks.map PyData.str).zip ds))
  | rng {a : Addr} {i j : Int} : H a = some (.rng i j) → Rp K H S (.ref a) (.dict [(.int i, .int j)])
  | dct {a : Addr} {ks : List (List Key)} {xs : List V} {ds : List PyData} : H a = some (.dT (ks.zip xs)) → S a → ks.length = xs.length → RpA K H S xs ds → Rp K H S (.ref a) (.dict ((.bool true, .bool true) :: (ks.map ktD).zip ds))
  | dif {a : Addr} {o : Obj} {ks : List Key} {xs : List V} {ds : List PyData} : H a = some (.frz o (.dK (ks.zip xs))) → ks.length = xs.length → RpA K H S xs ds → Rp K H S (.ref a) (.dict ((.bool true, .none) :: (ks.map kD).zip ds))
inductive RpA (K : PySem.W.Frag) (H : Hp) (S : Addr → Prop) : List V → List PyData → Prop
  | nil : RpA K H S [] []
  | cons {v : V} {vs : List V} {d : PyData} {ds : List PyData} : Rp K H S v d → RpA K H S vs ds → RpA K H S (v :: vs) (d :: ds)
end

section
variable {K : PySem.W.Frag} {H H' H1 H2 : Hp} {S S' : Addr → Prop} {a : Addr}
theorem tupD_keep {xs : List V} (h : TupD K H a xs) (k : ∀ u, H a = some u → ¬ Mut (some u) → NT u → H' a = some u) : TupD K H' a xs := by
  rcases h with ⟨o, h, hd⟩ | h
  · exact .inl ⟨o, k _ h (fun z => z) (by first | assumption | exact fun _ z => nomatch z), hd⟩
  · exact .inr h
theorem FzL.sq {xs : List V} (h : FzL K H S a xs) : SqL K H a xs := by
  rcases h with ⟨h, _⟩ | ⟨o, h⟩ | h
  · exact .inl (.inl h)
  · exact .inl (.inr ⟨o, h⟩)
  · exact h H
theorem fzL_keep {xs : List V} (h : FzL K H S a xs) (k : ∀ u, H a = some u → (S a ∨ ¬ Mut (some u)) → NT u → H' a = some u) (hs : ∀ u, S a → H a = some u → NT u → S' a) : FzL K H' S' a xs := by
  rcases h with ⟨h, z⟩ | ⟨o, h⟩ | h
  · exact .inl ⟨k _ h (.inl z) (by first | assumption | exact fun _ z => nomatch z), hs _ z h (by first | assumption | exact fun _ z => nomatch z)⟩
  · exact .inr (.inl ⟨o, k _ h (.inr fun z => z) (by first | assumption | exact fun _ z => nomatch z)⟩)
  · exact .inr (.inr h)
/-- what keeps the data: the addresses of S and all that can't be written -/
structure Kp (S : Addr → Prop) (H H' : Hp) : Prop where
  k : ∀ a u, H a = some u → (S a ∨ ¬ Mut (some u)) → NT u → H' a = some u
omit [TabL] in
theorem Kp.app {S : Addr → Prop} {H H' : Hp} (s : Kp S H H') (a : Addr) (u : HO) (h : H a = some u) (c : S a ∨ ¬ Mut (some u)) (n : NT u := by first | assumption | exact fun _ z => nomatch z) : H' a = some u := s.k a u h c n
instance {S : Addr → Prop} {H H' : Hp} : CoeFun (Kp S H H') fun _ => ∀ a u, H a = some u → (S a ∨ ¬ Mut (some u)) → (n : NT u := by first | assumption | exact fun _ z => nomatch z) → H' a = some u := ⟨fun s => @Kp.app _ _ _ s⟩
theorem kp_same (e : Same H H') : Kp S H H' := ⟨fun a u h _ n => e a u h n⟩
mutual
theorem Rp.keep (k : Kp S H H') (hs : ∀ a u, S a → H a = some u → NT u → S' a) : ∀ {d : PyData} {v : V}, Rp K H S v d → Rp K H' S' v d
  | _, _, .non => .non
  | _, _, .bl b => .bl b
  | _, _, .int i => .int i
  | _, _, .str x => .str x
  | _, _, .tup h1 h2 => .tup (tupD_keep h1 fun u e nm n => k _ u e (.inr nm) n) (RpA.keep k hs h2)
  | _, _, .lst h1 h2 h3 => .lst (k _ _ h1 (.inl h2)) (hs _ _ h2 h1 (by first | assumption | exact fun _ z => nomatch z)) (RpA.keep k hs h3)
  | _, _, .scr h1 h3 => .scr (fzL_keep h1 (fun u e c n => k _ u e c n) fun u z e n => hs _ u z e n) (RpA.keep k hs h3)
  | _, _, .dic h1 h2 h3 h4 => .dic (k _ _ h1 (.inl h2)) (hs _ _ h2 h1 (by first | assumption | exact fun _ z => nomatch z)) h3 (RpA.keep k hs h4)
  | _, _, .dct h1 h2 h3 h4 => .dct (k _ _ h1 (.inl h2)) (hs _ _ h2 h1 (by first | assumption | exact fun _ z => nomatch z)) h3 (RpA.keep k hs h4)
  | _, _, .dit h1 h2 h3 h4 => .dit (k _ _ h1 (.inl h2)) (hs _ _ h2 h1 (by first | assumption | exact fun _ z => nomatch z)) h3 (RpA.keep k hs h4)
  | _, _, .dif h1 h3 h4 => .dif (k _ _ h1 (.inr fun z => z)) h3 (RpA.keep k hs h4)
  | _, _, .rng h1 => .rng (k _ _ h1 (.inr fun z => z))
theorem RpA.keep (k : Kp S H H') (hs : ∀ a u, S a → H a = some u → NT u → S' a) : ∀ {ds : List PyData} {vs : List V}, RpA K H S vs ds → RpA K H' S' vs ds
  | _, _, .nil => .nil
  | _, _, .cons h1 h2 => .cons (Rp.keep k hs h1) (RpA.keep k hs h2)
end
theorem Rp.same {d : PyData} {v : V} (r : Rp K H S v d) (e : Same H H') : Rp K H' S v d := r.keep (kp_same e) fun _ _ h _ _ => h
theorem RpA.same {d : List PyData} {v : List V} (r : RpA K H S v d) (e : Same H H') : RpA K H' S v d := r.keep (kp_same e) fun _ _ h _ _ => h
theorem Rp.wide {d : PyData} {v : V} (r : Rp K H S v d) (h : ∀ a, S a → S' a) : Rp K H S' v d := r.keep (kp_same (Same.refl H)) fun a _ x _ _ => h a x
theorem RpA.wide {d : List PyData} {v : List V} (r : RpA K H S v d) (h : ∀ a, S a → S' a) : RpA K H S' v d := r.keep (kp_same (Same.refl H)) fun a _ x _ _ => h a x
theorem imm_tup {xs : List PyData} : imm (.tuple xs) = immAll xs := by rw [imm]
theorem imm_lst {xs : List PyData} : imm (.list xs) = false := by rw [imm]
theorem imm_dic {xs : List (PyData × PyData)} : imm (.dict xs) = false := by rw [imm]
theorem immAll_cons {x : PyData} {xs : List PyData} : immAll (x :: xs) = (imm x && immAll xs) := by rw [immAll]
theorem imm_no {A : Prop} {b : Bool} (e : b = false) (h : b = true) : A := by
  rw [e] at h
  cases h
/-! plain data wants no address -/
mutual
theorem Rp.noAddr : ∀ {d : PyData} {v : V}, Rp K H S v d → imm d = true → Rp K H S' v d
  | _, _, .non, _ => .non
  | _, _, .bl b, _ => .bl b
  | _, _, .int i, _ => .int i
  | _, _, .str x, _ => .str x
  | _, _, .tup h1 h2, h => .tup h1 (RpA.noAddr h2 (imm_tup.symm.trans h))
  | _, _, .lst h1 h2 h3, h => imm_no imm_lst h
  | _, _, .scr h1 h3, h => imm_no imm_dic h
  | _, _, .dic h1 h2 h3 h4, h => imm_no imm_dic h
  | _, _, .dct h1 h2 h3 h4, h => imm_no imm_dic h
  | _, _, .dit h1 h2 h3 h4, h => imm_no imm_dic h
  | _, _, .dif h1 h3 h4, h => imm_no imm_dic h
  | _, _, .rng h1, h => imm_no imm_dic h
theorem RpA.noAddr : ∀ {ds : List PyData} {vs : List V}, RpA K H S vs ds → immAll ds = true → RpA K H S' vs ds
  | _, _, .nil, _ => .nil
  | _, _, .cons h1 h2, h => .cons (Rp.noAddr h1 (Bool.and_eq_true_iff.mp (immAll_cons.symm.trans h)).1) (RpA.noAddr h2 (Bool.and_eq_true_iff.mp (immAll_cons.symm.trans h)).2)
end
theorem RpA.length : ∀ {ds : List PyData} {vs : List V}, RpA K H S vs ds → vs.length = ds.length
  | _, _, .nil => rfl
  | _, _, .cons _ h2 => by rw [List.length_cons, List.length_cons, RpA.length h2]
theorem RpA.get : ∀ {ds : List PyData} {vs : List V} {i : Nat} {v : V}, RpA K H S vs ds → vs[i]? = some v → ∃ d, ds[i]? = some d ∧ Rp K H S v d
  | _, _, _, _, .nil, e => by simp at e
  | _, _, 0, _, .cons h1 _, e => by
    simp at e
    subst e
    exact ⟨_, rfl, h1⟩
  | _, _, i + 1, v, .cons _ h2, e => by
    obtain ⟨d, h3, h4⟩ := RpA.get (i := i) (v := v) h2 (by simpa using e)
    exact ⟨d, by simpa using h3, h4⟩
theorem RpA.get' : ∀ {ds : List PyData} {vs : List V} {i : Nat} {d : PyData}, RpA K H S vs ds → ds[i]? = some d → ∃ v, vs[i]? = some v ∧ Rp K H S v d
  | _, _, _, _, .nil, e => by simp at e
  | _, _, 0, _, .cons h1 _, e => by
    simp at e
    subst e
    exact ⟨_, rfl, h1⟩
  | _, _, i + 1, v, .cons _ h2, e => by
    obtain ⟨d, h3, h4⟩ := RpA.get' (i := i) (d := v) h2 (by simpa using e)
    exact ⟨d, by simpa using h3, h4⟩
theorem RpA.append : ∀ {ds es : List PyData} {vs us : List V}, RpA K H S vs ds → RpA K H S us es → RpA K H S (vs ++ us) (ds ++ es)
  | _, _, _, _, .nil, r => r
  | _, _, _, _, .cons h1 h2, r => .cons h1 (RpA.append h2 r)
theorem RpA.take : ∀ {ds : List PyData} {vs : List V} (n : Nat), RpA K H S vs ds → RpA K H S (vs.take n) (ds.take n)
  | _, _, 0, _ => .nil
  | _, _, _ + 1, .nil => .nil
  | _, _, n + 1, .cons h1 h2 => .cons h1 (RpA.take n h2)
theorem RpA.drop : ∀ {ds : List PyData} {vs : List V} (n : Nat), RpA K H S vs ds → RpA K H S (vs.drop n) (ds.drop n)
  | _, _, 0, r => r
  | _, _, _ + 1, .nil => .nil
  | _, _, n + 1, .cons _ h2 => RpA.drop n h2
theorem RpA.set {v : V} {d : PyData} (r : Rp K H S v d) : ∀ {ds : List PyData} {vs : List V} (i : Nat), RpA K H S vs ds → RpA K H S (vs.set i v) (ds.set i d)
  | _, _, _, .nil => .nil
  | _, _, 0, .cons _ h2 => .cons r h2
  | _, _, i + 1, .cons h1 h2 => .cons h1 (RpA.set r i h2)
theorem RpA.erase : ∀ {ds : List PyData} {vs : List V} (i : Nat), RpA K H S vs ds → RpA K H S (vs.eraseIdx i) (ds.eraseIdx i)
  | _, _, _, .nil => .nil
  | _, _, 0, .cons _ h2 => h2
  | _, _, i + 1, .cons h1 h2 => .cons h1 (RpA.erase i h2)
theorem RpA.rev : ∀ {ds : List PyData} {vs : List V}, RpA K H S vs ds → RpA K H S vs.reverse ds.reverse
  | _, _, .nil => .nil
  | _, _, .cons h1 h2 => by
    rw [List.reverse_cons, List.reverse_cons]
    exact (RpA.rev h2).append (.cons h1 .nil)
theorem RpA.ints : ∀ (ns : List Int), RpA K H S (ns.map V.int) (ns.map PyData.int)
  | [] => .nil
  | n :: ns => .cons (.int n) (RpA.ints ns)
theorem RpA.of_ints : ∀ {ns : List Int} {vs : List V}, RpA K H S vs (ns.map PyData.int) → vs = ns.map V.int
  | [], _, .nil => rfl
  | n :: ns, _, .cons h1 h2 => by
    cases h1
    rw [RpA.of_ints h2]
    rfl
/-- every address of the data is tracked -/
theorem Rp.thru {d : PyData} {v : V} (r : Rp K H S v d) : Rp K H (fun a => S a ∧ Nn H a) v d := r.keep (kp_same (Same.refl H)) fun a u h e n => ⟨h, _, e, n⟩
theorem RpA.thru {d : List PyData} {v : List V} (r : RpA K H S v d) : RpA K H (fun a => S a ∧ Nn H a) v d := r.keep (kp_same (Same.refl H)) fun a u h e n => ⟨h, _, e, n⟩
end

/-! ### a frame's slots as data -/
/-- H0: the heap at the entry; S0: where lists and dicts of others may stand; M: the slots that hold lists and dicts of the frame's own, which no other value reaches -/
structure Fx where
  H0 : Hp
  S0 : Addr → Prop
def OwnA (M : Nat → Bool) (σ : L2.St) (ρ : Rho) (a : Addr) : Prop := ∃ i d, M i = true ∧ ρ[i]? = some (some d) ∧ σ[i]? = some (some (.ref a))
/-- an own list or dict -/
inductive OwR (K : PySem.W.Frag) (H : Hp) (S : Addr → Prop) (p : Addr) : PyData → Prop
  | lst {xs : List V} {ds : List PyData} : H p = some (.lst xs) → RpA K H S xs ds → OwR K H S p (.list ds)
  | dic {ks : List Key} {xs : List V} {ds : List PyData} : H p = some (.dK (ks.zip xs)) → ks.length = xs.length → RpA K H S xs ds → OwR K H S p (.dict ((.bool true, .none) :: (ks.map kD).zip ds))
  | dct {ks : List (List Key)} {xs : List V} {ds : List PyData} : H p = some (.dT (ks.zip xs)) → ks.length = xs.length → RpA K H S xs ds → OwR K H S p (.dict ((.bool true, .bool true) :: (ks.map ktD).zip ds))
  | dit {dx : Addr} {c : Str} {ks : List Str} {xs : List V} {ds : List PyData} : (H p = some (.ins (He.ga K c) dx (ks.zip xs)) ∧ H dx = some (.own p)) → ks.length = xs.length → RpA K H S xs ds → OwR K H S p (.dict ((.bool false, .tuple [.str c, .int (dx : Nat)]) :: (ks.map PyData.str).zip ds))
/-- where a value's lists may stand: lk tells whether it may reach an own list -/
def RS (M : Nat → Bool) (F : Fx) (σ : L2.St) (ρ : Rho) (lk : Bool) : Addr → Prop := fun a => F.S0 a ∧ (lk = false → ¬ OwnA M σ ρ a)
structure ER (K : PySem.W.Frag) (M : Nat → Bool) (F : Fx) (σ : L2.St) (H : Hp) (ρ : Rho) : Prop where
  len : ρ.length = σ.length
  old : Same F.H0 H
  new : ∀ a, H a = none → F.S0 a
  tab : LamX.Tabs TabL.T H
  im : ∀ i d, ρ[i]? = some (some d) → M i = false → ∃ v, σ[i]? = some (some v) ∧ Rp K H (RS M F σ ρ false) v d
  ow : ∀ i d, ρ[i]? = some (some d) → M i = true → ∃ p, σ[i]? = some (some (.ref p)) ∧ (F.H0 p = none ∧ F.S0 p) ∧ OwR K H (RS M F σ ρ false) p d
  ap : ∀ i j d e p, M i = true → M j = true → ρ[i]? = some (some d) → ρ[j]? = some (some e) → σ[i]? = some (some (.ref p)) → σ[j]? = some (some (.ref p)) → i = j

section
variable {K : PySem.W.Frag} {M : Nat → Bool} {F : Fx} {σ σ' : L2.St} {H H' : Hp} {ρ ρ' : Rho} {S S' : Addr → Prop} {p : Addr} {d : PyData}
theorem OwR.there (h : OwR K H S p d) : ∃ u, H p = some u ∧ Mut (some u) := by
  cases h with
  | lst h _ => exact ⟨_, h, trivial⟩
  | dic h _ _ => exact ⟨_, h, trivial⟩
  | dct h _ _ => exact ⟨_, h, trivial⟩
  | dit h _ _ => exact ⟨_, h.1, trivial⟩
theorem OwR.plain (h : OwR K H S p d) : ∃ u, H p = some u ∧ Plain u := by
  cases h with
  | lst h _ => exact ⟨_, h, fun _ z => (nomatch z), fun _ z => nomatch z⟩
  | dic h _ _ => exact ⟨_, h, fun _ z => (nomatch z), fun _ z => nomatch z⟩
  | dct h _ _ => exact ⟨_, h, fun _ z => (nomatch z), fun _ z => nomatch z⟩
  | dit h _ _ => exact ⟨_, h.1, fun _ z => (nomatch z), fun _ z => nomatch z⟩
theorem OwR.keep (h : OwR K H S p d) (k : Kp S H H') (hs : ∀ a u, S a → H a = some u → NT u → S' a) (hp : ∀ u, H p = some u → NT u → H' p = some u) : OwR K H' S' p d := by
  cases h with
  | lst h r => exact .lst (hp _ h (by first | assumption | exact fun _ z => nomatch z)) (r.keep k hs)
  | dic h l r => exact .dic (hp _ h (by first | assumption | exact fun _ z => nomatch z)) l (r.keep k hs)
  | dct h l r => exact .dct (hp _ h (by first | assumption | exact fun _ z => nomatch z)) l (r.keep k hs)
  | dit h l r => exact .dit ⟨hp _ h.1 (by first | assumption | exact fun _ z => nomatch z), k _ _ h.2 (.inr fun z => z)⟩ l (r.keep k hs)
theorem OwR.rp (h : OwR K H S p d) (hp : S p) : Rp K H S (.ref p) d := by
  cases h with
  | lst h r => exact .lst h hp r
  | dic h l r => exact .dic h hp l r
  | dct h l r => exact .dct h hp l r
  | dit h l r => exact .dit h.1 hp l r
theorem ER.own (e : ER K M F σ H ρ) {a : Addr} (o : OwnA M σ ρ a) : F.H0 a = none ∧ F.S0 a ∧ ∃ u, H a = some u := by
  obtain ⟨i, d, m, r, s⟩ := o
  obtain ⟨p, s', z, w⟩ := e.ow i d r m
  rw [s] at s'
  cases s'
  obtain ⟨u, hu, _⟩ := w.there
  exact ⟨z.1, z.2, u, hu⟩
theorem ER.fresh (e : ER K M F σ H ρ) {a : Addr} (h : H a = none) : F.H0 a = none ∧ ¬ OwnA M σ ρ a := by
  refine ⟨e.old.free h, fun o => ?_⟩
  obtain ⟨_, _, u, hu⟩ := e.own o
  rw [h] at hu
  cases hu
theorem ER.freshS (e : ER K M F σ H ρ) {lk : Bool} : ∀ a, H a = none → RS M F σ ρ lk a := fun a h => ⟨e.new a h, fun _ => (e.fresh h).2⟩
/-- new objects alone -/
theorem ER.same (e : ER K M F σ H ρ) (h : Same H H') : ER K M F σ H' ρ where
  len := e.len
  old := e.old.trans h
  new := fun a q => e.new a (h.free q)
  tab := h.tab e.tab
  im := fun i d r m => by
    obtain ⟨v, s, r⟩ := e.im i d r m
    exact ⟨v, s, r.same h⟩
  ow := fun i d r m => by
    obtain ⟨p, s, z, w⟩ := e.ow i d r m
    exact ⟨p, s, z, w.keep (kp_same h) (fun _ _ x _ _ => x) fun u q n => h _ _ q n⟩
  ap := e.ap
/-- a slot's value -/
theorem ER.get (e : ER K M F σ H ρ) {i : Nat} (r : ρ[i]? = some (some d)) : ∃ v, σ[i]? = some (some v) ∧ Rp K H (RS M F σ ρ (M i)) v d := by
  cases m : M i with
  | false => exact e.im i d r m
  | true =>
    obtain ⟨p, s, z, w⟩ := e.ow i d r m
    exact ⟨_, s, (w.keep (S' := RS M F σ ρ true) (kp_same (Same.refl H)) (fun a _ x _ _ => ⟨x.1, fun q => nomatch q⟩) fun _ q _ => q).rp ⟨z.2, fun q => nomatch q⟩⟩
theorem getSome {α : Type} {l : List α} {i : Nat} {x : α} (h : l[i]? = some x) : i < l.length := (List.getElem?_eq_some_iff.mp h).1
/-- own addresses behind a store into a slot that is not own -/
theorem own_set {i : Nat} {v : V} {d' : Option PyData} (m : M i = false) {a : Addr} : OwnA M (σ.set i (some v)) (ρ.set i d') a ↔ OwnA M σ ρ a := by
  constructor
  · rintro ⟨j, e, mj, r, s⟩
    have hj : i ≠ j := fun z => by
      subst z
      rw [m] at mj
      cases mj
    rw [List.getElem?_set_ne hj] at r s
    exact ⟨j, e, mj, r, s⟩
  · rintro ⟨j, e, mj, r, s⟩
    have hj : i ≠ j := fun z => by
      subst z
      rw [m] at mj
      cases mj
    exact ⟨j, e, mj, by rw [List.getElem?_set_ne hj]; exact r, by rw [List.getElem?_set_ne hj]; exact s⟩
theorem rs_set {i : Nat} {v : V} {d' : Option PyData} (m : M i = false) {lk : Bool} : RS M F (σ.set i (some v)) (ρ.set i d') lk = RS M F σ ρ lk := by
  funext a
  unfold RS
  rw [propext (own_set (v := v) (d' := d') (σ := σ) (ρ := ρ) (a := a) m)]
theorem ER.set (e : ER K M F σ H ρ) {i : Nat} {v : V} (m : M i = false) (r : Rp K H (RS M F σ ρ false) v d) : ER K M F (σ.set i (some v)) H (ρ.set i (some d)) where
  len := by rw [List.length_set, List.length_set]; exact e.len
  old := e.old
  new := e.new
  tab := e.tab
  im := fun j d' q mj => by
    rw [rs_set m]
    by_cases hj : i = j
    · subst hj
      have hi : i < ρ.length := by
        have := getSome q
        rwa [List.length_set] at this
      rw [List.getElem?_set_self hi] at q
      cases q
      exact ⟨v, List.getElem?_set_self (by rw [← e.len]; exact hi), r⟩
    · rw [List.getElem?_set_ne hj] at q
      obtain ⟨v', s, r'⟩ := e.im j d' q mj
      exact ⟨v', by rw [List.getElem?_set_ne hj]; exact s, r'⟩
  ow := fun j d' q mj => by
    rw [rs_set m]
    have hj : i ≠ j := fun z => by
      subst z
      rw [m] at mj
      cases mj
    rw [List.getElem?_set_ne hj] at q
    obtain ⟨p, s, z, w⟩ := e.ow j d' q mj
    exact ⟨p, by rw [List.getElem?_set_ne hj]; exact s, z, w⟩
  ap := fun j k d' e' p mj mk q1 q2 s1 s2 => by
    have hj : i ≠ j := fun z => by
      subst z
      rw [m] at mj
      cases mj
    have hk : i ≠ k := fun z => by
      subst z
      rw [m] at mk
      cases mk
    rw [List.getElem?_set_ne hj] at q1 s1
    rw [List.getElem?_set_ne hk] at q2 s2
    exact e.ap j k d' e' p mj mk q1 q2 s1 s2
/-- what is not own stays as it is and does not become own -/
def Evo (M : Nat → Bool) (σ : L2.St) (H : Hp) (ρ : Rho) (σ' : L2.St) (H' : Hp) (ρ' : Rho) : Prop := ∀ a u, H a = some u → ¬ OwnA M σ ρ a → NT u → H' a = some u ∧ ¬ OwnA M σ' ρ' a
theorem Evo.refl : Evo M σ H ρ σ H ρ := fun _ _ h n _ => ⟨h, n⟩
theorem Evo.trans {σ1 : L2.St} {H1 : Hp} {ρ1 : Rho} (a : Evo M σ H ρ σ1 H1 ρ1) (b : Evo M σ1 H1 ρ1 σ' H' ρ') : Evo M σ H ρ σ' H' ρ' := fun x u h n w => by
  obtain ⟨h1, n1⟩ := a x u h n w
  exact b x u h1 n1 w
theorem Evo.same (h : Same H H') : Evo M σ H ρ σ H' ρ := fun a u q n w => ⟨h a u q w, n⟩
theorem Evo.kp (e : ER K M F σ H ρ) (v : Evo M σ H ρ σ' H' ρ') : Kp (RS M F σ ρ false) H H' := by
  refine ⟨fun a u h x w => ?_⟩
  rcases x with x | x
  · exact (v a u h (x.2 rfl) w).1
  · refine (v a u h (fun o => ?_) w).1
    obtain ⟨i, d, m, r, s⟩ := o
    obtain ⟨p, s', z, w⟩ := e.ow i d r m
    rw [s] at s'
    cases s'
    obtain ⟨u', hu, mu⟩ := w.there
    rw [h] at hu
    cases hu
    exact x mu
theorem Evo.rs (v : Evo M σ H ρ σ' H' ρ') : ∀ a u, RS M F σ ρ false a → H a = some u → NT u → RS M F σ' ρ' false a := fun a u x h w => ⟨x.1, fun _ => (v a u h (x.2 rfl) w).2⟩
end
end Pu

set_option Elab.async false
set_option linter.all false
set_option maxRecDepth 100000
set_option maxHeartbeats 2000000
namespace Pu
open PySem PySem.Spec PyProof.Rows L2
variable [TabL]

/-! ### expressions -/
def Frs (K : PySem.W.Frag) (S : Addr → Prop) (H H' : Hp) (v : V) (d : PyData) : Prop := ∃ p, v = .ref p ∧ H p = none ∧ OwR K H' (fun a => S a ∧ a ≠ p) p d
def WE (X : Cx) (M : Nat → Bool) (F : Fx) (E : L2.St → XK) (lk fr : Bool) (σ : L2.St) (ρ : Rho) (H : Hp) (r : Re PyData) (Q : VK) : Prop :=
  match r with
  | .ok d => ∀ v H', Same H H' → Rp X.K H' (RS M F σ ρ lk) v d → (fr = true → Frs X.K (RS M F σ ρ lk) H H' v d) → Q v H'
  | .ex c => ∀ C H', X.mg c = some (.ref C) → Same H H' → E σ (.ref C) none H'
  | .bad => False
def DE (X : Cx) (M : Nat → Bool) (F : Fx) (E : L2.St → XK) (lk fr : Bool) (e : Expr) (f : Rho → Re PyData) : Prop :=
  ∃ t : TE, PE X e t ∧ ∀ σ H ρ, ER X.K M F σ H ρ → ∀ Q, WE X M F E lk fr σ ρ H (f ρ) Q → t σ H Q
def WT (X : Cx) (E : L2.St → XK) (σ : L2.St) (H : Hp) (r : Re Bool) (Q : Bool → Hp → Prop) : Prop :=
  match r with
  | .ok b => ∀ H', Same H H' → Q b H'
  | .ex c => ∀ C H', X.mg c = some (.ref C) → Same H H' → E σ (.ref C) none H'
  | .bad => False
def DT (X : Cx) (M : Nat → Bool) (F : Fx) (E : L2.St → XK) (e : Expr) (f : Rho → Re Bool) : Prop :=
  ∃ t : TT, PT X e t ∧ ∀ σ H ρ, ER X.K M F σ H ρ → ∀ Q, WT X E σ H (f ρ) Q → t σ H Q
def DW (X : Cx) (M : Nat → Bool) (F : Fx) (E : L2.St → XK) (e : Expr) (f : Rho → Re Bool) : Prop :=
  ∃ t : TT, PW X e t ∧ ∀ σ H ρ, ER X.K M F σ H ρ → ∀ Q, WT X E σ H (f ρ) Q → t σ H Q
def WA (X : Cx) (M : Nat → Bool) (F : Fx) (E : L2.St → XK) (lk : Bool) (σ : L2.St) (ρ : Rho) (H : Hp) (r : Re (List PyData)) (Q : List V → Hp → Prop) : Prop :=
  match r with
  | .ok ds => ∀ vs H', Same H H' → RpA X.K H' (RS M F σ ρ lk) vs ds → Q vs H'
  | .ex c => ∀ C H', X.mg c = some (.ref C) → Same H H' → E σ (.ref C) none H'
  | .bad => False
def DA (X : Cx) (M : Nat → Bool) (F : Fx) (E : L2.St → XK) (lk : Bool) (es : List Expr) (f : Rho → Re (List PyData)) : Prop :=
  ∃ t : TA, PA X es t ∧ ∀ σ H ρ, ER X.K M F σ H ρ → ∀ Q, WA X M F E lk σ ρ H (f ρ) Q → t σ H Q

section
variable {X : Cx} {M : Nat → Bool} {F : Fx} {E : L2.St → XK} {σ : L2.St} {ρ : Rho} {H H' H1 : Hp}
theorem rs_or1 {a b : Bool} : ∀ x, RS M F σ ρ a x → RS M F σ ρ (a || b) x := fun x h => ⟨h.1, fun q => h.2 (by cases a <;> simp_all)⟩
theorem rs_or2 {a b : Bool} : ∀ x, RS M F σ ρ b x → RS M F σ ρ (a || b) x := fun x h => ⟨h.1, fun q => h.2 (by cases a <;> simp_all)⟩
theorem rs_t {a : Bool} : ∀ x, RS M F σ ρ a x → RS M F σ ρ true x := fun x h => ⟨h.1, fun q => nomatch q⟩
theorem Frs.of (h : Frs X.K (RS M F σ ρ true) H H1 v d) (s : Same H' H) {v : V} {d : PyData} : True := trivial
/-- weaken -/
theorem DE.lk {lk fr : Bool} {e : Expr} {f : Rho → Re PyData} (h : DE X M F E lk fr e f) : DE X M F E true false e f := by
  obtain ⟨t, p, h⟩ := h
  refine ⟨t, p, fun σ H ρ er Q w => h σ H ρ er Q ?_⟩
  cases q : f ρ with
  | ok d =>
    rw [q] at w
    exact fun v H' s r _ => w v H' s (r.wide rs_t) fun z => nomatch z
  | ex c =>
    rw [q] at w
    exact w
  | bad =>
    rw [q] at w
    exact w
/-- the continuation of a part -/
theorem we_step {lk fr lk' fr' : Bool} {r : Re PyData} {Q : VK} {g : PyData → Re PyData} {K : VK} (w : WE X M F E lk fr σ ρ H (r.andThen g) Q)
    (h : ∀ d v H', r = .ok d → Same H H' → Rp X.K H' (RS M F σ ρ lk') v d → (fr' = true → Frs X.K (RS M F σ ρ lk') H H' v d) → WE X M F E lk fr σ ρ H' (g d) Q → K v H') : WE X M F E lk' fr' σ ρ H r K := by
  cases r with
  | ok d =>
    refine fun v H' s rr ff => h d v H' rfl s rr ff ?_
    show WE X M F E lk fr σ ρ H' (g d) Q
    have w : WE X M F E lk fr σ ρ H (g d) Q := w
    cases q : g d with
    | ok z =>
      rw [q] at w
      refine fun v2 H2 s2 r2 f2 => w v2 H2 (s.trans s2) r2 fun z2 => ?_
      obtain ⟨p, e1, e2, e3⟩ := f2 z2
      exact ⟨p, e1, s.free e2, e3⟩
    | ex c =>
      rw [q] at w
      exact fun C H2 m s2 => w C H2 m (s.trans s2)
    | bad =>
      rw [q] at w
      exact w
  | ex c => exact w
  | bad => exact w
theorem wt_step {r : Re PyData} {lk' fr' : Bool} {Q : Bool → Hp → Prop} {g : PyData → Re Bool} {K : VK} (w : WT X E σ H (r.andThen g) Q)
    (h : ∀ d v H', r = .ok d → Same H H' → Rp X.K H' (RS M F σ ρ lk') v d → (fr' = true → Frs X.K (RS M F σ ρ lk') H H' v d) → WT X E σ H' (g d) Q → K v H') : WE X M F E lk' fr' σ ρ H r K := by
  cases r with
  | ok d =>
    refine fun v H' s rr ff => h d v H' rfl s rr ff ?_
    have w : WT X E σ H (g d) Q := w
    cases q : g d with
    | ok z =>
      rw [q] at w
      exact fun H2 s2 => w H2 (s.trans s2)
    | ex c =>
      rw [q] at w
      exact fun C H2 m s2 => w C H2 m (s.trans s2)
    | bad =>
      rw [q] at w
      exact w
  | ex c => exact w
  | bad => exact w
theorem we_stepT {lk fr : Bool} {r : Re Bool} {Q : VK} {g : Bool → Re PyData} {K : Bool → Hp → Prop} (w : WE X M F E lk fr σ ρ H (r.andThen g) Q)
    (h : ∀ d H', r = .ok d → Same H H' → WE X M F E lk fr σ ρ H' (g d) Q → K d H') : WT X E σ H r K := by
  cases r with
  | ok d =>
    refine fun H' s => h d H' rfl s ?_
    have w : WE X M F E lk fr σ ρ H (g d) Q := w
    cases q : g d with
    | ok z =>
      rw [q] at w
      refine fun v2 H2 s2 r2 f2 => w v2 H2 (s.trans s2) r2 fun z2 => ?_
      obtain ⟨p, e1, e2, e3⟩ := f2 z2
      exact ⟨p, e1, s.free e2, e3⟩
    | ex c =>
      rw [q] at w
      exact fun C H2 m s2 => w C H2 m (s.trans s2)
    | bad =>
      rw [q] at w
      exact w
  | ex c => exact w
  | bad => exact w
theorem wt_stepT {r : Re Bool} {Q : Bool → Hp → Prop} {g : Bool → Re Bool} {K : Bool → Hp → Prop} (w : WT X E σ H (r.andThen g) Q)
    (h : ∀ d H', r = .ok d → Same H H' → WT X E σ H' (g d) Q → K d H') : WT X E σ H r K := by
  cases r with
  | ok d =>
    refine fun H' s => h d H' rfl s ?_
    have w : WT X E σ H (g d) Q := w
    cases q : g d with
    | ok z =>
      rw [q] at w
      exact fun H2 s2 => w H2 (s.trans s2)
    | ex c =>
      rw [q] at w
      exact fun C H2 m s2 => w C H2 m (s.trans s2)
    | bad =>
      rw [q] at w
      exact w
  | ex c => exact w
  | bad => exact w
theorem we_stepA {lk fr lk' : Bool} {r : Re (List PyData)} {Q : VK} {g : List PyData → Re PyData} {K : List V → Hp → Prop} (w : WE X M F E lk fr σ ρ H (r.andThen g) Q)
    (h : ∀ ds vs H', r = .ok ds → Same H H' → RpA X.K H' (RS M F σ ρ lk') vs ds → WE X M F E lk fr σ ρ H' (g ds) Q → K vs H') : WA X M F E lk' σ ρ H r K := by
  cases r with
  | ok d =>
    refine fun vs H' s rr => h d vs H' rfl s rr ?_
    have w : WE X M F E lk fr σ ρ H (g d) Q := w
    cases q : g d with
    | ok z =>
      rw [q] at w
      refine fun v2 H2 s2 r2 f2 => w v2 H2 (s.trans s2) r2 fun z2 => ?_
      obtain ⟨p, e1, e2, e3⟩ := f2 z2
      exact ⟨p, e1, s.free e2, e3⟩
    | ex c =>
      rw [q] at w
      exact fun C H2 m s2 => w C H2 m (s.trans s2)
    | bad =>
      rw [q] at w
      exact w
  | ex c => exact w
  | bad => exact w

/-! names, constants -/
def rVar (i : Nat) : Rho → Re PyData := fun ρ => match ρ[i]? with | some (some d) => .ok d | _ => .bad
theorem de_var (i : Nat) {x : Str} {pos : Pos} (hN : X.N[i]? = some x := by rfl) (hv : Vis X.env.scope x := by first | exact Or.inl rfl | exact Or.inr (Or.inl rfl) | exact Or.inr (Or.inr rfl)) (hd : (x == ("__debug__" : Str)) = false := by decide)
    (hcd : (x == ("__classdict__" : Str)) = false := by decide) : DE X M F E (M i) false (.Name x pos) (rVar i) := by
  refine ⟨_, pe_var hN hv hd hcd, fun σ H ρ er Q w => ?_⟩
  unfold rVar at w
  split at w
  · rename_i d hd
    obtain ⟨v, s, r⟩ := er.get hd
    exact ⟨v, s, w v H (Same.refl H) r fun z => nomatch z⟩
  · exact w.elim
def rC (d : PyData) : Rho → Re PyData := fun _ => .ok d
theorem de_int {i : Int} {j pos} : DE X M F E false false (.Constant (.int i) j pos) (rC (.int i)) := ⟨_, pe_int, fun σ H ρ er Q w => w _ H (Same.refl H) (.int i) fun z => nomatch z⟩
theorem de_bl {i : Bool} {j pos} : DE X M F E false false (.Constant (.bool i) j pos) (rC (.bool i)) := ⟨_, pe_bl, fun σ H ρ er Q w => w _ H (Same.refl H) (.bl i) fun z => nomatch z⟩
theorem de_non {j pos} : DE X M F E false false (.Constant .none j pos) (rC .none) := ⟨_, pe_non, fun σ H ρ er Q w => w _ H (Same.refl H) .non fun z => nomatch z⟩
theorem de_str {i : Str} {j pos} : DE X M F E false false (.Constant (.str i) j pos) (rC (.str i)) := ⟨_, pe_str, fun σ H ρ er Q w => w _ H (Same.refl H) (.str i) fun z => nomatch z⟩
/-- a module's constant -/
theorem de_glob {x : Str} {i : Int} {t : Tok} {pos : Pos} (hg : Gl X x) (hm : X.mg x = some (.int i t)) (hd : (x == ("__debug__" : Str)) = false := by decide) : DE X M F E false false (.Name x pos) (rC (.int i)) :=
  ⟨_, pe_glob (v := .int i) hg hm ⟨t, rfl⟩ hd, fun σ H ρ er Q w => w _ H (Same.refl H) (.int i) fun z => nomatch z⟩

/-! operators, by values -/
/-- the rule r reckons g -/
def SemB (K : PySem.W.Frag) (r : R2) (fr : Bool) (g : PyData → PyData → Option PyData) : Prop :=
  ∀ (S : Addr → Prop) (H : Hp) (x y : V) (d e z : PyData) (Q : VK), (∀ a, H a = none → S a) → Rp K H S x d → Rp K H S y e → g d e = some z →
    (∀ v H', Same H H' → Rp K H' S v z → (fr = true → Frs K S H H' v z) → Q v H') → r x y H Q
def SemU (K : PySem.W.Frag) (r : V → Hp → VK → Prop) (fr : Bool) (g : PyData → Option PyData) : Prop :=
  ∀ (S : Addr → Prop) (H : Hp) (x : V) (d z : PyData) (Q : VK), (∀ a, H a = none → S a) → Rp K H S x d → g d = some z →
    (∀ v H', Same H H' → Rp K H' S v z → (fr = true → Frs K S H H' v z) → Q v H') → r x H Q
def SemL (K : PySem.W.Frag) (r : List V → Hp → VK → Prop) (fr : Bool) (g : List PyData → Option PyData) : Prop :=
  ∀ (S : Addr → Prop) (H : Hp) (xs : List V) (ds : List PyData) (z : PyData) (Q : VK), (∀ a, H a = none → S a) → RpA K H S xs ds → g ds = some z →
    (∀ v H', Same H H' → Rp K H' S v z → (fr = true → Frs K S H H' v z) → Q v H') → r xs H Q
def liftO {α : Type} : Option α → Re α
  | some a => .ok a
  | none => .bad
def r2 (g : PyData → PyData → Option PyData) (fa fb : Rho → Re PyData) : Rho → Re PyData := fun ρ => (fa ρ).andThen fun x => (fb ρ).andThen fun y => liftO (g x y)
def r1 (g : PyData → Option PyData) (fa : Rho → Re PyData) : Rho → Re PyData := fun ρ => (fa ρ).andThen fun x => liftO (g x)
def asB (f : Rho → Re PyData) : Rho → Re Bool := fun ρ => (f ρ).andThen fun d => match d with | .bool b => .ok b | _ => .bad
variable {la lb fa fb : Bool} {a b : Expr} {f g : Rho → Re PyData} {pos : Pos}
/-- two parts, then a rule upon values -/
theorem two_run {ta tb : TE} {r : R2} {gg : PyData → PyData → Option PyData} {fr : Bool} (ha : ∀ σ H ρ, ER X.K M F σ H ρ → ∀ Q, WE X M F E la fa σ ρ H (f ρ) Q → ta σ H Q) (hb : ∀ σ H ρ, ER X.K M F σ H ρ → ∀ Q, WE X M F E lb fb σ ρ H (g ρ) Q → tb σ H Q)
    (hg : SemB X.K r fr gg) (er : ER X.K M F σ H ρ) {Q : VK} (w : WE X M F E (la || lb) fr σ ρ H (r2 gg f g ρ) Q) : tOp r ta tb σ H Q := by
  refine ha σ H ρ er _ (we_step w fun d v H1 e1 s1 q1 _ w1 => ?_)
  refine hb σ H1 ρ (er.same s1) _ (we_step w1 fun e u H2 e2 s2 q2 _ w2 => ?_)
  cases q : gg d e with
  | none =>
    rw [q] at w2
    exact w2.elim
  | some z =>
    rw [q] at w2
    exact hg (RS M F σ ρ (la || lb)) H2 v u d e z Q ((er.same s1).same s2).freshS ((q1.same s2).wide rs_or1) (q2.wide rs_or2) q fun v' H' s' r' f' => w2 v' H' s' r' f'
theorem de_op {op : Operator} {r : R2} {fr : Bool} {gg : PyData → PyData → Option PyData} (ho : OpR X (binaryOp op) r) (hg : SemB X.K r fr gg) (ha : DE X M F E la fa a f) (hb : DE X M F E lb fb b g) : DE X M F E (la || lb) fr (.BinOp a op b pos) (r2 gg f g) := by
  obtain ⟨ta, pa, ha⟩ := ha
  obtain ⟨tb, pb, hb⟩ := hb
  exact ⟨_, pe_op ho pa pb, fun σ H ρ er Q w => two_run ha hb hg er w⟩
theorem de_un {op : UnaryOp} {r : V → Hp → VK → Prop} {fr : Bool} {gg : PyData → Option PyData} (ho : UnR X (unaryOp op) r) (hg : SemU X.K r fr gg) (ha : DE X M F E la fa a f) : DE X M F E la fr (.UnaryOp op a pos) (r1 gg f) := by
  obtain ⟨ta, pa, ha⟩ := ha
  refine ⟨_, pe_un ho pa, fun σ H ρ er Q w => ?_⟩
  refine ha σ H ρ er _ (we_step w fun d v H1 e1 s1 q1 _ w1 => ?_)
  cases q : gg d with
  | none =>
    rw [q] at w1
    exact w1.elim
  | some z =>
    rw [q] at w1
    exact hg (RS M F σ ρ la) H1 v d z Q (er.same s1).freshS q1 q fun v' H' s' r' f' => w1 v' H' s' r' f'
theorem de_cmp {op : CmpOp} {r : R2} {gg : PyData → PyData → Option PyData} (ho : OpR X (compareOp op) r) (hg : SemB X.K r false gg) (ha : DE X M F E la fa a f) (hb : DE X M F E lb fb b g) (hm : behindInMarks op b = false) : DE X M F E (la || lb) false (.Compare a [op] [b] pos) (r2 gg f g) := by
  obtain ⟨ta, pa, ha⟩ := ha
  obtain ⟨tb, pb, hb⟩ := hb
  exact ⟨_, pe_cmpR ho pa pb hm, fun σ H ρ er Q w => two_run ha hb hg er w⟩
theorem wt_asB {t : TE} {lk fr : Bool} {h : Rho → Re PyData} (ht : ∀ σ H ρ, ER X.K M F σ H ρ → ∀ Q, WE X M F E lk fr σ ρ H (h ρ) Q → t σ H Q) (er : ER X.K M F σ H ρ) {Q : Bool → Hp → Prop} (w : WT X E σ H (asB h ρ) Q) : t σ H fun x H' => ∃ k, x = .bl k ∧ Q k H' := by
  refine ht σ H ρ er _ (wt_step w fun d v H1 e1 s1 q1 _ w1 => ?_)
  cases q1 with
  | bl k => exact ⟨k, rfl, w1 H1 (Same.refl _)⟩
  | non => exact w1.elim
  | int _ => exact w1.elim
  | str _ => exact w1.elim
  | tup _ _ => exact w1.elim
  | lst _ _ _ => exact w1.elim
  | scr _ _ => exact w1.elim
  | dic _ _ _ _ => exact w1.elim
  | dit _ _ _ _ => exact w1.elim
  | dif _ _ _ => exact w1.elim
  | rng _ => exact w1.elim
  | dct _ _ _ _ => exact w1.elim
theorem dt_cmp {op : CmpOp} {r : R2} {gg : PyData → PyData → Option PyData} (ho : OpR X (compareOp op) r) (hg : SemB X.K r false gg) (ha : DE X M F E la fa a f) (hb : DE X M F E lb fb b g) (hm : behindInMarks op b = false) : DT X M F E (.Compare a [op] [b] pos) (asB (r2 gg f g)) := by
  obtain ⟨ta, pa, ha⟩ := ha
  obtain ⟨tb, pb, hb⟩ := hb
  exact ⟨_, pt_cmpR ho pa pb hm, fun σ H ρ er Q w => wt_asB (fun σ H ρ er Q w => two_run ha hb hg er w) er w⟩
theorem dt_val (ha : DE X M F E la fa a f) (he : ∀ whole, isTrue a X.env whole = (do let v ← whole; standAt a.pos; holding [v] (truthy v)) := by intro _; rfl) : DT X M F E a (asB f) := by
  obtain ⟨ta, pa, ha⟩ := ha
  exact ⟨_, pt_val pa he, fun σ H ρ er Q w => wt_asB ha er w⟩

/-! tests -/
def tAndR (f g : Rho → Re Bool) : Rho → Re Bool := fun ρ => (f ρ).andThen fun c => if c = true then g ρ else .ok false
def tOrR (f g : Rho → Re Bool) : Rho → Re Bool := fun ρ => (f ρ).andThen fun c => if c = true then .ok true else g ρ
def tNotR (f : Rho → Re Bool) : Rho → Re Bool := fun ρ => (f ρ).andThen fun c => .ok (!c)
section
variable {c c' : Expr} {rest : List Expr} {p q : Rho → Re Bool}
theorem DW.pt {e : Expr} (h : DW X M F E e p) : DT X M F E e p := by
  obtain ⟨t, h, w⟩ := h
  exact ⟨t, h.pt, w⟩
theorem dw_and1 (h : DT X M F E c p) : DW X M F E (.BoolOp .And [c] pos) p := by
  obtain ⟨t, h, w⟩ := h
  exact ⟨t, pw_and1 h, w⟩
theorem dw_or1 (h : DT X M F E c p) : DW X M F E (.BoolOp .Or [c] pos) p := by
  obtain ⟨t, h, w⟩ := h
  exact ⟨t, pw_or1 h, w⟩
theorem dw_and (h : DT X M F E c p) (k : DW X M F E (.BoolOp .And (c' :: rest) pos) q) : DW X M F E (.BoolOp .And (c :: c' :: rest) pos) (tAndR p q) := by
  obtain ⟨t, h, w⟩ := h
  obtain ⟨u, k, y⟩ := k
  refine ⟨_, pw_and h k, fun σ H ρ er Q z => ?_⟩
  refine w σ H ρ er _ (wt_stepT z fun d H1 e s z1 => ?_)
  cases d with
  | true => exact y σ H1 ρ (er.same s) Q z1
  | false => exact z1 H1 (Same.refl _)
theorem dw_or (h : DT X M F E c p) (k : DW X M F E (.BoolOp .Or (c' :: rest) pos) q) : DW X M F E (.BoolOp .Or (c :: c' :: rest) pos) (tOrR p q) := by
  obtain ⟨t, h, w⟩ := h
  obtain ⟨u, k, y⟩ := k
  refine ⟨_, pw_or h k, fun σ H ρ er Q z => ?_⟩
  refine w σ H ρ er _ (wt_stepT z fun d H1 e s z1 => ?_)
  cases d with
  | false => exact y σ H1 ρ (er.same s) Q z1
  | true => exact z1 H1 (Same.refl _)
theorem dt_not (h : DT X M F E c p) : DT X M F E (.UnaryOp .Not c pos) (tNotR p) := by
  obtain ⟨t, h, w⟩ := h
  refine ⟨_, pt_not h, fun σ H ρ er Q z => ?_⟩
  exact w σ H ρ er _ (wt_stepT z fun d H1 e s z1 => z1 H1 (Same.refl _))
def rIf (p : Rho → Re Bool) (f g : Rho → Re PyData) : Rho → Re PyData := fun ρ => (p ρ).andThen fun c => if c = true then f ρ else g ρ
theorem de_ifExp (hc : DT X M F E c p) (ha : DE X M F E la fa a f) (hb : DE X M F E lb fb b g) : DE X M F E (la || lb) false (.IfExp c a b pos) (rIf p f g) := by
  obtain ⟨t, hc, w⟩ := hc
  obtain ⟨ta, pa, ha⟩ := ha
  obtain ⟨tb, pb, hb⟩ := hb
  refine ⟨_, pe_ifExp hc pa pb, fun σ H ρ er Q z => ?_⟩
  refine w σ H ρ er _ (we_stepT z fun d H1 e s z1 => ?_)
  cases d with
  | true =>
    refine ha σ H1 ρ (er.same s) Q ?_
    have z1 : WE X M F E (la || lb) false σ ρ H1 (f ρ) Q := z1
    revert z1
    cases f ρ with
    | ok d => exact fun z1 v H2 s2 r2 _ => z1 v H2 s2 (r2.wide rs_or1) fun z => nomatch z
    | ex c => exact fun z1 => z1
    | bad => exact fun z1 => z1
  | false =>
    refine hb σ H1 ρ (er.same s) Q ?_
    have z1 : WE X M F E (la || lb) false σ ρ H1 (g ρ) Q := z1
    revert z1
    cases g ρ with
    | ok d => exact fun z1 v H2 s2 r2 _ => z1 v H2 s2 (r2.wide rs_or2) fun z => nomatch z
    | ex c => exact fun z1 => z1
    | bad => exact fun z1 => z1
/-- and, or, not as values of bools -/
def vB (p : Rho → Re Bool) : Rho → Re PyData := fun ρ => (p ρ).andThen fun b => .ok (.bool b)
theorem de_one {op} {t : Rho → Re PyData} (h : DE X M F E la fa a t) : DE X M F E la fa (.BoolOp op [a] pos) t := by
  obtain ⟨ta, pa, ha⟩ := h
  exact ⟨ta, pe_one pa, ha⟩
def rAnd (f g : Rho → Re PyData) : Rho → Re PyData := fun ρ => (f ρ).andThen fun d => match d with | .bool true => g ρ | .bool false => .ok (.bool false) | _ => .bad
def rOr (f g : Rho → Re PyData) : Rho → Re PyData := fun ρ => (f ρ).andThen fun d => match d with | .bool false => g ρ | .bool true => .ok (.bool true) | _ => .bad
def rNot (f : Rho → Re PyData) : Rho → Re PyData := fun ρ => (f ρ).andThen fun d => match d with | .bool b => .ok (.bool (!b)) | _ => .bad
theorem we_nofr {lk fr : Bool} {r : Re PyData} {Q : VK} (w : WE X M F E lk false σ ρ H r Q) : WE X M F E lk fr σ ρ H r Q := by
  cases r with
  | ok d => exact fun v H' s r _ => w v H' s r fun z => nomatch z
  | ex c => exact w
  | bad => exact w
theorem we_lk {lk lk' fr : Bool} {r : Re PyData} {Q : VK} (h : ∀ x, RS M F σ ρ lk x → RS M F σ ρ lk' x) (w : WE X M F E lk' false σ ρ H r Q) : WE X M F E lk fr σ ρ H r Q := by
  cases r with
  | ok d => exact fun v H' s r _ => w v H' s (r.wide h) fun z => nomatch z
  | ex c => exact w
  | bad => exact w
theorem de_and {b : Expr} {rest : List Expr} (ha : DE X M F E la fa a f) (hb : DE X M F E lb fb (.BoolOp .And (b :: rest) pos) g) : DE X M F E lb false (.BoolOp .And (a :: b :: rest) pos) (rAnd f g) := by
  obtain ⟨ta, pa, ha⟩ := ha
  obtain ⟨tb, pb, hb⟩ := hb
  refine ⟨_, pe_and pa pb, fun σ H ρ er Q z => ?_⟩
  refine ha σ H ρ er _ (we_step z fun d v H1 e s r1 _ z1 => ?_)
  cases r1 with
  | bl k =>
    refine ⟨k, rfl, ?_⟩
    cases k with
    | true => exact hb σ H1 ρ (er.same s) Q (we_nofr z1)
    | false => exact z1 _ H1 (Same.refl _) (.bl false) fun z => nomatch z
  | non => exact z1.elim
  | int _ => exact z1.elim
  | str _ => exact z1.elim
  | tup _ _ => exact z1.elim
  | lst _ _ _ => exact z1.elim
  | scr _ _ => exact z1.elim
  | dic _ _ _ _ => exact z1.elim
  | dit _ _ _ _ => exact z1.elim
  | dif _ _ _ => exact z1.elim
  | rng _ => exact z1.elim
  | dct _ _ _ _ => exact z1.elim
theorem de_or {b : Expr} {rest : List Expr} (ha : DE X M F E la fa a f) (hb : DE X M F E lb fb (.BoolOp .Or (b :: rest) pos) g) : DE X M F E lb false (.BoolOp .Or (a :: b :: rest) pos) (rOr f g) := by
  obtain ⟨ta, pa, ha⟩ := ha
  obtain ⟨tb, pb, hb⟩ := hb
  refine ⟨_, pe_or pa pb, fun σ H ρ er Q z => ?_⟩
  refine ha σ H ρ er _ (we_step z fun d v H1 e s r1 _ z1 => ?_)
  cases r1 with
  | bl k =>
    refine ⟨k, rfl, ?_⟩
    cases k with
    | false => exact hb σ H1 ρ (er.same s) Q (we_nofr z1)
    | true => exact z1 _ H1 (Same.refl _) (.bl true) fun z => nomatch z
  | non => exact z1.elim
  | int _ => exact z1.elim
  | str _ => exact z1.elim
  | tup _ _ => exact z1.elim
  | lst _ _ _ => exact z1.elim
  | scr _ _ => exact z1.elim
  | dic _ _ _ _ => exact z1.elim
  | dit _ _ _ _ => exact z1.elim
  | dif _ _ _ => exact z1.elim
  | rng _ => exact z1.elim
  | dct _ _ _ _ => exact z1.elim
theorem de_not (ha : DE X M F E la fa a f) : DE X M F E false false (.UnaryOp .Not a pos) (rNot f) := by
  obtain ⟨ta, pa, ha⟩ := ha
  refine ⟨_, pe_not pa, fun σ H ρ er Q z => ?_⟩
  refine ha σ H ρ er _ (we_step z fun d v H1 e s r1 _ z1 => ?_)
  cases r1 with
  | bl k => exact ⟨k, rfl, z1 _ H1 (Same.refl _) (.bl _) fun z => nomatch z⟩
  | non => exact z1.elim
  | int _ => exact z1.elim
  | str _ => exact z1.elim
  | tup _ _ => exact z1.elim
  | lst _ _ _ => exact z1.elim
  | scr _ _ => exact z1.elim
  | dic _ _ _ _ => exact z1.elim
  | dit _ _ _ _ => exact z1.elim
  | dif _ _ _ => exact z1.elim
  | rng _ => exact z1.elim
  | dct _ _ _ _ => exact z1.elim
end

/-! arguments, displays -/
def aNil : Rho → Re (List PyData) := fun _ => .ok []
def aCons (f : Rho → Re PyData) (g : Rho → Re (List PyData)) : Rho → Re (List PyData) := fun ρ => (f ρ).andThen fun d => (g ρ).andThen fun ds => .ok (d :: ds)
theorem da_nil : DA X M F E false [] aNil := ⟨_, pa_nil, fun σ H ρ er Q w => w [] H (Same.refl _) .nil⟩
theorem wa_step {lk lk' fr' : Bool} {r : Re PyData} {Q : List V → Hp → Prop} {g : PyData → Re (List PyData)} {K : VK} (w : WA X M F E lk σ ρ H (r.andThen g) Q)
    (h : ∀ d v H', r = .ok d → Same H H' → Rp X.K H' (RS M F σ ρ lk') v d → (fr' = true → Frs X.K (RS M F σ ρ lk') H H' v d) → WA X M F E lk σ ρ H' (g d) Q → K v H') : WE X M F E lk' fr' σ ρ H r K := by
  cases r with
  | ok d =>
    refine fun v H' s rr ff => h d v H' rfl s rr ff ?_
    have w : WA X M F E lk σ ρ H (g d) Q := w
    cases q : g d with
    | ok z =>
      rw [q] at w
      exact fun v2 H2 s2 r2 => w v2 H2 (s.trans s2) r2
    | ex c =>
      rw [q] at w
      exact fun C H2 m s2 => w C H2 m (s.trans s2)
    | bad =>
      rw [q] at w
      exact w
  | ex c => exact w
  | bad => exact w
theorem wa_stepA {lk lk' : Bool} {r : Re (List PyData)} {Q : List V → Hp → Prop} {g : List PyData → Re (List PyData)} {K : List V → Hp → Prop} (w : WA X M F E lk σ ρ H (r.andThen g) Q)
    (h : ∀ d v H', r = .ok d → Same H H' → RpA X.K H' (RS M F σ ρ lk') v d → WA X M F E lk σ ρ H' (g d) Q → K v H') : WA X M F E lk' σ ρ H r K := by
  cases r with
  | ok d =>
    refine fun v H' s rr => h d v H' rfl s rr ?_
    have w : WA X M F E lk σ ρ H (g d) Q := w
    cases q : g d with
    | ok z =>
      rw [q] at w
      exact fun v2 H2 s2 r2 => w v2 H2 (s.trans s2) r2
    | ex c =>
      rw [q] at w
      exact fun C H2 m s2 => w C H2 m (s.trans s2)
    | bad =>
      rw [q] at w
      exact w
  | ex c => exact w
  | bad => exact w
theorem da_cons {es : List Expr} {gs : Rho → Re (List PyData)} (ha : DE X M F E la fa a f) (hb : DA X M F E lb es gs) (hs : starEach (a :: es) X.env = (false, eval a X.env) :: starEach es X.env := by rfl) : DA X M F E (la || lb) (a :: es) (aCons f gs) := by
  obtain ⟨ta, pa, ha⟩ := ha
  obtain ⟨tb, pb, hb⟩ := hb
  refine ⟨_, pa_cons pa pb hs, fun σ H ρ er Q z => ?_⟩
  refine ha σ H ρ er _ (wa_step z fun d v H1 e s r1 _ z1 => ?_)
  refine hb σ H1 ρ (er.same s) _ (wa_stepA z1 fun ds vs H2 e s2 r2 z2 => ?_)
  exact z2 _ H2 (Same.refl _) (.cons ((r1.same s2).wide rs_or1) (r2.wide rs_or2))
theorem same_new {H : Hp} {p : Addr} {o : HO} (h : H p = none) : Same H (upd H p o) := .of fun b x e => by
  rw [upd_ne (ne_of_none e h)]
  exact e
/-- the line of lengths that the data may have: 10000 (Python's own is greater) -/
def okLen (n : Nat) : Bool := decide (n ≤ 10000)
theorem okLen_le {n : Nat} (h : okLen n = true) : n ≤ sizeLine := Nat.le_trans (of_decide_eq_true h) (by decide)
def mkT (ds : List PyData) : Re PyData := if okLen ds.length = true then .ok (.tuple ds) else .bad
def mkL (ds : List PyData) : Re PyData := if okLen ds.length = true then .ok (.list ds) else .bad
def rTup (g : Rho → Re (List PyData)) : Rho → Re PyData := fun ρ => (g ρ).andThen mkT
def rLst (g : Rho → Re (List PyData)) : Rho → Re PyData := fun ρ => (g ρ).andThen mkL
theorem de_tup {es : List Expr} {k : Nat} {gs : Rho → Re (List PyData)} (h : DA X M F E la es gs) : DE X M F E la false (.Tuple es k pos) (rTup gs) := by
  obtain ⟨t, p, h⟩ := h
  refine ⟨_, pe_tupF p, fun σ H ρ er Q z => ?_⟩
  refine h σ H ρ er _ (we_stepA z fun ds vs H1 e s r1 z1 => ?_)
  unfold mkT at z1
  by_cases hl : okLen ds.length = true
  · rw [if_pos hl] at z1
    refine ⟨by rw [r1.length]; exact okLen_le hl, fun p o hp hd => z1 _ _ (same_new hp) ?_ fun z => nomatch z⟩
    exact .tup (.inl ⟨o, upd_same, hd⟩) (r1.same (same_new hp))
  · rw [if_neg hl] at z1
    exact z1.elim
/-- a new list at p -/
theorem frs_new {S : Addr → Prop} {K : PySem.W.Frag} {H H1 : Hp} {p : Addr} {vs : List V} {ds : List PyData} (s : Same H H1) (hp : H1 p = none) (r : RpA K H1 S vs ds) : Frs K S H (upd H1 p (.lst vs)) (.ref p) (.list ds) := by
  refine ⟨p, rfl, s.free hp, .lst upd_same ((r.thru.same (same_new hp)).wide fun a x => ⟨x.1, fun e => ?_⟩)⟩
  rw [e] at x
  exact x.2.not hp
theorem de_lst {es : List Expr} {gs : Rho → Re (List PyData)} (h : DA X M F E la es gs) : DE X M F E la true (.List es pos) (rLst gs) := by
  obtain ⟨t, p, h⟩ := h
  refine ⟨_, pe_lst p, fun σ H ρ er Q z => ?_⟩
  refine h σ H ρ er _ (we_stepA z fun ds vs H1 e s r1 z1 => ?_)
  unfold mkL at z1
  by_cases hl : okLen ds.length = true
  · rw [if_pos hl] at z1
    refine ⟨by rw [r1.length]; exact okLen_le hl, fun p hp => z1 _ _ (same_new hp) ?_ fun _ => frs_new (Same.refl _) hp r1⟩
    exact .lst upd_same ((er.same s).freshS p hp) (r1.same (same_new hp))
  · rw [if_neg hl] at z1
    exact z1.elim

/-! calls -/
/-- a def's promise, by the function that it is -/
def spD (mg : Str → Option Value) (f : List PyData → Re PyData) (K : PySem.W.Frag) : Sp := fun vs H Q Ex => ∃ (ds : List PyData) (S : Addr → Prop), RpA K H S vs ds ∧ ((∀ a, H a = none → S a) ∧ LamX.Tabs TabL.T H) ∧
  match f ds with
  | .ok d => ∀ v H', Same H H' → Rp K H' S v d → Q v H'
  | .ex c => ∀ C H', mg c = some (.ref C) → Same H H' → Ex (.ref C) none H'
  | .bad => False
def rCall (ff : List PyData → Re PyData) (g : Rho → Re (List PyData)) : Rho → Re PyData := fun ρ => (g ρ).andThen ff
theorem de_call {k : Nat} {fAd : Addr} {fd : FuncData} {ps : List Str} {ff : List PyData → Re PyData} {x : Str} {es : List Expr} {gs : Rho → Re (List PyData)} {p : Pos} (G : FnOk X.prog X.w X.K X.mg X.base (L2.CX X.prog X.w) k fAd fd ps (spD X.mg ff X.K)) (hr : Room k X.A) (hg : Gl X x)
    (hm : X.mg x = some (.ref fAd)) (hk : PySem.W.keepIn X.K (.ref fAd) = true) (hb : Binds X.K fd ps []) (hx : ∀ σ, PassesAt (L2.CX X.prog X.w) X σ (E σ)) (ha : DA X M F E la (a :: es) gs)
    (hdb : (x == ("__debug__" : Str)) = false := by decide) (he : starEach (a :: es) X.env = (false, eval a X.env) :: starEach es X.env := by rfl) (hpl : (backTo pos (starEach es X.env)).any (·.1) = false := by rfl) :
    DE X M F E la false (.Call (.Name x p) (a :: es) [] pos) (rCall ff gs) := by
  obtain ⟨t, pa, ha⟩ := ha
  refine ⟨_, pe_callS G hr hg hm hk hb hx pa hdb he hpl, fun σ H ρ er Q z => ?_⟩
  refine ha σ H ρ er _ (we_stepA z fun ds vs H1 e s r1 z1 => ?_)
  refine ⟨ds, RS M F σ ρ la, r1, ⟨(er.same s).freshS, (er.same s).tab⟩, ?_⟩
  cases q : ff ds with
  | ok d =>
    rw [q] at z1
    exact fun v H' s' r' => z1 v H' s' r' fun z => nomatch z
  | ex c =>
    rw [q] at z1
    exact z1
  | bad =>
    rw [q] at z1
    exact z1
/-- a built-in called -/
theorem de_callB {id : String} {r : List V → Hp → VK → Prop} {fr : Bool} {gg : List PyData → Option PyData} {x : Str} {es : List Expr} {gs : Rho → Re (List PyData)} {p : Pos} (hc : CallR X (.builtin id) r) (hS : SemL X.K r fr gg) (hg : Gl X x) (hm : X.mg x = none) (hv : bootBuiltins x = some (.builtin id))
    (ha : DA X M F E la (a :: es) gs) (hn : x ≠ "__name__" := by decide) (hdb : (x == ("__debug__" : Str)) = false := by decide)
    (he : starEach (a :: es) X.env = (false, eval a X.env) :: starEach es X.env := by rfl) (hpl : (backTo pos (starEach es X.env)).any (·.1) = false := by rfl) :
    DE X M F E la fr (.Call (.Name x p) (a :: es) [] pos) (fun ρ => (gs ρ).andThen fun ds => liftO (gg ds)) := by
  obtain ⟨t, pa, ha⟩ := ha
  refine ⟨_, pe_callB hc hg hm hv pa hn hdb he hpl, fun σ H ρ er Q z => ?_⟩
  refine ha σ H ρ er _ (we_stepA z fun ds vs H1 e s r1 z1 => ?_)
  cases q : gg ds with
  | none =>
    rw [q] at z1
    exact z1.elim
  | some d =>
    rw [q] at z1
    exact hS (RS M F σ ρ la) H1 vs ds d Q (er.same s).freshS r1 q fun v' H' s' r' f' => z1 v' H' s' r' f'
theorem de_callTy {id : String} {r : List V → Hp → VK → Prop} {fr : Bool} {gg : List PyData → Option PyData} {x : Str} {es : List Expr} {gs : Rho → Re (List PyData)} {p : Pos} (hc : CallR X (.type id) r) (hS : SemL X.K r fr gg) (hg : Gl X x) (hm : X.mg x = none) (hv : bootBuiltins x = some (.type id))
    (ha : DA X M F E la (a :: es) gs) (hn : x ≠ "__name__" := by decide) (hdb : (x == ("__debug__" : Str)) = false := by decide)
    (he : starEach (a :: es) X.env = (false, eval a X.env) :: starEach es X.env := by rfl) (hpl : (backTo pos (starEach es X.env)).any (·.1) = false := by rfl) :
    DE X M F E la fr (.Call (.Name x p) (a :: es) [] pos) (fun ρ => (gs ρ).andThen fun ds => liftO (gg ds)) := by
  obtain ⟨t, pa, ha⟩ := ha
  refine ⟨_, pe_callTy hc hg hm hv pa hn hdb he hpl, fun σ H ρ er Q z => ?_⟩
  refine ha σ H ρ er _ (we_stepA z fun ds vs H1 e s r1 z1 => ?_)
  cases q : gg ds with
  | none =>
    rw [q] at z1
    exact z1.elim
  | some d =>
    rw [q] at z1
    exact hS (RS M F σ ρ la) H1 vs ds d Q (er.same s).freshS r1 q fun v' H' s' r' f' => z1 v' H' s' r' f'
end
end Pu

set_option Elab.async false
set_option linter.all false
set_option maxRecDepth 100000
set_option maxHeartbeats 2000000
namespace Pu
open PySem PySem.Spec PyProof.Rows L2
variable [TabL]

/-! ### statements -/
inductive Sr where
  | nx (ρ : Rho)
  | rt (d : PyData)
  | bk (ρ : Rho)
  | ct (ρ : Rho)
  | ex (c : Str) (ρ : Rho)
  | bad
def Re.st : Re PyData → Rho → (PyData → Sr) → Sr
  | .ok d, _, k => k d
  | .ex c, ρ, _ => .ex c ρ
  | .bad, _, _ => .bad
def Re.stT : Re Bool → Rho → (Bool → Sr) → Sr
  | .ok d, _, k => k d
  | .ex c, ρ, _ => .ex c ρ
  | .bad, _, _ => .bad
def WS (X : Cx) (M : Nat → Bool) (F : Fx) (E : L2.St → XK) (σ : L2.St) (H : Hp) (ρ : Rho) (r : Sr) (D : Ends) : Prop :=
  match r with
  | .nx ρ' => ∀ σ' H', ER X.K M F σ' H' ρ' → Evo M σ H ρ σ' H' ρ' → D.nx σ' H'
  | .rt d => ∀ v H', Same F.H0 H' → Rp X.K H' F.S0 v d → D.rt v H'
  | .bk ρ' => ∀ σ' H', ER X.K M F σ' H' ρ' → Evo M σ H ρ σ' H' ρ' → D.bk σ' H'
  | .ct ρ' => ∀ σ' H', ER X.K M F σ' H' ρ' → Evo M σ H ρ σ' H' ρ' → D.ct σ' H'
  | .ex c ρ' => ∀ C σ' H', X.mg c = some (.ref C) → ER X.K M F σ' H' ρ' → Evo M σ H ρ σ' H' ρ' → E σ' (.ref C) none H'
  | .bad => False
def DS (X : Cx) (M : Nat → Bool) (F : Fx) (E : L2.St → XK) (st : Stmt) (s : Rho → Sr) : Prop := ∃ t : TS, PS X st t ∧ ∀ σ H ρ, ER X.K M F σ H ρ → ∀ D, WS X M F E σ H ρ (s ρ) D → t D σ H
def DSs (X : Cx) (M : Nat → Bool) (F : Fx) (E : L2.St → XK) (st : List Stmt) (s : Rho → Sr) : Prop := ∃ t : TS, PSs X st t ∧ ∀ σ H ρ, ER X.K M F σ H ρ → ∀ D, WS X M F E σ H ρ (s ρ) D → t D σ H

section
variable {X : Cx} {M : Nat → Bool} {F : Fx} {E : L2.St → XK} {σ σ1 : L2.St} {ρ ρ1 : Rho} {H H' H1 : Hp} {D : Ends}
/-- from a later state -/
theorem ws_evo {r : Sr} (v : Evo M σ H ρ σ1 H1 ρ1) (w : WS X M F E σ H ρ r D) : WS X M F E σ1 H1 ρ1 r D := by
  cases r with
  | nx ρ' => exact fun σ' H' e v' => w σ' H' e (v.trans v')
  | rt d => exact w
  | bk ρ' => exact fun σ' H' e v' => w σ' H' e (v.trans v')
  | ct ρ' => exact fun σ' H' e v' => w σ' H' e (v.trans v')
  | ex c ρ' => exact fun C σ' H' m e v' => w C σ' H' m e (v.trans v')
  | bad => exact w
theorem ws_step {lk fr : Bool} {r : Re PyData} {g : PyData → Sr} {K : VK} (er : ER X.K M F σ H ρ) (w : WS X M F E σ H ρ (r.st ρ g) D)
    (h : ∀ d v H', r = .ok d → Same H H' → Rp X.K H' (RS M F σ ρ lk) v d → (fr = true → Frs X.K (RS M F σ ρ lk) H H' v d) → WS X M F E σ H' ρ (g d) D → K v H') : WE X M F E lk fr σ ρ H r K := by
  cases r with
  | ok d => exact fun v H' s r f => h d v H' rfl s r f (ws_evo (Evo.same s) w)
  | ex c => exact fun C H' m s => w C σ H' m (er.same s) (Evo.same s)
  | bad => exact w
theorem ws_stepT {r : Re Bool} {g : Bool → Sr} {K : Bool → Hp → Prop} (er : ER X.K M F σ H ρ) (w : WS X M F E σ H ρ (r.stT ρ g) D)
    (h : ∀ d H', r = .ok d → Same H H' → WS X M F E σ H' ρ (g d) D → K d H') : WT X E σ H r K := by
  cases r with
  | ok d => exact fun H' s => h d H' rfl s (ws_evo (Evo.same s) w)
  | ex c => exact fun C H' m s => w C σ H' m (er.same s) (Evo.same s)
  | bad => exact w

variable {st : Stmt} {rest : List Stmt} {s u : Rho → Sr} {la fa lb fb : Bool} {a b : Expr} {f g : Rho → Re PyData} {p : Rho → Re Bool} {pos : Pos}
def sNil : Rho → Sr := fun ρ => .nx ρ
def sSeq (s u : Rho → Sr) : Rho → Sr := fun ρ => match s ρ with | .nx ρ' => u ρ' | r => r
theorem dss_nil : DSs X M F E [] sNil := ⟨_, pss_nil, fun σ H ρ er D w => w σ H er Evo.refl⟩
theorem dss_one (h : DS X M F E st s) : DSs X M F E [st] s := by
  obtain ⟨t, p, h⟩ := h
  exact ⟨t, pss_one p, h⟩
theorem dss_cons (h : DS X M F E st s) (k : DSs X M F E rest u) : DSs X M F E (st :: rest) (sSeq s u) := by
  obtain ⟨t, p, h⟩ := h
  obtain ⟨t', p', k⟩ := k
  refine ⟨_, pss_cons p p', fun σ H ρ er D w => ?_⟩
  refine h σ H ρ er _ ?_
  unfold sSeq at w
  cases q : s ρ with
  | nx ρ' =>
    rw [q] at w
    exact fun σ' H' er' ev => k σ' H' ρ' er' D (ws_evo ev w)
  | rt d =>
    rw [q] at w
    exact w
  | bk ρ' =>
    rw [q] at w
    exact w
  | ct ρ' =>
    rw [q] at w
    exact w
  | ex c ρ' =>
    rw [q] at w
    exact w
  | bad =>
    rw [q] at w
    exact w
theorem ds_pass : DS X M F E (.Pass pos) sNil := ⟨_, ps_pass, fun σ H ρ er D w => w σ H er Evo.refl⟩
theorem ds_doc {x j pos'} : DS X M F E (.Expr (.Constant (.str x) j pos) pos') sNil := ⟨_, ps_doc, fun σ H ρ er D w => w σ H er Evo.refl⟩
theorem ds_break : DS X M F E (.Break pos) (fun ρ => .bk ρ) := ⟨_, ps_break, fun σ H ρ er D w => w σ H er Evo.refl⟩
theorem ds_continue : DS X M F E (.Continue pos) (fun ρ => .ct ρ) := ⟨_, ps_continue, fun σ H ρ er D w => w σ H er Evo.refl⟩
def sIf (p : Rho → Re Bool) (s u : Rho → Sr) : Rho → Sr := fun ρ => (p ρ).stT ρ fun b => if b = true then s ρ else u ρ
theorem ds_if {c : Expr} {x y : List Stmt} (hc : DT X M F E c p) (hx : DSs X M F E x s) (hy : DSs X M F E y u) : DS X M F E (.If c x y pos) (sIf p s u) := by
  obtain ⟨t, pc, hc⟩ := hc
  obtain ⟨t1, p1, h1⟩ := hx
  obtain ⟨t2, p2, h2⟩ := hy
  refine ⟨_, ps_if pc p1 p2, fun σ H ρ er D w => ?_⟩
  refine hc σ H ρ er _ (ws_stepT er w fun d H1 e sm w1 => ?_)
  cases d with
  | true => exact h1 σ H1 ρ (er.same sm) D w1
  | false => exact h2 σ H1 ρ (er.same sm) D w1
def sRet (f : Rho → Re PyData) : Rho → Sr := fun ρ => (f ρ).st ρ fun d => .rt d
theorem ds_ret (h : DE X M F E la fa a f) : DS X M F E (.Return (some a) pos) (sRet f) := by
  obtain ⟨t, p, h⟩ := h
  refine ⟨_, ps_ret p, fun σ H ρ er D w => ?_⟩
  exact h σ H ρ er _ (ws_step er w fun d v H1 e sm r _ w1 => w1 v H1 (er.same sm).old (r.wide fun a x => x.1))
theorem ds_retN : DS X M F E (.Return none pos) (fun _ => .rt .none) := ⟨_, ps_retN, fun σ H ρ er D w => w _ H er.old .non⟩
def sDrop (f : Rho → Re PyData) : Rho → Sr := fun ρ => (f ρ).st ρ fun _ => .nx ρ
theorem ds_expr (h : DE X M F E la fa a f) (hs : swapsWith a none pos.line X.env = pure false := by rfl) : DS X M F E (.Expr a pos) (sDrop f) := by
  obtain ⟨t, p, h⟩ := h
  refine ⟨_, ps_expr p hs, fun σ H ρ er D w => ?_⟩
  exact h σ H ρ er _ (ws_step er w fun d v H1 e sm r _ w1 => w1 σ H1 (er.same sm) Evo.refl)
/-- x = e, x no list of the frame's own -/
def sSet (i : Nat) (lk : Bool) (f : Rho → Re PyData) : Rho → Sr := fun ρ => (f ρ).st ρ fun d => if lk = true → imm d = true then .nx (ρ.set i (some d)) else .bad
theorem ds_set {i : Nat} {x : Str} {pos' : Pos} (m : M i = false) (hN : X.N.Nodup) (h : DE X M F E la fa a f) (hi : X.N[i]? = some x := by rfl) (hx : Loc X.env.scope x := by first | exact Or.inl rfl | exact Or.inr rfl)
    (hs : swapsWith a (some (.Name x pos')) pos.line X.env = pure false := by rfl) (hw : swappedStores [.Name x pos'] a X.env = pure none := by rfl) (hf : X.fn x = true ∨ X.env.scope.names.lookup x = some .local := by first | exact .inl rfl | exact .inr rfl) :
    DS X M F E (.Assign [.Name x pos'] a pos) (sSet i la f) := by
  obtain ⟨t, p, h⟩ := h
  refine ⟨_, ps_asg p (pg_name hN hi hx hf) hs hw, fun σ H ρ er D w => ?_⟩
  refine h σ H ρ er _ (ws_step er w fun d v H1 e sm r _ w1 => ?_)
  by_cases hd : la = true → imm d = true
  · rw [if_pos hd] at w1
    have r' : Rp X.K H1 (RS M F σ ρ false) v d := by
      cases la with
      | false => exact r
      | true => exact r.noAddr (hd rfl)
    exact w1 _ H1 ((er.same sm).set m r') fun a u q n _ => ⟨q, fun o => n ((own_set m).mp o)⟩
  · rw [if_neg hd] at w1
    exact w1.elim

/-! own lists -/
theorem own_upd {i : Nat} {pp : Addr} (m : M i = true) {d : PyData} {a : Addr} (hi : i < ρ.length) (hl : ρ.length = σ.length) : OwnA M (σ.set i (some (.ref pp))) (ρ.set i (some d)) a → a = pp ∨ ∃ j d, j ≠ i ∧ M j = true ∧ ρ[j]? = some (some d) ∧ σ[j]? = some (some (.ref a)) := by
  rintro ⟨j, e, mj, r, s⟩
  by_cases hj : i = j
  · subst hj
    rw [List.getElem?_set_self (by rw [← hl]; exact hi)] at s
    cases s
    exact .inl rfl
  · rw [List.getElem?_set_ne hj] at r s
    exact .inr ⟨j, e, fun z => hj z.symm, mj, r, s⟩
/-- a new own list in slot i -/
theorem ER.setOwn (e : ER X.K M F σ H ρ) {i : Nat} {pp : Addr} {d : PyData} (m : M i = true) (hi : i < ρ.length) (sm : Same H H1) (hp : H pp = none) (w : OwR X.K H1 (fun a => RS M F σ ρ false a ∧ a ≠ pp) pp d) :
    ER X.K M F (σ.set i (some (.ref pp))) H1 (ρ.set i (some d)) ∧ Evo M σ H ρ (σ.set i (some (.ref pp))) H1 (ρ.set i (some d)) := by
  have h0 : F.H0 pp = none := (e.fresh hp).1
  have key : ∀ a, OwnA M (σ.set i (some (.ref pp))) (ρ.set i (some d)) a → a = pp ∨ OwnA M σ ρ a := fun a o => by
    rcases own_upd m hi e.len o with z | ⟨j, d', _, mj, r, s⟩
    · exact .inl z
    · exact .inr ⟨j, d', mj, r, s⟩
  have rs : ∀ a, RS M F σ ρ false a → a ≠ pp → RS M F (σ.set i (some (.ref pp))) (ρ.set i (some d)) false a := fun a x ne => ⟨x.1, fun _ o => by
    rcases key a o with z | z
    · exact ne z
    · exact x.2 rfl z⟩
  have e1 := e.same sm
  refine ⟨⟨by rw [List.length_set, List.length_set]; exact e.len, e1.old, e1.new, e1.tab, fun j d' q mj => ?_, fun j d' q mj => ?_, fun j k d' e' p mj mk q1 q2 s1 s2 => ?_⟩, fun a u q n w => ⟨sm a u q w, fun o => ?_⟩⟩
  · have hj : i ≠ j := fun z => by
      subst z
      rw [m] at mj
      cases mj
    rw [List.getElem?_set_ne hj] at q
    obtain ⟨v, s, r⟩ := e.im j d' q mj
    exact ⟨v, by rw [List.getElem?_set_ne hj]; exact s, r.keep (kp_same sm) fun a u x z _ => rs a x fun q => by
      rw [q, hp] at z
      cases z⟩
  · by_cases hj : i = j
    · subst hj
      rw [List.getElem?_set_self hi] at q
      cases q
      exact ⟨pp, List.getElem?_set_self (by rw [← e.len]; exact hi), ⟨h0, e.new _ hp⟩, w.keep (kp_same (Same.refl _)) (fun a u x _ _ => rs a x.1 x.2) fun _ q _ => q⟩
    · rw [List.getElem?_set_ne hj] at q
      obtain ⟨p, s, z, w'⟩ := e.ow j d' q mj
      refine ⟨p, by rw [List.getElem?_set_ne hj]; exact s, z, w'.keep (kp_same sm) (fun a u x zz _ => rs a x fun qq => ?_) fun u q n => sm _ _ q n⟩
      rw [qq, hp] at zz
      cases zz
  · have nope : ∀ j d', i ≠ j → M j = true → (ρ.set i (some d))[j]? = some (some d') → (σ.set i (some (V.ref pp)))[j]? = some (some (.ref pp)) → False := fun j d' hj mj q s => by
      rw [List.getElem?_set_ne hj] at q s
      obtain ⟨_, _, u, hu⟩ := e.own ⟨j, d', mj, q, s⟩
      rw [hp] at hu
      cases hu
    by_cases hj : i = j
    · subst hj
      by_cases hk : i = k
      · exact hk
      · rw [List.getElem?_set_self (by rw [← e.len]; exact hi)] at s1
        cases s1
        exact (nope k e' hk mk q2 s2).elim
    · by_cases hk : i = k
      · subst hk
        rw [List.getElem?_set_self (by rw [← e.len]; exact hi)] at s2
        cases s2
        exact (nope j d' hj mj q1 s1).elim
      · rw [List.getElem?_set_ne hj] at q1 s1
        rw [List.getElem?_set_ne hk] at q2 s2
        exact e.ap j k d' e' p mj mk q1 q2 s1 s2
  · rcases key a o with z | z
    · rw [z, hp] at q
      cases q
    · exact n z
/-- items of an own list -/
def itemsImm : PyData → Bool
  | .list ds => immAll ds
  | .dict (_ :: kvs) => immAll (kvs.map (·.2))
  | _ => false
theorem zip_snd : ∀ {α β : Type} (ks : List α) (ds : List β), ks.length = ds.length → (ks.zip ds).map (·.2) = ds
  | _, _, [], [], _ => rfl
  | _, _, _ :: ks, _ :: ds, h => by
    rw [List.zip_cons_cons, List.map_cons, zip_snd ks ds (by simpa using h)]
  | _, _, [], _ :: _, h => by simp at h
  | _, _, _ :: _, [], h => by simp at h
theorem OwR.noAddr {K : PySem.W.Frag} {S S' : Addr → Prop} {H : Hp} {pp : Addr} {d : PyData} (h : OwR K H S pp d) (q : itemsImm d = true) : OwR K H S' pp d := by
  cases h with
  | lst e r => exact .lst e (r.noAddr q)
  | dic e l r => exact .dic e l (r.noAddr (by
      have q' : immAll ((_ : List (PyData × PyData)).map (·.2)) = true := q
      rw [zip_snd _ _ (by rw [List.length_map, l, r.length])] at q'
      exact q'))
  | dct e l r => exact .dct e l (r.noAddr (by
      have q' : immAll ((_ : List (PyData × PyData)).map (·.2)) = true := q
      rw [zip_snd _ _ (by rw [List.length_map, l, r.length])] at q'
      exact q'))
  | dit e l r => exact .dit e l (r.noAddr (by
      have q' : immAll ((_ : List (PyData × PyData)).map (·.2)) = true := q
      rw [zip_snd _ _ (by rw [List.length_map, l, r.length])] at q'
      exact q'))
def sSetO (i : Nat) (lk : Bool) (f : Rho → Re PyData) : Rho → Sr := fun ρ => (f ρ).st ρ fun d => if i < ρ.length ∧ (lk = true → itemsImm d = true) then .nx (ρ.set i (some d)) else .bad
/-- x = [..], {..}, list(..): x is a list of the frame's own -/
theorem setO_run {t : TE} {i : Nat} (m : M i = true) (h : ∀ σ H ρ, ER X.K M F σ H ρ → ∀ Q, WE X M F E la true σ ρ H (f ρ) Q → t σ H Q) (er : ER X.K M F σ H ρ) (w : WS X M F E σ H ρ (sSetO i la f ρ) D) : tAsg t (gName i) D σ H := by
  refine h σ H ρ er _ ?_
  unfold sSetO at w
  cases q : f ρ with
  | ok d =>
    rw [q] at w
    refine fun v H1 sm r fr => ?_
    obtain ⟨pp, rfl, hp, ow⟩ := fr rfl
    have w : WS X M F E σ H ρ (if i < ρ.length ∧ (la = true → itemsImm d = true) then .nx (ρ.set i (some d)) else .bad) D := w
    by_cases hd : i < ρ.length ∧ (la = true → itemsImm d = true)
    · rw [if_pos hd] at w
      have ow' : OwR X.K H1 (fun a => RS M F σ ρ false a ∧ a ≠ pp) pp d := by
        cases la with
        | false => exact ow
        | true => exact ow.noAddr (hd.2 rfl)
      obtain ⟨er', ev⟩ := er.setOwn m hd.1 sm hp ow'
      exact w _ _ er' ev
    · rw [if_neg hd] at w
      exact w.elim
  | ex c =>
    rw [q] at w
    exact fun C H' mm sm => w C σ H' mm (er.same sm) (Evo.same sm)
  | bad =>
    rw [q] at w
    exact w
theorem ds_setO {i : Nat} {x : Str} {pos' : Pos} (m : M i = true) (hN : X.N.Nodup) (h : DE X M F E la true a f) (hi : X.N[i]? = some x := by rfl) (hx : Loc X.env.scope x := by first | exact Or.inl rfl | exact Or.inr rfl)
    (hs : swapsWith a (some (.Name x pos')) pos.line X.env = pure false := by rfl) (hw : swappedStores [.Name x pos'] a X.env = pure none := by rfl) (hf : X.fn x = true ∨ X.env.scope.names.lookup x = some .local := by first | exact .inl rfl | exact .inr rfl) :
    DS X M F E (.Assign [.Name x pos'] a pos) (sSetO i la f) := by
  obtain ⟨t, p, h⟩ := h
  exact ⟨_, ps_asg p (pg_name hN hi hx hf) hs hw, fun σ H ρ er D w => setO_run m h er w⟩
/-- an own list's content changes -/
theorem ER.put (e : ER X.K M F σ H ρ) {i : Nat} {pp : Addr} {d d' : PyData} {o : HO} (m : M i = true) (hr : ρ[i]? = some (some d)) (hs : σ[i]? = some (some (.ref pp))) (ow : OwR X.K (upd H pp o) (RS M F σ ρ false) pp d') :
    ER X.K M F σ (upd H pp o) (ρ.set i (some d')) ∧ Evo M σ H ρ σ (upd H pp o) (ρ.set i (some d')) := by
  have hi := getSome hr
  have oP : OwnA M σ ρ pp := ⟨i, d, m, hr, hs⟩
  obtain ⟨h0, _, uu, hu⟩ := e.own oP
  obtain ⟨p', s', z', w'⟩ := e.ow i d hr m
  rw [hs] at s'
  cases s'
  obtain ⟨u2, hu2, mu⟩ := w'.there
  have own : ∀ a, OwnA M σ (ρ.set i (some d')) a ↔ OwnA M σ ρ a := fun a => by
    constructor
    · rintro ⟨j, x, mj, r, s⟩
      by_cases hj : i = j
      · subst hj
        exact ⟨i, d, m, hr, s⟩
      · rw [List.getElem?_set_ne hj] at r
        exact ⟨j, x, mj, r, s⟩
    · rintro ⟨j, x, mj, r, s⟩
      by_cases hj : i = j
      · subst hj
        exact ⟨i, d', m, List.getElem?_set_self hi, s⟩
      · exact ⟨j, x, mj, by rw [List.getElem?_set_ne hj]; exact r, s⟩
  have rs : RS M F σ (ρ.set i (some d')) false = RS M F σ ρ false := by
    funext a
    unfold RS
    rw [propext (own a)]
  have kp : Kp (RS M F σ ρ false) H (upd H pp o) := by
    refine ⟨fun a u q x _ => ?_⟩
    rw [upd_ne]
    · exact q
    · intro z
      subst z
      rcases x with x | x
      · exact x.2 rfl oP
      · rw [q] at hu2
        cases hu2
        exact x mu
  obtain ⟨u3, hu3, pl⟩ := w'.plain
  refine ⟨⟨by rw [List.length_set]; exact e.len, e.old.put h0 hu3 pl, fun a q => e.new a ?_, tab_upd e.tab hu3 pl, fun j x q mj => ?_, fun j x q mj => ?_, fun j k x y p mj mk q1 q2 s1 s2 => ?_⟩, fun a u q n w => ⟨?_, fun oo => n ((own a).mp oo)⟩⟩
  · by_cases z : a = pp
    · rw [z, upd_same] at q
      cases q
    · rw [upd_ne z] at q
      exact q
  · have hj : i ≠ j := fun z => by
      subst z
      rw [m] at mj
      cases mj
    rw [List.getElem?_set_ne hj] at q
    obtain ⟨v, s, r⟩ := e.im j x q mj
    rw [rs]
    exact ⟨v, s, r.keep kp fun _ _ x _ _ => x⟩
  · rw [rs]
    by_cases hj : i = j
    · subst hj
      rw [List.getElem?_set_self hi] at q
      cases q
      exact ⟨pp, hs, z', ow⟩
    · rw [List.getElem?_set_ne hj] at q
      obtain ⟨p, s, z, w2⟩ := e.ow j x q mj
      refine ⟨p, s, z, w2.keep kp (fun _ _ x _ _ => x) fun u q' _ => ?_⟩
      rw [upd_ne]
      · exact q'
      · intro zz
        rw [zz] at s
        exact hj (e.ap i j d x pp m mj hr q hs s)
  · have back : ∀ j x, (ρ.set i (some d'))[j]? = some (some x) → ∃ x', ρ[j]? = some (some x') := fun j x q => by
      by_cases hj : i = j
      · subst hj
        exact ⟨d, hr⟩
      · rw [List.getElem?_set_ne hj] at q
        exact ⟨x, q⟩
    obtain ⟨x', q1⟩ := back j x q1
    obtain ⟨y', q2⟩ := back k y q2
    exact e.ap j k x' y' p mj mk q1 q2 s1 s2
  · rw [upd_ne]
    · exact q
    · intro z
      subst z
      exact n oP
end
end Pu

set_option Elab.async false
set_option linter.all false
set_option maxRecDepth 100000
set_option maxHeartbeats 2000000
namespace Pu
open PySem PySem.Spec PyProof.Rows L2
variable [TabL]

section
variable {X : Cx} {M : Nat → Bool} {F : Fx} {E : L2.St → XK} {σ σ1 : L2.St} {ρ ρ1 : Rho} {H H' H1 : Hp} {D : Ends}
variable {st : Stmt} {rest : List Stmt} {s u : Rho → Sr} {la fa lb fb : Bool} {a b : Expr} {f g : Rho → Re PyData} {p : Rho → Re Bool} {pos : Pos}

/-! ### changes of own lists -/
def getL (ρ : Rho) (i : Nat) : Option (List PyData) := match ρ[i]? with | some (some (.list ds)) => some ds | _ => none
theorem getL_some {ds : List PyData} {i : Nat} (h : getL ρ i = some ds) : ρ[i]? = some (some (.list ds)) := by
  unfold getL at h
  split at h
  · rename_i ds' e
    cases h
    exact e
  · cases h
theorem ER.lst (er : ER X.K M F σ H ρ) {i : Nat} {ds : List PyData} (m : M i = true) (h : getL ρ i = some ds) : ∃ pp xs, σ[i]? = some (some (.ref pp)) ∧ H pp = some (.lst xs) ∧ RpA X.K H (RS M F σ ρ false) xs ds := by
  obtain ⟨pp, hs, _, w⟩ := er.ow i _ (getL_some h) m
  cases w with
  | lst e r => exact ⟨pp, _, hs, e, r⟩
/-- behind a change of an own list -/
theorem ER.putL (er : ER X.K M F σ H ρ) {i : Nat} {pp : Addr} {ds ds' : List PyData} {xs xs' : List V} (m : M i = true) (h : getL ρ i = some ds) (hs : σ[i]? = some (some (.ref pp))) (hx : H pp = some (.lst xs)) (r : RpA X.K H (RS M F σ ρ false) xs' ds') :
    ER X.K M F σ (upd H pp (.lst xs')) (ρ.set i (some (.list ds'))) ∧ Evo M σ H ρ σ (upd H pp (.lst xs')) (ρ.set i (some (.list ds'))) := by
  refine er.put m (getL_some h) hs (.lst upd_same (r.keep ⟨fun a u q x _ => ?_⟩ fun _ _ x _ _ => x))
  rw [upd_ne]
  · exact q
  · intro z
    subst z
    rcases x with x | x
    · exact x.2 rfl ⟨i, _, m, getL_some h, hs⟩
    · rw [q] at hx
      cases hx
      exact x trivial
/-- after a pure part: the slots and own lists are as they were -/
theorem sq_l {pp : Addr} {xs : List V} (h : H pp = some (.lst xs)) : tyV X.K "list" (.ref pp) H := Or.inl ⟨rfl, _, SqL.of h⟩
def sApp (i : Nat) (lk : Bool) (f : Rho → Re PyData) : Rho → Sr := fun ρ => match getL ρ i with
  | some ds => (f ρ).st ρ fun d => if okLen (ds.length + 1) = true ∧ (lk = true → imm d = true) then .nx (ρ.set i (some (.list (ds ++ [d])))) else .bad
  | none => .bad
theorem rp_lk {d : PyData} {v : V} (r : Rp X.K H (RS M F σ ρ la) v d) (h : la = true → imm d = true) : Rp X.K H (RS M F σ ρ false) v d := by
  cases la with
  | false => exact r
  | true => exact r.noAddr (h rfl)
theorem ds_app {i : Nat} {x : Str} {p1 p2 p3 : Pos} (m : M i = true) (h : DE X M F E la fa a f) (hN : X.N[i]? = some x := by rfl) (hv : Vis X.env.scope x := by first | exact Or.inl rfl | exact Or.inr (Or.inl rfl) | exact Or.inr (Or.inr rfl)) (hd : (x == ("__debug__" : Str)) = false := by decide)
    (hcd : (x == ("__classdict__" : Str)) = false := by decide)
    (hs : swapsWith (.Call (.Attribute (.Name x p1) "append" p2) [a] [] p3) none pos.line X.env = pure false := by rfl) (hbase : attributeBase (.Name x p1) "append" X.env (eval (.Name x p1) X.env) = eval (.Name x p1) X.env := by rfl)
    (hfew : ((backTo p3 (starEach (a :: []) X.env)).all (fun x => !x.1) && (backToKw p3 (keywordEach [] X.env)).all (fun x => x.1.isSome)
      && decide ((a :: ([] : List Expr)).length + ([] : List Keyword).length + (if ([] : List Keyword).isEmpty then 0 else 1) < 30)) = true := by rfl)
    (hline : (p2.endLine == p3.line) = true := by rfl) (hst : starEach (a :: []) X.env = (false, eval a X.env) :: starEach [] X.env := by rfl) (hplain : (backTo p3 (starEach [] X.env)).any (·.1) = false := by rfl) :
    DS X M F E (.Expr (.Call (.Attribute (.Name x p1) "append" p2) [a] [] p3) pos) (sApp i la f) := by
  obtain ⟨t, pa, h⟩ := h
  refine ⟨_, ps_expr (pe_bm PySem.F.plainAttrs_list PySem.F.slot_list_append PySem.F.type_list_append mt_append (pe_var hN hv hd hcd) (pa_cons pa pa_nil hst) hbase hfew hline hst hplain) hs, fun σ H ρ er D w => ?_⟩
  unfold sApp at w
  cases hl : getL ρ i with
  | none =>
    rw [hl] at w
    exact w.elim
  | some ds =>
    rw [hl] at w
    obtain ⟨pp, xs, hs', hx, rx⟩ := er.lst m hl
    refine ⟨.ref pp, hs', sq_l hx, h σ H ρ er _ (ws_step er w fun d v H1 e sm r _ w1 => ?_)⟩
    by_cases hc : okLen (ds.length + 1) = true ∧ (la = true → imm d = true)
    · rw [if_pos hc] at w1
      have er1 := er.same sm
      have hx1 := sm _ _ hx
      have hz : xs.length < sizeLine := by
        have := of_decide_eq_true hc.1
        rw [rx.length]
        exact Nat.lt_of_lt_of_le (Nat.lt_of_succ_le this) (by decide)
      obtain ⟨er2, ev2⟩ := er1.putL m hl hs' hx1 ((rx.same sm).append (.cons (rp_lk r hc.2) .nil))
      exact ⟨pp, xs, v, rfl, rfl, hx1, hz, w1 σ _ er2 ev2⟩
    · rw [if_neg hc] at w1
      exact w1.elim
/-- x.append(y.pop(e)) -/
def popAt (ρ : Rho) (j : Nat) (d : PyData) : Option (PyData × List PyData) := match getL ρ j, d with
  | some es, .int n => if okLen es.length = true then (match ixN es.length n with
    | some k => (match es[k]? with | some y => some (y, es.eraseIdx k) | none => none)
    | none => none) else none
  | _, _ => none
theorem popAt_some {j : Nat} {d y : PyData} {es' : List PyData} (h : popAt ρ j d = some (y, es')) : ∃ es n k, getL ρ j = some es ∧ d = .int n ∧ okLen es.length = true ∧ ixN es.length n = some k ∧ es[k]? = some y ∧ es' = es.eraseIdx k := by
  unfold popAt at h
  split at h
  · rename_i es n he
    split at h
    · rename_i hz
      split at h
      · rename_i k hk
        split at h
        · rename_i y' hy
          cases h
          exact ⟨es, n, k, by assumption, rfl, hz, hk, hy, rfl⟩
        · cases h
      · cases h
    · cases h
  · cases h
theorem rpop_ok {j : Nat} {pp : Addr} {xs : List V} {es : List PyData} {n : Int} {k : Nat} {y : PyData} {S : Addr → Prop} {Q : VK} (hx : H pp = some (.lst xs)) (rx : RpA X.K H S xs es) (hz : okLen es.length = true) (hk : ixN es.length n = some k) (hy : es[k]? = some y)
    (h : ∀ v, Rp X.K H S v y → xs[k]? = some v → Q v (upd H pp (.lst (xs.eraseIdx k)))) : rPopAt (.ref pp) [.int n] H Q := by
  have hlen := rx.length
  rw [← hlen] at hk hz
  obtain ⟨h1, h2, h3, h4⟩ := ixN_seq hk
  obtain ⟨v, hv, rv⟩ := rx.get' hy
  have := of_decide_eq_true hz
  exact ⟨pp, xs, n, k, v, rfl, rfl, hx, by omega, by omega, h1, hv, h v rv hv⟩
def sAppPop (i j : Nat) (f : Rho → Re PyData) : Rho → Sr := fun ρ => match getL ρ i, getL ρ j with
  | some ds, some _ => (f ρ).st ρ fun d => match popAt ρ j d with
    | some (y, es') => if okLen (ds.length + 1) = true ∧ i ≠ j then .nx ((ρ.set j (some (.list es'))).set i (some (.list (ds ++ [y])))) else .bad
    | none => .bad
  | _, _ => .bad
theorem getL_set {i j : Nat} (h : i ≠ j) {d : Option PyData} : getL (ρ.set j d) i = getL ρ i := by
  unfold getL
  rw [List.getElem?_set_ne (Ne.symm h)]
theorem ds_appPop {i j : Nat} {x y : Str} {p1 p2 p3 q1 q2 q3 : Pos} (m : M i = true) (mj : M j = true) (h : DE X M F E la fa a f) (hN : X.N[i]? = some x := by rfl) (hv : Vis X.env.scope x := by first | exact Or.inl rfl | exact Or.inr (Or.inl rfl) | exact Or.inr (Or.inr rfl)) (hd : (x == ("__debug__" : Str)) = false := by decide)
    (hcd : (x == ("__classdict__" : Str)) = false := by decide)
    (hNy : X.N[j]? = some y := by rfl) (hvy : Vis X.env.scope y := by first | exact Or.inl rfl | exact Or.inr (Or.inl rfl) | exact Or.inr (Or.inr rfl)) (hdy : (y == ("__debug__" : Str)) = false := by decide)
    (hcdy : (y == ("__classdict__" : Str)) = false := by decide)
    (hs : swapsWith (.Call (.Attribute (.Name x p1) "append" p2) [.Call (.Attribute (.Name y q1) "pop" q2) [a] [] q3] [] p3) none pos.line X.env = pure false := by rfl)
    (hbase : attributeBase (.Name x p1) "append" X.env (eval (.Name x p1) X.env) = eval (.Name x p1) X.env := by rfl)
    (hfew : ((backTo p3 (starEach (Expr.Call (.Attribute (.Name y q1) "pop" q2) [a] [] q3 :: []) X.env)).all (fun x => !x.1) && (backToKw p3 (keywordEach [] X.env)).all (fun x => x.1.isSome)
      && decide ((Expr.Call (.Attribute (.Name y q1) "pop" q2) [a] [] q3 :: ([] : List Expr)).length + ([] : List Keyword).length + (if ([] : List Keyword).isEmpty then 0 else 1) < 30)) = true := by rfl)
    (hline : (p2.endLine == p3.line) = true := by rfl) (hst : starEach (Expr.Call (.Attribute (.Name y q1) "pop" q2) [a] [] q3 :: []) X.env = (false, eval (.Call (.Attribute (.Name y q1) "pop" q2) [a] [] q3) X.env) :: starEach [] X.env := by rfl) (hplain : (backTo p3 (starEach [] X.env)).any (·.1) = false := by rfl)
    (hbase2 : attributeBase (.Name y q1) "pop" X.env (eval (.Name y q1) X.env) = eval (.Name y q1) X.env := by rfl)
    (hfew2 : ((backTo q3 (starEach (a :: []) X.env)).all (fun x => !x.1) && (backToKw q3 (keywordEach [] X.env)).all (fun x => x.1.isSome)
      && decide ((a :: ([] : List Expr)).length + ([] : List Keyword).length + (if ([] : List Keyword).isEmpty then 0 else 1) < 30)) = true := by rfl)
    (hline2 : (q2.endLine == q3.line) = true := by rfl) (hst2 : starEach (a :: []) X.env = (false, eval a X.env) :: starEach [] X.env := by rfl) (hplain2 : (backTo q3 (starEach [] X.env)).any (·.1) = false := by rfl) :
    DS X M F E (.Expr (.Call (.Attribute (.Name x p1) "append" p2) [.Call (.Attribute (.Name y q1) "pop" q2) [a] [] q3] [] p3) pos) (sAppPop i j f) := by
  obtain ⟨t, pa, h⟩ := h
  refine ⟨_, ps_expr (pe_bm PySem.F.plainAttrs_list PySem.F.slot_list_append PySem.F.type_list_append mt_append (pe_var hN hv hd hcd)
    (pa_cons (pe_bm PySem.F.plainAttrs_list PySem.F.slot_list_pop PySem.F.type_list_pop mt_popAt (pe_var hNy hvy hdy hcdy) (pa_cons pa pa_nil hst2) hbase2 hfew2 hline2 hst2 hplain2) pa_nil hst) hbase hfew hline hst hplain) hs, fun σ H ρ er D w => ?_⟩
  unfold sAppPop at w
  cases hl : getL ρ i with
  | none =>
    rw [hl] at w
    exact w.elim
  | some ds =>
    cases hl2 : getL ρ j with
    | none =>
      rw [hl, hl2] at w
      exact w.elim
    | some es =>
      rw [hl, hl2] at w
      obtain ⟨pp, xs, hs', hx, rx⟩ := er.lst m hl
      obtain ⟨qq, ys, hs2, hy, ry⟩ := er.lst mj hl2
      refine ⟨.ref pp, hs', sq_l hx, .ref qq, hs2, sq_l hy, h σ H ρ er _ (ws_step er w fun d v H1 e sm r _ w1 => ?_)⟩
      cases hp : popAt ρ j d with
      | none =>
        rw [hp] at w1
        exact w1.elim
      | some z =>
        obtain ⟨y0, es'⟩ := z
        rw [hp] at w1
        have w1 : WS X M F E σ H1 ρ (if okLen (ds.length + 1) = true ∧ i ≠ j then .nx ((ρ.set j (some (.list es'))).set i (some (.list (ds ++ [y0])))) else .bad) D := w1
        by_cases hc : okLen (ds.length + 1) = true ∧ i ≠ j
        · rw [if_pos hc] at w1
          obtain ⟨es2, n, k, g1, rfl, g2, g3, g4, rfl⟩ := popAt_some hp
          rw [hl2] at g1
          cases g1
          cases r
          have er1 := er.same sm
          refine rpop_ok (X := X) (j := j) (sm _ _ hy) (ry.same sm) g2 g3 g4 fun v rv hv' => ?_
          obtain ⟨er2, ev2⟩ := er1.putL mj hl2 hs2 (sm _ _ hy) ((ry.same sm).erase k)
          have hl3 : getL (ρ.set j (some (.list (es.eraseIdx k)))) i = some ds := by rw [getL_set hc.2]; exact hl
          have ne : pp ≠ qq := fun z => hc.2 (er.ap i j _ _ pp m mj (getL_some hl) (getL_some hl2) hs' (by rw [z]; exact hs2))
          obtain ⟨pp', xs', hs3, hx3, rx3⟩ := er2.lst m hl3
          rw [hs'] at hs3
          cases hs3
          have hx3' := hx3
          rw [upd_ne ne, sm _ _ hx] at hx3'
          cases hx3'
          have hz : xs.length < sizeLine := by
            have := of_decide_eq_true hc.1
            rw [rx.length]
            exact Nat.lt_of_lt_of_le (Nat.lt_of_succ_le this) (by decide)
          have rv' : Rp X.K (upd H1 qq (.lst (ys.eraseIdx k))) (RS M F σ (ρ.set j (some (.list (es.eraseIdx k)))) false) v y0 := rv.keep (Evo.kp er1 ev2) fun a u x q n => Evo.rs ev2 a u x q n
          obtain ⟨er4, ev4⟩ := er2.putL m hl3 hs' hx3 (rx3.append (.cons rv' .nil))
          exact ⟨pp, xs, v, rfl, rfl, hx3, hz, w1 σ _ er4 (ev2.trans ev4)⟩
        · rw [if_neg hc] at w1
          exact w1.elim
/-- x.pop(e) as a statement -/
def sPop (j : Nat) (f : Rho → Re PyData) : Rho → Sr := fun ρ => match getL ρ j with
  | some _ => (f ρ).st ρ fun d => match popAt ρ j d with
    | some (_, es') => .nx (ρ.set j (some (.list es')))
    | none => .bad
  | none => .bad
theorem ds_pop {j : Nat} {y : Str} {q1 q2 q3 : Pos} (mj : M j = true) (h : DE X M F E la fa a f) 
    (hNy : X.N[j]? = some y := by rfl) (hvy : Vis X.env.scope y := by first | exact Or.inl rfl | exact Or.inr (Or.inl rfl) | exact Or.inr (Or.inr rfl)) (hdy : (y == ("__debug__" : Str)) = false := by decide)
    (hcdy : (y == ("__classdict__" : Str)) = false := by decide)
    (hs : swapsWith (.Call (.Attribute (.Name y q1) "pop" q2) [a] [] q3) none pos.line X.env = pure false := by rfl)
    (hbase2 : attributeBase (.Name y q1) "pop" X.env (eval (.Name y q1) X.env) = eval (.Name y q1) X.env := by rfl)
    (hfew2 : ((backTo q3 (starEach (a :: []) X.env)).all (fun x => !x.1) && (backToKw q3 (keywordEach [] X.env)).all (fun x => x.1.isSome)
      && decide ((a :: ([] : List Expr)).length + ([] : List Keyword).length + (if ([] : List Keyword).isEmpty then 0 else 1) < 30)) = true := by rfl)
    (hline2 : (q2.endLine == q3.line) = true := by rfl) (hst2 : starEach (a :: []) X.env = (false, eval a X.env) :: starEach [] X.env := by rfl) (hplain2 : (backTo q3 (starEach [] X.env)).any (·.1) = false := by rfl) :
    DS X M F E (.Expr (.Call (.Attribute (.Name y q1) "pop" q2) [a] [] q3) pos) (sPop j f) := by
  obtain ⟨t, pa, h⟩ := h
  refine ⟨_, ps_expr (pe_bm PySem.F.plainAttrs_list PySem.F.slot_list_pop PySem.F.type_list_pop mt_popAt (pe_var hNy hvy hdy hcdy) (pa_cons pa pa_nil hst2) hbase2 hfew2 hline2 hst2 hplain2) hs, fun σ H ρ er D w => ?_⟩
  unfold sPop at w
  cases hl2 : getL ρ j with
  | none =>
    rw [hl2] at w
    exact w.elim
  | some es =>
    rw [hl2] at w
    obtain ⟨qq, ys, hs2, hy, ry⟩ := er.lst mj hl2
    refine ⟨.ref qq, hs2, sq_l hy, h σ H ρ er _ (ws_step er w fun d v H1 e sm r _ w1 => ?_)⟩
    cases hp : popAt ρ j d with
    | none =>
      rw [hp] at w1
      exact w1.elim
    | some z =>
      obtain ⟨y0, es'⟩ := z
      rw [hp] at w1
      have w1 : WS X M F E σ H1 ρ (.nx (ρ.set j (some (.list es')))) D := w1
      obtain ⟨es2, n, k, g1, rfl, g2, g3, g4, rfl⟩ := popAt_some hp
      rw [hl2] at g1
      cases g1
      cases r
      have er1 := er.same sm
      refine rpop_ok (X := X) (j := j) (sm _ _ hy) (ry.same sm) g2 g3 g4 fun v rv hv' => ?_
      obtain ⟨er2, ev2⟩ := er1.putL mj hl2 hs2 (sm _ _ hy) ((ry.same sm).erase k)
      exact w1 σ _ er2 ev2
/-- x[e] = v, x a list of the frame's own -/
def sPut (i : Nat) (lk : Bool) (f g : Rho → Re PyData) : Rho → Sr := fun ρ => (f ρ).st ρ fun d => (match getL ρ i with
  | some ds => (g ρ).st ρ fun e => (match e with
    | .int n => (match ixN ds.length n with
      | some k => if (lk = true → imm d = true) then .nx (ρ.set i (some (.list (ds.set k d)))) else .bad
      | none => .bad)
    | _ => .bad)
  | none => .bad)
theorem ds_put {i : Nat} {x : Str} {p1 p2 : Pos} (m : M i = true) (h : DE X M F E la fa a f) (hg : DE X M F E lb fb b g) (hN : X.N[i]? = some x := by rfl) (hv : Vis X.env.scope x := by first | exact Or.inl rfl | exact Or.inr (Or.inl rfl) | exact Or.inr (Or.inr rfl)) (hd : (x == ("__debug__" : Str)) = false := by decide)
    (hcd : (x == ("__classdict__" : Str)) = false := by decide)
    (hs : swapsWithSole [.Subscript (.Name x p1) b p2] a pos.line X.env = pure false := by rfl) (hw : swappedStores [.Subscript (.Name x p1) b p2] a X.env = pure none := by rfl)
    (ha : ∀ v, assign (.Subscript (.Name x p1) b p2) X.env v = (do
      let ov ← holding [v] (eval (.Name x p1) X.env)
      let iv ← holding [v, ov] (eval b X.env)
      standAt p2
      holding [v, ov, iv] (setItem ov iv v)
      release [v, ov, iv] []) := by intro _; rfl) :
    DS X M F E (.Assign [.Subscript (.Name x p1) b p2] a pos) (sPut i la f g) := by
  obtain ⟨t, pa, h⟩ := h
  obtain ⟨t2, pb, h2⟩ := hg
  refine ⟨_, ps_asg pa (pg_sub (pe_var hN hv hd hcd) pb set_list ha) hs hw, fun σ H ρ er D w => ?_⟩
  unfold sPut at w
  refine h σ H ρ er _ (ws_step er w fun d v H1 e sm r _ w1 => ?_)
  cases hl : getL ρ i with
  | none =>
    rw [hl] at w1
    exact w1.elim
  | some ds =>
    rw [hl] at w1
    have er1 := er.same sm
    obtain ⟨pp, xs, hs', hx, rx⟩ := er1.lst m hl
    refine ⟨.ref pp, hs', h2 σ H1 ρ er1 _ (ws_step er1 w1 fun d2 v2 H2 e2 sm2 r2 _ w2 => ?_)⟩
    cases r2 with
    | int n =>
      have w2 : WS X M F E σ H2 ρ (match ixN ds.length n with
      | some k => if (la = true → imm d = true) then .nx (ρ.set i (some (.list (ds.set k d)))) else .bad
      | none => .bad) D := w2
      cases hk : ixN ds.length n with
      | none =>
        rw [hk] at w2
        exact w2.elim
      | some k =>
        rw [hk] at w2
        have w2 : WS X M F E σ H2 ρ (if (la = true → imm d = true) then .nx (ρ.set i (some (.list (ds.set k d)))) else .bad) D := w2
        by_cases hc : la = true → imm d = true
        · rw [if_pos hc] at w2
          have er2 := er1.same sm2
          have rv : Rp X.K H2 (RS M F σ ρ false) v d := rp_lk (r.same sm2) hc
          obtain ⟨er3, ev3⟩ := er2.putL m hl hs' (sm2 _ _ hx) (RpA.set rv k (rx.same sm2))
          exact ⟨pp, xs, n, k, rfl, rfl, sm2 _ _ hx, by rw [rx.length]; exact hk, w2 σ _ er3 ev3⟩
        · rw [if_neg hc] at w2
          exact w2.elim
    | bl _ => exact w2.elim
    | non => exact w2.elim
    | str _ => exact w2.elim
    | tup _ _ => exact w2.elim
    | lst _ _ _ => exact w2.elim
    | scr _ _ => exact w2.elim
    | dic _ _ _ _ => exact w2.elim
    | dit _ _ _ _ => exact w2.elim
    | dif _ _ _ => exact w2.elim
    | rng _ => exact w2.elim
    | dct _ _ _ _ => exact w2.elim
end
end Pu

set_option Elab.async false
set_option linter.all false
set_option maxRecDepth 100000
set_option maxHeartbeats 2000000
namespace Pu
open PySem PySem.Spec PyProof.Rows L2
variable [TabL]

/-! ### targets -/
theorem wipe_set {σ : L2.St} {i : Nat} {x y : Option V} : ∀ vs : List Nat, (wipe (σ.set i x) vs).set i y = (wipe σ vs).set i y
  | [] => by
    show (σ.set i x).set i y = σ.set i y
    rw [List.set_set]
  | v :: vs => by
    show ((wipe (σ.set i x) vs).set v none).set i y = ((wipe σ vs).set v none).set i y
    by_cases h : v = i
    · subst h
      rw [List.set_set, List.set_set]
      exact wipe_set vs
    · rw [List.set_comm _ _ h, wipe_set vs, List.set_comm _ _ (Ne.symm h)]
theorem wipe_mem {σ : L2.St} {i : Nat} {x : Option V} : ∀ {vs : List Nat}, i ∈ vs → wipe (σ.set i x) vs = wipe σ vs
  | v :: vs, h => by
    show (wipe (σ.set i x) vs).set v none = (wipe σ vs).set v none
    by_cases hv : v = i
    · subst hv
      exact wipe_set vs
    · rw [wipe_mem ((List.mem_cons.mp h).resolve_left fun e => hv e.symm)]
def DG (X : Cx) (M : Nat → Bool) (F : Fx) (tg : Expr) (ts : List Nat) (g : PyData → Rho → Option Rho) : Prop :=
  ∃ t : TG, PG X tg t ∧ ∀ σ H ρ v d ρ', ER X.K M F σ H ρ → Rp X.K H (RS M F σ ρ false) v d → g d ρ = some ρ' → ∀ Q : L2.St → Hp → Prop,
    (∀ σ', ER X.K M F σ' H ρ' → Evo M σ H ρ σ' H ρ' → (∀ vs, (∀ i ∈ ts, i ∈ vs) → wipe σ' vs = wipe σ vs) → (∀ a, OwnA M σ ρ a → OwnA M σ' ρ' a) → Q σ' H) → t v σ H Q
def DGs (X : Cx) (M : Nat → Bool) (F : Fx) (tg : List Expr) (ts : List Nat) (g : List PyData → Rho → Option Rho) : Prop :=
  ∃ t : TGs, PGs X tg t ∧ ∀ σ H ρ v d ρ', ER X.K M F σ H ρ → RpA X.K H (RS M F σ ρ false) v d → g d ρ = some ρ' → ∀ Q : L2.St → Hp → Prop,
    (∀ σ', ER X.K M F σ' H ρ' → Evo M σ H ρ σ' H ρ' → (∀ vs, (∀ i ∈ ts, i ∈ vs) → wipe σ' vs = wipe σ vs) → (∀ a, OwnA M σ ρ a → OwnA M σ' ρ' a) → Q σ' H) → t v σ H Q
section
variable {X : Cx} {M : Nat → Bool} {F : Fx} {E : L2.St → XK} {σ σ1 : L2.St} {ρ ρ1 : Rho} {H H' H1 : Hp} {D : Ends}
variable {st : Stmt} {rest : List Stmt} {s u : Rho → Sr} {la fa lb fb : Bool} {a b : Expr} {f g : Rho → Re PyData} {p : Rho → Re Bool} {pos : Pos}
def gSlot (i : Nat) : PyData → Rho → Option Rho := fun d ρ => some (ρ.set i (some d))
theorem dg_name (i : Nat) {x : Str} (m : M i = false) (hN : X.N.Nodup) (hi : X.N[i]? = some x := by rfl) (hx : Loc X.env.scope x := by first | exact Or.inl rfl | exact Or.inr rfl) (hf : X.fn x = true ∨ X.env.scope.names.lookup x = some .local := by first | exact .inl rfl | exact .inr rfl) :
    DG X M F (.Name x pos) [i] (gSlot i) := by
  refine ⟨_, pg_name hN hi hx hf, fun σ H ρ v d ρ' er r e Q k => ?_⟩
  cases e
  exact k _ (er.set m r) (fun a u q n _ => ⟨q, fun o => n ((own_set m).mp o)⟩) (fun vs h => wipe_mem (h i List.mem_cons_self)) fun a o => (own_set m).mpr o
def gNone : List PyData → Rho → Option Rho := fun ds ρ => match ds with | [] => some ρ | _ => none
def gMore (g : PyData → Rho → Option Rho) (h : List PyData → Rho → Option Rho) : List PyData → Rho → Option Rho := fun ds ρ => match ds with | d :: ds => (g d ρ).bind (h ds) | [] => none
theorem dgs_nil : DGs X M F [] [] gNone := by
  refine ⟨_, pgs_nil, fun σ H ρ v d ρ' er r e Q k => ?_⟩
  unfold gNone at e
  split at e
  · cases e
    cases r
    exact ⟨rfl, k σ er Evo.refl (fun _ _ => rfl) fun _ o => o⟩
  · cases e
theorem dgs_cons {e : Expr} {es : List Expr} {ts us : List Nat} {gg : PyData → Rho → Option Rho} {gs : List PyData → Rho → Option Rho} (h : DG X M F e ts gg) (hs : DGs X M F es us gs)
    (hq : (assignEach (e :: es) X.env).map (·.2) = assign e X.env :: (assignEach es X.env).map (·.2) := by rfl) : DGs X M F (e :: es) (ts ++ us) (gMore gg gs) := by
  obtain ⟨t, pt, h⟩ := h
  obtain ⟨t', pt', h'⟩ := hs
  refine ⟨_, pgs_cons pt pt' hq, fun σ H ρ v d ρ' er r e Q k => ?_⟩
  cases r with
  | nil => cases e
  | cons r1 r2 =>
    rename_i v vs d ds
    have e : (gg d ρ).bind (gs ds) = some ρ' := e
    obtain ⟨ρ1, e1, e2⟩ := Option.bind_eq_some_iff.mp e
    refine ⟨v, vs, rfl, h σ H ρ v d ρ1 er r1 e1 _ fun σ1 er1 ev1 w1 o1 => ?_⟩
    refine h' σ1 H ρ1 vs ds ρ' er1 (r2.keep (Evo.kp er ev1) (Evo.rs ev1)) e2 _ fun σ2 er2 ev2 w2 o2 => ?_
    exact k σ2 er2 (ev1.trans ev2) (fun vs hv => by rw [w2 vs fun i hi => hv i (List.mem_append_right _ hi), w1 vs fun i hi => hv i (List.mem_append_left _ hi)]) fun a o => o2 a (o1 a o)
/-- (a, b, ..): a tuple of as many -/
def gTupD (n : Nat) (g : List PyData → Rho → Option Rho) : PyData → Rho → Option Rho := fun d ρ => match d with | .tuple ds => if ds.length = n then g ds ρ else none | _ => none
theorem dg_tup {es : List Expr} {ts : List Nat} {k : Nat} {n : Nat} {gs : List PyData → Rho → Option Rho} (hc : X.calm = true) (h : DGs X M F es ts gs) (hn : (assignEach es X.env).length = n := by rfl) (hst : (assignEach es X.env).findIdx? (·.1) = none := by rfl) :
    DG X M F (.Tuple es k pos) ts (gTupD n gs) := by
  obtain ⟨t, pt, h⟩ := h
  refine ⟨_, pg_tup hc pt hn hst, fun σ H ρ v d ρ' er r e Q kk => ?_⟩
  unfold gTupD at e
  cases r with
  | tup hs ha =>
    rename_i a xs ds
    have e : (if ds.length = n then gs ds ρ else none) = some ρ' := e
    by_cases hl : ds.length = n
    · rw [if_pos hl] at e
      exact ⟨a, xs, rfl, hs.sq, by rw [ha.length]; exact hl, h σ H ρ xs ds ρ' er ha e Q kk⟩
    · rw [if_neg hl] at e
      cases e
  | bl _ => cases e
  | non => cases e
  | int _ => cases e
  | str _ => cases e
  | lst _ _ _ => cases e
  | scr _ _ => cases e
  | dic _ _ _ _ => cases e
  | dit _ _ _ _ => cases e
  | dif _ _ _ => cases e
  | rng _ => cases e
  | dct _ _ _ _ => cases e
/-- .. a list of as many -/
def gLstD (n : Nat) (g : List PyData → Rho → Option Rho) : PyData → Rho → Option Rho := fun d ρ => match d with | .list ds => if ds.length = n then g ds ρ else none | _ => none
theorem dg_lst {es : List Expr} {ts : List Nat} {k : Nat} {n : Nat} {gs : List PyData → Rho → Option Rho} (hc : X.calm = true) (h : DGs X M F es ts gs) (hn : (assignEach es X.env).length = n := by rfl) (hst : (assignEach es X.env).findIdx? (·.1) = none := by rfl) :
    DG X M F (.Tuple es k pos) ts (gLstD n gs) := by
  obtain ⟨t, pt, h⟩ := h
  refine ⟨_, pg_lst hc pt hn hst, fun σ H ρ v d ρ' er r e Q kk => ?_⟩
  unfold gLstD at e
  cases r with
  | lst he hS ha =>
    rename_i a xs ds
    have e : (if ds.length = n then gs ds ρ else none) = some ρ' := e
    by_cases hl : ds.length = n
    · rw [if_pos hl] at e
      exact ⟨a, xs, rfl, SqL.of he, by rw [ha.length]; exact hl, h σ H ρ xs ds ρ' er ha e Q kk⟩
    · rw [if_neg hl] at e
      cases e
  | bl _ => cases e
  | non => cases e
  | int _ => cases e
  | str _ => cases e
  | tup _ _ => cases e
  | scr _ _ => cases e
  | dic _ _ _ _ => cases e
  | dit _ _ _ _ => cases e
  | dif _ _ _ => cases e
  | rng _ => cases e
  | dct _ _ _ _ => cases e
/-- target = e -/
def sAsg (lk : Bool) (g : PyData → Rho → Option Rho) (f : Rho → Re PyData) : Rho → Sr := fun ρ => (f ρ).st ρ fun d => if lk = true → imm d = true then (match g d ρ with | some ρ' => .nx ρ' | none => .bad) else .bad
theorem ds_asg {tg : Expr} {ts : List Nat} {gg : PyData → Rho → Option Rho} (hg : DG X M F tg ts gg) (h : DE X M F E la fa a f) (h1 : (assignEach [tg] X.env).map (·.2) = [assign tg X.env] := by rfl) (hs : swapsWithSole [tg] a pos.line X.env = pure false := by rfl) (hw : swappedStores [tg] a X.env = pure none := by rfl) : DS X M F E (.Assign [tg] a pos) (sAsg la gg f) := by
  obtain ⟨t, pa, h⟩ := h
  obtain ⟨t', pt, hg⟩ := hg
  refine ⟨_, ps_asg pa pt hs hw (h1 := h1), fun σ H ρ er D w => ?_⟩
  refine h σ H ρ er _ (ws_step er w fun d v H1 e sm r _ w1 => ?_)
  by_cases hd : la = true → imm d = true
  · rw [if_pos hd] at w1
    cases q : gg d ρ with
    | none =>
      rw [q] at w1
      exact w1.elim
    | some ρ' =>
      rw [q] at w1
      exact hg σ H1 ρ v d ρ' (er.same sm) (rp_lk r hd) q _ fun σ' er' ev _ _ => w1 σ' H1 er' ev
  · rw [if_neg hd] at w1
    exact w1.elim

/-! ### what a loop walks -/
def Walks (K : PySem.W.Frag) (S : Addr → Prop) (J : It) (ds : List PyData) (H1 : Hp) : Prop :=
  ∀ H2, Kp S H1 H2 → ∀ i, (∀ d, ds[i]? = some d → J.go i H2 ∧ ∀ x H', J.yld i H2 x H' → Same H2 H' ∧ Rp K H' S x d) ∧ (i = ds.length → J.stop i H2)
def WI (X : Cx) (M : Nat → Bool) (F : Fx) (E : L2.St → XK) (σ : L2.St) (ρ : Rho) (H : Hp) (r : Re (List PyData)) (R : It → Hp → Prop) : Prop :=
  match r with
  | .ok ds => ∀ J H', Same H H' → Walks X.K (fun a => RS M F σ ρ false a ∧ Nn H' a) J ds H' → R J H'
  | .ex c => ∀ C H', X.mg c = some (.ref C) → Same H H' → E σ (.ref C) none H'
  | .bad => False
def DI (X : Cx) (M : Nat → Bool) (F : Fx) (E : L2.St → XK) (tg it : Expr) (f : Rho → Re (List PyData)) : Prop := ∃ wi : TI, PI X tg it wi ∧ ∀ σ H ρ, ER X.K M F σ H ρ → ∀ R, WI X M F E σ ρ H (f ρ) R → wi σ H R
theorem wi_step {lk fr : Bool} {r : Re PyData} {R : It → Hp → Prop} {g : PyData → Re (List PyData)} {K : VK} (w : WI X M F E σ ρ H (r.andThen g) R)
    (h : ∀ d v H', r = .ok d → Same H H' → Rp X.K H' (RS M F σ ρ lk) v d → WI X M F E σ ρ H' (g d) R → K v H') : WE X M F E lk fr σ ρ H r K := by
  cases r with
  | ok d =>
    refine fun v H' s rr _ => h d v H' rfl s rr ?_
    have w : WI X M F E σ ρ H (g d) R := w
    cases q : g d with
    | ok z =>
      rw [q] at w
      exact fun J H2 s2 k => w J H2 (s.trans s2) k
    | ex c =>
      rw [q] at w
      exact fun C H2 m s2 => w C H2 m (s.trans s2)
    | bad =>
      rw [q] at w
      exact w
  | ex c => exact w
  | bad => exact w
theorem wi_stepA {lk : Bool} {r : Re (List PyData)} {R : It → Hp → Prop} {g : List PyData → Re (List PyData)} {K : List V → Hp → Prop} (w : WI X M F E σ ρ H (r.andThen g) R)
    (h : ∀ d v H', r = .ok d → Same H H' → RpA X.K H' (RS M F σ ρ lk) v d → WI X M F E σ ρ H' (g d) R → K v H') : WA X M F E lk σ ρ H r K := by
  cases r with
  | ok d =>
    refine fun v H' s rr => h d v H' rfl s rr ?_
    have w : WI X M F E σ ρ H (g d) R := w
    cases q : g d with
    | ok z =>
      rw [q] at w
      exact fun J H2 s2 k => w J H2 (s.trans s2) k
    | ex c =>
      rw [q] at w
      exact fun C H2 m s2 => w C H2 m (s.trans s2)
    | bad =>
      rw [q] at w
      exact w
  | ex c => exact w
  | bad => exact w
/-- over a list or a tuple that no own list is -/
def itL (d : PyData) : Re (List PyData) := match d with | .list ds => .ok ds | _ => .bad
def itT (d : PyData) : Re (List PyData) := match d with | .tuple ds => .ok ds | _ => .bad
def iOf (h : PyData → Re (List PyData)) (f : Rho → Re PyData) : Rho → Re (List PyData) := fun ρ => (f ρ).andThen h
theorem walk_l {S : Addr → Prop} {K : PySem.W.Frag} {aa : Addr} {xs : List V} {ds : List PyData} (e : H1 aa = some (.lst xs)) (hS : S aa) (r : RpA K H1 S xs ds) : Walks K (fun a => S a ∧ Nn H1 a) (Itl K aa) ds H1 := fun H2 kp i => by
  have e2 := kp aa _ e (.inl ⟨hS, _, e, by first | assumption | exact fun _ z => nomatch z⟩)
  refine ⟨fun d hd => ?_, fun hl => ⟨xs, SqL.of e2, by rw [r.length]; exact Nat.le_of_eq hl.symm⟩⟩
  obtain ⟨v, hv, rv⟩ := r.thru.get' hd
  refine ⟨⟨xs, v, SqL.of e2, hv⟩, fun x H' y => ?_⟩
  obtain ⟨rfl, y⟩ := y
  have := y xs (SqL.of e2)
  rw [hv] at this
  cases this
  exact ⟨Same.refl _, rv.keep kp fun _ _ x _ _ => x⟩
theorem walk_t {S : Addr → Prop} {K : PySem.W.Frag} {aa : Addr} {xs : List V} {ds : List PyData} (e : TupD K H1 aa xs) (r : RpA K H1 S xs ds) : Walks K (fun a => S a ∧ Nn H1 a) (Itt K aa) ds H1 := fun H2 kp i => by
  have e2 : SqT K H2 aa xs := (tupD_keep e fun u q m n => kp aa u q (.inr m) n).sq
  refine ⟨fun d hd => ?_, fun hl => ⟨xs, e2, by rw [r.length]; exact Nat.le_of_eq hl.symm⟩⟩
  obtain ⟨v, hv, rv⟩ := r.thru.get' hd
  refine ⟨⟨xs, v, e2, hv⟩, fun x H' y => ?_⟩
  obtain ⟨rfl, y⟩ := y
  have := y xs e2
  rw [hv] at this
  cases this
  exact ⟨Same.refl _, rv.keep kp fun _ _ x _ _ => x⟩
theorem di_list {tg : Expr} (h : DE X M F E false fa a f) : DI X M F E tg a (iOf itL f) := by
  obtain ⟨t, pa, h⟩ := h
  refine ⟨_, pi_list pa, fun σ H ρ er R w => ?_⟩
  refine h σ H ρ er _ (wi_step w fun d v H1 e sm r w1 => ?_)
  cases r with
  | lst e2 hS ha => exact ⟨_, rfl, ⟨_, SqL.of e2⟩, w1 _ H1 (Same.refl _) (walk_l e2 hS ha)⟩
  | bl _ => exact w1.elim
  | non => exact w1.elim
  | int _ => exact w1.elim
  | str _ => exact w1.elim
  | tup _ _ => exact w1.elim
  | scr _ _ => exact w1.elim
  | dic _ _ _ _ => exact w1.elim
  | dit _ _ _ _ => exact w1.elim
  | dif _ _ _ => exact w1.elim
  | rng _ => exact w1.elim
  | dct _ _ _ _ => exact w1.elim
theorem di_tup {tg : Expr} (h : DE X M F E false fa a f) : DI X M F E tg a (iOf itT f) := by
  obtain ⟨t, pa, h⟩ := h
  refine ⟨_, pi_tup pa, fun σ H ρ er R w => ?_⟩
  refine h σ H ρ er _ (wi_step w fun d v H1 e sm r w1 => ?_)
  cases r with
  | tup e2 ha => exact ⟨_, rfl, ⟨_, e2.sq⟩, w1 _ H1 (Same.refl _) (walk_t e2 ha)⟩
  | bl _ => exact w1.elim
  | non => exact w1.elim
  | int _ => exact w1.elim
  | str _ => exact w1.elim
  | lst _ _ _ => exact w1.elim
  | scr _ _ => exact w1.elim
  | dic _ _ _ _ => exact w1.elim
  | dit _ _ _ _ => exact w1.elim
  | dif _ _ _ => exact w1.elim
  | rng _ => exact w1.elim
  | dct _ _ _ _ => exact w1.elim
/-- range -/
def upFrom (lo : Int) (n : Nat) : List PyData := (List.range n).map fun (k : Nat) => PyData.int (lo + (k : Int))
def small62 (i : Int) : Bool := decide (-(2 ^ 62) ≤ i) && decide (i < 2 ^ 62)
def rg1 (ds : List PyData) : Re (List PyData) := match ds with | [.int j] => if small62 j = true then .ok (upFrom 0 j.toNat) else .bad | _ => .bad
def rg2 (ds : List PyData) : Re (List PyData) := match ds with | [.int i, .int j] => if small62 i = true ∧ small62 j = true then .ok (upFrom i (j - i).toNat) else .bad | _ => .bad
theorem walk_r {S : Addr → Prop} {K : PySem.W.Frag} {lo : Int} {n : Nat} : Walks K S (Itr lo n) (upFrom lo n) H1 := fun H2 kp i => by
  have hlen : (upFrom lo n).length = n := by simp [upFrom]
  refine ⟨fun d hd => ?_, fun hl => by rw [hlen] at hl; exact Nat.le_of_eq hl.symm⟩
  have hi : i < n := by
    have := getSome hd
    rwa [hlen] at this
  have hd' : d = .int (lo + i) := by
    unfold upFrom at hd
    rw [List.getElem?_map, List.getElem?_range hi] at hd
    exact (Option.some.inj hd).symm
  refine ⟨hi, fun x H' y => ?_⟩
  obtain ⟨rfl, rfl⟩ := y
  rw [hd']
  exact ⟨Same.refl _, .int _⟩
theorem di_rg1 {tg : Expr} {gs : Rho → Re (List PyData)} {pp : Pos} (hg : Gl X "range") (hm : X.mg "range" = none) (ha : DA X M F E la [a] gs) (hs : starEach [a] X.env = [(false, eval a X.env)] := by rfl)  :
    DI X M F E tg (.Call (.Name "range" pp) [a] [] pos) (fun ρ => (gs ρ).andThen rg1) := by
  obtain ⟨t, pa, ha⟩ := ha
  refine ⟨_, pi_range1 hg hm pa hs, fun σ H ρ er R w => ?_⟩
  refine ha σ H ρ er _ (wi_stepA w fun ds vs H1 e sm r w1 => ?_)
  unfold rg1 at w1
  split at w1
  · rename_i j
    cases r with
    | cons r1 r2 =>
      cases r1
      cases r2
      by_cases hj : small62 j = true
      · rw [if_pos hj] at w1
        unfold small62 at hj
        simp only [Bool.and_eq_true, decide_eq_true_eq] at hj
        exact ⟨j, rfl, hj.1, hj.2, w1 _ H1 (Same.refl _) walk_r⟩
      · rw [if_neg hj] at w1
        exact w1.elim
  · exact w1.elim
theorem di_rg2 {tg : Expr} {gs : Rho → Re (List PyData)} {pp : Pos} (hg : Gl X "range") (hm : X.mg "range" = none) (ha : DA X M F E la [a, b] gs) (hs : starEach [a, b] X.env = [(false, eval a X.env), (false, eval b X.env)] := by rfl) (hs2 : starEach [b] X.env = [(false, eval b X.env)] := by rfl) :
    DI X M F E tg (.Call (.Name "range" pp) [a, b] [] pos) (fun ρ => (gs ρ).andThen rg2) := by
  obtain ⟨t, pa, ha⟩ := ha
  refine ⟨_, pi_range2 hg hm pa hs hs2, fun σ H ρ er R w => ?_⟩
  refine ha σ H ρ er _ (wi_stepA w fun ds vs H1 e sm r w1 => ?_)
  unfold rg2 at w1
  split at w1
  · rename_i i j
    cases r with
    | cons r1 r2 =>
      cases r1
      cases r2 with
      | cons r2 r3 =>
        cases r2
        cases r3
        by_cases hj : small62 i = true ∧ small62 j = true
        · rw [if_pos hj] at w1
          unfold small62 at hj
          simp only [Bool.and_eq_true, decide_eq_true_eq] at hj
          exact ⟨i, j, rfl, ⟨hj.1.1, hj.1.2, hj.2.1, hj.2.2⟩, w1 _ H1 (Same.refl _) walk_r⟩
        · rw [if_neg hj] at w1
          exact w1.elim
  · exact w1.elim

/-! ### loops -/
def sLoop (g : PyData → Rho → Option Rho) (body : Rho → Sr) : List PyData → Rho → Sr
  | [], ρ => .nx ρ
  | d :: ds, ρ => match g d ρ with
    | none => .bad
    | some ρ1 => match body ρ1 with
      | .nx ρ2 => sLoop g body ds ρ2
      | .ct ρ2 => sLoop g body ds ρ2
      | .bk ρ2 => .nx ρ2
      | .rt d => .rt d
      | .ex c ρ2 => .ex c ρ2
      | .bad => .bad
def Re.stL : Re (List PyData) → Rho → (List PyData → Sr) → Sr
  | .ok d, _, k => k d
  | .ex c, ρ, _ => .ex c ρ
  | .bad, _, _ => .bad
def sFor (it : Rho → Re (List PyData)) (g : PyData → Rho → Option Rho) (body : Rho → Sr) : Rho → Sr := fun ρ => (it ρ).stL ρ fun ds => sLoop g body ds ρ
theorem drop_get {α : Type} {l : List α} {i : Nat} {x : α} (h : l[i]? = some x) : l.drop i = x :: l.drop (i + 1) := by
  obtain ⟨hi, e⟩ := List.getElem?_eq_some_iff.mp h
  rw [List.drop_eq_getElem_cons hi, e]
theorem ds_for {tg it : Expr} {ts : List Nat} {body : List Stmt} {its : Rho → Re (List PyData)} {gg : PyData → Rho → Option Rho} (hp : PassesOwn (model X.prog X.w) X.A X.env X.xe) (hc : X.calm = true) (hi : DI X M F E tg it its) (hg : DG X M F tg ts gg) (hb : DSs X M F E body s)
    (hs : ∀ x, foldedSetIterable it X.env x = pure x := by intro _; rfl) : DS X M F E (.For tg it body [] pos) (sFor its gg s) := by
  obtain ⟨wi, pi, hi⟩ := hi
  obtain ⟨t, pg, hg⟩ := hg
  obtain ⟨tb, pb, hb⟩ := hb
  refine ⟨_, ps_for hp hc pi pg pb hs, fun σ H ρ er D w => ?_⟩
  refine hi σ H ρ er _ ?_
  unfold sFor at w
  cases q : its ρ with
  | ex c =>
    rw [q] at w
    exact fun C H' m sm => w C σ H' m (er.same sm) (Evo.same sm)
  | bad =>
    rw [q] at w
    exact w
  | ok ds =>
    rw [q] at w
    refine fun J H1 sm wk => ?_
    have w : WS X M F E σ H ρ (sLoop gg s ds ρ) D := w
    have er1 := er.same sm
    have w1 := ws_evo (Evo.same sm) w
    refine ⟨fun i m σ' H' => m = ds.length - i ∧ i ≤ ds.length ∧ ∃ ρ', ER X.K M F σ' H' ρ' ∧ Evo M σ H1 ρ σ' H' ρ' ∧ WS X M F E σ' H' ρ' (sLoop gg s (ds.drop i) ρ') D, ⟨ds.length, by simp, Nat.zero_le _, ρ, er1, Evo.refl, w1⟩, ?_⟩
    rintro i m σ' H' ⟨rfl, hi', ρ', er', ev', w'⟩
    have kp : Kp (fun a => RS M F σ ρ false a ∧ Nn H1 a) H1 H' := ⟨fun a u e x n => (Evo.kp er1 ev').k a u e (x.elim (fun x => .inl x.1) .inr) n⟩
    by_cases hlt : i < ds.length
    · obtain ⟨go, yl⟩ := (wk H' kp i).1 _ (List.getElem?_eq_getElem hlt)
      refine .inr ⟨go, fun σ2 H2 => ds.length - (i + 1) = ds.length - (i + 1) ∧ i + 1 ≤ ds.length ∧ ∃ ρ2, ER X.K M F σ2 H2 ρ2 ∧ Evo M σ H1 ρ σ2 H2 ρ2 ∧ WS X M F E σ2 H2 ρ2 (sLoop gg s (ds.drop (i + 1)) ρ2) D, fun σ2 H2 x => ⟨ds.length - (i + 1), by omega, x⟩, fun x H2 y => ?_⟩
      obtain ⟨s2, rx⟩ := yl x H2 y
      rw [drop_get (List.getElem?_eq_getElem hlt)] at w'
      have w' : WS X M F E σ' H' ρ' (match gg ds[i] ρ' with
        | none => .bad
        | some ρ1 => match s ρ1 with
          | .nx ρ2 => sLoop gg s (ds.drop (i + 1)) ρ2
          | .ct ρ2 => sLoop gg s (ds.drop (i + 1)) ρ2
          | .bk ρ2 => .nx ρ2
          | .rt d => .rt d
          | .ex c ρ2 => .ex c ρ2
          | .bad => .bad) D := w'
      cases q1 : gg ds[i] ρ' with
      | none =>
        rw [q1] at w'
        exact w'.elim
      | some ρ1 =>
        rw [q1] at w'
        have er2 := er'.same s2
        have ev2 : Evo M σ H1 ρ σ' H2 ρ' := ev'.trans (Evo.same s2)
        have rx' : Rp X.K H2 (RS M F σ' ρ' false) x ds[i] := rx.keep (kp_same (Same.refl _)) fun a u z _ _ => by
          obtain ⟨u', hu', nhu'⟩ := z.2
          exact Evo.rs ev' a u' z.1 hu' nhu'
        refine hg σ' H2 ρ' x ds[i] ρ1 er2 rx' q1 _ fun σ3 er3 ev3 _ _ => ?_
        have w3 := ws_evo ((Evo.same s2).trans ev3) w'
        have w3 : WS X M F E σ3 H2 ρ1 (match s ρ1 with
          | .nx ρ2 => sLoop gg s (ds.drop (i + 1)) ρ2
          | .ct ρ2 => sLoop gg s (ds.drop (i + 1)) ρ2
          | .bk ρ2 => .nx ρ2
          | .rt d => .rt d
          | .ex c ρ2 => .ex c ρ2
          | .bad => .bad) D := w3
        have ev3' := ev2.trans ev3
        refine hb σ3 H2 ρ1 er3 _ ?_
        cases q2 : s ρ1 with
        | nx ρ2 =>
          rw [q2] at w3
          exact fun σ4 H4 er4 ev4 => ⟨rfl, hlt, ρ2, er4, ev3'.trans ev4, ws_evo ev4 w3⟩
        | ct ρ2 =>
          rw [q2] at w3
          exact fun σ4 H4 er4 ev4 => ⟨rfl, hlt, ρ2, er4, ev3'.trans ev4, ws_evo ev4 w3⟩
        | bk ρ2 =>
          rw [q2] at w3
          exact w3
        | rt d =>
          rw [q2] at w3
          exact w3
        | ex c ρ2 =>
          rw [q2] at w3
          exact w3
        | bad =>
          rw [q2] at w3
          exact w3
    · have e : i = ds.length := by omega
      subst e
      rw [List.drop_length] at w'
      exact .inl ⟨(wk H' kp _).2 rfl, w' σ' H' er' Evo.refl⟩
/-- while, at most n turns are looked at -/
def sWhile (p : Rho → Re Bool) (body : Rho → Sr) : Nat → Rho → Sr
  | 0, _ => .bad
  | n + 1, ρ => (p ρ).stT ρ fun b => if b = true then (match body ρ with
      | .nx ρ2 => sWhile p body n ρ2
      | .ct ρ2 => sWhile p body n ρ2
      | .bk ρ2 => .nx ρ2
      | .rt d => .rt d
      | .ex c ρ2 => .ex c ρ2
      | .bad => .bad) else .nx ρ
theorem ds_while {c : Expr} {body : List Stmt} (n : Nat) (hp : PassesOwn (model X.prog X.w) X.A X.env X.xe) (hc : DT X M F E c p) (hb : DSs X M F E body s) : DS X M F E (.While c body [] pos) (sWhile p s n) := by
  obtain ⟨tc, pc, hc⟩ := hc
  obtain ⟨tb, pb, hb⟩ := hb
  refine ⟨_, ps_while hp pc pb, fun σ H ρ er D w => ?_⟩
  refine ⟨fun m σ' H' => ∃ ρ', ER X.K M F σ' H' ρ' ∧ WS X M F E σ' H' ρ' (sWhile p s m ρ') D, ⟨n, ρ, er, w⟩, ?_⟩
  rintro m σ' H' ⟨ρ', er', w'⟩
  cases m with
  | zero => exact w'.elim
  | succ m =>
    refine hc σ' H' ρ' er' _ (ws_stepT er' (show WS X M F E σ' H' ρ' ((p ρ').stT ρ' _) D from w') fun b H1 e sm w1 => ?_)
    cases b with
    | false => exact w1 σ' H1 (er'.same sm) Evo.refl
    | true =>
      refine ⟨fun σ2 H2 => ∃ m', m' < m + 1 ∧ ∃ ρ2, ER X.K M F σ2 H2 ρ2 ∧ WS X M F E σ2 H2 ρ2 (sWhile p s m' ρ2) D, fun σ2 H2 x => x, ?_⟩
      refine hb σ' H1 ρ' (er'.same sm) _ ?_
      have w1 : WS X M F E σ' H1 ρ' (match s ρ' with
        | .nx ρ2 => sWhile p s m ρ2
        | .ct ρ2 => sWhile p s m ρ2
        | .bk ρ2 => .nx ρ2
        | .rt d => .rt d
        | .ex c ρ2 => .ex c ρ2
        | .bad => .bad) D := w1
      cases q2 : s ρ' with
      | nx ρ2 =>
        rw [q2] at w1
        exact fun σ4 H4 er4 ev4 => ⟨m, Nat.lt_succ_self _, ρ2, er4, ws_evo ev4 w1⟩
      | ct ρ2 =>
        rw [q2] at w1
        exact fun σ4 H4 er4 ev4 => ⟨m, Nat.lt_succ_self _, ρ2, er4, ws_evo ev4 w1⟩
      | bk ρ2 =>
        rw [q2] at w1
        exact w1
      | rt d =>
        rw [q2] at w1
        exact w1
      | ex c ρ2 =>
        rw [q2] at w1
        exact w1
      | bad =>
        rw [q2] at w1
        exact w1
end
end Pu

set_option Elab.async false
set_option linter.all false
set_option maxRecDepth 100000
set_option maxHeartbeats 2000000
namespace Pu
open PySem PySem.Spec PyProof.Rows L2
variable [TabL]

section
variable {X : Cx} {M : Nat → Bool} {F : Fx} {E : L2.St → XK} {σ σ1 : L2.St} {ρ ρ1 : Rho} {H H' H1 : Hp} {D : Ends}
variable {st : Stmt} {rest : List Stmt} {s u : Rho → Sr} {la fa lb fb : Bool} {a b : Expr} {f g : Rho → Re PyData} {p : Rho → Re Bool} {pos : Pos}

/-! ### one reading for all contexts -/
def canE (X : Cx) (M : Nat → Bool) (E : L2.St → XK) (lk fr : Bool) (f : Rho → Re PyData) : TE := fun σ H Q => ∃ (F : Fx) (ρ : Rho), ER X.K M F σ H ρ ∧ WE X M F E lk fr σ ρ H (f ρ) Q
def canT (X : Cx) (M : Nat → Bool) (E : L2.St → XK) (f : Rho → Re Bool) : TT := fun σ H Q => ∃ (F : Fx) (ρ : Rho), ER X.K M F σ H ρ ∧ WT X E σ H (f ρ) Q
def canG (X : Cx) (M : Nat → Bool) (ts : List Nat) (g : PyData → Rho → Option Rho) : TG := fun v σ H Q => ∃ (F : Fx) (ρ : Rho) (d : PyData) (ρ' : Rho), ER X.K M F σ H ρ ∧ Rp X.K H (RS M F σ ρ false) v d ∧ g d ρ = some ρ' ∧
    (∀ σ', ER X.K M F σ' H ρ' → Evo M σ H ρ σ' H ρ' → (∀ vs, (∀ i ∈ ts, i ∈ vs) → wipe σ' vs = wipe σ vs) → (∀ a, OwnA M σ ρ a → OwnA M σ' ρ' a) → Q σ' H)
theorem canE_ok {lk fr : Bool} {e : Expr} (h : ∀ F, DE X M F E lk fr e f) : PE X e (canE X M E lk fr f) := ⟨fun pins s σ H Q I ⟨F, ρ, er, w⟩ => by
  obtain ⟨t, pt, h⟩ := h F
  exact pt.run pins s σ H Q I (h σ H ρ er Q w)⟩
theorem canT_ok {e : Expr} (h : ∀ F, DT X M F E e p) : PT X e (canT X M E p) := ⟨fun pins s σ H Q I ⟨F, ρ, er, w⟩ => by
  obtain ⟨t, pt, h⟩ := h F
  exact pt.run pins s σ H Q I (h σ H ρ er Q w)⟩
theorem canG_ok {e : Expr} {ts : List Nat} {gg : PyData → Rho → Option Rho} (h : ∀ F, DG X M F e ts gg) : PG X e (canG X M ts gg) := ⟨fun pins s σ H v u Q I r ⟨F, ρ, d, ρ', er, rp, e, w⟩ => by
  obtain ⟨t, pt, h⟩ := h F
  exact pt.run pins s σ H v u Q I r (h σ H ρ v d ρ' er rp e Q w)⟩
/-- tests of a clause: none, or one -/
def DTs (X : Cx) (M : Nat → Bool) (E : L2.St → XK) (ifs : List Expr) (f : Rho → Re Bool) : Prop := PTs X ifs (canT X M E f)
def yesR : Rho → Re Bool := fun _ => .ok true
theorem dts_nil : DTs X M E [] yesR := ⟨fun pins s σ H Q I ⟨F, ρ, er, w⟩ => pts_nil.run pins s σ H Q I (w H (Same.refl _))⟩
theorem dts_one {c : Expr} (h : ∀ F, DT X M F E c p) : DTs X M E [c] p := pts_one (canT_ok h)

/-! ### list comprehensions -/
def E0s : L2.St → XK := fun _ _ _ _ => False
def wipeR (ρ : Rho) : List Nat → Rho
  | [] => ρ
  | v :: vs => (wipeR ρ vs).set v none
def lcGo (g : PyData → Rho → Option Rho) (t : Rho → Re Bool) (f : Rho → Re PyData) (ρ : Rho) : List PyData → Option (List PyData)
  | [] => some []
  | d :: ds => match g d ρ with
    | none => none
    | some ρ1 => match t ρ1 with
      | .ok true => (match f ρ1 with | .ok x => (match lcGo g t f ρ ds with | some xs => some (x :: xs) | none => none) | _ => none)
      | .ok false => lcGo g t f ρ ds
      | _ => none
def rLc (its : Rho → Re (List PyData)) (vs : List Nat) (g : PyData → Rho → Option Rho) (t : Rho → Re Bool) (f : Rho → Re PyData) : Rho → Re PyData := fun ρ => (its ρ).andThen fun ds => if okLen ds.length = true then (match lcGo g t f (wipeR ρ vs) ds with | some xs => .ok (.list xs) | none => .bad) else .bad
theorem ER.wipe1 (e : ER X.K M F σ H ρ) {i : Nat} (m : M i = false) : ER X.K M F (σ.set i none) H (ρ.set i none) ∧ ∀ lk, RS M F (σ.set i none) (ρ.set i none) lk = RS M F σ ρ lk := by
  have own : ∀ a, OwnA M (σ.set i none) (ρ.set i none) a ↔ OwnA M σ ρ a := fun a => by
    constructor
    · rintro ⟨j, x, mj, r, s⟩
      have hj : i ≠ j := fun z => by
        subst z
        rw [m] at mj
        cases mj
      rw [List.getElem?_set_ne hj] at r s
      exact ⟨j, x, mj, r, s⟩
    · rintro ⟨j, x, mj, r, s⟩
      have hj : i ≠ j := fun z => by
        subst z
        rw [m] at mj
        cases mj
      exact ⟨j, x, mj, by rw [List.getElem?_set_ne hj]; exact r, by rw [List.getElem?_set_ne hj]; exact s⟩
  have rs : ∀ lk, RS M F (σ.set i none) (ρ.set i none) lk = RS M F σ ρ lk := fun lk => by
    funext a
    unfold RS
    rw [propext (own a)]
  have back : ∀ {j : Nat} {d : PyData}, (ρ.set i none)[j]? = some (some d) → i ≠ j ∧ ρ[j]? = some (some d) := fun {j d} q => by
    have hj : i ≠ j := fun z => by
      subst z
      have hi := getSome q
      rw [List.length_set] at hi
      rw [List.getElem?_set_self hi] at q
      cases q
    rw [List.getElem?_set_ne hj] at q
    exact ⟨hj, q⟩
  refine ⟨⟨by rw [List.length_set, List.length_set]; exact e.len, e.old, e.new, e.tab, fun j d q mj => ?_, fun j d q mj => ?_, fun j k d e' p mj mk q1 q2 s1 s2 => ?_⟩, rs⟩
  · obtain ⟨hj, q⟩ := back q
    obtain ⟨v, s, r⟩ := e.im j d q mj
    rw [rs]
    exact ⟨v, by rw [List.getElem?_set_ne hj]; exact s, r⟩
  · obtain ⟨hj, q⟩ := back q
    obtain ⟨p, s, z, w⟩ := e.ow j d q mj
    rw [rs]
    exact ⟨p, by rw [List.getElem?_set_ne hj]; exact s, z, w⟩
  · obtain ⟨hj, q1⟩ := back q1
    obtain ⟨hk, q2⟩ := back q2
    rw [List.getElem?_set_ne hj] at s1
    rw [List.getElem?_set_ne hk] at s2
    exact e.ap j k d e' p mj mk q1 q2 s1 s2
theorem ER.wipe (e : ER X.K M F σ H ρ) : ∀ {vs : List Nat}, (∀ i ∈ vs, M i = false) → ER X.K M F (wipe σ vs) H (wipeR ρ vs) ∧ ∀ lk, RS M F (L2.wipe σ vs) (wipeR ρ vs) lk = RS M F σ ρ lk
  | [], _ => ⟨e, fun _ => rfl⟩
  | v :: vs, h => by
    obtain ⟨e1, r1⟩ := e.wipe (vs := vs) fun i hi => h i (List.mem_cons_of_mem _ hi)
    obtain ⟨e2, r2⟩ := e1.wipe1 (h v List.mem_cons_self)
    exact ⟨e2, fun lk => (r2 lk).trans (r1 lk)⟩
/-- within a block: the new list at Dd is no one's -/
def inBlk (F : Fx) (Dd : Addr) : Fx := ⟨fun _ => none, fun a => F.S0 a ∧ a ≠ Dd⟩
theorem ER.blk (e : ER X.K M F σ H ρ) {Dd : Addr} {o : HO} (hD : H Dd = none) (sm : Same H H') (hD' : H' Dd = some o) : ER X.K M (inBlk F Dd) σ H' ρ where
  len := e.len
  old := .nil (sm.tab e.tab)
  tab := sm.tab e.tab
  new := fun a q => ⟨e.new a (sm.free q), fun z => by
    rw [z, hD'] at q
    cases q⟩
  im := fun i d r m => by
    obtain ⟨v, s, r⟩ := e.im i d r m
    exact ⟨v, s, r.keep (kp_same sm) fun a u x q _ => ⟨⟨x.1, fun z => by
      rw [z, hD] at q
      cases q⟩, x.2⟩⟩
  ow := fun i d r m => by
    obtain ⟨p, s, z, w⟩ := e.ow i d r m
    obtain ⟨u, hu, _⟩ := w.there
    exact ⟨p, s, ⟨rfl, z.2, fun zz => by
      rw [zz, hD] at hu
      cases hu⟩, w.keep (kp_same sm) (fun a u x q _ => ⟨⟨x.1, fun z => by
      rw [z, hD] at q
      cases q⟩, x.2⟩) fun u q n => sm _ _ q n⟩
  ap := e.ap
theorem lc_run {ts vs : List Nat} {wi : TI} {its : Rho → Re (List PyData)} {gg : PyData → Rho → Option Rho} {tt : Rho → Re Bool} {lk fr : Bool} (hi : ∀ σ H ρ, ER X.K M F σ H ρ → ∀ R, WI X M F E σ ρ H (its ρ) R → wi σ H R)
    (hv : ∀ i ∈ vs, M i = false) (hts : ∀ i ∈ ts, i ∈ vs) (er : ER X.K M F σ H ρ) {Q : VK} (w : WE X M F E lk true σ ρ H (rLc its vs gg tt f ρ) Q) : tLc wi (canG X M ts gg) (canT X M E0s tt) (canE X M E0s lk fr f) vs σ H Q := by
  refine hi σ H ρ er _ ?_
  unfold rLc at w
  cases q : its ρ with
  | ex c =>
    rw [q] at w
    exact w
  | bad =>
    rw [q] at w
    exact w
  | ok ds =>
    rw [q] at w
    have w : WE X M F E lk true σ ρ H (if okLen ds.length = true then (match lcGo gg tt f (wipeR ρ vs) ds with | some xs => .ok (.list xs) | none => .bad) else .bad) Q := w
    by_cases hz : okLen ds.length = true
    · rw [if_pos hz] at w
      cases q2 : lcGo gg tt f (wipeR ρ vs) ds with
      | none =>
        rw [q2] at w
        exact w.elim
      | some tot =>
        rw [q2] at w
        refine fun J H1 sm wk Dd hD => ?_
        have er1 := er.same sm
        refine ⟨fun i m H2 => m = ds.length - i ∧ i ≤ ds.length ∧ Same H1 H2 ∧ ∃ acc accd rst, H2 Dd = some (.lst acc) ∧ RpA X.K H2 (fun a => RS M F σ ρ lk a ∧ a ≠ Dd) acc accd ∧ acc.length ≤ i ∧ lcGo gg tt f (wipeR ρ vs) (ds.drop i) = some rst ∧ tot = accd ++ rst,
          ⟨ds.length, by simp, Nat.zero_le _, same_new hD, [], [], tot, upd_same, .nil, Nat.le_refl _, q2, rfl⟩, ?_⟩
        rintro i m H2 ⟨rfl, hi', sm2, acc, accd, rst, e1, r1, l1, g1, t1⟩
        have kp : Kp (fun a => RS M F σ ρ false a ∧ Nn H1 a) H1 H2 := kp_same sm2
        by_cases hlt : i < ds.length
        · obtain ⟨go, yl⟩ := (wk H2 kp i).1 _ (List.getElem?_eq_getElem hlt)
          refine .inr ⟨go, fun H3 => ds.length - (i + 1) = ds.length - (i + 1) ∧ i + 1 ≤ ds.length ∧ Same H1 H3 ∧ ∃ acc accd rst, H3 Dd = some (.lst acc) ∧ RpA X.K H3 (fun a => RS M F σ ρ lk a ∧ a ≠ Dd) acc accd ∧ acc.length ≤ i + 1 ∧ lcGo gg tt f (wipeR ρ vs) (ds.drop (i + 1)) = some rst ∧ tot = accd ++ rst, fun H3 x => ⟨ds.length - (i + 1), by omega, x⟩, fun x H3 y => ?_⟩
          obtain ⟨s3, rx⟩ := yl x H3 y
          rw [drop_get (List.getElem?_eq_getElem hlt)] at g1
          have g1 : (match gg ds[i] (wipeR ρ vs) with
            | none => none
            | some ρ1 => match tt ρ1 with
              | .ok true => (match f ρ1 with | .ok x => (match lcGo gg tt f (wipeR ρ vs) (ds.drop (i + 1)) with | some xs => some (x :: xs) | none => none) | _ => none)
              | .ok false => lcGo gg tt f (wipeR ρ vs) (ds.drop (i + 1))
              | _ => none) = some rst := g1
          cases q3 : gg ds[i] (wipeR ρ vs) with
          | none =>
            rw [q3] at g1
            cases g1
          | some ρ1 =>
            rw [q3] at g1
            have g1 : (match tt ρ1 with
              | .ok true => (match f ρ1 with | .ok x => (match lcGo gg tt f (wipeR ρ vs) (ds.drop (i + 1)) with | some xs => some (x :: xs) | none => none) | _ => none)
              | .ok false => lcGo gg tt f (wipeR ρ vs) (ds.drop (i + 1))
              | _ => none) = some rst := g1
            obtain ⟨erw, rsw⟩ := er1.wipe (vs := vs) hv
            have s13 : Same H1 H3 := sm2.trans s3
            have e3 : H3 Dd = some (.lst acc) := s3 _ _ e1
            have erb := erw.blk hD s13 e3
            have rx' : Rp X.K H3 (RS M (inBlk F Dd) (wipe σ vs) (wipeR ρ vs) false) x ds[i] := rx.wide fun a z => by
              have := rsw false
              refine ⟨⟨z.1.1, fun zz => ?_⟩, ?_⟩
              · rw [zz] at z
                exact z.2.not hD
              · have z1 : RS M F (wipe σ vs) (wipeR ρ vs) false a := by
                  rw [this]
                  exact z.1
                exact z1.2
            refine ⟨inBlk F Dd, wipeR ρ vs, ds[i], ρ1, erb, rx', q3, fun σ4 er4 ev4 wp4 ow4 => ⟨?_, ?_⟩⟩
            · rw [wp4 vs hts]
              exact (show wipe (wipe σ vs) vs = wipe σ vs from by
                have : ∀ (l : List Nat) (τ : L2.St), (∀ i ∈ l, i < τ.length → τ[i]? = some none) → wipe τ l = τ := by
                  intro l
                  induction l with
                  | nil => intro τ _; rfl
                  | cons v l ih =>
                    intro τ h
                    show (wipe τ l).set v none = τ
                    rw [ih τ fun i hi => h i (List.mem_cons_of_mem _ hi)]
                    by_cases hv : v < τ.length
                    · have := h v List.mem_cons_self hv
                      obtain ⟨h1, h2⟩ := List.getElem?_eq_some_iff.mp this
                      rw [← h2, List.set_getElem_self]
                    · rw [List.set_eq_of_length_le (by omega)]
                refine this vs _ fun i hi hl => ?_
                have mem : ∀ (l : List Nat) (i : Nat), i ∈ l → i < (wipe σ l).length → (wipe σ l)[i]? = some none := by
                  intro l
                  induction l with
                  | nil => intro i h; cases h
                  | cons v l ih =>
                    intro i h hl
                    show ((wipe σ l).set v none)[i]? = some none
                    have hl' : i < (wipe σ l).length := by
                      have hl2 : i < ((wipe σ l).set v none).length := hl
                      rwa [List.length_set] at hl2
                    by_cases e : v = i
                    · subst e
                      rw [List.getElem?_set_self hl']
                    · rw [List.getElem?_set_ne e]
                      exact ih i ((List.mem_cons.mp h).resolve_left fun z => e z.symm) hl'
                exact mem vs i hi hl)
            · refine ⟨inBlk F Dd, ρ1, er4, ?_⟩
              cases q4 : tt ρ1 with
              | ex c =>
                rw [q4] at g1
                cases g1
              | bad =>
                rw [q4] at g1
                cases g1
              | ok bb =>
                rw [q4] at g1
                cases bb with
                | false =>
                  refine fun H5 s5 => ?_
                  show (if false = true then _ else _)
                  rw [if_neg Bool.false_ne_true]
                  exact ⟨rfl, hlt, s13.trans s5, acc, accd, rst, s5 _ _ e3, r1.same (s3.trans s5), by omega, g1, t1⟩
                | true =>
                  refine fun H5 s5 => ?_
                  show (if true = true then _ else _)
                  rw [if_pos rfl]
                  have g1 : (match f ρ1 with | .ok x => (match lcGo gg tt f (wipeR ρ vs) (ds.drop (i + 1)) with | some xs => some (x :: xs) | none => none) | _ => none) = some rst := g1
                  cases q5 : f ρ1 with
                  | ex c =>
                    rw [q5] at g1
                    cases g1
                  | bad =>
                    rw [q5] at g1
                    cases g1
                  | ok xd =>
                    rw [q5] at g1
                    have g1 : (match lcGo gg tt f (wipeR ρ vs) (ds.drop (i + 1)) with | some xs => some (xd :: xs) | none => none) = some rst := g1
                    cases q6 : lcGo gg tt f (wipeR ρ vs) (ds.drop (i + 1)) with
                    | none =>
                      rw [q6] at g1
                      cases g1
                    | some xs =>
                      rw [q6] at g1
                      have g1 : some (xd :: xs) = some rst := g1
                      cases g1
                      refine ⟨inBlk F Dd, ρ1, er4.same s5, ?_⟩
                      rw [q5]
                      refine fun v H6 s6 r6 _ => ?_
                      have e6 : H6 Dd = some (.lst acc) := s6 _ _ (s5 _ _ e3)
                      have acl : acc.length < sizeLine := by
                        have := of_decide_eq_true hz
                        exact Nat.lt_of_lt_of_le (show acc.length < 10001 by omega) (by decide)
                      refine ⟨acc, e6, acl, rfl, hlt, ((s13.trans s5).trans s6).put hD e6 plain_lst, acc ++ [v], accd ++ [xd], xs, upd_same, ?_, ?_, rfl, ?_⟩
                      · have kpD : Kp (fun a => RS M F σ ρ lk a ∧ a ≠ Dd) H6 (upd H6 Dd (.lst (acc ++ [v]))) := by
                          refine ⟨fun a u qa xa _ => ?_⟩
                          rw [upd_ne]
                          · exact qa
                          · intro za
                            subst za
                            rcases xa with xa | xa
                            · exact xa.2 rfl
                            · rw [e6] at qa
                              cases qa
                              exact xa trivial
                        have rA : RpA X.K H6 (fun a => RS M F σ ρ lk a ∧ a ≠ Dd) acc accd := r1.same ((s3.trans s5).trans s6)
                        have rV : Rp X.K H6 (fun a => RS M F σ ρ lk a ∧ a ≠ Dd) v xd := r6.wide fun a za => by
                          refine ⟨⟨za.1.1, fun zl => fun o => ?_⟩, za.1.2⟩
                          have rw0 := rsw false
                          -- an own address ahead is own in the block
                          obtain ⟨hh0, hs0, uu, hu⟩ := er1.own o
                          have nb : ¬ OwnA M (wipe σ vs) (wipeR ρ vs) a → False := fun nn => by
                            have : RS M F (wipe σ vs) (wipeR ρ vs) false a := ⟨hs0, fun _ => nn⟩
                            rw [rw0] at this
                            exact this.2 rfl o
                          refine za.2 zl ?_
                          by_cases ob : OwnA M (wipe σ vs) (wipeR ρ vs) a
                          · exact ow4 a ob
                          · exact (nb ob).elim
                        exact (rA.append (.cons rV .nil)).keep kpD fun _ _ x _ _ => x
                      · rw [List.length_append]
                        show acc.length + 1 ≤ i + 1
                        omega
                      · rw [t1, List.append_assoc]
                        rfl
        · have ei : i = ds.length := by omega
          subst ei
          rw [List.drop_length] at g1
          have g1 : some ([] : List PyData) = some rst := g1
          cases g1
          rw [List.append_nil] at t1
          subst t1
          refine .inl ⟨(wk H2 kp _).2 rfl, w (.ref Dd) H2 (sm.trans sm2) (.lst e1 ?_ (r1.wide fun a x => x.1)) fun _ => ⟨Dd, rfl, sm.free hD, .lst e1 r1⟩⟩
          exact er1.freshS _ hD
    · rw [if_neg hz] at w
      exact w.elim
end
end Pu

set_option Elab.async false
set_option linter.all false
set_option maxRecDepth 100000
set_option maxHeartbeats 2000000
namespace Pu
open PySem PySem.Spec PyProof.Rows L2
variable [TabL]

section
variable {X : Cx} {M : Nat → Bool} {F : Fx} {E : L2.St → XK} {σ σ1 : L2.St} {ρ ρ1 : Rho} {H H' H1 : Hp} {D : Ends}
variable {st : Stmt} {rest : List Stmt} {s u : Rho → Sr} {la fa lb fb lk fr : Bool} {a b : Expr} {f g : Rho → Re PyData} {p : Rho → Re Bool} {pos : Pos}
/-! ### comprehensions, as a value and given to a name -/
section
variable {elt tg iter : Expr} {ifs : List Expr} {scope : Scope} {own : List (Str × Nat)} {ts : List Nat} (vs : List Nat) {its : Rho → Re (List PyData)} {gg : PyData → Rho → Option Rho} {tt : Rho → Re Bool}
theorem de_lc (hc : X.calm = true) (hN : X.N.Nodup) (hi : DI X M F E tg iter its) (ok : BlkOk X.N X.env.scope scope own) (hv : ∀ i ∈ vs, M i = false)
    (hg : ∀ (s : Shared) (H : Hp) (C : Addr) (cl : List (Str × Addr)) (fp : List Addr) (F : Fx), DG (X.blk s H scope (compEnvC scope cl C X.env) fp) M F tg ts gg)
    (ht : ∀ (s : Shared) (H : Hp) (C : Addr) (cl : List (Str × Addr)) (fp : List Addr), DTs (X.blk s H scope (compEnvC scope cl C X.env) fp) M E0s ifs tt)
    (he : ∀ (s : Shared) (H : Hp) (C : Addr) (cl : List (Str × Addr)) (fp : List Addr) (F : Fx), DE (X.blk s H scope (compEnvC scope cl C X.env) fp) M F E0s lk fr elt f)
    (hvs : own.map (·.2) = vs := by rfl) (hts : ∀ i ∈ ts, i ∈ vs := by decide) (hs : ∀ x, foldedSetIterable iter X.env x = pure x := by intro _; rfl) :
    DE X M F E lk true (.ListComp elt [⟨tg, iter, ifs, 0⟩] scope pos) (rLc its vs gg tt f) := by
  subst hvs
  obtain ⟨wi, pw, hi⟩ := hi
  exact ⟨_, pe_lc (g := canG X M ts gg) (tt := canT X M E0s tt) (te := canE X M E0s lk fr f) hc hN pw ok (fun s H C cl fp => canG_ok (hg s H C cl fp)) (fun s H C cl fp => ht s H C cl fp) (fun s H C cl fp => canE_ok (he s H C cl fp)) hs, fun σ H ρ er Q w => lc_run hi hv hts er w⟩
/-- y = [..] on one row -/
theorem ds_setLc {i : Nat} {y : Str} {py spos : Pos} (m : M i = false) (hc : X.calm = true) (hN : X.N.Nodup) (hi : DI X M F E tg iter its) (ok : BlkOk X.N X.env.scope scope own) (hv : ∀ i ∈ vs, M i = false)
    (hg : ∀ (s : Shared) (H : Hp) (C : Addr) (cl : List (Str × Addr)) (fp : List Addr) (F : Fx), DG (X.blk s H scope (compEnvC scope cl C X.env) fp) M F tg ts gg)
    (ht : ∀ (s : Shared) (H : Hp) (C : Addr) (cl : List (Str × Addr)) (fp : List Addr), DTs (X.blk s H scope (compEnvC scope cl C X.env) fp) M E0s ifs tt)
    (he : ∀ (s : Shared) (H : Hp) (C : Addr) (cl : List (Str × Addr)) (fp : List Addr) (F : Fx), DE (X.blk s H scope (compEnvC scope cl C X.env) fp) M F E0s lk fr elt f)
    (hsw : swapsWith (.ListComp elt [⟨tg, iter, ifs, 0⟩] scope pos) (some (.Name y py)) spos.line X.env = pure true)
    (hy : X.N[i]? = some y := by rfl) (hyl : X.env.scope.names.lookup y = some .local := by rfl)
    (hvs : own.map (·.2) = vs := by rfl) (hts : ∀ i ∈ ts, i ∈ vs := by decide) (hs : ∀ x, foldedSetIterable iter X.env x = pure x := by intro _; rfl) :
    DS X M F E (.Assign [.Name y py] (.ListComp elt [⟨tg, iter, ifs, 0⟩] scope pos) spos) (sSet i lk (rLc its vs gg tt f)) := by
  subst hvs
  obtain ⟨wi, pw, hi⟩ := hi
  refine ⟨_, ps_setLc (g := canG X M ts gg) (tt := canT X M E0s tt) (te := canE X M E0s lk fr f) hc hN hy hyl hsw pw ok (fun s H C cl fp => canG_ok (hg s H C cl fp)) (fun s H C cl fp => ht s H C cl fp) (fun s H C cl fp => canE_ok (he s H C cl fp)) hs, fun σ H ρ er D w => ?_⟩
  refine lc_run (lk := lk) (fr := fr) (X := X) hi hv hts er ?_
  refine ws_step er w fun d v H1 e sm r _ w1 => ?_
  by_cases hd : lk = true → imm d = true
  · rw [if_pos hd] at w1
    exact w1 _ H1 ((er.same sm).set m (rp_lk r hd)) fun a u q n _ => ⟨q, fun o => n ((own_set m).mp o)⟩
  · rw [if_neg hd] at w1
    exact w1.elim
theorem ds_setOLc {i : Nat} {y : Str} {py spos : Pos} (m : M i = true) (hc : X.calm = true) (hN : X.N.Nodup) (hi : DI X M F E tg iter its) (ok : BlkOk X.N X.env.scope scope own) (hv : ∀ i ∈ vs, M i = false)
    (hg : ∀ (s : Shared) (H : Hp) (C : Addr) (cl : List (Str × Addr)) (fp : List Addr) (F : Fx), DG (X.blk s H scope (compEnvC scope cl C X.env) fp) M F tg ts gg)
    (ht : ∀ (s : Shared) (H : Hp) (C : Addr) (cl : List (Str × Addr)) (fp : List Addr), DTs (X.blk s H scope (compEnvC scope cl C X.env) fp) M E0s ifs tt)
    (he : ∀ (s : Shared) (H : Hp) (C : Addr) (cl : List (Str × Addr)) (fp : List Addr) (F : Fx), DE (X.blk s H scope (compEnvC scope cl C X.env) fp) M F E0s lk fr elt f)
    (hsw : swapsWith (.ListComp elt [⟨tg, iter, ifs, 0⟩] scope pos) (some (.Name y py)) spos.line X.env = pure true)
    (hy : X.N[i]? = some y := by rfl) (hyl : X.env.scope.names.lookup y = some .local := by rfl)
    (hvs : own.map (·.2) = vs := by rfl) (hts : ∀ i ∈ ts, i ∈ vs := by decide) (hs : ∀ x, foldedSetIterable iter X.env x = pure x := by intro _; rfl) :
    DS X M F E (.Assign [.Name y py] (.ListComp elt [⟨tg, iter, ifs, 0⟩] scope pos) spos) (sSetO i lk (rLc its vs gg tt f)) := by
  subst hvs
  obtain ⟨wi, pw, hi⟩ := hi
  refine ⟨_, ps_setLc (g := canG X M ts gg) (tt := canT X M E0s tt) (te := canE X M E0s lk fr f) hc hN hy hyl hsw pw ok (fun s H C cl fp => canG_ok (hg s H C cl fp)) (fun s H C cl fp => ht s H C cl fp) (fun s H C cl fp => canE_ok (he s H C cl fp)) hs, fun σ H ρ er D w => ?_⟩
  exact setO_run m (fun σ H ρ er Q w => lc_run (lk := lk) (fr := fr) (X := X) hi hv hts er w) er w
end

/-! ### a def -/
def runF (n m : Nat) (s : Rho → Sr) (ds : List PyData) : Re PyData := if ds.length = n then (match s (ds.map some ++ List.replicate (m - n) none) with
  | .nx _ => .ok .none
  | .rt d => .ok d
  | .ex c _ => .ex c
  | _ => .bad) else .bad
/-- where a body runs -/
structure Gd (X : Cx) (E : L2.St → XK) (k : Nat) : Prop where
  room : Room k X.A
  pass : ∀ σ, PassesAt (L2.CX X.prog X.w) X σ (E σ)
  tk : Takes X (fun cls d σ H => E σ cls d H)
  own : PassesOwn (model X.prog X.w) X.A X.env X.xe
  stk : X.stack = X.env :: X.outer
  frm : X.env.frame = some X.env.locals
theorem passF {X : Cx} (σ : L2.St) : PassesAt (L2.CX X.prog X.w) X σ (E0s σ) := fun _ _ _ _ _ _ c => by
  obtain ⟨_, _, _, _, _, _, _, _, _, _, _, _, z⟩ := c
  exact z.elim
end

section
variable {P : Program} {w : World} {K : PySem.W.Frag} {mg : Str → Option Value} {base : Heap} {x qual : Str} {params : Arguments} {body : List Stmt} {scope : Scope} {dvs : List V} {kws : List (Str × V)} {fA : Addr} {fd : FuncData}
theorem start_get {N : List Str} {vs : List V} {i : Nat} {v : V} (h : vs[i]? = some v) : (L2.start N vs)[i]? = some (some v) := by
  unfold L2.start
  have hi := getSome h
  rw [List.getElem?_append_left (by simpa using hi), List.getElem?_map, h]
  rfl
theorem funD_okC {cp : Value → Prop} {CX : CXT} {N ps : List Str} {k : Nat} {sp : Sp} (F : FunD K x qual params body scope dvs kws fA fd) (hc : ∀ (oc : Value) (od : Option Addr) (dV kV doc pm : Value) (an : Option Addr) (cdv ct : Value) (osl : Array (Option Value)), K.lookup fA = some ⟨oc, od, .func (PySem.W.fnOf x qual params body scope dV kV doc pm an cdv ct), osl⟩ → PySem.W.codeIn K cdv qual = true → cp cdv)
    (S : FnScope N ps scope) (len : ∀ vs H Q E, sp vs H Q E → vs.length = ps.length)
    (hbody : ∀ (cdv : Value), cp cdv → ∀ (A : Around) (outer : List Env) (s : Shared) (H : Hp) (vs : List V) (Q : VK) (E : XK), Room k (A.deeper (envOfC qual scope s.heap.objs.size fA cdv)) → sp vs H Q E →
      ∃ t, PSs (cxOf CX P w K mg base N qual scope fA cdv A outer s H E) body t ∧ t { nx := fun _ H' => Q .non H', rt := Q } (L2.start N vs) H) : FnOk P w K mg base CX (k + 1) fA fd ps sp := by
  obtain ⟨oc, od, dV, kV, doc, pm, an, cdv, ct, osl, rfl, lk, hcd, _, _⟩ := F.ex
  exact fn_of lk hcd S len fun A outer s H vs Q E hr hsp => hbody cdv (hc _ _ _ _ _ _ _ _ _ _ lk hcd) A outer s H vs Q E hr hsp
theorem def_okC {cp : Value → Prop} {N ps : List Str} {k : Nat} (Fd : FunD K x qual params body scope dvs kws fA fd) (hc : ∀ (oc : Value) (od : Option Addr) (dV kV doc pm : Value) (an : Option Addr) (cdv ct : Value) (osl : Array (Option Value)), K.lookup fA = some ⟨oc, od, .func (PySem.W.fnOf x qual params body scope dV kV doc pm an cdv ct), osl⟩ → PySem.W.codeIn K cdv qual = true → cp cdv)
    (S : FnScope N ps scope) (M : Nat → Bool) (hM : ∀ i, i < ps.length → M i = false) (s : Rho → Sr)
    (hb : ∀ (cdv : Value), cp cdv → ∀ (A : Around) (outer : List Env) (sh : Shared) (H : Hp) (Ex : XK), Gd (cxOf (L2.CX P w) P w K mg base N qual scope fA cdv A outer sh H Ex) (fun _ => Ex) k →
      ∀ F : Fx, DSs (cxOf (L2.CX P w) P w K mg base N qual scope fA cdv A outer sh H Ex) M F (fun _ => Ex) body s) :
    FnOk P w K mg base (L2.CX P w) (k + 1) fA fd ps (spD mg (runF ps.length N.length s) K) := by
  refine funD_okC Fd hc S (fun vs H Q E h => ?_) fun cdv hcd A outer sh H vs Q Ex hr h => ?_
  · obtain ⟨ds, Sx, r, _, h⟩ := h
    unfold runF at h
    by_cases hl : ds.length = ps.length
    · rw [r.length, hl]
    · rw [if_neg hl] at h
      exact h.elim
  · obtain ⟨ds, Sx, r, ⟨new, tb⟩, h⟩ := h
    unfold runF at h
    by_cases hl : ds.length = ps.length
    · rw [if_pos hl] at h
      have tk : Takes (cxOf (L2.CX P w) P w K mg base N qual scope fA cdv A outer sh H Ex) (fun cls d σ H => Ex cls d H) := takes_of rfl rfl rfl rfl
      have gd : Gd (cxOf (L2.CX P w) P w K mg base N qual scope fA cdv A outer sh H Ex) (fun _ => Ex) k := ⟨hr, fun σ => passAt tk σ, tk, passes_of rfl, rfl, rfl⟩
      obtain ⟨t, pt, ht⟩ := hb cdv hcd A outer sh H Ex gd ⟨H, Sx⟩
      refine ⟨t, pt, ?_⟩
      have hNl : ps.length ≤ N.length := by
        have := congrArg List.length S.pre
        rw [List.length_take] at this
        omega
      have r0 : ∀ i d, (ds.map some ++ List.replicate (N.length - ps.length) none : Rho)[i]? = some (some d) → i < ps.length ∧ ds[i]? = some d := fun i d q => by
        by_cases hi : i < ps.length
        · rw [List.getElem?_append_left (by rw [List.length_map, hl]; exact hi), List.getElem?_map] at q
          refine ⟨hi, ?_⟩
          cases e : ds[i]? with
          | none =>
            rw [e] at q
            cases q
          | some d' =>
            rw [e] at q
            cases q
            rfl
        · rw [List.getElem?_append_right (by rw [List.length_map, hl]; omega), List.getElem?_replicate] at q
          split at q <;> cases q
      have nown : ∀ a, ¬ OwnA M (L2.start N vs) (ds.map some ++ List.replicate (N.length - ps.length) none) a := fun a o => by
        obtain ⟨i, d, m, q, _⟩ := o
        rw [hM i (r0 i d q).1] at m
        cases m
      have er : ER K M ⟨H, Sx⟩ (L2.start N vs) H (ds.map some ++ List.replicate (N.length - ps.length) none) := by
        refine ⟨?_, Same.refl _, new, tb, fun i d q m => ?_, fun i d q m => ?_, fun i j d e p mi mj q1 q2 s1 s2 => ?_⟩
        · unfold L2.start
          rw [List.length_append, List.length_append, List.length_map, List.length_map, List.length_replicate, List.length_replicate, r.length, hl]
        · obtain ⟨hi, e⟩ := r0 i d q
          obtain ⟨v, hv, rv⟩ := r.get' e
          exact ⟨v, start_get hv, rv.wide fun a x => ⟨x, fun _ => nown a⟩⟩
        · rw [hM i (r0 i d q).1] at m
          cases m
        · rw [hM i (r0 i d q1).1] at mi
          cases mi
      refine ht _ H _ er _ ?_
      cases q : s (ds.map some ++ List.replicate (N.length - ps.length) none) with
      | nx ρ' =>
        rw [q] at h
        exact fun σ' H' er' _ => h .non H' er'.old .non
      | rt d =>
        rw [q] at h
        exact h
      | ex c ρ' =>
        rw [q] at h
        exact fun C σ' H' m er' _ => h C H' m er'.old
      | bk ρ' =>
        rw [q] at h
        exact h.elim
      | ct ρ' =>
        rw [q] at h
        exact h.elim
      | bad =>
        rw [q] at h
        exact h.elim
    · rw [if_neg hl] at h
      exact h.elim
theorem def_ok {N ps : List Str} {k : Nat} (Fd : FunD K x qual params body scope dvs kws fA fd) (S : FnScope N ps scope) (M : Nat → Bool) (hM : ∀ i, i < ps.length → M i = false) (s : Rho → Sr)
    (hb : ∀ (cdv : Value) (A : Around) (outer : List Env) (sh : Shared) (H : Hp) (Ex : XK), Gd (cxOf (L2.CX P w) P w K mg base N qual scope fA cdv A outer sh H Ex) (fun _ => Ex) k →
      ∀ F : Fx, DSs (cxOf (L2.CX P w) P w K mg base N qual scope fA cdv A outer sh H Ex) M F (fun _ => Ex) body s) :
    FnOk P w K mg base (L2.CX P w) (k + 1) fA fd ps (spD mg (runF ps.length N.length s) K) :=
  def_okC (cp := fun _ => True) Fd (fun _ _ _ _ _ _ _ _ _ _ _ _ => trivial) S M hM s fun cdv _ => hb cdv
end

section
variable {X : Cx} {M : Nat → Bool} {F : Fx} {E : L2.St → XK} {σ σ1 : L2.St} {ρ ρ1 : Rho} {H H' H1 : Hp} {D : Ends}
variable {st : Stmt} {rest : List Stmt} {s u : Rho → Sr} {la fa lb fb lk fr : Bool} {a b : Expr} {f g : Rho → Re PyData} {p : Rho → Re Bool} {pos : Pos}
/-! ### own errors -/
/-- an own error under ValueError, at C -/
structure ErrC (K : PySem.W.Frag) (mg : Str → Option Value) (c : Str) (C : Addr) : Prop where
  gC : mg c = some (.ref C)
  xP : PySem.W.excIn K C He.veBase "ValueError.__new__" = true
  kP : PySem.W.keepIn K (.ref C) = true
  bP : PySem.W.subIn K (.ref C) (.type "BaseException") = some true
  tP : PySem.W.typeIn K (.ref C) = some (.type "type")
  eP : PySem.W.exmOne K (.ref C) (.ref C) = some true
theorem ds_raise {c m : Str} {C : Addr} {j : Nat} {p1 p2 p3 : Pos} {k : Nat} (G : Gd X E k) (hc : X.calm = true) (Ec : ErrC X.K X.mg c C) (hg : Gl X c) (hdb : (c == ("__debug__" : Str)) = false := by decide) :
    DS X M F E (.Raise (some (.Call (.Name c p1) [.Constant (.str m) j p2] [] p3)) none pos) (fun ρ => .ex c ρ) :=
  ⟨_, ps_raise hc G.tk (pmk_own PySem.F.excBase_ValueError Ec.xP Ec.gC Ec.kP (raises_own Ec.bP Ec.tP) hg hdb), fun σ H ρ er D w => w C σ H Ec.gC er Evo.refl⟩
/-- one reading of a block for all contexts -/
def canS (X : Cx) (M : Nat → Bool) (E : L2.St → XK) (s : Rho → Sr) : TS := fun D σ H => ∃ (F : Fx) (ρ : Rho), ER X.K M F σ H ρ ∧ WS X M F E σ H ρ (s ρ) D
theorem canS_ok {b : List Stmt} (h : ∀ F, DSs X M F E b s) : PSs X b (canS X M E s) := ⟨fun pins sh σ H D I ⟨F, ρ, er, w⟩ => by
  obtain ⟨t, pt, h⟩ := h F
  exact pt.run pins sh σ H D I (h σ H ρ er D w)⟩
/-- try: body; except c: suite -/
def sTry (c : Str) (s u : Rho → Sr) : Rho → Sr := fun ρ => match s ρ with
  | .ex c' ρ' => if c' = c then (match u ρ' with | .ex _ _ => .bad | r => r) else .bad
  | r => r
theorem ds_try {c : Str} {C : Addr} {body suite : List Stmt} {b0 : Stmt} {np pos' : Pos} {k : Nat} (G : Gd X E k) (Ec : ErrC X.K X.mg c C) (hn : Gl X c ∧ (c == ("__debug__" : Str)) = false)
    (hb : ∀ (W : WX) (pn : List (Addr × Obj)) (xe : Value → Shared → Prop), Gd (X.tr pn xe) (fun σ cls d H => W cls d σ H) k → ∀ F, DSs (X.tr pn xe) M F (fun σ cls d H => W cls d σ H) body s)
    (hs : ∀ (a : Addr) (oe : Obj) (pn : List (Addr × Obj)) (F : Fx), DSs (X.suite a ((a, oe) :: pn)) M F E0s (b0 :: suite) u) :
    DS X M F E (.Try body [.ExceptHandler (some (.Name c np)) none (b0 :: suite) pos'] [] [] pos) (sTry c s u) := by
  refine ⟨_, ps_try_only (tb := fun W => canS X M (fun σ cls d H => W cls d σ H) s) (ts := fun _ _ _ => canS X M E0s u) G.stk G.frm ⟨hn.1, hn.2, .inl Ec.gC⟩ G.tk
    (fun W pn xe tk po => canS_ok (hb W pn xe ⟨G.room, fun σ => passAt tk σ, tk, po, G.stk, G.frm⟩)) (fun a oe cls d pn _ _ => canS_ok (hs a oe pn)), fun σ H ρ er D w => ?_⟩
  refine ⟨F, ρ, er, ?_⟩
  unfold sTry at w
  cases q : s ρ with
  | ex c' ρ' =>
    rw [q] at w
    have w2 : WS X M F E σ H ρ (if c' = c then (match u ρ' with | .ex _ _ => .bad | r => r) else .bad) D := w
    clear w
    by_cases hc : c' = c
    · rw [if_pos hc] at w2
      rw [hc]
      refine fun C' σ' H' m er' ev => ⟨true, ?_, fun _ a _ => ⟨F, ρ', er', ?_⟩, fun z => nomatch z⟩
      · rw [Ec.gC] at m
        cases m
        exact Ec.eP
      · have w1 := ws_evo ev w2
        revert w1
        generalize u ρ' = r
        intro w1
        cases r with
        | ex c2 ρ2 => exact w1.elim
        | nx ρ2 => exact w1
        | rt d => exact w1
        | bk ρ2 => exact w1
        | ct ρ2 => exact w1
        | bad => exact w1
    · rw [if_neg hc] at w2
      exact w2.elim
  | nx ρ' =>
    rw [q] at w
    exact w
  | rt d =>
    rw [q] at w
    exact w
  | bk ρ' =>
    rw [q] at w
    exact w
  | ct ρ' =>
    rw [q] at w
    exact w
  | bad =>
    rw [q] at w
    exact w
end
end Pu

set_option Elab.async false
set_option linter.all false
set_option maxRecDepth 100000
set_option maxHeartbeats 2000000
namespace Pu
open PySem PySem.Spec PyProof.Rows L2
variable [TabL]

/-! ### numbers -/
theorem SemB.int {K : PySem.W.Frag} {C : Int → Int → Prop} {v : Int → Int → V} {r : R2} {gg : PyData → PyData → Option PyData} (hr : ∀ i j H Q, C i j → Q (v i j) H → r (.int i) (.int j) H Q)
    (hg : ∀ d e z, gg d e = some z → ∃ i j, d = .int i ∧ e = .int j ∧ C i j ∧ ∀ H S, Rp K H S (v i j) z) : SemB K r false gg := fun S H x y d e z Q _ rx ry q k => by
  obtain ⟨i, j, rfl, rfl, c, rz⟩ := hg d e z q
  cases rx
  cases ry
  exact hr i j H Q c (k _ H (Same.refl H) (rz H S) fun z => nomatch z)
def oSub : PyData → PyData → Option PyData := fun d e => match d, e with | .int i, .int j => some (.int (i - j)) | _, _ => none
def mulOk (i j : Int) : Bool := decide (j.natAbs < 2 ^ 63) || decide (i.natAbs < 2 ^ 63) || decide (i.natAbs.log2 + j.natAbs.log2 < 1000000)
def oMul : PyData → PyData → Option PyData := fun d e => match d, e with | .int i, .int j => if mulOk i j = true then some (.int (i * j)) else none | _, _ => none
def divOk (j : Int) : Bool := decide (0 < j) && decide (j < 2 ^ 240)
def oDiv : PyData → PyData → Option PyData := fun d e => match d, e with | .int i, .int j => if divOk j = true then some (.int (i / j)) else none | _, _ => none
def oMod : PyData → PyData → Option PyData := fun d e => match d, e with | .int i, .int j => if 0 < j then some (.int (i % j)) else none | _, _ => none
def powOk (i j : Int) : Bool := decide (0 ≤ j) && decide (j ≤ 1000000) && decide (i.natAbs < 2 ^ 63)
def oPow : PyData → PyData → Option PyData := fun d e => match d, e with | .int i, .int j => if powOk i j = true then some (.int (i ^ j.toNat)) else none | _, _ => none
def oNeg : PyData → Option PyData := fun d => match d with | .int i => some (.int (-i)) | _ => none
def oLt : PyData → PyData → Option PyData := fun d e => match d, e with | .int i, .int j => some (.bool (decide (i < j))) | _, _ => none
def oLe : PyData → PyData → Option PyData := fun d e => match d, e with | .int i, .int j => some (.bool (decide (i ≤ j))) | _, _ => none
def oGt : PyData → PyData → Option PyData := fun d e => match d, e with | .int i, .int j => some (.bool (decide (j < i))) | _, _ => none
def oGe : PyData → PyData → Option PyData := fun d e => match d, e with | .int i, .int j => some (.bool (decide (j ≤ i))) | _, _ => none
section
variable {X : Cx} {K : PySem.W.Frag}
theorem ints2 {P : Int → Int → Option PyData} {d e z : PyData} (h : (match d, e with | .int i, .int j => P i j | _, _ => none) = some z) : ∃ i j, d = .int i ∧ e = .int j ∧ P i j = some z := by
  split at h
  · exact ⟨_, _, rfl, rfl, h⟩
  · cases h
theorem if_some {c : Prop} [Decidable c] {a z : PyData} (h : (if c then some a else none) = some z) : c ∧ z = a := by
  by_cases hc : c
  · rw [if_pos hc] at h
    exact ⟨hc, (Option.some.inj h).symm⟩
  · rw [if_neg hc] at h
    cases h
theorem s_sub : SemB K (rI0 fun i j => .int (i - j)) false oSub := SemB.int (C := fun _ _ => True) (v := fun i j => .int (i - j)) (fun i j H Q _ q => ⟨i, j, rfl, rfl, q⟩) fun d e z q => by
  obtain ⟨i, j, h1, h2, h3⟩ := ints2 q
  cases h3
  exact ⟨i, j, h1, h2, trivial, fun _ _ => .int _⟩
theorem s_mul : SemB K (fun x y H Q => rI CMul (fun i j => .int (i * j)) x y H Q ∨ rI CMulW (fun i j => .int (i * j)) x y H Q) false oMul :=
  SemB.int (C := fun i j => mulOk i j = true) (v := fun i j => .int (i * j)) (fun i j H Q c q => by
    unfold mulOk at c
    simp only [Bool.or_eq_true, decide_eq_true_eq] at c
    rcases c with (c | c) | c
    · exact .inl ⟨i, j, rfl, rfl, .inr (by omega), q⟩
    · exact .inl ⟨i, j, rfl, rfl, .inl (by omega), q⟩
    · exact .inr ⟨i, j, rfl, rfl, c, q⟩) fun d e z q => by
  obtain ⟨i, j, h1, h2, h3⟩ := ints2 q
  obtain ⟨h4, rfl⟩ := if_some h3
  exact ⟨i, j, h1, h2, h4, fun _ _ => .int _⟩
theorem s_div : SemB K (rI CDivW fun i j => .int (i / j)) false oDiv := SemB.int (C := fun _ j => divOk j = true) (v := fun i j => .int (i / j)) (fun i j H Q c q => by
    unfold divOk at c
    simp only [Bool.and_eq_true, decide_eq_true_eq] at c
    have hb : j.natAbs < 2 ^ 240 := by
      have h2 := c.2
      have h1 := c.1
      have e : (2 : Int) ^ 240 = ((2 ^ 240 : Nat) : Int) := by rw [Int.natCast_pow]; rfl
      rw [e] at h2
      omega
    exact ⟨i, j, rfl, rfl, wide_div c.1 hb (by decide) (by decide), q⟩) fun d e z q => by
  obtain ⟨i, j, h1, h2, h3⟩ := ints2 q
  obtain ⟨h4, rfl⟩ := if_some h3
  exact ⟨i, j, h1, h2, h4, fun _ _ => .int _⟩
theorem s_mod : SemB K (rI (fun _ j => 0 < j) fun i j => .int (i % j)) false oMod := SemB.int (C := fun _ j => 0 < j) (v := fun i j => .int (i % j)) (fun i j H Q c q => ⟨i, j, rfl, rfl, c, q⟩) fun d e z q => by
  obtain ⟨i, j, h1, h2, h3⟩ := ints2 q
  obtain ⟨h4, rfl⟩ := if_some h3
  exact ⟨i, j, h1, h2, h4, fun _ _ => .int _⟩
theorem s_pow : SemB K (rI CPow fun i j => .int (i ^ j.toNat)) false oPow := SemB.int (C := fun i j => powOk i j = true) (v := fun i j => .int (i ^ j.toNat)) (fun i j H Q c q => by
    unfold powOk at c
    simp only [Bool.and_eq_true, decide_eq_true_eq] at c
    exact ⟨i, j, rfl, rfl, ⟨c.1.1, c.1.2, Nat.lt_trans c.2 (by decide)⟩, q⟩) fun d e z q => by
  obtain ⟨i, j, h1, h2, h3⟩ := ints2 q
  obtain ⟨h4, rfl⟩ := if_some h3
  exact ⟨i, j, h1, h2, h4, fun _ _ => .int _⟩
theorem s_neg : SemU K (rU fun i => .int (-i)) false oNeg := fun S H x d z Q _ rx q k => by
  unfold oNeg at q
  split at q
  · cases q
    cases rx
    exact ⟨_, rfl, k _ H (Same.refl H) (.int _) fun z => nomatch z⟩
  · cases q
theorem s_lt : SemB K (rI0 fun i j => .bl (decide (i < j))) false oLt := SemB.int (C := fun _ _ => True) (v := fun i j => .bl (decide (i < j))) (fun i j H Q _ q => ⟨i, j, rfl, rfl, q⟩) fun d e z q => by
  obtain ⟨i, j, h1, h2, h3⟩ := ints2 q
  cases h3
  exact ⟨i, j, h1, h2, trivial, fun _ _ => .bl _⟩
theorem s_le : SemB K (rI0 fun i j => .bl (decide (i ≤ j))) false oLe := SemB.int (C := fun _ _ => True) (v := fun i j => .bl (decide (i ≤ j))) (fun i j H Q _ q => ⟨i, j, rfl, rfl, q⟩) fun d e z q => by
  obtain ⟨i, j, h1, h2, h3⟩ := ints2 q
  cases h3
  exact ⟨i, j, h1, h2, trivial, fun _ _ => .bl _⟩
theorem s_gt : SemB K (rI0 fun i j => .bl (decide (j < i))) false oGt := SemB.int (C := fun _ _ => True) (v := fun i j => .bl (decide (j < i))) (fun i j H Q _ q => ⟨i, j, rfl, rfl, q⟩) fun d e z q => by
  obtain ⟨i, j, h1, h2, h3⟩ := ints2 q
  cases h3
  exact ⟨i, j, h1, h2, trivial, fun _ _ => .bl _⟩
theorem s_ge : SemB K (rI0 fun i j => .bl (decide (j ≤ i))) false oGe := SemB.int (C := fun _ _ => True) (v := fun i j => .bl (decide (j ≤ i))) (fun i j H Q _ q => ⟨i, j, rfl, rfl, q⟩) fun d e z q => by
  obtain ⟨i, j, h1, h2, h3⟩ := ints2 q
  cases h3
  exact ⟨i, j, h1, h2, trivial, fun _ _ => .bl _⟩
theorem op_mulA : OpR X (binaryOp .Mult) (fun x y H Q => rI CMul (fun i j => .int (i * j)) x y H Q ∨ rI CMulW (fun i j => .int (i * j)) x y H Q) := op_mul.or op_mulW

/-! + of numbers, tuples, lists, texts -/
def oAdd : PyData → PyData → Option PyData := fun d e => match d, e with
  | .int i, .int j => some (.int (i + j))
  | .tuple xs, .tuple ys => if okLen (xs.length + ys.length) = true then some (.tuple (xs ++ ys)) else none
  | .list xs, .list ys => if okLen (xs.length + ys.length) = true then some (.list (xs ++ ys)) else none
  | .str a, .str b => if okLen (a.length + b.length) = true then some (.str (a ++ b)) else none
  | _, _ => none
abbrev rAddA (K : PySem.W.Frag) : R2 := fun x y H Q => rI0 (fun i j => .int (i + j)) x y H Q ∨ (rCatF K x y H Q ∨ (rCat x y H Q ∨ (∃ i j, x = .str i ∧ y = .str j ∧ i.length + j.length ≤ sizeLine ∧ Q (.str (i ++ j)) H)))
theorem op_addA : OpR X (binaryOp .Add) (rAddA X.K) := op_add.or (op_catF.or (op_cat.or op_add_str))
theorem frs_lst {S : Addr → Prop} {H : Hp} {p : Addr} {vs : List V} {ds : List PyData} (hp : H p = none) (r : RpA K H S vs ds) : Frs K S H (upd H p (.lst vs)) (.ref p) (.list ds) := frs_new (Same.refl H) hp r
theorem s_add : SemB K (rAddA K) false oAdd := fun S H x y d e z Q new rx ry q k => by
  unfold oAdd at q
  split at q
  · cases q
    cases rx
    cases ry
    exact .inl ⟨_, _, rfl, rfl, k _ H (Same.refl H) (.int _) fun z => nomatch z⟩
  · obtain ⟨hl, rfl⟩ := if_some q
    cases rx with
    | tup h1 r1 =>
      cases ry with
      | tup h2 r2 =>
        refine .inr (.inl ⟨_, _, _, _, rfl, rfl, h1.sq, h2.sq, by rw [r1.length, r2.length]; exact okLen_le hl, fun e => ?_, fun ne e => ?_, fun _ _ p o hp hd => ?_⟩)
        · subst e
          cases r1
          exact k _ H (Same.refl H) (.tup h2 r2) fun z => nomatch z
        · subst e
          cases r2
          rw [List.append_nil] at k
          exact k _ H (Same.refl H) (.tup h1 r1) fun z => nomatch z
        · exact k _ _ (same_new hp) (.tup (.inl ⟨o, upd_same, hd⟩) ((r1.append r2).same (same_new hp))) fun z => nomatch z
  · obtain ⟨hl, rfl⟩ := if_some q
    cases rx with
    | lst h1 s1 r1 =>
      cases ry with
      | lst h2 s2 r2 =>
        refine .inr (.inr (.inl ⟨_, _, _, _, rfl, rfl, h1, h2, by rw [r1.length, r2.length]; exact okLen_le hl, fun p hp => ?_⟩))
        exact k _ _ (same_new hp) (.lst upd_same (new p hp) ((r1.append r2).same (same_new hp))) fun z => nomatch z
  · obtain ⟨hl, rfl⟩ := if_some q
    cases rx
    cases ry
    exact .inr (.inr (.inr ⟨_, _, rfl, rfl, okLen_le hl, k _ H (Same.refl H) (.str _) fun z => nomatch z⟩))
  · cases q
/-- .. of lists alone: a new list -/
def oAddL : PyData → PyData → Option PyData := fun d e => match d, e with
  | .list xs, .list ys => if okLen (xs.length + ys.length) = true then some (.list (xs ++ ys)) else none
  | _, _ => none
theorem s_addL : SemB K rCat true oAddL := fun S H x y d e z Q new rx ry q k => by
  unfold oAddL at q
  split at q
  · obtain ⟨hl, rfl⟩ := if_some q
    cases rx with
    | lst h1 s1 r1 =>
      cases ry with
      | lst h2 s2 r2 =>
        refine ⟨_, _, _, _, rfl, rfl, h1, h2, by rw [r1.length, r2.length]; exact okLen_le hl, fun p hp => ?_⟩
        exact k _ _ (same_new hp) (.lst upd_same (new p hp) ((r1.append r2).same (same_new hp))) fun _ => frs_lst hp (r1.append r2)
  · cases q

/-! == and != of data -/
theorem Rp.dp {S : Addr → Prop} {H : Hp} : ∀ {d : PyData} {v : V}, Rp K H S v d → SeqAt.shaped d = true → Dp K H v d := by
  have key : (∀ {v : V} {d : PyData}, Rp K H S v d → d.canLay0 = true → Dp K H v d) ∧ (∀ {vs : List V} {ds : List PyData}, RpA K H S vs ds → PyData.canLayAll0 ds = true → DpAll K H vs ds) := by
    refine ⟨fun {v d} r => ?_, fun {vs ds} r => ?_⟩
    · exact Rp.rec (K := K) (H := H) (S := S) (motive_1 := fun v d _ => d.canLay0 = true → Dp K H v d) (motive_2 := fun vs ds _ => PyData.canLayAll0 ds = true → DpAll K H vs ds)
        (fun _ => .non) (fun b _ => .bl b) (fun i _ => .int i) (fun x _ => .str x) (fun h _ ih c => .tup h.sq (ih (by simpa [PyData.canLay0] using c))) (fun h _ _ ih c => .lst (SqL.of h) (ih (by simpa [PyData.canLay0] using c)))
        (fun _ _ _ c => by simp [PyData.canLay0] at c) (fun _ _ _ _ _ c => by simp [PyData.canLay0] at c) (fun _ _ _ _ _ c => by simp [PyData.canLay0] at c) (fun _ c => by simp [PyData.canLay0] at c) (fun _ _ _ _ _ c => by simp [PyData.canLay0] at c) (fun _ _ _ _ c => by simp [PyData.canLay0] at c) (fun _ => .nil)
        (fun _ _ ih1 ih2 c => by
          simp only [PyData.canLayAll0, Bool.and_eq_true] at c
          exact .cons (ih1 c.1) (ih2 c.2)) r
    · exact RpA.rec (K := K) (H := H) (S := S) (motive_1 := fun v d _ => d.canLay0 = true → Dp K H v d) (motive_2 := fun vs ds _ => PyData.canLayAll0 ds = true → DpAll K H vs ds)
        (fun _ => .non) (fun b _ => .bl b) (fun i _ => .int i) (fun x _ => .str x) (fun h _ ih c => .tup h.sq (ih (by simpa [PyData.canLay0] using c))) (fun h _ _ ih c => .lst (SqL.of h) (ih (by simpa [PyData.canLay0] using c)))
        (fun _ _ _ c => by simp [PyData.canLay0] at c) (fun _ _ _ _ _ c => by simp [PyData.canLay0] at c) (fun _ _ _ _ _ c => by simp [PyData.canLay0] at c) (fun _ c => by simp [PyData.canLay0] at c) (fun _ _ _ _ _ c => by simp [PyData.canLay0] at c) (fun _ _ _ _ c => by simp [PyData.canLay0] at c) (fun _ => .nil)
        (fun _ _ ih1 ih2 c => by
          simp only [PyData.canLayAll0, Bool.and_eq_true] at c
          exact .cons (ih1 c.1) (ih2 c.2)) r
  intro d v r c
  exact key.1 r (SeqAt.canLay_of_shaped c)
def oEq : PyData → PyData → Option PyData := fun d e => if SeqAt.shaped d = true ∧ SeqAt.shaped e = true then some (.bool (PyData.eqv d e)) else none
def oNe : PyData → PyData → Option PyData := fun d e => if SeqAt.shaped d = true ∧ SeqAt.shaped e = true then some (.bool (!PyData.eqv d e)) else none
theorem s_eq : SemB K (rEqD K) false oEq := fun S H x y d e z Q new rx ry q k => by
  obtain ⟨h, rfl⟩ := if_some q
  exact ⟨d, e, rx.dp h.1, ry.dp h.2, h.1, h.2, k _ H (Same.refl H) (.bl _) fun z => nomatch z⟩
theorem s_ne : SemB K (rNeD K) false oNe := fun S H x y d e z Q new rx ry q k => by
  obtain ⟨h, rfl⟩ := if_some q
  exact ⟨d, e, rx.dp h.1, ry.dp h.2, h.1, h.2, k _ H (Same.refl H) (.bl _) fun z => nomatch z⟩
/-! is None -/
def isNon : PyData → Bool
  | .none => true
  | _ => false
def oIsN : PyData → PyData → Option PyData := fun d e => match e with | .none => some (.bool (isNon d)) | _ => none
def oNotN : PyData → PyData → Option PyData := fun d e => match e with | .none => some (.bool (!isNon d)) | _ => none
theorem isNon_of {S : Addr → Prop} {H : Hp} {v : V} {d : PyData} (r : Rp K H S v d) : isNon d = decide (v = .non) := by
  cases r <;> rfl
theorem s_isN : SemB K (fun x y H Q => y = .non ∧ Q (.bl (decide (x = .non))) H) false oIsN := fun S H x y d e z Q new rx ry q k => by
  unfold oIsN at q
  split at q
  · cases q
    cases ry
    rw [isNon_of rx] at k
    exact ⟨rfl, k _ H (Same.refl H) (.bl _) fun z => nomatch z⟩
  · cases q
theorem s_notN : SemB K (fun x y H Q => y = .non ∧ Q (.bl (!decide (x = .non))) H) false oNotN := fun S H x y d e z Q new rx ry q k => by
  unfold oNotN at q
  split at q
  · cases q
    cases ry
    rw [isNon_of rx] at k
    exact ⟨rfl, k _ H (Same.refl H) (.bl _) fun z => nomatch z⟩
  · cases q
/-! in -/
def flatD : PyData → Bool
  | .none | .bool _ | .int _ | .str _ => true
  | _ => false
theorem flat_of {S : Addr → Prop} {H : Hp} {v : V} {d : PyData} (r : Rp K H S v d) (h : flatD d = true) : flatV v = true := by
  cases r with
  | non => rfl
  | bl _ => rfl
  | int _ => rfl
  | str _ => rfl
  | tup _ _ => cases h
  | lst _ _ _ => cases h
  | scr _ _ => cases h
  | dic _ _ _ _ => cases h
  | dit _ _ _ _ => cases h
  | dif _ _ _ => cases h
  | rng _ => cases h
  | dct _ _ _ _ => cases h
theorem eqV_of {S : Addr → Prop} {H : Hp} {v u : V} {d e : PyData} (r : Rp K H S v d) (t : Rp K H S u e) (hd : flatD d = true) (he : flatD e = true) : eqV v u = PyData.eqv d e := by
  cases r <;> first | cases hd | skip
  all_goals (cases t <;> first | cases he | skip)
  all_goals first
    | rfl
    | (simp only [eqV, PyData.eqv]; done)
    | (simp only [eqV, PyData.eqv]; rfl)
def inD (x : PyData) (ds : List PyData) : Bool := ds.any fun e => PyData.eqv e x
theorem inV_of {S : Addr → Prop} {H : Hp} {v : V} {d : PyData} (r : Rp K H S v d) (hd : flatD d = true) : ∀ {vs : List V} {ds : List PyData}, RpA K H S vs ds → ds.all flatD = true → inV v vs = inD d ds ∧ vs.all flatV = true
  | _, _, .nil, _ => ⟨rfl, rfl⟩
  | _, _, .cons (v := u) (vs := us) (d := e) (ds := es) h1 h2, h => by
    rw [List.all_cons, Bool.and_eq_true] at h
    obtain ⟨i1, i2⟩ := inV_of r hd h2 h.2
    refine ⟨?_, by rw [List.all_cons, flat_of h1 h.1, i2]; rfl⟩
    unfold inV inD at i1 ⊢
    rw [List.any_cons, List.any_cons, eqV_of h1 r h.1 hd, i1]
def oIn (neg : Bool) : PyData → PyData → Option PyData := fun d e => match e with
  | .list ds => if flatD d = true ∧ ds.all flatD = true then some (.bool (if neg then !inD d ds else inD d ds)) else none
  | .tuple ds => if flatD d = true ∧ ds.all flatD = true then some (.bool (if neg then !inD d ds else inD d ds)) else none
  | _ => none
theorem s_in (neg : Bool) : SemB K (rIn K neg) false (oIn neg) := fun S H x y d e z Q new rx ry q k => by
  unfold oIn at q
  split at q
  · obtain ⟨h, rfl⟩ := if_some q
    cases ry with
    | lst h1 s1 r1 =>
      obtain ⟨i1, i2⟩ := inV_of rx h.1 r1 h.2
      refine ⟨_, _, rfl, .inl (SqL.of h1), flat_of rx h.1, i2, ?_⟩
      rw [i1]
      exact k _ H (Same.refl H) (.bl _) fun z => nomatch z
  · obtain ⟨h, rfl⟩ := if_some q
    cases ry with
    | tup h1 r1 =>
      obtain ⟨i1, i2⟩ := inV_of rx h.1 r1 h.2
      refine ⟨_, _, rfl, .inr h1.sq, flat_of rx h.1, i2, ?_⟩
      rw [i1]
      exact k _ H (Same.refl H) (.bl _) fun z => nomatch z
  · cases q

/-! ### built-ins -/
def bLen : List PyData → Option PyData := fun ds => match ds with
  | [.list xs] => some (.int xs.length)
  | [.tuple xs] => some (.int xs.length)
  | [.dict [(.none, .list xs)]] => some (.int xs.length)
  | _ => none
theorem s_len : SemL K (fun xs H Q => ∃ p ys, xs = [.ref p] ∧ (SqL K H p ys ∨ SqT K H p ys) ∧ Q (.int ys.length) H) false bLen := fun S H xs ds z Q new r q k => by
  unfold bLen at q
  split at q
  · cases q
    cases r with
    | cons r1 r2 =>
      cases r2
      cases r1 with
      | lst h1 s1 r1 =>
        refine ⟨_, _, rfl, .inl (SqL.of h1), ?_⟩
        rw [r1.length]
        exact k _ H (Same.refl H) (.int _) fun z => nomatch z
  · cases q
    cases r with
    | cons r1 r2 =>
      cases r2
      cases r1 with
      | tup h1 r1 =>
        refine ⟨_, _, rfl, .inr h1.sq, ?_⟩
        rw [r1.length]
        exact k _ H (Same.refl H) (.int _) fun z => nomatch z
  · cases q
    cases r with
    | cons r1 r2 =>
      cases r2
      generalize e : PyData.dict [(PyData.none, PyData.list _)] = dd at r1
      cases r1 with
      | scr h1 r1 =>
        cases e
        refine ⟨_, _, rfl, .inl h1.sq, ?_⟩
        rw [r1.length]
        exact k _ H (Same.refl H) (.int _) fun z => nomatch z
      | dic _ _ _ _ => cases e
      | dit _ _ _ _ => cases e
      | dif _ _ _ => cases e
      | rng _ => cases e
      | dct _ _ _ _ => cases e
      | non => cases e
      | bl _ => cases e
      | int _ => cases e
      | str _ => cases e
      | tup _ _ => cases e
      | lst _ _ _ => cases e
  · cases q
def bInt : List PyData → Option PyData := fun ds => match ds with
  | [.int i] => some (.int i)
  | [.bool b] => some (.int (if b then 1 else 0))
  | _ => none
theorem s_int : SemL K (fun xs H Q => (∃ i, xs = [.int i] ∧ Q (.int i) H) ∨ ∃ k, xs = [.bl k] ∧ Q (.int (if k then 1 else 0)) H) false bInt := fun S H xs ds z Q new r q k => by
  unfold bInt at q
  split at q
  · cases q
    cases r with
    | cons r1 r2 =>
      cases r2
      cases r1
      exact .inl ⟨_, rfl, k _ H (Same.refl H) (.int _) fun z => nomatch z⟩
  · cases q
    cases r with
    | cons r1 r2 =>
      cases r2
      cases r1
      exact .inr ⟨_, rfl, k _ H (Same.refl H) (.int _) fun z => nomatch z⟩
  · cases q
def bAbs : List PyData → Option PyData := fun ds => match ds with
  | [.int i] => some (.int (if i < 0 then -i else i))
  | _ => none
theorem s_abs : SemL K (fun xs H Q => ∃ i, xs = [.int i] ∧ Q (.int (if i < 0 then -i else i)) H) false bAbs := fun S H xs ds z Q new r q k => by
  unfold bAbs at q
  split at q
  · cases q
    cases r with
    | cons r1 r2 =>
      cases r2
      cases r1
      exact ⟨_, rfl, k _ H (Same.refl H) (.int _) fun z => nomatch z⟩
  · cases q
def bMax2 : List PyData → Option PyData := fun ds => match ds with
  | [.int i, .int j] => some (.int (if j > i then j else i))
  | _ => none
theorem s_max2 : SemL K (fun xs H Q => ∃ i j, xs = [.int i, .int j] ∧ Q (.int (if j > i then j else i)) H) false bMax2 := fun S H xs ds z Q new r q k => by
  unfold bMax2 at q
  split at q
  · cases q
    cases r with
    | cons r1 r2 =>
      cases r2 with
      | cons r2 r3 =>
        cases r3
        cases r1
        cases r2
        exact ⟨_, _, rfl, k _ H (Same.refl H) (.int _) fun z => nomatch z⟩
  · cases q
def bMin2 : List PyData → Option PyData := fun ds => match ds with
  | [.int i, .int j] => some (.int (if j < i then j else i))
  | _ => none
theorem s_min2 : SemL K (fun xs H Q => ∃ i j, xs = [.int i, .int j] ∧ Q (.int (if j < i then j else i)) H) false bMin2 := fun S H xs ds z Q new r q k => by
  unfold bMin2 at q
  split at q
  · cases q
    cases r with
    | cons r1 r2 =>
      cases r2 with
      | cons r2 r3 =>
        cases r3
        cases r1
        cases r2
        exact ⟨_, _, rfl, k _ H (Same.refl H) (.int _) fun z => nomatch z⟩
  · cases q
def bList : List PyData → Option PyData := fun ds => match ds with
  | [.list xs] => some (.list xs)
  | [.tuple xs] => some (.list xs)
  | _ => none
theorem s_list : SemL K (fun xs H Q => ∃ p ys, xs = [.ref p] ∧ (SqL K H p ys ∨ SqT K H p ys) ∧ ∀ l, H l = none → Q (.ref l) (upd H l (.lst ys))) true bList := fun S H xs ds z Q new r q k => by
  unfold bList at q
  split at q
  · cases q
    cases r with
    | cons r1 r2 =>
      cases r2
      cases r1 with
      | lst h1 s1 r1 => exact ⟨_, _, rfl, .inl (SqL.of h1), fun p hp => k _ _ (same_new hp) (.lst upd_same (new p hp) (r1.same (same_new hp))) fun _ => frs_lst hp r1⟩
  · cases q
    cases r with
    | cons r1 r2 =>
      cases r2
      cases r1 with
      | tup h1 r1 => exact ⟨_, _, rfl, .inr h1.sq, fun p hp => k _ _ (same_new hp) (.lst upd_same (new p hp) (r1.same (same_new hp))) fun _ => frs_lst hp r1⟩
  · cases q
def bTuple : List PyData → Option PyData := fun ds => match ds with
  | [.list xs] => some (.tuple xs)
  | [.tuple xs] => some (.tuple xs)
  | _ => none
theorem s_tuple : SemL K (rTupOfF K) false bTuple := fun S H xs ds z Q new r q k => by
  unfold bTuple at q
  split at q
  · cases q
    cases r with
    | cons r1 r2 =>
      cases r2
      cases r1 with
      | lst h1 s1 r1 => exact ⟨_, _, rfl, .inl ⟨SqL.of h1, fun p o hp hd => k _ _ (same_new hp) (.tup (.inl ⟨o, upd_same, hd⟩) (r1.same (same_new hp))) fun z => nomatch z⟩⟩
  · cases q
    cases r with
    | cons r1 r2 =>
      cases r2
      cases r1 with
      | tup h1 r1 => exact ⟨_, _, rfl, .inr ⟨h1.sq, k _ H (Same.refl H) (.tup h1 r1) fun z => nomatch z⟩⟩
  · cases q
/-! numbers in a row -/
def asInts : List PyData → Option (List Int)
  | [] => some []
  | .int i :: ds => (asInts ds).map (i :: ·)
  | _ => none
theorem asInts_eq : ∀ {ds : List PyData} {ns : List Int}, asInts ds = some ns → ds = ns.map PyData.int
  | [], ns, h => by
    cases h
    rfl
  | d :: ds, ns, h => by
    cases d with
    | int i =>
      have h : (asInts ds).map (i :: ·) = some ns := h
      cases e : asInts ds with
      | none =>
        rw [e] at h
        cases h
      | some ms =>
        rw [e] at h
        cases h
        rw [asInts_eq e]
        rfl
    | none => cases h
    | bool _ => cases h
    | str _ => cases h
    | list _ => cases h
    | tuple _ => cases h
    | dict _ => cases h
theorem asInts_map : ∀ ns : List Int, asInts (ns.map PyData.int) = some ns
  | [] => rfl
  | n :: ns => by
    show (asInts (ns.map PyData.int)).map (n :: ·) = some (n :: ns)
    rw [asInts_map ns]
    rfl
def sumZ : List Int → Int := List.sum
def bSum : List PyData → Option PyData := fun ds => match ds with
  | [.list xs] => (asInts xs).map fun ns => .int ns.sum
  | _ => none
theorem s_sum : SemL K (rSum K) false bSum := fun S H xs ds z Q new r q k => by
  unfold bSum at q
  split at q
  · rename_i ys
    obtain ⟨ns, e, rfl⟩ := Option.map_eq_some_iff.mp q
    cases r with
    | cons r1 r2 =>
      cases r2
      cases r1 with
      | lst h1 s1 r1 =>
        rw [asInts_eq e] at r1
        rw [RpA.of_ints r1] at h1
        exact ⟨_, ns, rfl, SqL.of h1, k _ H (Same.refl H) (.int _) fun z => nomatch z⟩
  · cases q
/-- the least, the greatest -/
def minZ (n : Int) (ns : List Int) : Int := ns.foldl (fun a b => if b < a then b else a) n
def maxZ (n : Int) (ns : List Int) : Int := ns.foldl (fun a b => if a < b then b else a) n
theorem minZ_mem : ∀ (ns : List Int) (n : Int), minZ n ns ∈ n :: ns ∧ ∀ y ∈ n :: ns, minZ n ns ≤ y
  | [], n => ⟨List.mem_cons_self, fun y hy => by
    have : y = n := by simpa using hy
    rw [this]
    exact Int.le_refl _⟩
  | m :: ns, n => by
    obtain ⟨h1, h2⟩ := minZ_mem ns (if m < n then m else n)
    have e : minZ n (m :: ns) = minZ (if m < n then m else n) ns := rfl
    rw [e]
    have h3 := h2 _ List.mem_cons_self
    refine ⟨?_, fun y hy => ?_⟩
    · rcases List.mem_cons.mp h1 with z | z
      · rw [z]
        split
        · exact List.mem_cons_of_mem _ List.mem_cons_self
        · exact List.mem_cons_self
      · exact List.mem_cons_of_mem _ (List.mem_cons_of_mem _ z)
    · rcases List.mem_cons.mp hy with z | hy
      · rw [z]
        exact Int.le_trans h3 (by split <;> omega)
      · rcases List.mem_cons.mp hy with z | hy
        · rw [z]
          exact Int.le_trans h3 (by split <;> omega)
        · exact h2 y (List.mem_cons_of_mem _ hy)
theorem maxZ_mem : ∀ (ns : List Int) (n : Int), maxZ n ns ∈ n :: ns ∧ ∀ y ∈ n :: ns, y ≤ maxZ n ns
  | [], n => ⟨List.mem_cons_self, fun y hy => by
    have : y = n := by simpa using hy
    rw [this]
    exact Int.le_refl _⟩
  | m :: ns, n => by
    obtain ⟨h1, h2⟩ := maxZ_mem ns (if n < m then m else n)
    have e : maxZ n (m :: ns) = maxZ (if n < m then m else n) ns := rfl
    rw [e]
    have h3 := h2 _ List.mem_cons_self
    refine ⟨?_, fun y hy => ?_⟩
    · rcases List.mem_cons.mp h1 with z | z
      · rw [z]
        split
        · exact List.mem_cons_of_mem _ List.mem_cons_self
        · exact List.mem_cons_self
      · exact List.mem_cons_of_mem _ (List.mem_cons_of_mem _ z)
    · rcases List.mem_cons.mp hy with z | hy
      · rw [z]
        exact Int.le_trans (by split <;> omega) h3
      · rcases List.mem_cons.mp hy with z | hy
        · rw [z]
          exact Int.le_trans (by split <;> omega) h3
        · exact h2 y (List.mem_cons_of_mem _ hy)
def bMin : List PyData → Option PyData := fun ds => match ds with
  | [.list xs] => (match asInts xs with | some (n :: ns) => some (.int (minZ n ns)) | _ => none)
  | _ => none
def bMax : List PyData → Option PyData := fun ds => match ds with
  | [.list xs] => (match asInts xs with | some (n :: ns) => some (.int (maxZ n ns)) | _ => none)
  | _ => none
theorem s_min : SemL K (rMin K) false bMin := fun S H xs ds z Q new r q k => by
  unfold bMin at q
  split at q
  · split at q
    · rename_i ys n ns e
      cases q
      cases r with
      | cons r1 r2 =>
        cases r2
        cases r1 with
        | lst h1 s1 r1 =>
          rw [asInts_eq e] at r1
          rw [RpA.of_ints r1] at h1
          refine ⟨_, n :: ns, rfl, SqL.of h1, Nat.succ_pos _, fun m hm hle => ?_⟩
          obtain ⟨g1, g2⟩ := minZ_mem ns n
          have : m = minZ n ns := Int.le_antisymm (hle _ g1) (g2 _ hm)
          rw [this]
          exact k _ H (Same.refl H) (.int _) fun z => nomatch z
    · cases q
  · cases q
theorem s_max : SemL K (rMax K) false bMax := fun S H xs ds z Q new r q k => by
  unfold bMax at q
  split at q
  · split at q
    · rename_i ys n ns e
      cases q
      cases r with
      | cons r1 r2 =>
        cases r2
        cases r1 with
        | lst h1 s1 r1 =>
          rw [asInts_eq e] at r1
          rw [RpA.of_ints r1] at h1
          refine ⟨_, n :: ns, rfl, SqL.of h1, Nat.succ_pos _, fun m hm hle => ?_⟩
          obtain ⟨g1, g2⟩ := maxZ_mem ns n
          have : m = maxZ n ns := Int.le_antisymm (g2 _ hm) (hle _ g1)
          rw [this]
          exact k _ H (Same.refl H) (.int _) fun z => nomatch z
    · cases q
  · cases q
end
end Pu

set_option Elab.async false
set_option linter.all false
set_option maxRecDepth 100000
set_option maxHeartbeats 2000000
namespace Pu
open PySem PySem.Spec PyProof.Rows L2
variable [TabL]

/-! ### sorted of a list or a tuple of numbers -/
section
variable {prog : Program} {w : World} {A : Around} {E : Value → Shared → Prop} {s : Shared}
theorem sorted_seqO {l : Addr} {T : String} {o : Obj} {n : Nat} {vs : List Value} {ltv : Value → Value → Bool} {Q : Value → Shared → Prop} (O : SrtO.Swo ltv) (hT : T = "list" ∨ T = "tuple") (ho : s.heap.get? l = some o) (hc : o.cls = .type T) (hd : o.data = .seq vs.toArray n) (hz : vs.length ≤ sizeLine)
    (hS : 2 ≤ vs.length → ∀ (h1 : Heap) (a : Addr), SrtO.SortableO prog w A.in1.in1 { s with heap := h1 } a vs ltv)
    (h : ∀ (out : List Value) (h1 h2 : Heap) (e : Nat), SrtO.Srtd ltv out → SrtO.Stb ltv out vs → (∀ b ob, s.heap.get? b = some ob → h1.get? b = some ob) → h2.get? h1.objs.size = some { cls := .type "list", data := .seq out.toArray e } → (∀ b ob, h1.get? b = some ob → h2.get? b = some ob) → Q (.ref h1.objs.size) { s with heap := h2 }) :
    wpAny (model prog w) A (call (.builtin "sorted") [.ref l]) Q E s := by
  refine Calls.call_function_entry PyProof.Rows.kind_sorted PyProof.Rows.plain_sorted PyProof.Rows.entry_sorted (PyProof.Rows.args_sorted1 _) ?_
  unfold Builtin.«sorted»
  refine wpAny_bind (m := checkCount "sorted" 1 1 _) (wpAny_pure ?_)
  refine wpAny_bind (wpAny_collect_seq (items := vs.toArray) (n := n) l hT ho hc hd (fun h1 k1 => ?_) (by rw [List.size_toArray]; exact hz))
  refine wpAny_bind (wpAny_newList ?_ (by simpa using hz))
  have hoL : (h1.push (PyProof.Rows.seqObj "list" vs.toArray 0)).get? h1.objs.size = some (PyProof.Rows.seqObj "list" vs.toArray 0) := Heap.get?_push_size _ rfl
  have e0 : vs.toArray.toList = vs := by simp
  rw [e0]
  show wpAny _ _ _ _ _ { s with heap := h1.push (PyProof.Rows.seqObj "list" vs.toArray 0) }
  refine wpAny_bind (wpAny_holding (wpAny_call_entry PyProof.Rows.slot_list_sort ⟨_, hoL, rfl⟩ PyProof.Rows.entry_list_sort (SrtO.list_sort_ord O hoL hz (fun h2 => hS h2 _ _) fun out hs hb => ⟨_, rfl, ?_⟩) (PyProof.Rows.args_list_sort _)))
  obtain ⟨e, he⟩ := PyProof.Rows.sortedHeap_at (out := out.toArray) hoL
  refine wpAny_pure ⟨_, rfl, h out h1 _ e hs hb k1 he fun b ob q => ?_⟩
  have hb' := Heap.lt_size q
  rw [PyProof.Rows.sortedHeap_old (Nat.ne_of_lt hb') (by rw [PyProof.Rows.size_push']; exact Nat.lt_succ_of_lt hb')]
  exact Heap.get?_push_of_some _ q
end
section
variable {X : Cx} {K : PySem.W.Frag}
/-- sorted(x): x a list or a tuple of ints -/
def rSrt (K : PySem.W.Frag) : List V → Hp → VK → Prop := fun vs H Q => ∃ (a : Addr) (ns : List Int), vs = [V.ref a] ∧ (SqL K H a (ns.map V.int) ∨ SqT K H a (ns.map V.int)) ∧
  ∀ (ns' : List Int) (p : Addr), ns'.Perm ns → ns'.Pairwise (· ≤ ·) → H p = none → Q (.ref p) (upd H p (.lst (ns'.map V.int)))
theorem cr_srt : CallR X (.builtin "sorted") (rSrt X.K) := by
  intro pins s σ H vs us Q I r h
  obtain ⟨a, ns, rfl, hs, q⟩ := h
  rw [Vals.ref1 r]
  have fin : ∀ (T : String) (o : Obj) (n : Nat) (its : List Value), (T = "list" ∨ T = "tuple") → s.heap.get? a = some o → o.cls = .type T → o.data = .seq its.toArray n → Vals (ns.map V.int) its → (ns.map V.int).length ≤ sizeLine →
      wpAny (model X.prog X.w) X.A (call (.builtin "sorted") [.ref a]) (EP X pins σ Q) X.xe s := fun T o n its hT ho hc hd rv hz => by
    have hi := rv.ints
    refine sorted_seqO SrtO.swo_int hT ho hc hd (by rw [← rv.length]; exact hz) (fun h2 h1 a' => SrtO.ints_sortable hi h2) fun out h1 h2 e s1 s2 k1 he k2 => ?_
    obtain ⟨g1, g2, g3⟩ := SrtO.ints_out hi s1 s2
    have I1 : Inv X pins σ H { s with heap := h1 } := I.kept (t' := s.toks) k1
    have hl : ((out.map SrtO.iv).map V.int).length ≤ sizeLine := by
      rw [List.length_map, g2.length_eq]
      rw [List.length_map] at hz
      exact hz
    exact ⟨.ref _, upd H h1.objs.size (.lst ((out.map SrtO.iv).map V.int)), I1.laid (t' := s.toks) k2 (Nat.le_refl _) ⟨hl, out, e, vals_of_ints g1, he⟩, rfl, q _ _ g2 g3 (I1.hok.fresh (Nat.le_refl _))⟩
  rcases hs with hs | hs
  · obtain ⟨its, rv, ⟨o, n, ho, hc, _, hd⟩, hz⟩ := I.list hs
    exact fin "list" o n its (.inl rfl) ho hc hd rv hz
  · obtain ⟨its, rv, ⟨o, ho, hc, n, hd⟩, hz⟩ := I.tuple hs
    exact fin "tuple" o n its (.inr rfl) ho hc hd rv hz
def srtZ (ns : List Int) : List Int := ns.mergeSort fun a b => decide (a ≤ b)
theorem srtZ_perm (ns : List Int) : (srtZ ns).Perm ns := List.mergeSort_perm _ _
theorem srtZ_sorted (ns : List Int) : (srtZ ns).Pairwise (· ≤ ·) := by
  have := List.pairwise_mergeSort (le := fun (a b : Int) => decide (a ≤ b)) (fun a b c h1 h2 => by
    simp only [decide_eq_true_eq] at *
    omega) (fun a b => by
    simp only [Bool.or_eq_true, decide_eq_true_eq]
    omega) ns
  exact this.imp fun h => by simpa using h
theorem srtZ_uniq {ns ms : List Int} (h : ms.Perm ns) (hs : ms.Pairwise (· ≤ ·)) : ms = srtZ ns :=
  List.Perm.eq_of_pairwise (fun a b _ _ h1 h2 => Int.le_antisymm h1 h2) hs (srtZ_sorted ns) (h.trans (srtZ_perm ns).symm)
def bSorted : List PyData → Option PyData := fun ds => match ds with
  | [.list xs] => (asInts xs).map fun ns => .list ((srtZ ns).map PyData.int)
  | [.tuple xs] => (asInts xs).map fun ns => .list ((srtZ ns).map PyData.int)
  | _ => none
theorem s_sorted : SemL K (rSrt K) true bSorted := fun S H xs ds z Q new r q k => by
  unfold bSorted at q
  split at q
  · obtain ⟨ns, e, rfl⟩ := Option.map_eq_some_iff.mp q
    cases r with
    | cons r1 r2 =>
      cases r2
      cases r1 with
      | lst h1 s1 r1 =>
        rw [asInts_eq e] at r1
        rw [RpA.of_ints r1] at h1
        refine ⟨_, ns, rfl, .inl (SqL.of h1), fun ns' p hp hs hn => ?_⟩
        rw [srtZ_uniq hp hs]
        exact k _ _ (same_new hn) (.lst upd_same (new p hn) (RpA.ints _)) fun _ => frs_lst hn (RpA.ints _)
  · obtain ⟨ns, e, rfl⟩ := Option.map_eq_some_iff.mp q
    cases r with
    | cons r1 r2 =>
      cases r2
      cases r1 with
      | tup h0 r1 =>
        have h1 := h0.sq
        rw [asInts_eq e] at r1
        rw [RpA.of_ints r1] at h1
        refine ⟨_, ns, rfl, .inr h1, fun ns' p hp hs hn => ?_⟩
        rw [srtZ_uniq hp hs]
        exact k _ _ (same_new hn) (.lst upd_same (new p hn) (RpA.ints _)) fun _ => frs_lst hn (RpA.ints _)
  · cases q

/-! ### min, max of a tuple of numbers -/
def rMinT (K : PySem.W.Frag) : List V → Hp → VK → Prop := fun vs H Q => ∃ (a : Addr) (n : Int) (ns : List Int), vs = [V.ref a] ∧ SqT K H a ((n :: ns).map V.int) ∧ Q (.int (minZ n ns)) H
def rMaxT (K : PySem.W.Frag) : List V → Hp → VK → Prop := fun vs H Q => ∃ (a : Addr) (n : Int) (ns : List Int), vs = [V.ref a] ∧ SqT K H a ((n :: ns).map V.int) ∧ Q (.int (maxZ n ns)) H
theorem dpAll_ints {H : Hp} : ∀ ns : List Int, DpAll K H (ns.map V.int) (ns.map PyData.int)
  | [] => .nil
  | n :: ns => .cons (.int n) (dpAll_ints ns)
theorem minD_ints : ∀ (ns : List Int) (n : Int), PySem.W.minD (.int n) (ns.map PyData.int) = .int (minZ n ns)
  | [], n => rfl
  | m :: ns, n => by
    show List.foldl _ (if PySem.W.dataLt (.int m) (.int n) then PyData.int m else PyData.int n) (ns.map PyData.int) = PyData.int (minZ (if m < n then m else n) ns)
    have e : PySem.W.dataLt (.int m) (.int n) = decide (m < n) := by
      unfold PySem.W.dataLt
      simp [PySem.W.keyToks, PyProof.Rows.lexLt, itemOrd]
      rfl
    rw [e]
    by_cases h : m < n
    · rw [if_pos (decide_eq_true h), if_pos h]
      exact minD_ints ns m
    · rw [if_neg (by simpa using h), if_neg h]
      exact minD_ints ns n
theorem maxD_ints : ∀ (ns : List Int) (n : Int), PySem.W.maxD (.int n) (ns.map PyData.int) = .int (maxZ n ns)
  | [], n => rfl
  | m :: ns, n => by
    show List.foldl _ (if PySem.W.dataLt (.int n) (.int m) then PyData.int m else PyData.int n) (ns.map PyData.int) = PyData.int (maxZ (if n < m then m else n) ns)
    have e : PySem.W.dataLt (.int n) (.int m) = decide (n < m) := by
      unfold PySem.W.dataLt
      simp [PySem.W.keyToks, PyProof.Rows.lexLt, itemOrd]
      rfl
    rw [e]
    by_cases h : n < m
    · rw [if_pos (decide_eq_true h), if_pos h]
      exact maxD_ints ns m
    · rw [if_neg (by simpa using h), if_neg h]
      exact maxD_ints ns n
theorem alike_ints (ns : List Int) : PySem.W.AlikeAll (ns.map PyData.int) := by
  refine ⟨fun x hx y hy => ?_, fun x hx => ?_⟩
  · obtain ⟨i, _, rfl⟩ := List.mem_map.mp hx
    obtain ⟨j, _, rfl⟩ := List.mem_map.mp hy
    rfl
  · obtain ⟨i, _, rfl⟩ := List.mem_map.mp hx
    exact fun z => nomatch z
theorem depth_ints : ∀ ns : List Int, PyData.depthAll (ns.map PyData.int) ≤ 1
  | [] => by simp [PyData.depthAll]
  | n :: ns => by
    have := depth_ints ns
    simp only [List.map_cons, PyData.depthAll, PyData.depth]
    omega
theorem cr_minT (hc : X.calm = true) {k : Nat} (hr : Room k X.A) : CallR X (.builtin "min") (rMinT X.K) := by
  intro pins s σ H vs us Q I r h
  obtain ⟨a, n, ns, rfl, hs, q⟩ := h
  rw [Vals.ref1 r]
  obtain ⟨its, rv, ⟨o, ho, hcl, m, hd⟩, hz⟩ := I.tuple hs
  obtain ⟨as, ra⟩ := Dp.readsAll I ((n :: ns).map PyData.int) _ its (dpAll_ints (n :: ns)) rv
  have hu := hr.units
  have hde := depth_ints (n :: ns)
  refine PySem.W.min_tuple_data (x := .int n) (xs := ns.map PyData.int) (I.ok.hd hc) ⟨o, ho, hcl, m, hd⟩ ra (alike_ints (n :: ns)) (by
    have e : PyData.depthAll (PyData.int n :: ns.map PyData.int) = PyData.depthAll ((n :: ns).map PyData.int) := rfl
    rw [e]
    omega) fun i v h' tk bs hv rd kp => ?_
  rw [minD_ints] at rd
  obtain ⟨t, rfl⟩ : ∃ t, v = .int (minZ n ns) t := by
    cases rd
    exact ⟨_, rfl⟩
  exact ⟨.int _, H, I.kept (t' := tk) kp, ⟨t, rfl⟩, q⟩
theorem cr_maxT (hc : X.calm = true) {k : Nat} (hr : Room k X.A) : CallR X (.builtin "max") (rMaxT X.K) := by
  intro pins s σ H vs us Q I r h
  obtain ⟨a, n, ns, rfl, hs, q⟩ := h
  rw [Vals.ref1 r]
  obtain ⟨its, rv, ⟨o, ho, hcl, m, hd⟩, hz⟩ := I.tuple hs
  obtain ⟨as, ra⟩ := Dp.readsAll I ((n :: ns).map PyData.int) _ its (dpAll_ints (n :: ns)) rv
  have hu := hr.units
  have hde := depth_ints (n :: ns)
  refine PySem.W.max_tuple_data (x := .int n) (xs := ns.map PyData.int) (I.ok.hd hc) ⟨o, ho, hcl, m, hd⟩ ra (alike_ints (n :: ns)) (by
    have e : PyData.depthAll (PyData.int n :: ns.map PyData.int) = PyData.depthAll ((n :: ns).map PyData.int) := rfl
    rw [e]
    omega) fun i v h' tk bs hv rd kp => ?_
  rw [maxD_ints] at rd
  obtain ⟨t, rfl⟩ : ∃ t, v = .int (maxZ n ns) t := by
    cases rd
    exact ⟨_, rfl⟩
  exact ⟨.int _, H, I.kept (t' := tk) kp, ⟨t, rfl⟩, q⟩
def bMinA : List PyData → Option PyData := fun ds => match ds with
  | [.list xs] => (match asInts xs with | some (n :: ns) => some (.int (minZ n ns)) | _ => none)
  | [.tuple xs] => (match asInts xs with | some (n :: ns) => some (.int (minZ n ns)) | _ => none)
  | _ => none
def bMaxA : List PyData → Option PyData := fun ds => match ds with
  | [.list xs] => (match asInts xs with | some (n :: ns) => some (.int (maxZ n ns)) | _ => none)
  | [.tuple xs] => (match asInts xs with | some (n :: ns) => some (.int (maxZ n ns)) | _ => none)
  | _ => none
theorem s_minA : SemL K (fun xs H Q => rMin K xs H Q ∨ rMinT K xs H Q) false bMinA := fun S H xs ds z Q new r q k => by
  unfold bMinA at q
  split at q
  · exact .inl (s_min S H _ _ z Q new r q k)
  · split at q
    · rename_i ys n ns e
      cases q
      cases r with
      | cons r1 r2 =>
        cases r2
        cases r1 with
        | tup h0 r1 =>
          have h1 := h0.sq
          rw [asInts_eq e] at r1
          rw [RpA.of_ints r1] at h1
          exact .inr ⟨_, n, ns, rfl, h1, k _ H (Same.refl H) (.int _) fun z => nomatch z⟩
    · cases q
  · cases q
theorem s_maxA : SemL K (fun xs H Q => rMax K xs H Q ∨ rMaxT K xs H Q) false bMaxA := fun S H xs ds z Q new r q k => by
  unfold bMaxA at q
  split at q
  · exact .inl (s_max S H _ _ z Q new r q k)
  · split at q
    · rename_i ys n ns e
      cases q
      cases r with
      | cons r1 r2 =>
        cases r2
        cases r1 with
        | tup h0 r1 =>
          have h1 := h0.sq
          rw [asInts_eq e] at r1
          rw [RpA.of_ints r1] at h1
          exact .inr ⟨_, n, ns, rfl, h1, k _ H (Same.refl H) (.int _) fun z => nomatch z⟩
    · cases q
  · cases q
theorem cr_minA (hc : X.calm = true) {k : Nat} (hr : Room k X.A) : CallR X (.builtin "min") (fun xs H Q => rMin X.K xs H Q ∨ rMinT X.K xs H Q) := (cr_min hc).or (cr_minT hc hr)
theorem cr_maxA (hc : X.calm = true) {k : Nat} (hr : Room k X.A) : CallR X (.builtin "max") (fun xs H Q => rMax X.K xs H Q ∨ rMaxT X.K xs H Q) := (cr_max hc).or (cr_maxT hc hr)

/-! ### items and slices -/
def atD (ds : List PyData) (i : Int) : Option PyData := (ixN ds.length i).bind fun j => ds[j]?
def oIx : PyData → PyData → Option PyData := fun d e => match d, e with
  | .list ds, .int i => atD ds i
  | .tuple ds, .int i => atD ds i
  | .dict [(.none, .list ds)], .int i => atD ds i
  | _, _ => none
theorem atD_of {S : Addr → Prop} {H : Hp} {vs : List V} {ds : List PyData} {i : Int} {z : PyData} (r : RpA K H S vs ds) (q : atD ds i = some z) : ∃ v, atI vs i = some v ∧ Rp K H S v z := by
  unfold atD at q
  obtain ⟨j, e1, e2⟩ := Option.bind_eq_some_iff.mp q
  obtain ⟨v, hv, rv⟩ := r.get' e2
  refine ⟨v, ?_, rv⟩
  unfold atI
  rw [r.length, e1]
  exact hv
theorem s_ix : SemB K (rIx K) false oIx := fun S H x y d e z Q new rx ry q k => by
  unfold oIx at q
  split at q
  · cases ry
    cases rx with
    | lst h1 s1 r1 =>
      obtain ⟨v, hv, rv⟩ := atD_of r1 q
      exact .inl ⟨_, _, _, v, rfl, rfl, SqL.of h1, hv, k v H (Same.refl H) rv fun z => nomatch z⟩
  · cases ry
    cases rx with
    | tup h1 r1 =>
      obtain ⟨v, hv, rv⟩ := atD_of r1 q
      exact .inr (.inl ⟨_, _, _, v, rfl, rfl, h1.sq, hv, k v H (Same.refl H) rv fun z => nomatch z⟩)
  · cases ry
    rename_i ds i
    generalize e : PyData.dict [(PyData.none, PyData.list ds)] = dd at rx
    cases rx with
    | scr h1 r1 =>
      cases e
      obtain ⟨v, hv, rv⟩ := atD_of r1 q
      exact .inl ⟨_, _, _, v, rfl, rfl, h1.sq, hv, k v H (Same.refl H) rv fun z => nomatch z⟩
    | dic _ _ _ _ => cases e
    | dit _ _ _ _ => cases e
    | dif _ _ _ => cases e
    | rng _ => cases e
    | dct _ _ _ _ => cases e
    | non => cases e
    | bl _ => cases e
    | int _ => cases e
    | str _ => cases e
    | tup _ _ => cases e
    | lst _ _ _ => cases e
  · cases q
section
variable {M : Nat → Bool} {F : Fx} {E : L2.St → XK} {la lb fa fb : Bool} {a b : Expr} {f g : Rho → Re PyData} {pos : Pos}
theorem de_ix (ha : DE X M F E la fa a f) (hb : DE X M F E lb fb b g) (hs : PlainIx b := by intro _ _; rfl) : DE X M F E (la || lb) false (.Subscript a b pos) (r2 oIx f g) := by
  obtain ⟨ta, pa, ha⟩ := ha
  obtain ⟨tb, pb, hb⟩ := hb
  exact ⟨_, pe_ix ix_seq pa pb hs, fun σ H ρ er Q w => two_run ha hb s_ix er w⟩
/-- the ends of a slice -/
def WO (X : Cx) (E : L2.St → XK) (σ : L2.St) (H : Hp) (r : Re (Option Int)) (Q : Option Int → Hp → Prop) : Prop :=
  match r with
  | .ok b => ∀ H', Same H H' → Q b H'
  | .ex c => ∀ C H', X.mg c = some (.ref C) → Same H H' → E σ (.ref C) none H'
  | .bad => False
def DO (X : Cx) (M : Nat → Bool) (F : Fx) (E : L2.St → XK) (e : Option Expr) (f : Rho → Re (Option Int)) : Prop := ∃ t : TO, PO X e t ∧ ∀ σ H ρ, ER X.K M F σ H ρ → ∀ Q, WO X E σ H (f ρ) Q → t σ H Q
def asI (f : Rho → Re PyData) : Rho → Re (Option Int) := fun ρ => (f ρ).andThen fun d => match d with | .int i => .ok (some i) | _ => .bad
def noI : Rho → Re (Option Int) := fun _ => .ok none
theorem do_none : DO X M F E none noI := ⟨_, po_none, fun σ H ρ er Q w => w H (Same.refl H)⟩
theorem do_some (h : DE X M F E la fa a f) : DO X M F E (some a) (asI f) := by
  obtain ⟨t, p, h⟩ := h
  refine ⟨_, po_some p, fun σ H ρ er Q w => h σ H ρ er _ ?_⟩
  unfold asI at w
  cases q : f ρ with
  | ok d =>
    rw [q] at w
    refine fun v H1 s r _ => ?_
    have w : WO X E σ H ((fun d : PyData => match d with | .int i => Re.ok (some i) | _ => Re.bad) d) Q := w
    cases r with
    | int i => exact ⟨i, rfl, w H1 s⟩
    | bl _ => exact w.elim
    | non => exact w.elim
    | str _ => exact w.elim
    | tup _ _ => exact w.elim
    | lst _ _ _ => exact w.elim
    | scr _ _ => exact w.elim
    | dic _ _ _ _ => exact w.elim
    | dit _ _ _ _ => exact w.elim
    | dif _ _ _ => exact w.elim
    | rng _ => exact w.elim
    | dct _ _ _ _ => exact w.elim
  | ex c =>
    rw [q] at w
    exact w
  | bad =>
    rw [q] at w
    exact w
def cutD (ds : List PyData) (lo hi : Option Int) : List PyData := (ds.drop (HT.sIx ds.length 0 lo)).take (HT.sIx ds.length ds.length hi - HT.sIx ds.length 0 lo)
def oCut (d : PyData) (lo hi : Option Int) : Re PyData := match d with
  | .tuple ds => .ok (.tuple (cutD ds lo hi))
  | .list ds => .ok (.list (cutD ds lo hi))
  | _ => .bad
theorem cut_rp {S : Addr → Prop} {H : Hp} {vs : List V} {ds : List PyData} {lo hi : Option Int} (r : RpA K H S vs ds) : RpA K H S (cutV vs lo hi) (cutD ds lo hi) := by
  unfold cutV cutD
  rw [r.length]
  exact (r.drop _).take _
theorem cut_whole {ds : List PyData} {lo hi : Option Int} (h : HT.sIx ds.length 0 lo = 0 ∧ HT.sIx ds.length ds.length hi = ds.length) : cutD ds lo hi = ds := by
  unfold cutD
  rw [h.1, h.2, List.drop_zero, Nat.sub_zero, List.take_length]
abbrev rSlTL (K : PySem.W.Frag) : V → Option Int → Option Int → Hp → VK → Prop := fun x lo hi H Q => rSlF K x lo hi H Q ∨ rSlL K x lo hi H Q
theorem sl_tl : SlR X (rSlTL X.K) := sl_tupF.or sl_list
def rCut (f : Rho → Re PyData) (lo hi : Rho → Re (Option Int)) : Rho → Re PyData := fun ρ => (f ρ).andThen fun d => (lo ρ).andThen fun l => (hi ρ).andThen fun h => oCut d l h
theorem wo_step {lk fr : Bool} {σ : L2.St} {ρ : Rho} {H : Hp} {r : Re (Option Int)} {Q : VK} {g : Option Int → Re PyData} {K : Option Int → Hp → Prop} (w : WE X M F E lk fr σ ρ H (r.andThen g) Q)
    (h : ∀ d H', r = .ok d → Same H H' → WE X M F E lk fr σ ρ H' (g d) Q → K d H') : WO X E σ H r K := by
  cases r with
  | ok d =>
    refine fun H' s => h d H' rfl s ?_
    have w : WE X M F E lk fr σ ρ H (g d) Q := w
    cases q : g d with
    | ok z =>
      rw [q] at w
      refine fun v2 H2 s2 r2 f2 => w v2 H2 (s.trans s2) r2 fun z2 => ?_
      obtain ⟨p, e1, e2, e3⟩ := f2 z2
      exact ⟨p, e1, s.free e2, e3⟩
    | ex c =>
      rw [q] at w
      exact fun C H2 m s2 => w C H2 m (s.trans s2)
    | bad =>
      rw [q] at w
      exact w
  | ex c => exact w
  | bad => exact w
theorem de_cut {lo hi : Option Expr} {fl fh : Rho → Re (Option Int)} {p2 : Pos} (ha : DE X M F E la fa a f) (hl : DO X M F E lo fl) (hh : DO X M F E hi fh) : DE X M F E la false (.Subscript a (.Slice lo hi none p2) pos) (rCut f fl fh) := by
  obtain ⟨ta, pa, ha⟩ := ha
  obtain ⟨tl, pl, hl⟩ := hl
  obtain ⟨th, ph, hh⟩ := hh
  refine ⟨_, pe_slice sl_tl pa pl ph, fun σ H ρ er Q w => ?_⟩
  refine ha σ H ρ er _ (we_step w fun d v H1 e1 s1 r1 _ w1 => ?_)
  refine hl σ H1 ρ (er.same s1) _ (wo_step w1 fun l H2 e2 s2 w2 => ?_)
  refine hh σ H2 ρ ((er.same s1).same s2) _ (wo_step w2 fun h H3 e3 s3 w3 => ?_)
  have er3 := ((er.same s1).same s2).same s3
  have r3 := r1.same (s2.trans s3)
  have w3 : WE X M F E la false σ ρ H3 (oCut d l h) Q := w3
  cases r3 with
  | tup h1 rr =>
    refine .inl ⟨_, _, rfl, h1.sq, fun hw => ?_, fun hw p o hp hd => w3 _ _ (same_new hp) (.tup (.inl ⟨o, upd_same, hd⟩) ((cut_rp rr).same (same_new hp))) fun z => nomatch z⟩
    rw [rr.length] at hw
    refine w3 _ H3 (Same.refl _) ?_ fun z => nomatch z
    rw [cut_whole hw]
    exact .tup h1 rr
  | lst h1 ss rr => exact .inr ⟨_, _, rfl, SqL.of h1, fun p hp => w3 _ _ (same_new hp) (.lst upd_same (er3.freshS p hp) ((cut_rp rr).same (same_new hp))) fun z => nomatch z⟩
  | bl _ => exact w3.elim
  | non => exact w3.elim
  | int _ => exact w3.elim
  | str _ => exact w3.elim
  | scr _ _ => exact w3.elim
  | dic _ _ _ _ => exact w3.elim
  | dit _ _ _ _ => exact w3.elim
  | dif _ _ _ => exact w3.elim
  | rng _ => exact w3.elim
  | dct _ _ _ _ => exact w3.elim

/-! ### tuple(range(..)), list(range(..)) -/
def rgOk (a b : Int) : Bool := decide (-1000000 ≤ a) && decide (a ≤ 1000000) && decide (-1000000 ≤ b) && decide (b ≤ 1000000)
theorem rgOk_ok {a b : Int} (h : rgOk a b = true) : RgOk a b := by
  unfold rgOk at h
  simp only [Bool.and_eq_true, decide_eq_true_eq] at h
  obtain ⟨⟨⟨h1, h2⟩, h3⟩, h4⟩ := h
  exact ⟨by omega, by omega, by omega, by omega, by omega⟩
theorem rg_rp {S : Addr → Prop} {H : Hp} (a b : Int) : RpA K H S (rgV a b) (upFrom a (b - a).toNat) := by
  have e1 : rgV a b = ((List.range (b - a).toNat).map fun i => a + ((i : Nat) : Int)).map V.int := by
    unfold rgV
    rw [List.map_map]
    rfl
  have e2 : upFrom a (b - a).toNat = ((List.range (b - a).toNat).map fun i => a + ((i : Nat) : Int)).map PyData.int := by
    unfold upFrom
    rw [List.map_map]
    rfl
  rw [e1, e2]
  exact RpA.ints _
def rTupRg (f g : Rho → Re PyData) : Rho → Re PyData := r2 (fun d e => match d, e with | .int i, .int j => if rgOk i j = true then some (.tuple (upFrom i (j - i).toNat)) else none | _, _ => none) f g
theorem de_tupRg {pp q : Pos} (hc : X.calm = true) (hg : Gl X "tuple") (hm : X.mg "tuple" = none) (hg2 : Gl X "range") (hm2 : X.mg "range" = none) (ha : DE X M F E la fa a f) (hb : DE X M F E lb fb b g)
    (na : starEach [a, b] X.env = (false, eval a X.env) :: starEach [b] X.env := by rfl) (nb : starEach [b] X.env = (false, eval b X.env) :: starEach [] X.env := by rfl)
    (np : (backTo q (starEach [b] X.env)).any (·.1) = false := by rfl) (nc : starEach [Expr.Call (.Name "range" pp) [a, b] [] q] X.env = (false, eval (.Call (.Name "range" pp) [a, b] [] q) X.env) :: starEach [] X.env := by rfl) {p0 : Pos} :
    DE X M F E (la || lb) false (.Call (.Name "tuple" p0) [.Call (.Name "range" pp) [a, b] [] q] [] pos) (rTupRg f g) := by
  obtain ⟨ta, pa, ha⟩ := ha
  obtain ⟨tb, pb, hb⟩ := hb
  refine ⟨_, pe_tupRgF hc hg hm (prg_2 hg2 hm2 pa pb na nb np) nc, fun σ H ρ er Q w => ?_⟩
  refine ha σ H ρ er _ (we_step w fun d v H1 e1 s1 q1 _ w1 => ?_)
  refine hb σ H1 ρ (er.same s1) _ (we_step w1 fun e u H2 e2 s2 q2 _ w2 => ?_)
  cases q1 with
  | int i =>
    cases q2 with
    | int j =>
      have w2 : WE X M F E (la || lb) false σ ρ H2 (liftO (if rgOk i j = true then some (.tuple (upFrom i (j - i).toNat)) else none)) Q := w2
      by_cases hr : rgOk i j = true
      · rw [if_pos hr] at w2
        exact ⟨i, j, rfl, rfl, rgOk_ok hr, fun p o hp hd => w2 _ _ (same_new hp) (.tup (.inl ⟨o, upd_same, hd⟩) (rg_rp i j)) fun z => nomatch z⟩
      · rw [if_neg hr] at w2
        exact w2.elim
    | bl _ => exact w2.elim
    | non => exact w2.elim
    | str _ => exact w2.elim
    | tup _ _ => exact w2.elim
    | lst _ _ _ => exact w2.elim
    | scr _ _ => exact w2.elim
    | dic _ _ _ _ => exact w2.elim
    | dit _ _ _ _ => exact w2.elim
    | dif _ _ _ => exact w2.elim
    | rng _ => exact w2.elim
    | dct _ _ _ _ => exact w2.elim
  | bl _ => exact w2.elim
  | non => exact w2.elim
  | str _ => exact w2.elim
  | tup _ _ => exact w2.elim
  | lst _ _ _ => exact w2.elim
  | scr _ _ => exact w2.elim
  | dic _ _ _ _ => exact w2.elim
  | dit _ _ _ _ => exact w2.elim
  | dif _ _ _ => exact w2.elim
  | rng _ => exact w2.elim
  | dct _ _ _ _ => exact w2.elim
end
end
end Pu

set_option Elab.async false
set_option linter.all false
set_option maxRecDepth 100000
set_option maxHeartbeats 2000000
namespace Pu
open PySem PySem.Spec PyProof.Rows L2
variable [TabL]

section
variable {X : Cx} {K : PySem.W.Frag} {M : Nat → Bool} {F : Fx} {E : L2.St → XK} {la lb fa fb : Bool} {a b : Expr} {f g : Rho → Re PyData} {pos : Pos} {s u : Rho → Sr}
/-! ### a list or a tuple is walked, is unpacked -/
theorem pi_or {tg it : Expr} {w1 w2 : TI} (h1 : PI X tg it w1) (h2 : PI X tg it w2) : PI X tg it (fun σ H R => w1 σ H R ∨ w2 σ H R) := ⟨fun pins s σ H R I h => h.elim (h1.run pins s σ H R I) (h2.run pins s σ H R I)⟩
theorem pg_or {tg : Expr} {w1 w2 : TG} (h1 : PG X tg w1) (h2 : PG X tg w2) : PG X tg (fun v σ H Q => w1 v σ H Q ∨ w2 v σ H Q) := ⟨fun pins s σ H v u Q I r h => h.elim (h1.run pins s σ H v u Q I r) (h2.run pins s σ H v u Q I r)⟩
def itS (d : PyData) : Re (List PyData) := match d with | .list ds => .ok ds | .tuple ds => .ok ds | _ => .bad
theorem di_seq {tg : Expr} (h : DE X M F E false fa a f) : DI X M F E tg a (iOf itS f) := by
  obtain ⟨t1, p1, h1⟩ := di_list (tg := tg) h
  obtain ⟨t2, p2, h2⟩ := di_tup (tg := tg) h
  refine ⟨_, pi_or p1 p2, fun σ H ρ er R w => ?_⟩
  unfold iOf at w h1 h2
  cases q : f ρ with
  | ex c =>
    rw [q] at w
    refine .inl (h1 σ H ρ er R ?_)
    rw [q]
    exact w
  | bad =>
    rw [q] at w
    exact w.elim
  | ok d =>
    rw [q] at w
    cases d with
    | list ds =>
      refine .inl (h1 σ H ρ er R ?_)
      rw [q]
      exact w
    | tuple ds =>
      refine .inr (h2 σ H ρ er R ?_)
      rw [q]
      exact w
    | none => exact w.elim
    | bool _ => exact w.elim
    | int _ => exact w.elim
    | str _ => exact w.elim
    | dict _ => exact w.elim
def gSeqD (n : Nat) (g : List PyData → Rho → Option Rho) : PyData → Rho → Option Rho := fun d ρ => match d with | .tuple ds => if ds.length = n then g ds ρ else none | .list ds => if ds.length = n then g ds ρ else none | _ => none
theorem dg_seq {es : List Expr} {ts : List Nat} {k : Nat} {n : Nat} {gs : List PyData → Rho → Option Rho} (hc : X.calm = true) (h : DGs X M F es ts gs) (hn : (assignEach es X.env).length = n := by rfl) (hst : (assignEach es X.env).findIdx? (·.1) = none := by rfl) :
    DG X M F (.Tuple es k pos) ts (gSeqD n gs) := by
  obtain ⟨t1, p1, h1⟩ := dg_tup (k := k) (pos := pos) hc h hn hst
  obtain ⟨t2, p2, h2⟩ := dg_lst (k := k) (pos := pos) hc h hn hst
  refine ⟨_, pg_or p1 p2, fun σ H ρ v d ρ' er r e Q kk => ?_⟩
  cases d with
  | tuple ds => exact .inl (h1 σ H ρ v (.tuple ds) ρ' er r e Q kk)
  | list ds => exact .inr (h2 σ H ρ v (.list ds) ρ' er r e Q kk)
  | none => cases e
  | bool _ => cases e
  | int _ => cases e
  | str _ => cases e
  | dict _ => cases e

/-! ### a name's constant -/
theorem de_globE {x : Str} {i : Int} {pos : Pos} (hm : ∃ t, X.mg x = some (.int i t)) (hg : Gl X x := by rfl) (hd : (x == ("__debug__" : Str)) = false := by decide) : DE X M F E false false (.Name x pos) (rC (.int i)) := by
  obtain ⟨t, h⟩ := hm
  exact de_glob hg h hd

/-! ### isinstance -/
def tyD : PyData → String
  | .none => "NoneType"
  | .bool _ => "bool"
  | .int _ => "int"
  | .str _ => "str"
  | .list _ => "list"
  | .tuple _ => "tuple"
  | .dict _ => "dict"
def isD (d : PyData) (T : String) : Option Bool := match d with
  | .dict _ => none
  | d => kitB (tyD d) T
theorem ty_of {S : Addr → Prop} {H : Hp} {v : V} {d : PyData} (r : Rp K H S v d) (nd : ∀ kvs, d ≠ .dict kvs) : TyX K H v (.type (tyD d)) := by
  cases r with
  | non => exact .base .non
  | bl b => exact .base (.bl b)
  | int i => exact .base (.int i)
  | str x => exact .base (.str x)
  | tup h _ =>
    rcases h with ⟨o, h, _⟩ | ⟨o, its, n, hk, hc, _⟩
    · exact .fTuple h
    · exact .kTuple hk hc
  | lst h _ _ => exact .base (.lst h)
  | scr _ _ => exact absurd rfl (nd _)
  | dic _ _ _ _ => exact absurd rfl (nd _)
  | dit _ _ _ _ => exact absurd rfl (nd _)
  | dif _ _ _ => exact absurd rfl (nd _)
  | rng _ => exact absurd rfl (nd _)
  | dct _ _ _ _ => exact absurd rfl (nd _)
/-- isinstance(x, T), T a built-in class -/
theorem de_isi {T : String} {x : Str} {p p1 p2 : Pos} (hg : Gl X "isinstance") (hm : X.mg "isinstance" = none) (hgT : Gl X x) (hmT : X.mg x = none) (hv : bootBuiltins x = some (.type T)) (ha : DE X M F E la fa a f)
    (hnT : x ≠ "__name__" := by decide) (hdT : (x == ("__debug__" : Str)) = false := by decide)
    (h1 : starEach [a, .Name x p1] X.env = (false, eval a X.env) :: starEach [.Name x p1] X.env := by rfl) (h2 : starEach [.Name x p1] X.env = (false, eval (.Name x p1) X.env) :: starEach [] X.env := by rfl) (hpl : (backTo pos (starEach [.Name x p1] X.env)).any (·.1) = false := by rfl) :
    DE X M F E false false (.Call (.Name "isinstance" p) [a, .Name x p1] [] pos) (fun ρ => (f ρ).andThen fun d => liftO ((isD d T).map PyData.bool)) := by
  obtain ⟨t, pa, h⟩ := ha
  refine ⟨_, pe_callB call_isi hg hm PyProof.Rows.boot_isinstance (pa_cons pa (pa_cons (pe_bltn (v := .ty T) hgT hmT hv rfl hnT hdT) pa_nil h2) h1) (he := h1) (hpl := hpl), fun σ H ρ er Q w => ?_⟩
  refine h σ H ρ er _ (we_step w fun d v H1 e s1 r1 _ w1 => ?_)
  cases q : isD d T with
  | none =>
    rw [q] at w1
    exact w1.elim
  | some bb =>
    rw [q] at w1
    have nd : ∀ kvs, d ≠ .dict kvs := fun kvs z => by
      rw [z] at q
      cases q
    have q' : kitB (tyD d) T = some bb := by
      unfold isD at q
      split at q
      · cases q
      · exact q
    exact ⟨v, .ty T, .type (tyD d), .type T, bb, rfl, .ty T, ty_of r1 nd, kit_ty q', w1 _ H1 (Same.refl _) (.bl bb) fun z => nomatch z⟩

/-! ### t.index(x): numbers in a tuple or a list -/
def rIdxT (K : PySem.W.Frag) : V → List V → Hp → VK → Prop := fun x xs H Q => ∃ (p : Addr) (ys : List Int) (z : Int) (j : Nat), x = .ref p ∧ xs = [.int z] ∧ SqT K H p (ys.map V.int) ∧ ys[j]? = some z ∧ (∀ m, m < j → ys[m]? ≠ some z) ∧ Q (.int (j : Nat)) H
theorem all_flat_ints (ys : List Int) : (ys.map V.int).all flatV = true := by
  rw [List.all_map]
  exact List.all_eq_true.mpr fun _ _ => rfl
end
section
variable {X : Cx}
theorem mt_idxT : MtR X "tuple.index" (rIdxT X.K) := by
  intro pins s σ H x xs v us Q I rx rs h
  obtain ⟨p, ys, z, j, rfl, rfl, hq, hy, hno, q⟩ := h
  cases rx
  obtain ⟨u, rfl, t, rfl⟩ := vals1 rs
  obtain ⟨its, r, pl, hz⟩ := I.tuple hq
  obtain ⟨⟨cl, dd, dt, sl⟩, ho, hc, n, hd⟩ := pl
  simp only at hc hd
  subst hc hd
  have hl : its.toArray.size = ys.length := by rw [List.size_toArray, ← r.length, List.length_map]
  have hj : j < its.toArray.size := by rw [hl]; exact getSome hy
  have at1 : ∀ (m : Nat) (hm : m < its.toArray.size), ∃ y t', ys[m]? = some y ∧ its.toArray[m] = Value.int y t' := fun m hm => by
    have hm' : m < ys.length := by rw [← hl]; exact hm
    obtain ⟨w, hw, t', hw'⟩ := r.get (i := m) (x := .int ys[m]) (by simp [hm'])
    refine ⟨ys[m], t', List.getElem?_eq_getElem hm', ?_⟩
    have e := (List.getElem?_eq_some_iff.mp hw).2
    rw [← hw', ← e]
    simp
  refine call_meets PySem.F.slot_tuple_index ⟨_, ho, rfl⟩ PySem.F.entry_tuple_index (PySem.F.args_tuple_index_2 _ _) (TI.tuple_indexAt p its.toArray n dd sl (.int z t) (eqU (.int z)) j hj ?_ ?_)
    ⟨ho, fun w hw => mem_eqAt (x := .int z) ⟨t, rfl⟩ rfl r (all_flat_ints ys) w (by simpa using hw), ⟨.int (j : Nat), H, I.tok _, ⟨_, rfl⟩, q⟩⟩
  · obtain ⟨y, t', h1, h2⟩ := at1 j hj
    rw [hy] at h1
    cases h1
    rw [h2]
    show (z == z) = true
    exact beq_self_eq_true z
  · intro m hm hmj
    obtain ⟨y, t', h1, h2⟩ := at1 m hm
    rw [h2]
    show (y == z) = false
    exact beq_eq_false_iff_ne.mpr fun e => hno m hmj (e ▸ h1)
end
end Pu

set_option Elab.async false
set_option linter.all false
set_option maxRecDepth 100000
set_option maxHeartbeats 2000000
namespace Pu
open PySem PySem.Spec PyProof.Rows L2
variable [TabL]

section
variable {X : Cx} {K : PySem.W.Frag} {M : Nat → Bool} {F : Fx} {E : L2.St → XK} {la lb fa fb : Bool} {a b : Expr} {f g : Rho → Re PyData} {pos : Pos} {s u : Rho → Sr}
/-! ### t.index(x), l.index(x) of numbers -/
/-- the first place of z -/
def idxZ (z : Int) : List Int → Option Nat
  | [] => none
  | n :: ns => if n = z then some 0 else (idxZ z ns).map (· + 1)
theorem idxZ_some {z : Int} : ∀ {ns : List Int} {j : Nat}, idxZ z ns = some j → ns[j]? = some z ∧ ∀ m, m < j → ns[m]? ≠ some z
  | [], j, h => by cases h
  | n :: ns, j, h => by
    unfold idxZ at h
    by_cases e : n = z
    · rw [if_pos e] at h
      cases h
      exact ⟨by simp [e], fun m hm => absurd hm (Nat.not_lt_zero _)⟩
    · rw [if_neg e] at h
      obtain ⟨k, hk, rfl⟩ := Option.map_eq_some_iff.mp h
      obtain ⟨h1, h2⟩ := idxZ_some hk
      refine ⟨by simpa using h1, fun m hm => ?_⟩
      cases m with
      | zero => simpa using e
      | succ m => simpa using h2 m (by omega)
def oIdx : PyData → List PyData → Option PyData := fun d es => match d, es with
  | .tuple ds, [.int z] => (asInts ds).bind fun ns => (idxZ z ns).map fun j => .int (j : Nat)
  | _, _ => none
def oIdxL : PyData → List PyData → Option PyData := fun d es => match d, es with
  | .list ds, [.int z] => (asInts ds).bind fun ns => (idxZ z ns).map fun j => .int (j : Nat)
  | _, _ => none
theorem oIdx_some {ds0 es : List PyData} {z : PyData} (q : oIdx (.tuple ds0) es = some z) : ∃ ns z0 j, asInts ds0 = some ns ∧ es = [.int z0] ∧ idxZ z0 ns = some j ∧ z = .int (j : Nat) := by
  unfold oIdx at q
  split at q
  · next x1 x2 a1 a2 e1 =>
    cases e1
    obtain ⟨ns, e3, q⟩ := Option.bind_eq_some_iff.mp q
    obtain ⟨j, e4, e5⟩ := Option.map_eq_some_iff.mp q
    exact ⟨ns, _, j, e3, rfl, e4, e5.symm⟩
  · cases q
theorem oIdxL_some {ds0 es : List PyData} {z : PyData} (q : oIdxL (.list ds0) es = some z) : ∃ ns z0 j, asInts ds0 = some ns ∧ es = [.int z0] ∧ idxZ z0 ns = some j ∧ z = .int (j : Nat) := by
  unfold oIdxL at q
  split at q
  · next x1 x2 a1 a2 e1 =>
    cases e1
    obtain ⟨ns, e3, q⟩ := Option.bind_eq_some_iff.mp q
    obtain ⟨j, e4, e5⟩ := Option.map_eq_some_iff.mp q
    exact ⟨ns, _, j, e3, rfl, e4, e5.symm⟩
  · cases q
def rMeth (o : PyData → List PyData → Option PyData) (f : Rho → Re PyData) (g : Rho → Re (List PyData)) : Rho → Re PyData := fun ρ => (f ρ).andThen fun d => (match d with | .tuple _ => (g ρ).andThen fun es => liftO (o d es) | _ => .bad)
def rMethL (o : PyData → List PyData → Option PyData) (f : Rho → Re PyData) (g : Rho → Re (List PyData)) : Rho → Re PyData := fun ρ => (f ρ).andThen fun d => (match d with | .list _ => (g ρ).andThen fun es => liftO (o d es) | _ => .bad)
theorem de_idxT {es : List Expr} {gs : Rho → Re (List PyData)} {p2 : Pos} (ha : DE X M F E la fa a f) (hb : DA X M F E lb (b :: es) gs)
    (hbase : attributeBase a "index" X.env (eval a X.env) = eval a X.env := by rfl)
    (hfew : ((backTo pos (starEach (b :: es) X.env)).all (fun x => !x.1) && (backToKw pos (keywordEach [] X.env)).all (fun x => x.1.isSome) && decide ((b :: es).length + ([] : List Keyword).length + (if ([] : List Keyword).isEmpty then 0 else 1) < 30)) = true := by rfl)
    (hline : (p2.endLine == pos.line) = true := by rfl) (hs : starEach (b :: es) X.env = (false, eval b X.env) :: starEach es X.env := by rfl) (hplain : (backTo pos (starEach es X.env)).any (·.1) = false := by rfl) :
    DE X M F E false false (.Call (.Attribute a "index" p2) (b :: es) [] pos) (rMeth oIdx f gs) := by
  obtain ⟨ta, pa, ha⟩ := ha
  obtain ⟨tb, pb, hb⟩ := hb
  refine ⟨_, pe_bmG (ty_tupD (X := X)) PySem.F.plainAttrs_tuple PySem.F.slot_tuple_index PySem.F.type_tuple_index mt_idxT pa pb hbase hfew hline hs hplain, fun σ H ρ er Q w => ?_⟩
  refine ha σ H ρ er _ (we_step w fun d v H1 e1 s1 r1 _ w1 => ?_)
  have er1 := er.same s1
  cases r1 with
  | tup h1 rr =>
    refine ⟨⟨_, _, rfl, h1⟩, hb σ H1 ρ er1 _ (we_stepA (lk' := lb) w1 fun ds vs H2 e2 s2 r2 w2 => ?_)⟩
    have h2 := tupD_keep h1 fun u q nm n => s2 _ u q n
    have rr2 := rr.same s2
    have w2 : WE X M F E false false σ ρ H2 (liftO (oIdx (.tuple _) ds)) Q := w2
    generalize q : oIdx (.tuple _) ds = oo at w2
    cases oo with
    | none => exact w2.elim
    | some z =>
      obtain ⟨ns, z0, j, e3, rfl, e4, rfl⟩ := oIdx_some q
      cases r2 with
      | cons r2 r3 =>
        cases r2
        cases r3
        obtain ⟨g1, g2⟩ := idxZ_some e4
        rw [asInts_eq e3] at rr2
        rw [RpA.of_ints rr2] at h2
        exact ⟨_, ns, _, j, rfl, rfl, h2.sq, g1, g2, w2 _ H2 (Same.refl _) (.int _) fun z => nomatch z⟩
  | bl _ => exact w1.elim
  | non => exact w1.elim
  | int _ => exact w1.elim
  | str _ => exact w1.elim
  | lst _ _ _ => exact w1.elim
  | scr _ _ => exact w1.elim
  | dic _ _ _ _ => exact w1.elim
  | dit _ _ _ _ => exact w1.elim
  | dif _ _ _ => exact w1.elim
  | rng _ => exact w1.elim
  | dct _ _ _ _ => exact w1.elim
theorem de_idxL {es : List Expr} {gs : Rho → Re (List PyData)} {p2 : Pos} (ha : DE X M F E la fa a f) (hb : DA X M F E lb (b :: es) gs)
    (hbase : attributeBase a "index" X.env (eval a X.env) = eval a X.env := by rfl)
    (hfew : ((backTo pos (starEach (b :: es) X.env)).all (fun x => !x.1) && (backToKw pos (keywordEach [] X.env)).all (fun x => x.1.isSome)
      && decide ((b :: es).length + ([] : List Keyword).length + (if ([] : List Keyword).isEmpty then 0 else 1) < 30)) = true := by rfl)
    (hline : (p2.endLine == pos.line) = true := by rfl) (hs : starEach (b :: es) X.env = (false, eval b X.env) :: starEach es X.env := by rfl) (hplain : (backTo pos (starEach es X.env)).any (·.1) = false := by rfl) :
    DE X M F E false false (.Call (.Attribute a "index" p2) (b :: es) [] pos) (rMethL oIdxL f gs) := by
  obtain ⟨ta, pa, ha⟩ := ha
  obtain ⟨tb, pb, hb⟩ := hb
  refine ⟨_, pe_bm PySem.F.plainAttrs_list PySem.F.slot_list_index PySem.F.type_list_index mt_index pa pb hbase hfew hline hs hplain, fun σ H ρ er Q w => ?_⟩
  refine ha σ H ρ er _ (we_step w fun d v H1 e1 s1 r1 _ w1 => ?_)
  have er1 := er.same s1
  cases r1 with
  | lst h1 _ rr =>
    refine ⟨sq_l h1, hb σ H1 ρ er1 _ (we_stepA (lk' := lb) w1 fun ds vs H2 e2 s2 r2 w2 => ?_)⟩
    have h2 := s2 _ _ h1
    have rr2 := rr.same s2
    have w2 : WE X M F E false false σ ρ H2 (liftO (oIdxL (.list _) ds)) Q := w2
    generalize q : oIdxL (.list _) ds = oo at w2
    cases oo with
    | none => exact w2.elim
    | some z =>
      obtain ⟨ns, z0, j, e3, rfl, e4, rfl⟩ := oIdxL_some q
      cases r2 with
      | cons r2 r3 =>
        cases r2
        cases r3
        obtain ⟨g1, g2⟩ := idxZ_some e4
        rw [asInts_eq e3] at rr2
        rw [RpA.of_ints rr2] at h2
        refine ⟨_, _, _, j, _, rfl, rfl, SqL.of h2, rfl, all_flat_ints ns, by rw [List.getElem?_map, g1]; rfl, ?_, fun m z' hm hz' => ?_, w2 _ H2 (Same.refl _) (.int _) fun z => nomatch z⟩
        · show (_ == _) = true
          exact beq_self_eq_true _
        · rw [List.getElem?_map] at hz'
          obtain ⟨y, hy, rfl⟩ := Option.map_eq_some_iff.mp hz'
          show (y == _) = false
          exact beq_eq_false_iff_ne.mpr fun e => g2 m hm (e ▸ hy)
  | bl _ => exact w1.elim
  | non => exact w1.elim
  | int _ => exact w1.elim
  | str _ => exact w1.elim
  | tup _ _ => exact w1.elim
  | scr _ _ => exact w1.elim
  | dic _ _ _ _ => exact w1.elim
  | dit _ _ _ _ => exact w1.elim
  | dif _ _ _ => exact w1.elim
  | rng _ => exact w1.elim
  | dct _ _ _ _ => exact w1.elim

/-! ### chains of comparisons -/
def PCh (X : Cx) (ops : List CmpOp) (rs : List (Sem Value)) (t : V → TE) : Prop := ∀ (pos : Pos) (pins : List (Addr × Obj)) (s : Shared) (σ : L2.St) (H : Hp) (x : V) (v : Value) (Q : VK), Inv X pins σ H s → RelV x v → t x σ H Q →
  wpAny (model X.prog X.w) X.A (compareChain pos v ops rs) (EP X pins σ Q) X.xe s
def PChT (X : Cx) (ops : List CmpOp) (rs : List (Sem Value)) (t : V → TT) : Prop := ∀ (pos : Pos) (pins : List (Addr × Obj)) (s : Shared) (σ : L2.St) (H : Hp) (x : V) (v : Value) (Q : Bool → Hp → Prop), Inv X pins σ H s → RelV x v → t x σ H Q →
  wpAny (model X.prog X.w) X.A (testChain pos v ops rs) (TP X pins σ Q) X.xe s
/-- .. as functions of data -/
def DCh (X : Cx) (M : Nat → Bool) (F : Fx) (E : L2.St → XK) (ops : List CmpOp) (rs : List (Sem Value)) (g : PyData → Rho → Re PyData) : Prop := ∃ t : V → TE, PCh X ops rs t ∧ ∀ σ H ρ x d lk, ER X.K M F σ H ρ → Rp X.K H (RS M F σ ρ lk) x d → ∀ Q, WE X M F E true false σ ρ H (g d ρ) Q → t x σ H Q
def DChT (X : Cx) (M : Nat → Bool) (F : Fx) (E : L2.St → XK) (ops : List CmpOp) (rs : List (Sem Value)) (g : PyData → Rho → Re Bool) : Prop := ∃ t : V → TT, PChT X ops rs t ∧ ∀ σ H ρ x d lk, ER X.K M F σ H ρ → Rp X.K H (RS M F σ ρ lk) x d → ∀ Q, WT X E σ H (g d ρ) Q → t x σ H Q
def cLast (gg : PyData → PyData → Option PyData) (g : Rho → Re PyData) : PyData → Rho → Re PyData := fun d ρ => (g ρ).andThen fun e => liftO (gg d e)
def cLink (gg : PyData → PyData → Option PyData) (g : Rho → Re PyData) (k : PyData → Rho → Re PyData) : PyData → Rho → Re PyData := fun d ρ => (g ρ).andThen fun e => match gg d e with | some (.bool true) => k e ρ | some (.bool false) => .ok (.bool false) | _ => .bad
def asR (d : Option PyData) : Re Bool := match d with | some (.bool b) => .ok b | _ => .bad
def cLastT (gg : PyData → PyData → Option PyData) (g : Rho → Re PyData) : PyData → Rho → Re Bool := fun d ρ => (g ρ).andThen fun e => asR (gg d e)
def cLinkT (gg : PyData → PyData → Option PyData) (g : Rho → Re PyData) (k : PyData → Rho → Re Bool) : PyData → Rho → Re Bool := fun d ρ => (g ρ).andThen fun e => match gg d e with | some (.bool true) => k e ρ | some (.bool false) => .ok false | _ => .bad
variable {op op' : CmpOp} {ops : List CmpOp} {rs : List (Sem Value)} {r : R2} {gg : PyData → PyData → Option PyData}
theorem rp_true {lk : Bool} {σ : L2.St} {ρ : Rho} {H : Hp} {x : V} {d : PyData} (h : Rp X.K H (RS M F σ ρ lk) x d) : Rp X.K H (RS M F σ ρ true) x d := h.wide rs_t
theorem dch_last (ho : OpR X (compareOp op) r) (hg : SemB X.K r false gg) (hb : DE X M F E lb fb b g) : DCh X M F E [op] [eval b X.env] (cLast gg g) := by
  obtain ⟨tb, pb, hb⟩ := hb
  refine ⟨fun x σ H Q => tb σ H fun y H2 => r x y H2 Q, fun pos pins s σ H x v Q I rx h => ?_, fun σ H ρ x d lk er rx Q w => ?_⟩
  · refine chain_last (thn (pb.run pins s σ H _ I h) ?_)
    rintro w' s4 ⟨z', H4, I4, r4, q4⟩
    exact ho pins s4 σ H4 x z' v w' Q I4 rx r4 q4
  · refine hb σ H ρ er _ (we_step (lk' := lb) w fun e v H1 e1 s1 r1 _ w1 => ?_)
    cases q : gg d e with
    | none =>
      rw [q] at w1
      exact w1.elim
    | some z =>
      rw [q] at w1
      exact hg (RS M F σ ρ true) H1 x v d e z Q (er.same s1).freshS ((rp_true rx).same s1) (rp_true r1) q fun v' H' s' r' f' => w1 v' H' s' r' f'
theorem dch_link {g1 : Sem Value} {k : PyData → Rho → Re PyData} (ho : OpR X (compareOp op) r) (hg : SemB X.K r false gg) (hb : DE X M F E lb fb b g) (hk : DCh X M F E (op' :: ops) (g1 :: rs) k) : DCh X M F E (op :: op' :: ops) (eval b X.env :: g1 :: rs) (cLink gg g k) := by
  obtain ⟨tb, pb, hb⟩ := hb
  obtain ⟨tk, pk, hk⟩ := hk
  refine ⟨fun x σ H Q => tb σ H fun y H2 => r x y H2 fun z H3 => ∃ c, z = .bl c ∧ (if c = true then tk y σ H3 Q else Q (.bl false) H3), fun pos pins s σ H x v Q I rx h => ?_, fun σ H ρ x d lk er rx Q w => ?_⟩
  · refine chain_link (thn (pb.run pins s σ H _ I h) ?_)
    rintro w' s4 ⟨z', H4, I4, r4, q4⟩
    refine thn (ho pins s4 σ H4 x z' v w' _ I4 rx r4 q4) ?_
    rintro d' s5 ⟨z2, H5, I5, r5, c, e2, q5⟩
    subst e2
    cases r5
    refine wpAny_truthy_bool ?_
    cases c with
    | true => exact pk pos pins s5 σ H5 z' w' Q I5 r4 q5
    | false => exact ⟨.bl false, H5, I5, rfl, q5⟩
  · refine hb σ H ρ er _ (we_step (lk' := lb) w fun e v H1 e1 s1 r1 _ w1 => ?_)
    have er1 := er.same s1
    have w1 : WE X M F E true false σ ρ H1 (match gg d e with | some (.bool true) => k e ρ | some (.bool false) => .ok (.bool false) | _ => .bad) Q := w1
    split at w1
    · rename_i q
      refine hg (RS M F σ ρ true) H1 x v d e (.bool true) _ er1.freshS ((rp_true rx).same s1) (rp_true r1) q fun v' H' s' r' f' => ?_
      cases r'
      refine ⟨true, rfl, ?_⟩
      refine hk σ H' ρ v e true (er1.same s') ((rp_true r1).same s') Q ?_
      revert w1
      cases k e ρ with
      | ok z => exact fun w1 v2 H2 s2 r2 f2 => w1 v2 H2 (s'.trans s2) r2 fun z => nomatch z
      | ex c => exact fun w1 C H2 m s2 => w1 C H2 m (s'.trans s2)
      | bad => exact fun w1 => w1
    · rename_i q
      refine hg (RS M F σ ρ true) H1 x v d e (.bool false) _ er1.freshS ((rp_true rx).same s1) (rp_true r1) q fun v' H' s' r' f' => ?_
      cases r'
      exact ⟨false, rfl, w1 _ H' s' (.bl false) fun z => nomatch z⟩
    · exact w1.elim
theorem dch_lastT (ho : OpR X (compareOp op) r) (hg : SemB X.K r false gg) (hb : DE X M F E lb fb b g) : DChT X M F E [op] [eval b X.env] (cLastT gg g) := by
  obtain ⟨tb, pb, hb⟩ := hb
  refine ⟨fun x σ H Q => tb σ H fun y H2 => r x y H2 fun z H3 => ∃ c, z = .bl c ∧ Q c H3, fun pos pins s σ H x v Q I rx h => ?_, fun σ H ρ x d lk er rx Q w => ?_⟩
  · refine test_last (thn (pb.run pins s σ H _ I h) ?_)
    rintro w' s4 ⟨z', H4, I4, r4, q4⟩
    refine thn (ho pins s4 σ H4 x z' v w' _ I4 rx r4 q4) ?_
    rintro d' s5 ⟨z2, H5, I5, r5, c, e2, q5⟩
    subst e2
    cases r5
    exact wpAny_truthy_bool ⟨H5, I5, q5⟩
  · refine hb σ H ρ er _ (wt_step (M := M) (F := F) (lk' := lb) w fun e v H1 e1 s1 r1 _ w1 => ?_)
    have w1 : WT X E σ H1 (asR (gg d e)) Q := w1
    unfold asR at w1
    split at w1
    · rename_i bb q
      refine hg (RS M F σ ρ true) H1 x v d e (.bool bb) _ (er.same s1).freshS ((rp_true rx).same s1) (rp_true r1) q fun v' H' s' r' f' => ?_
      cases r'
      exact ⟨bb, rfl, w1 H' s'⟩
    · exact w1.elim
theorem dch_linkT {g1 : Sem Value} {k : PyData → Rho → Re Bool} (ho : OpR X (compareOp op) r) (hg : SemB X.K r false gg) (hb : DE X M F E lb fb b g) (hk : DChT X M F E (op' :: ops) (g1 :: rs) k) : DChT X M F E (op :: op' :: ops) (eval b X.env :: g1 :: rs) (cLinkT gg g k) := by
  obtain ⟨tb, pb, hb⟩ := hb
  obtain ⟨tk, pk, hk⟩ := hk
  refine ⟨fun x σ H Q => tb σ H fun y H2 => r x y H2 fun z H3 => ∃ c, z = .bl c ∧ (if c = true then tk y σ H3 Q else Q false H3), fun pos pins s σ H x v Q I rx h => ?_, fun σ H ρ x d lk er rx Q w => ?_⟩
  · refine test_link (thn (pb.run pins s σ H _ I h) ?_)
    rintro w' s4 ⟨z', H4, I4, r4, q4⟩
    refine thn (ho pins s4 σ H4 x z' v w' _ I4 rx r4 q4) ?_
    rintro d' s5 ⟨z2, H5, I5, r5, c, e2, q5⟩
    subst e2
    cases r5
    refine wpAny_truthy_bool ?_
    cases c with
    | true => exact pk pos pins s5 σ H5 z' w' Q I5 r4 q5
    | false => exact ⟨H5, I5, q5⟩
  · refine hb σ H ρ er _ (wt_step (M := M) (F := F) (lk' := lb) w fun e v H1 e1 s1 r1 _ w1 => ?_)
    have er1 := er.same s1
    have w1 : WT X E σ H1 (match gg d e with | some (.bool true) => k e ρ | some (.bool false) => .ok false | _ => .bad) Q := w1
    split at w1
    · rename_i q
      refine hg (RS M F σ ρ true) H1 x v d e (.bool true) _ er1.freshS ((rp_true rx).same s1) (rp_true r1) q fun v' H' s' r' f' => ?_
      cases r'
      refine ⟨true, rfl, ?_⟩
      refine hk σ H' ρ v e true (er1.same s') ((rp_true r1).same s') Q ?_
      revert w1
      cases k e ρ with
      | ok z => exact fun w1 H2 s2 => w1 H2 (s'.trans s2)
      | ex c => exact fun w1 C H2 m s2 => w1 C H2 m (s'.trans s2)
      | bad => exact fun w1 => w1
    · rename_i q
      refine hg (RS M F σ ρ true) H1 x v d e (.bool false) _ er1.freshS ((rp_true rx).same s1) (rp_true r1) q fun v' H' s' r' f' => ?_
      cases r'
      exact ⟨false, rfl, w1 H' s'⟩
    · exact w1.elim
def rCh (f : Rho → Re PyData) (g : PyData → Rho → Re PyData) : Rho → Re PyData := fun ρ => (f ρ).andThen fun d => g d ρ
def rChT (f : Rho → Re PyData) (g : PyData → Rho → Re Bool) : Rho → Re Bool := fun ρ => (f ρ).andThen fun d => g d ρ
theorem de_chain {c1 c2 : Expr} {cs : List Expr} {h : PyData → Rho → Re PyData} (ha : DE X M F E la fa a f) (hk : DCh X M F E (op :: op' :: ops) (eval c1 X.env :: eval c2 X.env :: evalEach cs X.env) h) (hm : lastMarks (op :: op' :: ops) (c1 :: c2 :: cs) = false := by with_unfolding_all rfl) :
    DE X M F E true false (.Compare a (op :: op' :: ops) (c1 :: c2 :: cs) pos) (rCh f h) := by
  obtain ⟨ta, pa, ha⟩ := ha
  obtain ⟨tk, pk, hk⟩ := hk
  refine ⟨fun σ H Q => ta σ H fun x H1 => tk x σ H1 Q, ⟨fun pins s σ H Q I hw => Compare_chain (thn (pa.run pins s σ H _ I hw) ?_) hm⟩, fun σ H ρ er Q w => ?_⟩
  · rintro v s1 ⟨x, H1, I1, r1, q1⟩
    exact pk _ pins s1 σ H1 x v Q I1 r1 q1
  · exact ha σ H ρ er _ (we_step (lk' := la) w fun d v H1 e1 s1 r1 _ w1 => hk σ H1 ρ v d la (er.same s1) r1 Q w1)
theorem dt_chain {c1 c2 : Expr} {cs : List Expr} {h : PyData → Rho → Re Bool} (ha : DE X M F E la fa a f) (hk : DChT X M F E (op :: op' :: ops) (eval c1 X.env :: eval c2 X.env :: evalEach cs X.env) h) (hm : lastMarks (op :: op' :: ops) (c1 :: c2 :: cs) = false := by with_unfolding_all rfl) :
    DT X M F E (.Compare a (op :: op' :: ops) (c1 :: c2 :: cs) pos) (rChT f h) := by
  obtain ⟨ta, pa, ha⟩ := ha
  obtain ⟨tk, pk, hk⟩ := hk
  refine ⟨fun σ H Q => ta σ H fun x H1 => tk x σ H1 Q, ⟨fun pins s σ H Q I hw => isTrue_chain (thn (pa.run pins s σ H _ I hw) ?_) hm⟩, fun σ H ρ er Q w => ?_⟩
  · rintro v s1 ⟨x, H1, I1, r1, q1⟩
    exact pk _ pins s1 σ H1 x v Q I1 r1 q1
  · exact ha σ H ρ er _ (wt_step (M := M) (F := F) (lk' := la) w fun d v H1 e1 s1 r1 _ w1 => hk σ H1 ρ v d la (er.same s1) r1 Q w1)
end
end Pu

set_option Elab.async false
set_option linter.all false
set_option maxRecDepth 100000
set_option maxHeartbeats 2000000
namespace Pu
open PySem PySem.Spec PyProof.Rows L2
variable [TabL]

section
variable {X : Cx} {M : Nat → Bool} {F : Fx} {E : L2.St → XK} {s u : Rho → Sr} {pos : Pos} {i : Nat} {a : Addr} {b b' : Bool}
/-! ### a suite whose slot i holds the error at a -/
def DSE (X : Cx) (M : Nat → Bool) (F : Fx) (E : L2.St → XK) (i : Nat) (a : Addr) (st : List Stmt) (s : Rho → Sr) : Prop := ∃ t : TS, PSs X st t ∧ ∀ σ H ρ, ER X.K M F σ H ρ → σ[i]? = some (some (.ref a)) → ∀ D, WS X M F E σ H ρ (s ρ) D → t D σ H
theorem dse_of {st : List Stmt} (h : DSs X M F E st s) : DSE X M F E i a st s := by
  obtain ⟨t, p, h⟩ := h
  exact ⟨t, p, fun σ H ρ er _ D w => h σ H ρ er D w⟩
def DEe (X : Cx) (i : Nat) (a : Addr) (e : Expr) (b : Bool) : Prop := ∃ t : TE, PE X e t ∧ ∀ σ H, σ[i]? = some (some (.ref a)) → ∀ Q : VK, Q (.bl b) H → t σ H Q
def DTe (X : Cx) (i : Nat) (a : Addr) (e : Expr) (b : Bool) : Prop := ∃ t : TT, PT X e t ∧ ∀ σ H, σ[i]? = some (some (.ref a)) → ∀ Q : Bool → Hp → Prop, Q b H → t σ H Q
def DWe (X : Cx) (i : Nat) (a : Addr) (e : Expr) (b : Bool) : Prop := ∃ t : TT, PW X e t ∧ ∀ σ H, σ[i]? = some (some (.ref a)) → ∀ Q : Bool → Hp → Prop, Q b H → t σ H Q
theorem DWe.pt {e : Expr} (h : DWe X i a e b) : DTe X i a e b := by
  obtain ⟨t, p, h⟩ := h
  exact ⟨t, p.pt, h⟩
theorem dte_val {e : Expr} (h : DEe X i a e b) (he : ∀ whole, isTrue e X.env whole = (do let v ← whole; standAt e.pos; holding [v] (truthy v)) := by intro _; rfl) : DTe X i a e b := by
  obtain ⟨t, p, h⟩ := h
  exact ⟨_, pt_val p he, fun σ H hs Q q => h σ H hs _ ⟨b, rfl, q⟩⟩
theorem dte_not {c : Expr} (h : DTe X i a c b) : DTe X i a (.UnaryOp .Not c pos) (!b) := by
  obtain ⟨t, p, h⟩ := h
  exact ⟨_, pt_not p, fun σ H hs Q q => h σ H hs _ q⟩
theorem dwe_or1 {c : Expr} (h : DTe X i a c b) : DWe X i a (.BoolOp .Or [c] pos) b := by
  obtain ⟨t, p, h⟩ := h
  exact ⟨t, pw_or1 p, h⟩
theorem dwe_or {c d : Expr} {rest : List Expr} (h : DTe X i a c b) (k : DWe X i a (.BoolOp .Or (d :: rest) pos) b') : DWe X i a (.BoolOp .Or (c :: d :: rest) pos) (b || b') := by
  obtain ⟨t, p, h⟩ := h
  obtain ⟨t', p', k⟩ := k
  refine ⟨_, pw_or p p', fun σ H hs Q q => h σ H hs _ ?_⟩
  cases b with
  | true => exact q
  | false => exact k σ H hs Q q
theorem dwe_and1 {c : Expr} (h : DTe X i a c b) : DWe X i a (.BoolOp .And [c] pos) b := by
  obtain ⟨t, p, h⟩ := h
  exact ⟨t, pw_and1 p, h⟩
theorem dwe_and {c d : Expr} {rest : List Expr} (h : DTe X i a c b) (k : DWe X i a (.BoolOp .And (d :: rest) pos) b') : DWe X i a (.BoolOp .And (c :: d :: rest) pos) (b && b') := by
  obtain ⟨t, p, h⟩ := h
  obtain ⟨t', p', k⟩ := k
  refine ⟨_, pw_and p p', fun σ H hs Q q => h σ H hs _ ?_⟩
  cases b with
  | true => exact k σ H hs Q q
  | false => exact q
theorem dse_if {c : Expr} {x y rest : List Stmt} {s1 s2 : Rho → Sr} (hc : DTe X i a c b) (hx : DSs X M F E x s1) (hy : DSs X M F E y s2) (hr : DSs X M F E rest u) : DSE X M F E i a (.If c x y pos :: rest) (sSeq (if b = true then s1 else s2) u) := by
  obtain ⟨t, pc, hc⟩ := hc
  obtain ⟨t1, p1, h1⟩ := hx
  obtain ⟨t2, p2, h2⟩ := hy
  obtain ⟨t3, p3, h3⟩ := hr
  refine ⟨_, pss_cons (ps_if pc p1 p2) p3, fun σ H ρ er hs D w => ?_⟩
  refine hc σ H hs _ ?_
  have key : ∀ {s' : Rho → Sr} {t' : TS}, (∀ σ H ρ, ER X.K M F σ H ρ → ∀ D, WS X M F E σ H ρ (s' ρ) D → t' D σ H) → WS X M F E σ H ρ (sSeq s' u ρ) D → t' { D with nx := fun σ' H' => t3 D σ' H' } σ H := by
    intro s' t' ht w
    refine ht σ H ρ er _ ?_
    unfold sSeq at w
    cases q : s' ρ with
    | nx ρ' =>
      rw [q] at w
      exact fun σ' H' er' ev => h3 σ' H' ρ' er' D (ws_evo ev w)
    | rt d =>
      rw [q] at w
      exact w
    | bk ρ' =>
      rw [q] at w
      exact w
    | ct ρ' =>
      rw [q] at w
      exact w
    | ex c ρ' =>
      rw [q] at w
      exact w
    | bad =>
      rw [q] at w
      exact w
  cases b with
  | true => exact key h1 w
  | false => exact key h2 w
/-- isinstance(e, C), C an own class -/
theorem dee_own {D Cy : Addr} {oe : Obj} {pn : List (Addr × Obj)} {n y : Str} {p p1 p2 : Pos} (Ex : ExcC X.K D) (hz : Zc (.ref D) none oe) (hf : ∃ vs, oe.data = .fields vs) (hg : Gl X "isinstance") (hm : X.mg "isinstance" = none)
    (hN : X.N[i]? = some n) (hv : Vis X.env.scope n) (hy : Gl X y) (hmy : X.mg y = some (.ref Cy)) (hk : PySem.W.kitOne X.K (.ref D) (.ref Cy) = some b)
    (hdn : (n == ("__debug__" : Str)) = false := by decide) (hcd : (n == ("__classdict__" : Str)) = false := by decide) (hdy : (y == ("__debug__" : Str)) = false := by decide)
    (h1 : starEach [.Name n p1, .Name y p2] X.env = (false, eval (.Name n p1) X.env) :: starEach [.Name y p2] X.env := by rfl) (h2 : starEach [.Name y p2] X.env = (false, eval (.Name y p2) X.env) :: starEach [] X.env := by rfl) (hpl : (backTo pos (starEach [.Name y p2] X.env)).any (·.1) = false := by rfl) :
    DEe (X.suite a ((a, oe) :: pn)) i a (.Call (.Name "isinstance" p) [.Name n p1, .Name y p2] [] pos) b := by
  refine ⟨_, pe_callB (X := X.suite a ((a, oe) :: pn)) (call_isE Ex hz hf) hg hm PyProof.Rows.boot_isinstance (pa_cons (pe_var hN hv hdn hcd) (pa_cons (pe_glob (v := .ref Cy) hy hmy rfl hdy) pa_nil h2) h1) (he := h1) (hpl := hpl), fun σ H hs Q q => ?_⟩
  exact ⟨_, hs, .ref Cy, .ref Cy, b, rfl, fun _ r => r, hk, q⟩
/-- .. a built-in class -/
theorem dee_ty {D : Addr} {T : String} {oe : Obj} {pn : List (Addr × Obj)} {n y : Str} {p p1 p2 : Pos} (Ex : ExcC X.K D) (hz : Zc (.ref D) none oe) (hf : ∃ vs, oe.data = .fields vs) (hg : Gl X "isinstance") (hm : X.mg "isinstance" = none)
    (hN : X.N[i]? = some n) (hv : Vis X.env.scope n) (hy : Gl X y) (hmy : X.mg y = none) (hb : bootBuiltins y = some (.type T)) (hk : PySem.W.kitOne X.K (.ref D) (.type T) = some b)
    (hnT : y ≠ "__name__" := by decide) (hdn : (n == ("__debug__" : Str)) = false := by decide) (hcd : (n == ("__classdict__" : Str)) = false := by decide) (hdy : (y == ("__debug__" : Str)) = false := by decide)
    (h1 : starEach [.Name n p1, .Name y p2] X.env = (false, eval (.Name n p1) X.env) :: starEach [.Name y p2] X.env := by rfl) (h2 : starEach [.Name y p2] X.env = (false, eval (.Name y p2) X.env) :: starEach [] X.env := by rfl) (hpl : (backTo pos (starEach [.Name y p2] X.env)).any (·.1) = false := by rfl) :
    DEe (X.suite a ((a, oe) :: pn)) i a (.Call (.Name "isinstance" p) [.Name n p1, .Name y p2] [] pos) b := by
  refine ⟨_, pe_callB (X := X.suite a ((a, oe) :: pn)) (call_isE Ex hz hf) hg hm PyProof.Rows.boot_isinstance (pa_cons (pe_var hN hv hdn hcd) (pa_cons (pe_bltn (v := .ty T) hy hmy hb rfl hnT hdy) pa_nil h2) h1) (he := h1) (hpl := hpl), fun σ H hs Q q => ?_⟩
  exact ⟨_, hs, .ty T, .type T, b, rfl, fun _ r => r, hk, q⟩

/-- try: body; except c as n: suite -/
def sTryAs (c : Str) (i : Nat) (s u : Rho → Sr) : Rho → Sr := fun ρ => match s ρ with
  | .ex c' ρ' => if c' = c ∧ i < ρ'.length then (match u (ρ'.set i none) with
    | .nx ρ2 => .nx (ρ2.set i none)
    | .bk ρ2 => .bk (ρ2.set i none)
    | .ct ρ2 => .ct (ρ2.set i none)
    | .rt d => .rt d
    | .ex _ _ => .bad
    | .bad => .bad) else .bad
  | r => r
def canSE (X : Cx) (M : Nat → Bool) (E : L2.St → XK) (i : Nat) (a : Addr) (s : Rho → Sr) : TS := fun D σ H => ∃ (F : Fx) (ρ : Rho), ER X.K M F σ H ρ ∧ σ[i]? = some (some (.ref a)) ∧ WS X M F E σ H ρ (s ρ) D
theorem canSE_ok {st : List Stmt} (h : ∀ F, DSE X M F E i a st s) : PSs X st (canSE X M E i a s) := ⟨fun pins sh σ H D I ⟨F, ρ, er, hs, w⟩ => by
  obtain ⟨t, pt, h⟩ := h F
  exact pt.run pins sh σ H D I (h σ H ρ er hs D w)⟩

theorem ER.blot {σ : L2.St} {ρ : Rho} {H : Hp} (e : ER X.K M F σ H ρ) {i : Nat} (m : M i = false) (w : Option V) : ER X.K M F (σ.set i w) H (ρ.set i none) ∧ Evo M σ H ρ (σ.set i w) H (ρ.set i none) := by
  have own : ∀ a, OwnA M (σ.set i w) (ρ.set i none) a ↔ OwnA M σ ρ a := fun a => by
    constructor
    · rintro ⟨j, x, mj, r, s⟩
      have hj : i ≠ j := fun z => by
        subst z
        rw [m] at mj
        cases mj
      rw [List.getElem?_set_ne hj] at r s
      exact ⟨j, x, mj, r, s⟩
    · rintro ⟨j, x, mj, r, s⟩
      have hj : i ≠ j := fun z => by
        subst z
        rw [m] at mj
        cases mj
      exact ⟨j, x, mj, by rw [List.getElem?_set_ne hj]; exact r, by rw [List.getElem?_set_ne hj]; exact s⟩
  have rs : ∀ lk, RS M F (σ.set i w) (ρ.set i none) lk = RS M F σ ρ lk := fun lk => by
    funext a
    unfold RS
    rw [propext (own a)]
  have back : ∀ {j : Nat} {d : PyData}, (ρ.set i none)[j]? = some (some d) → i ≠ j ∧ ρ[j]? = some (some d) := fun {j d} q => by
    have hj : i ≠ j := fun z => by
      subst z
      have hi := getSome q
      rw [List.length_set] at hi
      rw [List.getElem?_set_self hi] at q
      cases q
    rw [List.getElem?_set_ne hj] at q
    exact ⟨hj, q⟩
  refine ⟨⟨by rw [List.length_set, List.length_set]; exact e.len, e.old, e.new, e.tab, fun j d q mj => ?_, fun j d q mj => ?_, fun j k d e' p mj mk q1 q2 s1 s2 => ?_⟩, fun a u q n _ => ⟨q, fun o => n ((own a).mp o)⟩⟩
  · obtain ⟨hj, q⟩ := back q
    obtain ⟨v, s, r⟩ := e.im j d q mj
    rw [rs]
    exact ⟨v, by rw [List.getElem?_set_ne hj]; exact s, r⟩
  · obtain ⟨hj, q⟩ := back q
    obtain ⟨p, s, z, w⟩ := e.ow j d q mj
    rw [rs]
    exact ⟨p, by rw [List.getElem?_set_ne hj]; exact s, z, w⟩
  · obtain ⟨hj, q1⟩ := back q1
    obtain ⟨hk, q2⟩ := back q2
    rw [List.getElem?_set_ne hj] at s1
    rw [List.getElem?_set_ne hk] at s2
    exact e.ap j k d e' p mj mk q1 q2 s1 s2
theorem ds_tryAs {c n : Str} {C : Addr} {i : Nat} {body suite : List Stmt} {b0 : Stmt} {np pos' : Pos} {k : Nat} (G : Gd X E k) (Ec : ErrC X.K X.mg c C) (hn : Gl X c ∧ (c == ("__debug__" : Str)) = false)
    (mi : M i = false) (hN : X.N.Nodup)
    (hb : ∀ (W : WX) (pn : List (Addr × Obj)) (xe : Value → Shared → Prop), Gd (X.tr pn xe) (fun σ cls d H => W cls d σ H) k → ∀ F, DSs (X.tr pn xe) M F (fun σ cls d H => W cls d σ H) body s)
    (hs : ∀ (a : Addr) (oe : Obj) (pn : List (Addr × Obj)) (F : Fx), Zc (.ref C) none oe → (∃ vs, oe.data = .fields vs) → DSE (X.suite a ((a, oe) :: pn)) M F E0s i a (b0 :: suite) u)
    (hi : X.N[i]? = some n := by rfl) (hln : X.env.kindOf n = some .local := by rfl) :
    DS X M F E (.Try body [.ExceptHandler (some (.Name c np)) (some n) (b0 :: suite) pos'] [] [] pos) (sTryAs c i s u) := by
  refine ⟨_, ps_try_as (tb := fun W => canS X M (fun σ cls d H => W cls d σ H) s) (ts := fun a cls d D σ H => (cls = .ref C ∧ d = none) ∧ canSE X M E0s i a u D σ H) G.stk G.frm hN hi hln ⟨hn.1, hn.2, .inl Ec.gC⟩ G.tk
    (fun W pn xe tk po => canS_ok (hb W pn xe ⟨G.room, fun σ => passAt tk σ, tk, po, G.stk, G.frm⟩)) (fun a oe cls d pn hz hf => ⟨fun pins sh σ H D I ⟨⟨e1, e2⟩, q⟩ => ?_⟩), fun σ H ρ er D w => ?_⟩
  · subst e1 e2
    exact (canSE_ok (fun F => hs a oe pn F hz hf)).run pins sh σ H D I q
  refine ⟨F, ρ, er, ?_⟩
  unfold sTryAs at w
  cases q : s ρ with
  | ex c' ρ' =>
    rw [q] at w
    have w2 : WS X M F E σ H ρ (if c' = c ∧ i < ρ'.length then (match u (ρ'.set i none) with
      | .nx ρ2 => .nx (ρ2.set i none)
      | .bk ρ2 => .bk (ρ2.set i none)
      | .ct ρ2 => .ct (ρ2.set i none)
      | .rt d => .rt d
      | .ex _ _ => .bad
      | .bad => .bad) else .bad) D := w
    clear w
    by_cases hc : c' = c ∧ i < ρ'.length
    · obtain ⟨hc, hl2⟩ := hc
      rw [if_pos ⟨hc, hl2⟩] at w2
      rw [hc]
      refine fun C' σ' H' m er' ev => ⟨true, ?_, fun _ a ha => ?_, fun z => nomatch z⟩
      · rw [Ec.gC] at m
        cases m
        exact Ec.eP
      · rw [Ec.gC] at m
        cases m
        obtain ⟨er2, ev2⟩ := er'.blot mi (some (.ref a))
        refine ⟨⟨rfl, rfl⟩, F, ρ'.set i none, er2, List.getElem?_set_self (by rw [← er'.len]; exact hl2), ?_⟩
        have w1 := ws_evo (ev.trans ev2) w2
        revert w1
        generalize u (ρ'.set i none) = r
        intro w1
        cases r with
        | ex c2 ρ2 => exact w1.elim
        | nx ρ2 => exact fun σ4 H4 er4 ev4 => w1 _ _ (er4.blot mi none).1 (ev4.trans (er4.blot mi none).2)
        | rt d => exact w1
        | bk ρ2 => exact fun σ4 H4 er4 ev4 => w1 _ _ (er4.blot mi none).1 (ev4.trans (er4.blot mi none).2)
        | ct ρ2 => exact fun σ4 H4 er4 ev4 => w1 _ _ (er4.blot mi none).1 (ev4.trans (er4.blot mi none).2)
        | bad => exact w1.elim
    · rw [if_neg hc] at w2
      exact w2.elim
  | nx ρ' =>
    rw [q] at w
    exact w
  | rt d =>
    rw [q] at w
    exact w
  | bk ρ' =>
    rw [q] at w
    exact w
  | ct ρ' =>
    rw [q] at w
    exact w
  | bad =>
    rw [q] at w
    exact w
end
end Pu

set_option Elab.async false
set_option linter.all false
set_option maxRecDepth 100000
set_option maxHeartbeats 2000000
namespace Pu
open PySem PySem.Spec PyProof.Rows L2
variable [TabL]

/-! ### a def and its mirror -/
def Has (P : Program) (w : World) (K : PySem.W.Frag) (mg : Str → Option Value) (base : Heap) (k : Nat) (x : Str) (ps : List Str) (f : List PyData → Re PyData) : Prop :=
  ∃ (fA : Addr) (fd : FuncData), FnOk P w K mg base (L2.CX P w) k fA fd ps (spD mg f K) ∧ mg x = some (.ref fA) ∧ PySem.W.keepIn K (.ref fA) = true ∧ Binds K fd ps []
def FnAt (K : PySem.W.Frag) (mg : Str → Option Value) (x : Str) (st : Stmt) : Prop := ∃ (fA : Addr) (fd : FuncData), FunD K x x (defArgs st) (defBody st) (defScope st) [] [] fA fd ∧ mg x = some (.ref fA)
section
variable {P : Program} {w : World} {K : PySem.W.Frag} {mg : Str → Option Value} {base : Heap}
theorem has_of {x : Str} {st : Stmt} {N ps : List Str} {k : Nat} (h : FnAt K mg x st) (S : FnScope N ps (defScope st)) (M : Nat → Bool) (hM : ∀ i, i < ps.length → M i = false) (s : Rho → Sr)
    (hbn : ∀ (kV doc pm : Value) (an : Option Addr) (cdv ct : Value) (us : List Value), us.length = ps.length → bindArgs (PySem.W.fnOf x x (defArgs st) (defBody st) (defScope st) .none kV doc pm an cdv ct) ⟨us, []⟩ = pure (ps.zip us))
    (hb : ∀ (fA : Addr) (cdv : Value) (A : Around) (outer : List Env) (sh : Shared) (H : Hp) (Ex : XK), Gd (cxOf (L2.CX P w) P w K mg base N x (defScope st) fA cdv A outer sh H Ex) (fun _ => Ex) k →
      ∀ F : Fx, DSs (cxOf (L2.CX P w) P w K mg base N x (defScope st) fA cdv A outer sh H Ex) M F (fun _ => Ex) (defBody st) s) :
    Has P w K mg base (k + 1) x ps (runF ps.length N.length s) := by
  obtain ⟨fA, fd, Fd, hg⟩ := h
  exact ⟨fA, fd, def_ok Fd S M hM s fun cdv A outer sh H Ex G F => hb fA cdv A outer sh H Ex G F, hg, Fd.kp, Fd.bindsN hbn⟩
end
section
variable {X : Cx} {M : Nat → Bool} {F : Fx} {E : L2.St → XK} {la fa : Bool} {a : Expr} {pos : Pos}
theorem de_fn {k : Nat} {ps : List Str} {ff : List PyData → Re PyData} {x : Str} {es : List Expr} {gs : Rho → Re (List PyData)} {p : Pos} (h : Has X.prog X.w X.K X.mg X.base k x ps ff) (hr : Room k X.A) (hx : ∀ σ, PassesAt (L2.CX X.prog X.w) X σ (E σ)) (ha : DA X M F E la (a :: es) gs)
    (hg : Gl X x := by rfl) (hdb : (x == ("__debug__" : Str)) = false := by decide) (he : starEach (a :: es) X.env = (false, eval a X.env) :: starEach es X.env := by rfl) (hpl : (backTo pos (starEach es X.env)).any (·.1) = false := by rfl) :
    DE X M F E la false (.Call (.Name x p) (a :: es) [] pos) (rCall ff gs) := by
  obtain ⟨fA, fd, G, hm, kp, bb⟩ := h
  exact de_call G hr hg hm kp bb hx ha hdb he hpl
end

/-! ### the law's end -/
theorem rpA_ints {K : PySem.W.Frag} {H : Hp} {S : Addr → Prop} : ∀ ns : List Int, RpA K H S (ns.map V.int) (ns.map PyData.int)
  | [] => .nil
  | n :: ns => .cons (.int n) (rpA_ints ns)
/-- the script as data -/
def scrD (ns : List Int) : PyData := .dict [(.none, .list (ns.map PyData.int))]
theorem end_sp {mg : Str → Option Value} {K : PySem.W.Frag} {f : List PyData → Re PyData} {ns : List Int} {H : Hp} {a : Addr} (h : f [scrD ns] = .ok (.bool true)) (hT : LamX.Tabs TabL.T H) (hS : SqL K H a (ns.map V.int)) (hx : ∀ H' : Hp, ((∃ o, H a = some (.frz o (.lst (ns.map V.int)))) ∨ H a = some (.lst (ns.map V.int))) ∨ SqL K H' a (ns.map V.int)) : spD mg f K [.ref a] H (fun v _ => v = .bl true) fun _ _ _ => False := by
  refine ⟨[scrD ns], fun _ => True, .cons (.scr ?_ (rpA_ints ns)) .nil, ⟨fun _ _ => trivial, hT⟩, ?_⟩
  · by_cases c : (∃ o, H a = some (.frz o (.lst (ns.map V.int)))) ∨ H a = some (.lst (ns.map V.int))
    · rcases c with c | c
      · exact .inr (.inl c)
      · exact .inl ⟨c, trivial⟩
    · exact .inr (.inr fun H' => (hx H').resolve_left c)
  · rw [h]
    intro v H' _ r
    cases r
    rfl
/-- cs: the code objects and their tables; T tells their lambdas' names -/
theorem walkT {l : PySem.W.OpenLaw} {n k : Nat} {q : Program} {loose : List Str} {XP : (Str → Option Value) → Heap → Prop} {YP : World → Heap → Prop} {d : DefRec} {x : Str} {f : List PyData → Re PyData}
    (hn : l.most = some n) (hn2 : n ≤ sizeLine) (hdf : d.params.defaults = []) (hr : Room k callerA)
    (hf : ∀ ns : List Int, ns.length ≤ n → f [scrD ns] = .ok (.bool true))
    (F : ∀ (w : World) (mg : Str → Option Value) (fa : Addr) (h : Heap), YP w h → h.Ns mainGlobals mg → mg d.name = some (.ref fa) →
      ∃ (K : PySem.W.Frag) (fd : FuncData) (cs : List (Addr × Addr)) (T : List (Addr × Str)), K.In h ∧ (∀ p ∈ cs, h.get? p.2 = some { cls := .none, data := .fields #[] }) ∧ (∀ p ∈ cs, K.lookup p.2 = none) ∧ (∀ p ∈ cs, PySem.W.CodeHd h p.1 p.2) ∧ (∀ t ∈ T, ∃ p ∈ cs, p.2 = t.1) ∧
        (∀ (s : Shared) (u : Value), BindsTo s fd ⟨[u], []⟩ [(x, u)]) ∧ ∀ base : Heap, K.In base → base.Ns mainGlobals mg → (∀ p ∈ cs, LamX.TabB base mg p.1 p.2) → letI : TabL := ⟨T⟩; FnOk l.prog w K mg base (L2.CX l.prog w) k fa fd [x] (spD mg f K)) :
    PySem.W.WalkO q loose XP YP l.row.toRowW d [] (fun f vs => PySem.call f vs) := by
  refine Att.attach_callB hn hdf fun w s₀ s₁ mg mb fA o pm cd doc a vs ns G Y ho hd hcd hmg hobj hints hlen hbits hg => ?_
  obtain ⟨K, fd, cs, T, KX, h1, h2, h3, h4, h5, h6⟩ := F w mg fA _ Y G.T.g hmg
  refine LamX.law_callTs KX G.T.g G.T.b G.T.builtins G.T.nolimit hg h1 h2 h3 G.T.bmain hobj hints (Nat.le_trans hlen hn2) hr h6 h5 (fun H hH hS => ?_) fun H e s' c => ?_
  · letI : TabL := ⟨T⟩
    refine end_sp (hf ns hlen) (fun t ht => ?_) hS fun H' => ?_
    · obtain ⟨p, hp, e⟩ := h4 t ht
      exact LamX.TabS.nil (e ▸ hH p hp)
    · rcases hS with (h1 | h1) | h1
      · exact .inl (.inr h1)
      · exact .inl (.inl h1)
      · exact .inr (.inr h1)
  · obtain ⟨_, _, _, _, _, _, _, _, _, _, _, _, z⟩ := c
    exact z.elim
/-- the law's def, where the row calls it -/
theorem law_fn {P : Program} {w : World} {K : PySem.W.Frag} {mg : Str → Option Value} {x p : Str} {st : Stmt} {k : Nat} {f : List PyData → Re PyData} {fa : Addr} (hx : mg x = some (.ref fa)) (h : FnAt K mg x st)
    (hbn : ∀ (kV doc pm : Value) (an : Option Addr) (cdv ct : Value) (us : List Value), us.length = [p].length → bindArgs (PySem.W.fnOf x x (defArgs st) (defBody st) (defScope st) .none kV doc pm an cdv ct) ⟨us, []⟩ = pure ([p].zip us))
    (hh : ∀ base : Heap, K.In base → base.Ns mainGlobals mg → ∀ (fA : Addr) (fd : FuncData), FunD K x x (defArgs st) (defBody st) (defScope st) [] [] fA fd → mg x = some (.ref fA) → FnOk P w K mg base (L2.CX P w) k fA fd [p] (spD mg f K)) :
    ∃ fd : FuncData, (∀ (s : Shared) (u : Value), BindsTo s fd ⟨[u], []⟩ [(p, u)]) ∧ ∀ base : Heap, K.In base → base.Ns mainGlobals mg → FnOk P w K mg base (L2.CX P w) k fa fd [p] (spD mg f K) := by
  obtain ⟨fA, fd, Fd, hg⟩ := h
  have e := hx.symm.trans hg
  cases e
  have b := FunD.bindsA (ps := [p]) Fd hbn
  exact ⟨fd, fun s u => b s [u] rfl, fun base h1 h2 => hh base h1 h2 _ fd Fd hg⟩

/-! ### the head: facts of one's own beside He.Fa -/
def excB (K : PySem.W.Frag) (D : Addr) : Bool := He.eqO (PySem.W.findIn K (.ref D) "__getattribute__") (some (some (.builtin "BaseException.__getattribute__"))) && (He.eqO (PySem.W.findIn K (.ref D) "__getattr__") (some none) &&
  (decide (PySem.W.subIn K (.ref D) (.type "BaseException") = some true) && (PySem.W.hasDictIn K D && (He.eqO (PySem.W.findIn K (.ref D) "__class__") (some (some (.builtin "object.__class__"))) &&
  (He.eqO (PySem.W.specialIn K (.builtin "object.__class__") "__get__") (some (some (.builtin "getset_descriptor.__get__"))) && (decide (PySem.W.takesIn K (.builtin "object.__class__") = some true) && decide (PySem.W.mroIn K D (.type "object") = some true)))))))
theorem excB_ok {K : PySem.W.Frag} {D : Addr} (h : excB K D = true) : ExcC K D := by
  obtain ⟨h1, h⟩ := He.ba h
  obtain ⟨h2, h⟩ := He.ba h
  obtain ⟨h3, h⟩ := He.ba h
  obtain ⟨h4, h⟩ := He.ba h
  obtain ⟨h5, h⟩ := He.ba h
  obtain ⟨h6, h⟩ := He.ba h
  obtain ⟨h7, h8⟩ := He.ba h
  exact ⟨He.eqO_ok h1, He.eqO_ok h2, of_decide_eq_true h3, h4, He.eqO_ok h5, He.eqO_ok h6, of_decide_eq_true h7, of_decide_eq_true h8⟩
/-- y: isinstance of an error of x is b -/
def kitB2 (K : PySem.W.Frag) (x y : Str) (b : Bool) : Bool := decide (PySem.W.kitOne K (.ref (He.ga K x)) (.ref (He.ga K y)) = some b)
def kitT2 (K : PySem.W.Frag) (x T : Str) (t : String) (b : Bool) : Bool := decide (PySem.W.kitOne K (.ref (He.ga K x)) (.type t) = some b)
inductive Fx2 where
  | exc (x : Str)
  | kit (x y : Str) (b : Bool)
  | kitT (x : Str) (t : String) (b : Bool)
  | blt (x : Str) (id : String)
  | own (x : Str)
  | kitR (t : String) (y : Str) (b : Bool)
  | subR (t : String) (y : Str)
/-- what isinstance asks of an own class -/
def ownB (K : PySem.W.Frag) (D : Addr) : Bool := He.eqO (PySem.W.findIn K (.ref D) "__class__") (some (some (.builtin "object.__class__"))) && (He.eqO (PySem.W.specialIn K (.builtin "object.__class__") "__get__") (some (some (.builtin "getset_descriptor.__get__"))) &&
  (decide (PySem.W.takesIn K (.builtin "object.__class__") = some true) && decide (PySem.W.mroIn K D (.type "object") = some true)))
structure OwnC (K : PySem.W.Frag) (D : Addr) : Prop where
  ha : PySem.W.findIn K (.ref D) "__class__" = some (some (.builtin "object.__class__"))
  hn : PySem.W.specialIn K (.builtin "object.__class__") "__get__" = some (some (.builtin "getset_descriptor.__get__"))
  htk : PySem.W.takesIn K (.builtin "object.__class__") = some true
  hm : PySem.W.mroIn K D (.type "object") = some true
theorem ownB_ok {K : PySem.W.Frag} {D : Addr} (h : ownB K D = true) : OwnC K D := by
  obtain ⟨h1, h⟩ := He.ba h
  obtain ⟨h2, h⟩ := He.ba h
  obtain ⟨h3, h4⟩ := He.ba h
  exact ⟨He.eqO_ok h1, He.eqO_ok h2, of_decide_eq_true h3, of_decide_eq_true h4⟩
def Fx2.ok (K : PySem.W.Frag) : Fx2 → Bool
  | .exc x => excB K (He.ga K x)
  | .kit x y b => decide (PySem.W.kitOne K (.ref (He.ga K x)) (.ref (He.ga K y)) = some b)
  | .kitT x t b => decide (PySem.W.kitOne K (.ref (He.ga K x)) (.type t) = some b)
  | .blt x id => He.eqO (PySem.W.nsIn K mainGlobals x) (some (some (.builtin id)))
  | .own x => ownB K (He.ga K x)
  | .kitR t y b => decide (PySem.W.kitOne K (.type t) (.ref (He.ga K y)) = some b)
  | .subR t y => decide (PySem.W.subIn K (.type t) (.ref (He.ga K y)) = some false)
theorem blt_ok {K : PySem.W.Frag} {mg : Str → Option Value} {h : Heap} {x : Str} {id : String} (X : K.In h) (G : h.Ns mainGlobals mg) (c : (Fx2.blt x id).ok K = true) : mg x = some (.builtin id) := PySem.W.mg_of X G (He.eqO_ok c)
def obsP (fa : List He.Fa) (fx : List Fx2) (fn : List He.DefD) (K : PySem.W.Frag) : He.AlD := ((He.obsD fa fn K).1 && fx.all fun f => f.ok K, (He.obsD fa fn K).2)
def SaysP (fa : List He.Fa) (fx : List Fx2) (fn : List He.DefD) (K : PySem.W.Frag) : Prop := obsP fa fx fn K = He.valD fn
def obsPG (n : Nat) (fa : List He.Fa) (fx : List Fx2) (fn : List He.DefD) (g : Addr → Option Obj) : He.AlD := obsP fa fx fn (He.frG g (He.asD g n))
def hookP (n : Nat) (fa : List He.Fa) (fx : List Fx2) (fn : List He.DefD) : PySem.W.Hook where
  α := He.AlD
  obs := fun s => obsPG n fa fx fn s.heap.get?
  val := fun _ => He.valD fn
  says := fun _ h => ∃ K : PySem.W.Frag, K.In h ∧ SaysP fa fx fn K
  of := fun _ _ e => ⟨_, He.frG_in, e⟩
  keeps := fun _ _ _ ⟨K, hK, c⟩ k => ⟨K, PySem.W.Frag.In.keeps hK k, c⟩
theorem obsPG_eq {n : Nat} {fa : List He.Fa} {fx : List Fx2} {fn : List He.DefD} {g : Addr → Option Obj} {s : Shared} (h : ∀ a, g a = s.heap.get? a) : obsPG n fa fx fn g = (hookP n fa fx fn).obs s := by
  rw [show g = s.heap.get? from funext h] <;> rfl
theorem SaysP.d {fa : List He.Fa} {fx : List Fx2} {fn : List He.DefD} {K : PySem.W.Frag} (c : SaysP fa fx fn K) : He.SaysD fa fn K := by
  have h1 : ((He.obsD fa fn K).1 && fx.all fun f => f.ok K) = true := congrArg (fun z : He.AlD => z.1) c
  have c1 : obsP fa fx fn K = He.valD fn := c
  have h2 := congrArg (fun z : He.AlD => z.2) c1
  exact Prod.ext (He.ba h1).1 h2
theorem SaysP.x {fa : List He.Fa} {fx : List Fx2} {fn : List He.DefD} {K : PySem.W.Frag} (c : SaysP fa fx fn K) (i : Nat) {f : Fx2} (h : fx[i]? = some f := by rfl) : f.ok K = true := by
  have h1 : ((He.obsD fa fn K).1 && fx.all fun f => f.ok K) = true := congrArg (fun z : He.AlD => z.1) c
  exact List.all_eq_true.mp (He.ba h1).2 f (List.mem_of_getElem? h)
theorem errC_of {K : PySem.W.Frag} {mg : Str → Option Value} {h : Heap} {x : Str} (X : K.In h) (G : h.Ns mainGlobals mg) (h1 : (He.Fa.glo x).ok K = true) (h2 : (He.Fa.exc x).ok K = true) (h3 : (He.Fa.exm x x true).ok K = true) : ErrC K mg x (He.ga K x) := by
  obtain ⟨a, b, c, d⟩ := He.exc_ok h2
  exact ⟨He.glo_ok X G h1, a, b, c, d, He.exm_ok h3⟩
theorem fnAt_of {K : PySem.W.Frag} {mg : Str → Option Value} {h : Heap} {x : Str} {st : Stmt} {fa : List He.Fa} {fx : List Fx2} {fn : List He.DefD} (X : K.In h) (G : h.Ns mainGlobals mg) (c : SaysP fa fx fn K) (i j : Nat)
    (hd : fn[i]? = some ⟨(x, none), x, x, defArgs st, defBody st, defScope st, [], []⟩ := by rfl) (hg : fa[j]? = some (.glo x) := by rfl) : FnAt K mg x st := by
  obtain ⟨fd, Fd⟩ := c.d.def_ i hd
  exact ⟨_, fd, Fd, He.glo_ok X G (c.d.fact j hg)⟩
end Pu

set_option Elab.async false
set_option linter.all false
set_option maxRecDepth 100000
set_option maxHeartbeats 2000000
namespace Pu
open PySem PySem.Spec PyProof.Rows L2
variable [TabL]
def rB (gg : List PyData → Option PyData) (gs : Rho → Re (List PyData)) : Rho → Re PyData := fun ρ => (gs ρ).andThen fun ds => liftO (gg ds)
def rIsi (T : String) (f : Rho → Re PyData) : Rho → Re PyData := fun ρ => (f ρ).andThen fun d => liftO ((isD d T).map PyData.bool)
def iR1 (gs : Rho → Re (List PyData)) : Rho → Re (List PyData) := fun ρ => (gs ρ).andThen rg1
def iR2 (gs : Rho → Re (List PyData)) : Rho → Re (List PyData) := fun ρ => (gs ρ).andThen rg2
def sErr (c : Str) : Rho → Sr := fun ρ => .ex c ρ
def sRetN : Rho → Sr := fun _ => .rt .none
def sBrk : Rho → Sr := fun ρ => .bk ρ
def sCnt : Rho → Sr := fun ρ => .ct ρ
theorem ru {k : Nat} {A : Around} (r : Room k A) : A.units + 64 < cLine := by
  have := r.un
  omega
section
variable {X : Cx} {M : Nat → Bool} {F : Fx} {E : L2.St → XK} {la fa fr : Bool} {a b : Expr} {pos : Pos} {f : Rho → Re PyData}
theorem db {id : String} {r : List V → Hp → VK → Prop} {gg : List PyData → Option PyData} {x : Str} {es : List Expr} {gs : Rho → Re (List PyData)} {p : Pos} (hc : CallR X (.builtin id) r) (hS : SemL X.K r fr gg) (hm : X.mg x = none) (hv : bootBuiltins x = some (.builtin id))
    (ha : DA X M F E la (a :: es) gs) (hg : Gl X x := by rfl) (hn : x ≠ "__name__" := by decide) (hdb : (x == ("__debug__" : Str)) = false := by decide)
    (he : starEach (a :: es) X.env = (false, eval a X.env) :: starEach es X.env := by rfl) (hpl : (backTo pos (starEach es X.env)).any (·.1) = false := by rfl) : DE X M F E la fr (.Call (.Name x p) (a :: es) [] pos) (rB gg gs) := de_callB hc hS hg hm hv ha hn hdb he hpl
theorem dt {id : String} {r : List V → Hp → VK → Prop} {gg : List PyData → Option PyData} {x : Str} {es : List Expr} {gs : Rho → Re (List PyData)} {p : Pos} (hc : CallR X (.type id) r) (hS : SemL X.K r fr gg) (hm : X.mg x = none) (hv : bootBuiltins x = some (.type id))
    (ha : DA X M F E la (a :: es) gs) (hg : Gl X x := by rfl) (hn : x ≠ "__name__" := by decide) (hdb : (x == ("__debug__" : Str)) = false := by decide)
    (he : starEach (a :: es) X.env = (false, eval a X.env) :: starEach es X.env := by rfl) (hpl : (backTo pos (starEach es X.env)).any (·.1) = false := by rfl) : DE X M F E la fr (.Call (.Name x p) (a :: es) [] pos) (rB gg gs) := de_callTy hc hS hg hm hv ha hn hdb he hpl
end
end Pu

set_option Elab.async false
set_option linter.all false
set_option maxRecDepth 100000
set_option maxHeartbeats 2000000
/-! reckoning with the readings -/
namespace Pu
open PySem PySem.Spec PyProof.Rows L2
variable [TabL]
section
variable {α β : Type} {ρ : Rho}
@[simp] theorem re_ok (a : α) (g : α → Re β) : (Re.ok a).andThen g = g a := (rfl)
@[simp] theorem re_ex (c : Str) (g : α → Re β) : (Re.ex c : Re α).andThen g = .ex c := (rfl)
@[simp] theorem re_bad (g : α → Re β) : (Re.bad : Re α).andThen g = .bad := (rfl)
@[simp] theorem st_ok (d : PyData) (k : PyData → Sr) : (Re.ok d).st ρ k = k d := (rfl)
@[simp] theorem st_ex (c : Str) (k : PyData → Sr) : (Re.ex c).st ρ k = .ex c ρ := (rfl)
@[simp] theorem st_bad (k : PyData → Sr) : (Re.bad).st ρ k = .bad := (rfl)
@[simp] theorem stT_ok (d : Bool) (k : Bool → Sr) : (Re.ok d).stT ρ k = k d := (rfl)
@[simp] theorem stT_ex (c : Str) (k : Bool → Sr) : (Re.ex c).stT ρ k = .ex c ρ := (rfl)
@[simp] theorem stT_bad (k : Bool → Sr) : (Re.bad).stT ρ k = .bad := (rfl)
@[simp] theorem stL_ok (d : List PyData) (k : List PyData → Sr) : (Re.ok d).stL ρ k = k d := (rfl)
@[simp] theorem stL_ex (c : Str) (k : List PyData → Sr) : (Re.ex c).stL ρ k = .ex c ρ := (rfl)
@[simp] theorem stL_bad (k : List PyData → Sr) : (Re.bad).stL ρ k = .bad := (rfl)
@[simp] theorem lift_some (a : α) : liftO (some a) = Re.ok a := (rfl)
@[simp] theorem lift_none : liftO (none : Option α) = Re.bad := (rfl)
def vOf : Option (Option PyData) → Re PyData
  | some (some d) => .ok d
  | _ => .bad
@[simp] theorem vOf_some (d : PyData) : vOf (some (some d)) = .ok d := (rfl)
@[simp] theorem ap_var (i : Nat) : rVar i ρ = vOf ρ[i]? := by
  unfold rVar vOf
  rfl
@[simp] theorem ap_c (d : PyData) : rC d ρ = .ok d := (rfl)
@[simp] theorem ap_2 (g : PyData → PyData → Option PyData) (f h : Rho → Re PyData) : r2 g f h ρ = (f ρ).andThen fun x => (h ρ).andThen fun y => liftO (g x y) := (rfl)
@[simp] theorem ap_1 (g : PyData → Option PyData) (f : Rho → Re PyData) : r1 g f ρ = (f ρ).andThen fun x => liftO (g x) := (rfl)
def bOf : PyData → Re Bool
  | .bool b => .ok b
  | _ => .bad
@[simp] theorem bOf_bool (b : Bool) : bOf (.bool b) = .ok b := (rfl)
@[simp] theorem ap_asB (f : Rho → Re PyData) : asB f ρ = (f ρ).andThen bOf := by
  unfold asB
  congr 1
@[simp] theorem ap_tAnd (f g : Rho → Re Bool) : tAndR f g ρ = (f ρ).andThen fun c => if c = true then g ρ else .ok false := (rfl)
@[simp] theorem ap_tOr (f g : Rho → Re Bool) : tOrR f g ρ = (f ρ).andThen fun c => if c = true then .ok true else g ρ := (rfl)
@[simp] theorem ap_tNot (f : Rho → Re Bool) : tNotR f ρ = (f ρ).andThen fun c => .ok (!c) := (rfl)
@[simp] theorem ap_if (p : Rho → Re Bool) (f g : Rho → Re PyData) : rIf p f g ρ = (p ρ).andThen fun c => if c = true then f ρ else g ρ := (rfl)
def andB (d : PyData) (r : Re PyData) : Re PyData := match d with | .bool true => r | .bool false => .ok (.bool false) | _ => .bad
def orB (d : PyData) (r : Re PyData) : Re PyData := match d with | .bool false => r | .bool true => .ok (.bool true) | _ => .bad
@[simp] theorem andB_b (b : Bool) (r : Re PyData) : andB (.bool b) r = if b = true then r else .ok (.bool false) := by cases b <;> rfl
@[simp] theorem orB_b (b : Bool) (r : Re PyData) : orB (.bool b) r = if b = true then .ok (.bool true) else r := by cases b <;> rfl
@[simp] theorem ap_and (f g : Rho → Re PyData) : rAnd f g ρ = (f ρ).andThen fun d => andB d (g ρ) := (rfl)
@[simp] theorem ap_or (f g : Rho → Re PyData) : rOr f g ρ = (f ρ).andThen fun d => orB d (g ρ) := (rfl)
def notB : PyData → Re PyData
  | .bool b => .ok (.bool (!b))
  | _ => .bad
@[simp] theorem notB_b (b : Bool) : notB (.bool b) = .ok (.bool (!b)) := (rfl)
@[simp] theorem ap_not (f : Rho → Re PyData) : rNot f ρ = (f ρ).andThen notB := by
  unfold rNot
  congr 1
@[simp] theorem ap_nil : aNil ρ = .ok [] := (rfl)
@[simp] theorem ap_cons (f : Rho → Re PyData) (g : Rho → Re (List PyData)) : aCons f g ρ = (f ρ).andThen fun d => (g ρ).andThen fun ds => .ok (d :: ds) := (rfl)
@[simp] theorem ap_tup (g : Rho → Re (List PyData)) : rTup g ρ = (g ρ).andThen mkT := (rfl)
@[simp] theorem ap_lst (g : Rho → Re (List PyData)) : rLst g ρ = (g ρ).andThen mkL := (rfl)
@[simp] theorem ap_call (ff : List PyData → Re PyData) (g : Rho → Re (List PyData)) : rCall ff g ρ = (g ρ).andThen ff := (rfl)
@[simp] theorem ap_B (gg : List PyData → Option PyData) (g : Rho → Re (List PyData)) : rB gg g ρ = (g ρ).andThen fun ds => liftO (gg ds) := (rfl)
@[simp] theorem ap_iR1 (g : Rho → Re (List PyData)) : iR1 g ρ = (g ρ).andThen rg1 := (rfl)
@[simp] theorem ap_iR2 (g : Rho → Re (List PyData)) : iR2 g ρ = (g ρ).andThen rg2 := (rfl)
@[simp] theorem ap_iOf (h : PyData → Re (List PyData)) (f : Rho → Re PyData) : iOf h f ρ = (f ρ).andThen h := (rfl)
@[simp] theorem ap_cut (f : Rho → Re PyData) (lo hi : Rho → Re (Option Int)) : rCut f lo hi ρ = (f ρ).andThen fun d => (lo ρ).andThen fun l => (hi ρ).andThen fun h => oCut d l h := (rfl)
@[simp] theorem ap_noI : noI ρ = .ok none := (rfl)
def iV : PyData → Re (Option Int)
  | .int i => .ok (some i)
  | _ => .bad
@[simp] theorem iV_int (i : Int) : iV (.int i) = .ok (some i) := (rfl)
@[simp] theorem ap_asI (f : Rho → Re PyData) : asI f ρ = (f ρ).andThen iV := by
  unfold asI
  congr 1
def tupRg : PyData → PyData → Option PyData := fun d e => match d, e with | .int i, .int j => if rgOk i j = true then some (.tuple (upFrom i (j - i).toNat)) else none | _, _ => none
@[simp] theorem ap_tupRg (f g : Rho → Re PyData) : rTupRg f g ρ = (f ρ).andThen fun x => (g ρ).andThen fun y => liftO (tupRg x y) := (rfl)
@[simp] theorem ap_yes : yesR ρ = .ok true := (rfl)
@[simp] theorem ap_sNil : sNil ρ = .nx ρ := (rfl)
def sqS (r : Sr) (u : Rho → Sr) : Sr := match r with | .nx ρ' => u ρ' | r => r
@[simp] theorem sqS_nx (ρ' : Rho) (u : Rho → Sr) : sqS (.nx ρ') u = u ρ' := (rfl)
@[simp] theorem sqS_rt (d : PyData) (u : Rho → Sr) : sqS (.rt d) u = .rt d := (rfl)
@[simp] theorem sqS_bk (ρ' : Rho) (u : Rho → Sr) : sqS (.bk ρ') u = .bk ρ' := (rfl)
@[simp] theorem sqS_ct (ρ' : Rho) (u : Rho → Sr) : sqS (.ct ρ') u = .ct ρ' := (rfl)
@[simp] theorem sqS_ex (c : Str) (ρ' : Rho) (u : Rho → Sr) : sqS (.ex c ρ') u = .ex c ρ' := (rfl)
@[simp] theorem sqS_bad (u : Rho → Sr) : sqS .bad u = .bad := (rfl)
@[simp] theorem ap_sSeq (s u : Rho → Sr) : sSeq s u ρ = sqS (s ρ) u := by
  unfold sSeq sqS
  rfl
@[simp] theorem sqS_ite (c : Prop) [Decidable c] (a b : Sr) (u : Rho → Sr) : sqS (if c then a else b) u = if c then sqS a u else sqS b u := by
  by_cases h : c
  · rw [if_pos h, if_pos h]
  · rw [if_neg h, if_neg h]
@[simp] theorem ap_sIf (p : Rho → Re Bool) (s u : Rho → Sr) : sIf p s u ρ = (p ρ).stT ρ fun b => if b = true then s ρ else u ρ := (rfl)
@[simp] theorem ap_sRet (f : Rho → Re PyData) : sRet f ρ = (f ρ).st ρ fun d => .rt d := (rfl)
@[simp] theorem ap_sDrop (f : Rho → Re PyData) : sDrop f ρ = (f ρ).st ρ fun _ => .nx ρ := (rfl)
@[simp] theorem ap_sSet (i : Nat) (f : Rho → Re PyData) : sSet i false f ρ = (f ρ).st ρ fun d => .nx (ρ.set i (some d)) := by
  unfold sSet
  congr 1
@[simp] theorem ap_sSetO (i : Nat) (f : Rho → Re PyData) : sSetO i false f ρ = (f ρ).st ρ fun d => if i < ρ.length then .nx (ρ.set i (some d)) else .bad := by
  unfold sSetO
  congr 1
  funext d
  simp
@[simp] theorem ap_sErr (c : Str) : sErr c ρ = .ex c ρ := (rfl)
@[simp] theorem ap_sRetN : sRetN ρ = .rt .none := (rfl)
@[simp] theorem ap_sBrk : sBrk ρ = .bk ρ := (rfl)
@[simp] theorem ap_sCnt : sCnt ρ = .ct ρ := (rfl)
@[simp] theorem ap_sFor (it : Rho → Re (List PyData)) (g : PyData → Rho → Option Rho) (b : Rho → Sr) : sFor it g b ρ = (it ρ).stL ρ fun ds => sLoop g b ds ρ := (rfl)
/-- the end of a def -/
def outR : Sr → Re PyData
  | .nx _ => .ok .none
  | .rt d => .ok d
  | .ex c _ => .ex c
  | _ => .bad
@[simp] theorem outR_nx : outR (.nx ρ) = .ok .none := (rfl)
@[simp] theorem outR_rt (d : PyData) : outR (.rt d) = .ok d := (rfl)
@[simp] theorem outR_ex (c : Str) : outR (.ex c ρ) = .ex c := (rfl)
@[simp] theorem outR_ite (c : Prop) [Decidable c] (a b : Sr) : outR (if c then a else b) = if c then outR a else outR b := by
  by_cases h : c
  · rw [if_pos h, if_pos h]
  · rw [if_neg h, if_neg h]
theorem run_eq {n m : Nat} {s : Rho → Sr} {ds : List PyData} (h : ds.length = n) : runF n m s ds = outR (s (ds.map some ++ List.replicate (m - n) none)) := by
  unfold runF outR
  exact (if_pos h).trans (by rfl)
theorem run1 {m : Nat} {s : Rho → Sr} {a : PyData} : runF 1 m s [a] = outR (s (some a :: List.replicate (m - 1) none)) := run_eq rfl
theorem run2 {m : Nat} {s : Rho → Sr} {a b : PyData} : runF 2 m s [a, b] = outR (s (some a :: some b :: List.replicate (m - 2) none)) := run_eq rfl
theorem run3 {m : Nat} {s : Rho → Sr} {a b c : PyData} : runF 3 m s [a, b, c] = outR (s (some a :: some b :: some c :: List.replicate (m - 3) none)) := run_eq rfl
/-! operators -/
variable {i j : Int}
@[simp] theorem oSub_i : oSub (.int i) (.int j) = some (.int (i - j)) := (rfl)
@[simp] theorem oAdd_i : oAdd (.int i) (.int j) = some (.int (i + j)) := (rfl)
@[simp] theorem oLt_i : oLt (.int i) (.int j) = some (.bool (decide (i < j))) := (rfl)
@[simp] theorem oLe_i : oLe (.int i) (.int j) = some (.bool (decide (i ≤ j))) := (rfl)
@[simp] theorem oGt_i : oGt (.int i) (.int j) = some (.bool (decide (j < i))) := (rfl)
@[simp] theorem oGe_i : oGe (.int i) (.int j) = some (.bool (decide (j ≤ i))) := (rfl)
@[simp] theorem oNeg_i : oNeg (.int i) = some (.int (-i)) := (rfl)
theorem oMul_r (h : j.natAbs < 2 ^ 63) : oMul (.int i) (.int j) = some (.int (i * j)) := by
  show (if mulOk i j = true then some (PyData.int (i * j)) else none) = _
  rw [if_pos]
  unfold mulOk
  rw [decide_eq_true h]
  rfl
theorem oMul_l (h : i.natAbs < 2 ^ 63) : oMul (.int i) (.int j) = some (.int (i * j)) := by
  show (if mulOk i j = true then some (PyData.int (i * j)) else none) = _
  rw [if_pos]
  unfold mulOk
  rw [decide_eq_true h]
  simp
theorem oDiv_p (h : 0 < j) (h2 : j < 2 ^ 240) : oDiv (.int i) (.int j) = some (.int (i / j)) := by
  show (if divOk j = true then some (PyData.int (i / j)) else none) = _
  rw [if_pos]
  unfold divOk
  rw [decide_eq_true h, decide_eq_true h2]
  rfl
theorem oMod_p (h : 0 < j) : oMod (.int i) (.int j) = some (.int (i % j)) := by
  show (if 0 < j then some (PyData.int (i % j)) else none) = _
  rw [if_pos h]
theorem shaped_i : SeqAt.shaped (.int i) = true := rfl
theorem shaped_b {b : Bool} : SeqAt.shaped (.bool b) = true := rfl
@[simp] theorem oEq_i : oEq (.int i) (.int j) = some (.bool (decide (i = j))) := by
  unfold oEq
  rw [if_pos ⟨rfl, rfl⟩]
  unfold PyData.eqv
  rfl
@[simp] theorem oNe_i : oNe (.int i) (.int j) = some (.bool (decide (i ≠ j))) := by
  unfold oNe
  rw [if_pos ⟨rfl, rfl⟩]
  unfold PyData.eqv
  rw [show (i == j) = decide (i = j) from rfl]
  simp
@[simp] theorem oEq_b {a b : Bool} : oEq (.bool a) (.bool b) = some (.bool (a == b)) := by
  unfold oEq
  rw [if_pos ⟨rfl, rfl⟩]
  unfold PyData.eqv
  rfl
@[simp] theorem oNe_b {a b : Bool} : oNe (.bool a) (.bool b) = some (.bool (a != b)) := by
  unfold oNe
  rw [if_pos ⟨rfl, rfl⟩]
  unfold PyData.eqv
  rfl
@[simp] theorem bInt_i : bInt [.int i] = some (.int i) := (rfl)
@[simp] theorem bInt_b {b : Bool} : bInt [.bool b] = some (.int (if b = true then 1 else 0)) := by cases b <;> rfl
/-! rows of numbers as data -/
def tI (ns : List Int) : PyData := .tuple (ns.map PyData.int)
def lI (ns : List Int) : PyData := .list (ns.map PyData.int)
theorem eqvAll_i : ∀ a b : List Int, PyData.eqvAll (a.map PyData.int) (b.map PyData.int) = decide (a = b)
  | [], [] => by
    unfold PyData.eqvAll
    rfl
  | [], _ :: _ => by
    simp [PyData.eqvAll]
  | _ :: _, [] => by
    simp [PyData.eqvAll]
  | x :: a, y :: b => by
    rw [List.map_cons, List.map_cons]
    unfold PyData.eqvAll
    rw [eqvAll_i a b]
    unfold PyData.eqv
    rw [show (x == y) = decide (x = y) from rfl]
    simp
theorem canLay_i : ∀ a : List Int, PyData.canLayAll0 (a.map PyData.int) = true
  | [] => by
    unfold PyData.canLayAll0
    rfl
  | x :: a => by
    rw [List.map_cons]
    unfold PyData.canLayAll0
    rw [canLay_i a]
    rfl
theorem shaped_t (a : List Int) : SeqAt.shaped (tI a) = true := by
  have h1 : PyData.canLay0 (tI a) = true := by
    unfold tI
    unfold PyData.canLay0
    exact canLay_i a
  have h2 : (tI a).depth ≤ 64 := by
    unfold tI
    unfold PyData.depth
    have := depth_ints a
    omega
  unfold SeqAt.shaped
  rw [h1, decide_eq_true h2]
  rfl
theorem shaped_l (a : List Int) : SeqAt.shaped (lI a) = true := by
  have h1 : PyData.canLay0 (lI a) = true := by
    unfold lI
    unfold PyData.canLay0
    exact canLay_i a
  have h2 : (lI a).depth ≤ 64 := by
    unfold lI
    unfold PyData.depth
    have := depth_ints a
    omega
  unfold SeqAt.shaped
  rw [h1, decide_eq_true h2]
  rfl
@[simp] theorem oEq_t {a b : List Int} : oEq (tI a) (tI b) = some (.bool (decide (a = b))) := by
  unfold oEq
  rw [if_pos ⟨shaped_t a, shaped_t b⟩]
  unfold tI PyData.eqv
  rw [eqvAll_i]
@[simp] theorem oNe_t {a b : List Int} : oNe (tI a) (tI b) = some (.bool (decide (a ≠ b))) := by
  unfold oNe
  rw [if_pos ⟨shaped_t a, shaped_t b⟩]
  unfold tI PyData.eqv
  rw [eqvAll_i]
  simp
@[simp] theorem oEq_l {a b : List Int} : oEq (lI a) (lI b) = some (.bool (decide (a = b))) := by
  unfold oEq
  rw [if_pos ⟨shaped_l a, shaped_l b⟩]
  unfold lI PyData.eqv
  rw [eqvAll_i]
@[simp] theorem oNe_l {a b : List Int} : oNe (lI a) (lI b) = some (.bool (decide (a ≠ b))) := by
  unfold oNe
  rw [if_pos ⟨shaped_l a, shaped_l b⟩]
  unfold lI PyData.eqv
  rw [eqvAll_i]
  simp
@[simp] theorem bLen_t {a : List Int} : bLen [tI a] = some (.int a.length) := by simp [bLen, tI]
@[simp] theorem bLen_l {a : List Int} : bLen [lI a] = some (.int a.length) := by simp [bLen, lI]
@[simp] theorem bLen_s {a : List Int} : bLen [scrD a] = some (.int a.length) := by simp [bLen, scrD]
@[simp] theorem bSorted_t {a : List Int} : bSorted [tI a] = some (lI (srtZ a)) := by
  show (asInts (a.map PyData.int)).map _ = _
  rw [asInts_map]
  rfl
@[simp] theorem bSorted_l {a : List Int} : bSorted [lI a] = some (lI (srtZ a)) := by
  show (asInts (a.map PyData.int)).map _ = _
  rw [asInts_map]
  rfl
@[simp] theorem bTuple_t {a : List Int} : bTuple [tI a] = some (tI a) := (rfl)
@[simp] theorem bTuple_l {a : List Int} : bTuple [lI a] = some (tI a) := (rfl)
theorem oAdd_t {a b : List Int} (h : a.length + b.length ≤ 10000) : oAdd (tI a) (tI b) = some (tI (a ++ b)) := by
  show (if okLen ((a.map PyData.int).length + (b.map PyData.int).length) = true then some (PyData.tuple (a.map PyData.int ++ b.map PyData.int)) else none) = _
  rw [if_pos (by rw [List.length_map, List.length_map]; exact decide_eq_true h), ← List.map_append]
  rfl
/-- x[i] of numbers -/
def atZ (ns : List Int) (i : Int) : Option Int := (ixN ns.length i).bind fun j => ns[j]?
theorem atD_i (ns : List Int) (i : Int) : atD (ns.map PyData.int) i = (atZ ns i).map PyData.int := by
  unfold atD atZ
  rw [List.length_map]
  cases ixN ns.length i with
  | none => rfl
  | some j => simp
@[simp] theorem oIx_t {ns : List Int} : oIx (tI ns) (.int i) = (atZ ns i).map PyData.int := atD_i ns i
@[simp] theorem oIx_l {ns : List Int} : oIx (lI ns) (.int i) = (atZ ns i).map PyData.int := atD_i ns i
@[simp] theorem oIx_s {ns : List Int} : oIx (scrD ns) (.int i) = (atZ ns i).map PyData.int := atD_i ns i
theorem atZ_nat {ns : List Int} {k : Nat} (h : k < ns.length) : atZ ns (k : Int) = ns[k]? := by
  unfold atZ ixN
  rw [if_pos (Int.natCast_nonneg k), if_pos (by omega)]
  rfl
theorem atZ_p {ns : List Int} {i : Int} (h0 : 0 ≤ i) (h : i < ns.length) : ∃ x, atZ ns i = some x ∧ ns[i.toNat]? = some x := by
  unfold atZ ixN
  rw [if_pos h0, if_pos h]
  have : i.toNat < ns.length := by omega
  exact ⟨ns[i.toNat], List.getElem?_eq_getElem this, List.getElem?_eq_getElem this⟩
theorem mkT_i {ns : List Int} (h : ns.length ≤ 10000) : mkT (ns.map PyData.int) = .ok (tI ns) := by
  unfold mkT
  rw [if_pos (by rw [List.length_map]; exact decide_eq_true h)]
  rfl
theorem mkL_i {ns : List Int} (h : ns.length ≤ 10000) : mkL (ns.map PyData.int) = .ok (lI ns) := by
  unfold mkL
  rw [if_pos (by rw [List.length_map]; exact decide_eq_true h)]
  rfl
/-- a, a + 1, .. -/
def upI (a : Int) (n : Nat) : List Int := (List.range n).map fun (k : Nat) => a + (k : Int)
theorem upI_length (a : Int) (n : Nat) : (upI a n).length = n := by simp [upI]
theorem upFrom_i (a : Int) (n : Nat) : upFrom a n = (upI a n).map PyData.int := by
  unfold upFrom upI
  rw [List.map_map]
  rfl
theorem tupRg_i (h : rgOk i j = true) : tupRg (.int i) (.int j) = some (tI (upI i (j - i).toNat)) := by
  show (if rgOk i j = true then some (PyData.tuple (upFrom i (j - i).toNat)) else none) = _
  rw [if_pos h, upFrom_i]
  rfl
theorem rg1_n {n : Nat} (h : n < 2 ^ 62) : rg1 [.int (n : Int)] = .ok ((upI 0 n).map PyData.int) := by
  show (if small62 (n : Int) = true then Re.ok (upFrom 0 (n : Int).toNat) else .bad) = _
  rw [if_pos, upFrom_i]
  · rfl
  · unfold small62
    rw [decide_eq_true (by omega), decide_eq_true (by omega)]
    rfl
@[simp] theorem itS_t {ns : List Int} : itS (tI ns) = .ok (ns.map PyData.int) := (rfl)
@[simp] theorem itS_l {ns : List Int} : itS (lI ns) = .ok (ns.map PyData.int) := (rfl)
/-- [e(k) for k in numbers], e(k) a number -/
theorem lc_i {its : Rho → Re (List PyData)} {v : Nat} {f : Rho → Re PyData} {ns : List Int} {h : Int → Int} (hi : its ρ = .ok (ns.map PyData.int)) (hl : ns.length ≤ 10000) (hf : ∀ k ∈ ns, f ((ρ.set v none).set v (some (.int k))) = .ok (.int (h k))) :
    rLc its [v] (gSlot v) yesR f ρ = .ok (lI (ns.map h)) := by
  unfold rLc
  rw [hi, re_ok, if_pos (by rw [List.length_map]; exact decide_eq_true hl)]
  have key : ∀ ms : List Int, (∀ k ∈ ms, k ∈ ns) → lcGo (gSlot v) yesR f (ρ.set v none) (ms.map PyData.int) = some ((ms.map h).map PyData.int) := by
    intro ms
    induction ms with
    | nil => intro _; rfl
    | cons k ms ih =>
      intro hk
      have e := hf k (hk k List.mem_cons_self)
      show (match f ((ρ.set v none).set v (some (.int k))) with | .ok x => (match lcGo (gSlot v) yesR f (ρ.set v none) (ms.map PyData.int) with | some xs => some (x :: xs) | none => none) | _ => none) = _
      rw [e, ih fun k' hk' => hk k' (List.mem_cons_of_mem _ hk')]
      rfl
  show (match lcGo (gSlot v) yesR f (ρ.set v none) (ns.map PyData.int) with | some xs => Re.ok (PyData.list xs) | none => .bad) = _
  rw [key ns fun _ h => h]
  rfl
/-- a loop with an invariant: Inv k ρ ahead of the k-th turn -/
theorem loop_inv {g : PyData → Rho → Option Rho} {body : Rho → Sr} (I : Nat → Rho → Prop) : ∀ (ds : List PyData) (k0 : Nat) (ρ : Rho), I k0 ρ → (∀ k d ρ, ds[k]? = some d → I (k0 + k) ρ → ∃ ρ1, g d ρ = some ρ1 ∧ ∃ ρ2, body ρ1 = .nx ρ2 ∧ I (k0 + k + 1) ρ2) → ∃ ρ', sLoop g body ds ρ = .nx ρ' ∧ I (k0 + ds.length) ρ'
  | [], k0, ρ, h, _ => ⟨ρ, rfl, h⟩
  | d :: ds, k0, ρ, h, st => by
    obtain ⟨ρ1, e1, ρ2, e2, h2⟩ := st 0 d ρ rfl h
    obtain ⟨ρ', e3, h3⟩ := loop_inv I ds (k0 + 1) ρ2 h2 fun k d' ρ'' hk hI => by
      have := st (k + 1) d' ρ'' (by simpa using hk) (by rw [show k0 + (k + 1) = k0 + 1 + k by omega]; exact hI)
      rw [show k0 + (k + 1) + 1 = k0 + 1 + k + 1 by omega] at this
      exact this
    refine ⟨ρ', ?_, ?_⟩
    · unfold sLoop
      rw [e1]
      show (match body ρ1 with | .nx ρ2 => sLoop g body ds ρ2 | .ct ρ2 => sLoop g body ds ρ2 | .bk ρ2 => .nx ρ2 | .rt d => .rt d | .ex c ρ2 => .ex c ρ2 | .bad => .bad) = _
      rw [e2]
      exact e3
    · rw [List.length_cons, show k0 + (ds.length + 1) = k0 + 1 + ds.length by omega]
      exact h3
/-! own lists -/
def lOf : Option (Option PyData) → Option (List PyData)
  | some (some (.list ds)) => some ds
  | _ => none
@[simp] theorem lOf_l {ns : List Int} : lOf (some (some (lI ns))) = some (ns.map PyData.int) := (rfl)
@[simp] theorem lOf_d {ds : List PyData} : lOf (some (some (.list ds))) = some ds := (rfl)
theorem getL_eq (i : Nat) : getL ρ i = lOf ρ[i]? := by
  unfold getL lOf
  rfl
def appR (ρ : Rho) (i : Nat) : Option (List PyData) → Re PyData → Sr
  | some ds, r => r.st ρ fun d => if okLen (ds.length + 1) = true then .nx (ρ.set i (some (.list (ds ++ [d])))) else .bad
  | none, _ => .bad
@[simp] theorem ap_sApp (i : Nat) (f : Rho → Re PyData) : sApp i false f ρ = appR ρ i (lOf ρ[i]?) (f ρ) := by
  unfold sApp appR
  rw [getL_eq]
  cases lOf ρ[i]? with
  | none => rfl
  | some ds =>
    show (f ρ).st ρ _ = (f ρ).st ρ _
    congr 1
    funext d
    simp
theorem snoc_i (ns : List Int) (x : Int) : PyData.list (ns.map PyData.int ++ [.int x]) = lI (ns ++ [x]) := by
  unfold lI
  rw [List.map_append]
  rfl
theorem appR_i {i : Nat} {ns : List Int} {x : Int} (h : ns.length < 10000) : appR ρ i (some (ns.map PyData.int)) (.ok (.int x)) = .nx (ρ.set i (some (lI (ns ++ [x])))) := by
  show (if okLen ((ns.map PyData.int).length + 1) = true then Sr.nx (ρ.set i (some (PyData.list (ns.map PyData.int ++ [.int x])))) else .bad) = _
  rw [if_pos (by rw [List.length_map]; exact decide_eq_true h), snoc_i]
theorem ixN_p {n : Nat} {i : Int} (h : 0 ≤ i) (h2 : i < n) : ixN n i = some i.toNat := by
  unfold ixN
  rw [if_pos h, if_pos h2]
theorem erase_map {f : α → β} : ∀ (l : List α) (i : Nat), (l.map f).eraseIdx i = (l.eraseIdx i).map f
  | [], _ => rfl
  | _ :: _, 0 => rfl
  | x :: l, i + 1 => by
    rw [List.map_cons, List.eraseIdx_cons_succ, List.eraseIdx_cons_succ, List.map_cons, erase_map l i]
theorem appPop_i {i j : Nat} {f : Rho → Re PyData} {ns ms : List Int} {x z : Int} (hij : i ≠ j) (hi : ρ[i]? = some (some (lI ns))) (hj : ρ[j]? = some (some (lI ms))) (hf : f ρ = .ok (.int z)) (h0 : 0 ≤ z) (hz : z < ms.length) (hx : ms[z.toNat]? = some x) (h1 : ns.length < 10000) (h2 : ms.length ≤ 10000) :
    sAppPop i j f ρ = .nx ((ρ.set j (some (lI (ms.eraseIdx z.toNat)))).set i (some (lI (ns ++ [x])))) := by
  have e1 : getL ρ i = some (ns.map PyData.int) := by rw [getL_eq, hi]; rfl
  have e2 : getL ρ j = some (ms.map PyData.int) := by rw [getL_eq, hj]; rfl
  have e3 : popAt ρ j (.int z) = some (.int x, (ms.map PyData.int).eraseIdx z.toNat) := by
    unfold popAt
    rw [e2]
    show (if okLen (ms.map PyData.int).length = true then (match ixN (ms.map PyData.int).length z with
      | some k => (match (ms.map PyData.int)[k]? with | some y => some (y, (ms.map PyData.int).eraseIdx k) | none => none)
      | none => none) else none) = _
    rw [if_pos (by rw [List.length_map]; exact decide_eq_true h2), List.length_map, ixN_p h0 hz]
    show (match (ms.map PyData.int)[z.toNat]? with | some y => some (y, (ms.map PyData.int).eraseIdx z.toNat) | none => none) = _
    rw [List.getElem?_map, hx]
    rfl
  unfold sAppPop
  rw [e1, e2, hf]
  show (match popAt ρ j (.int z) with
    | some (y, es') => if okLen ((ns.map PyData.int).length + 1) = true ∧ i ≠ j then Sr.nx ((ρ.set j (some (PyData.list es'))).set i (some (PyData.list (ns.map PyData.int ++ [y])))) else .bad
    | none => .bad) = _
  rw [e3]
  show (if okLen ((ns.map PyData.int).length + 1) = true ∧ i ≠ j then Sr.nx ((ρ.set j (some (PyData.list ((ms.map PyData.int).eraseIdx z.toNat)))).set i (some (PyData.list (ns.map PyData.int ++ [.int x])))) else .bad) = _
  rw [if_pos ⟨by rw [List.length_map]; exact decide_eq_true h1, hij⟩, snoc_i]
  rw [erase_map]
  rfl
/-! tries -/
@[simp] theorem try_rt {c : Str} {s u : Rho → Sr} {d : PyData} (h : s ρ = .rt d) : sTry c s u ρ = .rt d := by
  unfold sTry
  rw [h]
theorem try_nx {c : Str} {s u : Rho → Sr} {ρ' : Rho} (h : s ρ = .nx ρ') : sTry c s u ρ = .nx ρ' := by
  unfold sTry
  rw [h]
def nox : Sr → Sr
  | .ex _ _ => .bad
  | r => r
@[simp] theorem nox_nx (ρ' : Rho) : nox (.nx ρ') = .nx ρ' := (rfl)
@[simp] theorem nox_rt (d : PyData) : nox (.rt d) = .rt d := (rfl)
theorem try_ex {c : Str} {s u : Rho → Sr} {ρ' : Rho} (h : s ρ = .ex c ρ') : sTry c s u ρ = nox (u ρ') := by
  unfold sTry
  rw [h]
  show (if c = c then (match u ρ' with | .ex _ _ => Sr.bad | r => r) else .bad) = _
  rw [if_pos rfl]
  unfold nox
  rfl
theorem tryAs_rt {c : Str} {i : Nat} {s u : Rho → Sr} {d : PyData} (h : s ρ = .rt d) : sTryAs c i s u ρ = .rt d := by
  unfold sTryAs
  rw [h]
theorem tryAs_nx {c : Str} {i : Nat} {s u : Rho → Sr} {ρ' : Rho} (h : s ρ = .nx ρ') : sTryAs c i s u ρ = .nx ρ' := by
  unfold sTryAs
  rw [h]
theorem tryAs_ex_rt {c : Str} {i : Nat} {s u : Rho → Sr} {ρ' : Rho} {d : PyData} (h : s ρ = .ex c ρ') (hi : i < ρ'.length) (hu : u (ρ'.set i none) = .rt d) : sTryAs c i s u ρ = .rt d := by
  unfold sTryAs
  rw [h]
  show (if c = c ∧ i < ρ'.length then _ else _) = _
  rw [if_pos ⟨rfl, hi⟩, hu]
theorem tryAs_ex_nx {c : Str} {i : Nat} {s u : Rho → Sr} {ρ' ρ2 : Rho} (h : s ρ = .ex c ρ') (hi : i < ρ'.length) (hu : u (ρ'.set i none) = .nx ρ2) : sTryAs c i s u ρ = .nx (ρ2.set i none) := by
  unfold sTryAs
  rw [h]
  show (if c = c ∧ i < ρ'.length then _ else _) = _
  rw [if_pos ⟨rfl, hi⟩, hu]
/-! steps -/
theorem go {s u : Rho → Sr} {ρ' : Rho} {R : Re PyData} (h : s ρ = .nx ρ') (k : outR (u ρ') = R) : outR (sSeq s u ρ) = R := by
  rw [ap_sSeq, h, sqS_nx]
  exact k
theorem go_rt {s u : Rho → Sr} {d : PyData} (h : s ρ = .rt d) : outR (sSeq s u ρ) = .ok d := by
  rw [ap_sSeq, h, sqS_rt]
  rfl
theorem go_ex {s u : Rho → Sr} {ρ' : Rho} {c : Str} (h : s ρ = .ex c ρ') : outR (sSeq s u ρ) = .ex c := by
  rw [ap_sSeq, h, sqS_ex]
  rfl
def mtT (o : PyData → List PyData → Option PyData) (d : PyData) (r : Re (List PyData)) : Re PyData := match d with | .tuple _ => r.andThen fun es => liftO (o d es) | _ => .bad
@[simp] theorem ap_meth (o : PyData → List PyData → Option PyData) (f : Rho → Re PyData) (g : Rho → Re (List PyData)) : rMeth o f g ρ = (f ρ).andThen fun d => mtT o d (g ρ) := by
  unfold rMeth
  congr 1
@[simp] theorem mtT_t (o : PyData → List PyData → Option PyData) {ns : List Int} {r : Re (List PyData)} : mtT o (tI ns) r = r.andThen fun es => liftO (o (tI ns) es) := (rfl)
theorem oIdx_i {ns : List Int} {z : Int} : oIdx (tI ns) [.int z] = (idxZ z ns).map fun (j : Nat) => PyData.int (j : Int) := by
  show ((asInts (ns.map PyData.int)).bind fun ns => (idxZ z ns).map fun (j : Nat) => PyData.int (j : Int)) = _
  rw [asInts_map]
  rfl
theorem idxZ_mem {z : Int} : ∀ {ns : List Int}, z ∈ ns → ∃ j, idxZ z ns = some j
  | n :: ns, h => by
    unfold idxZ
    by_cases e : n = z
    · rw [if_pos e]
      exact ⟨_, rfl⟩
    · rw [if_neg e]
      obtain ⟨j, hj⟩ := idxZ_mem ((List.mem_cons.mp h).resolve_left fun q => e q.symm)
      rw [hj]
      exact ⟨_, rfl⟩
@[simp] theorem mkT1 {a : Int} : mkT [.int a] = .ok (tI [a]) := mkT_i (ns := [a]) (by simp)
@[simp] theorem mkT2 {a b : Int} : mkT [.int a, .int b] = .ok (tI [a, b]) := mkT_i (ns := [a, b]) (by simp)
@[simp] theorem mkT3 {a b c : Int} : mkT [.int a, .int b, .int c] = .ok (tI [a, b, c]) := mkT_i (ns := [a, b, c]) (by simp)
@[simp] theorem mkT0 : mkT [] = .ok (tI []) := mkT_i (ns := []) (by simp)
@[simp] theorem mkL0 : mkL [] = .ok (lI []) := mkL_i (ns := []) (by simp)
@[simp] theorem mkL1 {a : Int} : mkL [.int a] = .ok (lI [a]) := mkL_i (ns := [a]) (by simp)
@[simp] theorem mkL2 {a b : Int} : mkL [.int a, .int b] = .ok (lI [a, b]) := mkL_i (ns := [a, b]) (by simp)
@[simp] theorem mkL3 {a b c : Int} : mkL [.int a, .int b, .int c] = .ok (lI [a, b, c]) := mkL_i (ns := [a, b, c]) (by simp)
@[simp] theorem mkL4 {a b c d : Int} : mkL [.int a, .int b, .int c, .int d] = .ok (lI [a, b, c, d]) := mkL_i (ns := [a, b, c, d]) (by simp)
@[simp] theorem mkL5 {a b c d e : Int} : mkL [.int a, .int b, .int c, .int d, .int e] = .ok (lI [a, b, c, d, e]) := mkL_i (ns := [a, b, c, d, e]) (by simp)
@[simp] theorem mkL6 {a b c d e f : Int} : mkL [.int a, .int b, .int c, .int d, .int e, .int f] = .ok (lI [a, b, c, d, e, f]) := mkL_i (ns := [a, b, c, d, e, f]) (by simp)
@[simp] theorem mkL7 {a b c d e f g : Int} : mkL [.int a, .int b, .int c, .int d, .int e, .int f, .int g] = .ok (lI [a, b, c, d, e, f, g]) := mkL_i (ns := [a, b, c, d, e, f, g]) (by simp)
@[simp] theorem mkL8 {a b c d e f g h : Int} : mkL [.int a, .int b, .int c, .int d, .int e, .int f, .int g, .int h] = .ok (lI [a, b, c, d, e, f, g, h]) := mkL_i (ns := [a, b, c, d, e, f, g, h]) (by simp)
/-- cuts of numbers -/
def cutZ (ns : List Int) (lo hi : Option Int) : List Int := (ns.drop (HT.sIx ns.length 0 lo)).take (HT.sIx ns.length ns.length hi - HT.sIx ns.length 0 lo)
@[simp] theorem oCut_t {ns : List Int} {lo hi : Option Int} : oCut (tI ns) lo hi = .ok (tI (cutZ ns lo hi)) := by
  show Re.ok (PyData.tuple (cutD (ns.map PyData.int) lo hi)) = _
  unfold cutD cutZ tI
  rw [List.length_map, List.map_take, List.map_drop]
@[simp] theorem oCut_l {ns : List Int} {lo hi : Option Int} : oCut (lI ns) lo hi = .ok (lI (cutZ ns lo hi)) := by
  show Re.ok (PyData.list (cutD (ns.map PyData.int) lo hi)) = _
  unfold cutD cutZ lI
  rw [List.length_map, List.map_take, List.map_drop]
theorem cutZ_to {ns : List Int} {k : Nat} (h : k ≤ ns.length) : cutZ ns none (some (k : Int)) = ns.take k := by
  unfold cutZ
  rw [HT.sIx_none, HT.sIx_nat]
  simp [Nat.min_eq_left h]
theorem cutZ_from {ns : List Int} {k : Nat} : cutZ ns (some (k : Int)) none = ns.drop k := by
  unfold cutZ
  rw [HT.sIx_none, HT.sIx_nat]
  by_cases h : k ≤ ns.length
  · rw [Nat.min_eq_left h, ← List.length_drop, List.take_length]
  · rw [Nat.min_eq_right (by omega), List.drop_length, List.take_nil, List.drop_eq_nil_of_le (by omega)]
theorem erase_perm : ∀ (l : List α) (i : Nat) (h : i < l.length), (l[i] :: l.eraseIdx i).Perm l
  | x :: l, 0, _ => .refl _
  | x :: l, i + 1, h => by
    have h' : i < l.length := by simpa using h
    rw [List.eraseIdx_cons_succ, List.getElem_cons_succ]
    exact (List.Perm.swap _ _ _).trans ((erase_perm l i h').cons x)
theorem up_succ (n : Nat) : (upI 0 n).map (· + 1) = upI 1 n := by
  unfold upI
  rw [List.map_map]
  refine List.map_congr_left fun k _ => ?_
  simp
  omega
end
end Pu

set_option Elab.async false
set_option linter.all false
set_option maxRecDepth 100000
set_option maxHeartbeats 2000000
namespace Pu
open PySem PySem.Spec PyProof.Rows L2
variable [TabL]
section
variable {α β : Type} {ρ : Rho} {i j : Int}
def lnkT : Option PyData → Re Bool → Re Bool
  | some (.bool true), r => r
  | some (.bool false), _ => .ok false
  | _, _ => .bad
@[simp] theorem lnkT_b (b : Bool) (r : Re Bool) : lnkT (some (.bool b)) r = if b = true then r else .ok false := by cases b <;> rfl
@[simp] theorem asR_b (b : Bool) : asR (some (.bool b)) = .ok b := (rfl)
@[simp] theorem ap_chT (f : Rho → Re PyData) (g : PyData → Rho → Re Bool) : rChT f g ρ = (f ρ).andThen fun d => g d ρ := (rfl)
@[simp] theorem ap_linkT (gg : PyData → PyData → Option PyData) (g : Rho → Re PyData) (k : PyData → Rho → Re Bool) (d : PyData) : cLinkT gg g k d ρ = (g ρ).andThen fun e => lnkT (gg d e) (k e ρ) := by
  unfold cLinkT
  congr 1
  funext e
  rcases gg d e with _ | v
  · rfl
  · cases v with
    | bool b => cases b <;> rfl
    | _ => rfl
@[simp] theorem ap_lastT (gg : PyData → PyData → Option PyData) (g : Rho → Re PyData) (d : PyData) : cLastT gg g d ρ = (g ρ).andThen fun e => asR (gg d e) := (rfl)
@[simp] theorem ap_ch (f : Rho → Re PyData) (g : PyData → Rho → Re PyData) : rCh f g ρ = (f ρ).andThen fun d => g d ρ := (rfl)
@[simp] theorem ap_last (gg : PyData → PyData → Option PyData) (g : Rho → Re PyData) (d : PyData) : cLast gg g d ρ = (g ρ).andThen fun e => liftO (gg d e) := (rfl)
def asgR : Option Rho → Sr
  | some ρ => .nx ρ
  | none => .bad
@[simp] theorem asgR_some : asgR (some ρ) = .nx ρ := (rfl)
@[simp] theorem ap_sAsg (g : PyData → Rho → Option Rho) (f : Rho → Re PyData) : sAsg false g f ρ = (f ρ).st ρ fun d => asgR (g d ρ) := by
  unfold sAsg
  congr 1
@[simp] theorem gSeq3 (g : List PyData → Rho → Option Rho) (a b c : PyData) : gSeqD 3 g (.tuple [a, b, c]) ρ = g [a, b, c] ρ := (rfl)
@[simp] theorem gSeq2 (g : List PyData → Rho → Option Rho) (a b : PyData) : gSeqD 2 g (.tuple [a, b]) ρ = g [a, b] ρ := (rfl)
@[simp] theorem gMore_c (g : PyData → Rho → Option Rho) (h : List PyData → Rho → Option Rho) (d : PyData) (ds : List PyData) : gMore g h (d :: ds) ρ = (g d ρ).bind (h ds) := (rfl)
@[simp] theorem gNone_n : gNone [] ρ = some ρ := (rfl)
@[simp] theorem gSlot_n (k : Nat) (d : PyData) : gSlot k d ρ = some (ρ.set k (some d)) := (rfl)
@[simp] theorem bLen_d (ds : List PyData) : bLen [.tuple ds] = some (.int ds.length) := (rfl)
@[simp] theorem bLen_dl (ds : List PyData) : bLen [.list ds] = some (.int ds.length) := (rfl)
@[simp] theorem bTuple_dl (ds : List PyData) : bTuple [.list ds] = some (.tuple ds) := (rfl)
@[simp] theorem bTuple_d (ds : List PyData) : bTuple [.tuple ds] = some (.tuple ds) := (rfl)
@[simp] theorem bList_t {ns : List Int} : bList [tI ns] = some (lI ns) := (rfl)
@[simp] theorem bList_l {ns : List Int} : bList [lI ns] = some (lI ns) := (rfl)
@[simp] theorem itS_d (ds : List PyData) : itS (.tuple ds) = .ok ds := (rfl)
@[simp] theorem itS_dl (ds : List PyData) : itS (.list ds) = .ok ds := (rfl)
@[simp] theorem oIx_d (ds : List PyData) : oIx (.tuple ds) (.int i) = atD ds i := (rfl)
@[simp] theorem oIx_dl (ds : List PyData) : oIx (.list ds) (.int i) = atD ds i := (rfl)
theorem atD_nat {ds : List PyData} {k : Nat} (h : k < ds.length) : atD ds (k : Int) = ds[k]? := by
  unfold atD ixN
  rw [if_pos (Int.natCast_nonneg k), if_pos (by omega)]
  rfl
@[simp] theorem atD_0 (a : PyData) (ds : List PyData) : atD (a :: ds) 0 = some a := atD_nat (k := 0) (by simp)
@[simp] theorem atD_1 (a b : PyData) (ds : List PyData) : atD (a :: b :: ds) 1 = some b := (atD_nat (k := 1) (by simp)).trans (by simp)
@[simp] theorem atD_2 (a b c : PyData) (ds : List PyData) : atD (a :: b :: c :: ds) 2 = some c := (atD_nat (k := 2) (by simp)).trans (by simp)
@[simp] theorem atZ_0 (a : Int) (ds : List Int) : atZ (a :: ds) 0 = some a := atZ_nat (k := 0) (by simp)
@[simp] theorem atZ_1 (a b : Int) (ds : List Int) : atZ (a :: b :: ds) 1 = some b := (atZ_nat (k := 1) (by simp)).trans (by simp)
@[simp] theorem atZ_2 (a b c : Int) (ds : List Int) : atZ (a :: b :: c :: ds) 2 = some c := (atZ_nat (k := 2) (by simp)).trans (by simp)
@[simp] theorem atZ_3 (a b c d : Int) (ds : List Int) : atZ (a :: b :: c :: d :: ds) 3 = some d := (atZ_nat (k := 3) (by simp)).trans (by simp)
@[simp] theorem atZ_4 (a b c d e : Int) (ds : List Int) : atZ (a :: b :: c :: d :: e :: ds) 4 = some e := (atZ_nat (k := 4) (by simp)).trans (by simp)
@[simp] theorem atZ_5 (a b c d e f : Int) (ds : List Int) : atZ (a :: b :: c :: d :: e :: f :: ds) 5 = some f := (atZ_nat (k := 5) (by simp)).trans (by simp)
@[simp] theorem bAbs_i : bAbs [.int i] = some (.int (if i < 0 then -i else i)) := (rfl)
@[simp] theorem bMin2_i : bMin2 [.int i, .int j] = some (.int (if j < i then j else i)) := (rfl)
@[simp] theorem bMax2_i : bMax2 [.int i, .int j] = some (.int (if j > i then j else i)) := (rfl)
@[simp] theorem isN_t {ns : List Int} : oIsN (tI ns) .none = some (.bool false) := (rfl)
@[simp] theorem isN_n : oIsN .none .none = some (.bool true) := (rfl)
@[simp] theorem notN_t {ns : List Int} : oNotN (tI ns) .none = some (.bool true) := (rfl)
@[simp] theorem notN_n : oNotN .none .none = some (.bool false) := (rfl)
@[simp] theorem oNe_nn : oNe .none .none = some (.bool false) := by
  unfold oNe
  rw [if_pos ⟨rfl, rfl⟩]
  unfold PyData.eqv
  rfl
@[simp] theorem oEq_nn : oEq .none .none = some (.bool true) := by
  unfold oEq
  rw [if_pos ⟨rfl, rfl⟩]
  unfold PyData.eqv
  rfl
theorem oNe_s {a b : Str} (ha : SeqAt.shaped (.str a) = true) (hb : SeqAt.shaped (.str b) = true) : oNe (.str a) (.str b) = some (.bool (a != b)) := by
  unfold oNe
  rw [if_pos ⟨ha, hb⟩]
  unfold PyData.eqv
  rfl
theorem oEq_s {a b : Str} (ha : SeqAt.shaped (.str a) = true) (hb : SeqAt.shaped (.str b) = true) : oEq (.str a) (.str b) = some (.bool (a == b)) := by
  unfold oEq
  rw [if_pos ⟨ha, hb⟩]
  unfold PyData.eqv
  rfl
theorem oAdd_d {a b : List PyData} (h : a.length + b.length ≤ 10000) : oAdd (.tuple a) (.tuple b) = some (.tuple (a ++ b)) := by
  show (if okLen (a.length + b.length) = true then some (PyData.tuple (a ++ b)) else none) = _
  rw [if_pos (show okLen _ = true from decide_eq_true h)]
theorem oAdd_dl {a b : List PyData} (h : a.length + b.length ≤ 10000) : oAdd (.list a) (.list b) = some (.list (a ++ b)) := by
  show (if okLen (a.length + b.length) = true then some (PyData.list (a ++ b)) else none) = _
  rw [if_pos (show okLen _ = true from decide_eq_true h)]
theorem mkT_d {ds : List PyData} (h : ds.length ≤ 10000) : mkT ds = .ok (.tuple ds) := by
  unfold mkT
  rw [if_pos (show okLen _ = true from decide_eq_true h)]
theorem mkL_d {ds : List PyData} (h : ds.length ≤ 10000) : mkL ds = .ok (.list ds) := by
  unfold mkL
  rw [if_pos (show okLen _ = true from decide_eq_true h)]
theorem appR_d {k : Nat} {ds : List PyData} {d : PyData} (h : ds.length < 10000) : appR ρ k (some ds) (.ok d) = .nx (ρ.set k (some (.list (ds ++ [d])))) := by
  show (if okLen (ds.length + 1) = true then Sr.nx (ρ.set k (some (PyData.list (ds ++ [d])))) else .bad) = _
  rw [if_pos (show okLen _ = true from decide_eq_true h)]
theorem small_ok (h1 : -1000000 ≤ i) (h2 : i ≤ 1000000) : small62 i = true := by
  unfold small62
  rw [decide_eq_true (by omega), decide_eq_true (by omega)]
  rfl
theorem rg2_i (h1 : -1000000 ≤ i) (h2 : i ≤ 1000000) (h3 : -1000000 ≤ j) (h4 : j ≤ 1000000) : rg2 [.int i, .int j] = .ok ((upI i (j - i).toNat).map PyData.int) := by
  show (if small62 i = true ∧ small62 j = true then Re.ok (upFrom i (j - i).toNat) else .bad) = _
  rw [if_pos ⟨small_ok h1 h2, small_ok h3 h4⟩, upFrom_i]
/-- x[e] = v of an own list of numbers -/
theorem put_i {k : Nat} {f g : Rho → Re PyData} {ns : List Int} {x z : Int} (hk : ρ[k]? = some (some (lI ns))) (hf : f ρ = .ok (.int x)) (hg : g ρ = .ok (.int z)) (h0 : 0 ≤ z) (h1 : z < ns.length) : sPut k false f g ρ = .nx (ρ.set k (some (lI (ns.set z.toNat x)))) := by
  have e1 : getL ρ k = some (ns.map PyData.int) := by rw [getL_eq, hk]; rfl
  unfold sPut
  rw [hf, st_ok, e1]
  show (g ρ).st ρ _ = _
  rw [hg, st_ok]
  show (match ixN (ns.map PyData.int).length z with
    | some m => if (false = true → imm (.int x) = true) then Sr.nx (ρ.set k (some (.list ((ns.map PyData.int).set m (.int x))))) else .bad
    | none => .bad) = _
  rw [List.length_map, ixN_p h0 h1]
  show (if (false = true → imm (.int x) = true) then Sr.nx (ρ.set k (some (PyData.list ((ns.map PyData.int).set z.toNat (.int x))))) else .bad) = _
  rw [if_pos (fun z => nomatch z), ← List.map_set]
  rfl
theorem up_get {a : Int} {n k : Nat} {y : Int} (h : (upI a n)[k]? = some y) : y = a + k ∧ k < n := by
  have hk : k < n := by
    have := getSome h
    rwa [upI_length] at this
  unfold upI at h
  rw [List.getElem?_map, List.getElem?_range hk] at h
  have q : a + (k : Int) = y := Option.some.inj h
  exact ⟨q.symm, hk⟩
theorem loop_nx {g : PyData → Rho → Option Rho} {b : Rho → Sr} {d : PyData} {ds : List PyData} {ρ1 ρ2 : Rho} (h : g d ρ = some ρ1) (h2 : b ρ1 = .nx ρ2) : sLoop g b (d :: ds) ρ = sLoop g b ds ρ2 := by
  show (match g d ρ with
    | none => Sr.bad
    | some ρ1 => match b ρ1 with
      | .nx ρ2 => sLoop g b ds ρ2
      | .ct ρ2 => sLoop g b ds ρ2
      | .bk ρ2 => .nx ρ2
      | .rt d => .rt d
      | .ex c ρ2 => .ex c ρ2
      | .bad => .bad) = _
  rw [h]
  show (match b ρ1 with
    | .nx ρ2 => sLoop g b ds ρ2
    | .ct ρ2 => sLoop g b ds ρ2
    | .bk ρ2 => .nx ρ2
    | .rt d => .rt d
    | .ex c ρ2 => .ex c ρ2
    | .bad => .bad) = _
  rw [h2]
theorem loop_ex {g : PyData → Rho → Option Rho} {b : Rho → Sr} {d : PyData} {ds : List PyData} {ρ1 ρ2 : Rho} {c : Str} (h : g d ρ = some ρ1) (h2 : b ρ1 = .ex c ρ2) : sLoop g b (d :: ds) ρ = .ex c ρ2 := by
  show (match g d ρ with
    | none => Sr.bad
    | some ρ1 => match b ρ1 with
      | .nx ρ2 => sLoop g b ds ρ2
      | .ct ρ2 => sLoop g b ds ρ2
      | .bk ρ2 => .nx ρ2
      | .rt d => .rt d
      | .ex c ρ2 => .ex c ρ2
      | .bad => .bad) = _
  rw [h]
  show (match b ρ1 with
    | .nx ρ2 => sLoop g b ds ρ2
    | .ct ρ2 => sLoop g b ds ρ2
    | .bk ρ2 => .nx ρ2
    | .rt d => .rt d
    | .ex c ρ2 => .ex c ρ2
    | .bad => .bad) = _
  rw [h2]
@[simp] theorem loop_nil {g : PyData → Rho → Option Rho} {b : Rho → Sr} : sLoop g b [] ρ = .nx ρ := (rfl)
end
end Pu

set_option Elab.async false
set_option linter.all false
set_option maxRecDepth 100000
set_option maxHeartbeats 2000000
/-! dicts whose keys are whole numbers -/
namespace Pu
open PySem PySem.Spec PyProof.Rows L2
variable [TabL]
def keyI (i : Int) : PyData → Bool
  | .int j => decide (j = i)
  | _ => false
def lookI (kvs : List (PyData × PyData)) (i : Int) : Option PyData := (kvs.find? fun p => keyI i p.1).map (·.2)
def dicD (kvs : List (PyData × PyData)) : PyData := .dict ((.bool true, .none) :: kvs)
def kvsOf : PyData → Option (List (PyData × PyData))
  | .dict ((.bool true, .none) :: kvs) => some kvs
  | _ => none
theorem key_kD (i : Int) (k : Key) : keyI i (kD k) = decide (k = .inl i) := by
  cases k with
  | inl j =>
    show decide (j = i) = decide ((Sum.inl j : Key) = .inl i)
    by_cases h : j = i
    · rw [decide_eq_true h, decide_eq_true (by rw [h])]
    · rw [decide_eq_false h, decide_eq_false fun e => h (Sum.inl.inj e)]
  | inr s => rfl
theorem look_of {K : PySem.W.Frag} {H : Hp} {S : Addr → Prop} (i : Int) : ∀ {ks : List Key} {xs : List V} {ds : List PyData}, ks.length = xs.length → RpA K H S xs ds →
    match lookI ((ks.map kD).zip ds) i with
    | some z => ∃ v, valV (ks.zip xs) (.inl i) = some v ∧ Rp K H S v z
    | none => valV (ks.zip xs) (.inl i) = none
  | [], _, _, _, _ => by
    simp [lookI, valV]
  | k :: ks, [], _, h, _ => by simp at h
  | k :: ks, x :: xs, _, h, .cons (d := d) (ds := ds) r rr => by
    have ih := look_of i (ks := ks) (xs := xs) (by simpa using h) rr
    rw [List.map_cons, List.zip_cons_cons, List.zip_cons_cons]
    by_cases e : k = .inl i
    · have h1 : lookI ((kD k, d) :: (ks.map kD).zip ds) i = some d := by
        unfold lookI
        rw [List.find?_cons, key_kD, decide_eq_true e]
        rfl
      rw [h1]
      exact ⟨x, valV_pos e, r⟩
    · have h1 : lookI ((kD k, d) :: (ks.map kD).zip ds) i = lookI ((ks.map kD).zip ds) i := by
        unfold lookI
        rw [List.find?_cons, key_kD, decide_eq_false e]
      rw [h1, valV_neg e]
      exact ih
section
variable {X : Cx} {M : Nat → Bool} {F : Fx} {E : L2.St → XK} {σ : L2.St} {ρ : Rho} {H H' H1 : Hp} {D : Ends} {la fa lb fb : Bool} {a b : Expr} {pos : Pos} {f g : Rho → Re PyData}
/-! ### d[k] -/
def oDGet : PyData → PyData → Option PyData := fun d e => match kvsOf d, e with | some kvs, .int i => lookI kvs i | _, _ => none
theorem oDGet_some {d e z : PyData} (h : oDGet d e = some z) : ∃ kvs i, d = dicD kvs ∧ e = .int i ∧ lookI kvs i = some z := by
  unfold oDGet kvsOf at h
  split at h
  · rename_i kvs i q
    split at q
    · cases q
      exact ⟨_, _, rfl, rfl, h⟩
    · cases q
  · cases h
theorem kv_i (i : Int) : V.int i = kV (Sum.inl i) := rfl
theorem de_dget (hu : X.A.units + 64 < cLine) (ha : DE X M F E la fa a f) (hb : DE X M F E lb fb b g) (hs : NoSl b := by intro _ _; rfl) : DE X M F E (la || lb) false (.Subscript a b pos) (r2 oDGet f g) := by
  obtain ⟨ta, pa, ha⟩ := ha
  obtain ⟨tb, pb, hb⟩ := hb
  refine ⟨_, pe_dget (by omega) pa pb hs, fun σ H ρ er Q z => ?_⟩
  refine ha σ H ρ er _ (we_step z fun d v H1 e1 s1 r1 _ z1 => ?_)
  refine hb σ H1 ρ (er.same s1) _ (we_step (lk' := lb) (fr' := fb) z1 fun e u H2 e2 s2 r2 _ z2 => ?_)
  have z3 : WE X M F E (la || lb) false σ ρ H2 (liftO (oDGet d e)) Q := z2
  clear z2
  cases q : oDGet d e with
  | none =>
    rw [q] at z3
    exact z3.elim
  | some z =>
    rw [q] at z3
    obtain ⟨kvs, i, rfl, rfl, hl⟩ := oDGet_some q
    have r1' := r1.same s2
    cases r2
    generalize hd : dicD kvs = dd at r1'
    cases r1' with
    | dic h1 h2 h3 h4 =>
      unfold dicD at hd
      cases hd
      have lo := look_of i h3 h4
      rw [hl] at lo
      obtain ⟨v', hv, rv⟩ := lo
      refine ⟨_, v', rfl, ?_, z3 _ H2 (Same.refl _) (rv.wide fun a h => rs_or1 a h) fun z => nomatch z⟩
      have g := DGet.k (k := Sum.inl i) h1
      rw [hv] at g
      exact g
    | scr _ _ => cases hd
    | rng _ => cases hd
    | dct _ _ _ _ => cases hd
    | dit _ _ _ _ => cases hd
    | dif h1 h3 h4 =>
      unfold dicD at hd
      cases hd
      have lo := look_of i h3 h4
      rw [hl] at lo
      obtain ⟨v', hv, rv⟩ := lo
      refine ⟨_, v', rfl, ?_, z3 _ H2 (Same.refl _) (rv.wide fun a h => rs_or1 a h) fun z => nomatch z⟩
      exact .inl ⟨_, Sum.inl i, .inr ⟨_, h1⟩, rfl, hv.symm⟩
    | bl _ => cases hd
    | non => cases hd
    | int _ => cases hd
    | str _ => cases hd
    | tup _ _ => cases hd
    | lst _ _ _ => cases hd
/-! ### {} of the frame's own -/
theorem de_dnew : DE X M F E false true (.Dict [] [] pos) (rC (dicD [])) := by
  refine ⟨_, pe_dnewK, fun σ H ρ er Q z => ?_⟩
  intro p hp
  refine z (.ref p) _ (same_new hp) (.dic (ks := []) (xs := []) (ds := []) upd_same ?_ rfl .nil) fun _ => ⟨p, rfl, hp, .dic (ks := []) (xs := []) (ds := []) upd_same rfl .nil⟩
  exact er.freshS p hp
/-! ### d[k] = v, k new -/
def sPutD (i : Nat) (lk : Bool) (f g : Rho → Re PyData) : Rho → Sr := fun ρ => (f ρ).st ρ fun d => (match ρ[i]? with
  | some (some dd) => (g ρ).st ρ fun e => (match kvsOf dd, e with
    | some kvs, .int n => if okLen (kvs.length + 1) = true ∧ lookI kvs n = none ∧ (lk = true → imm d = true) then .nx (ρ.set i (some (dicD (kvs ++ [(.int n, d)])))) else .bad
    | _, _ => .bad)
  | _ => .bad)
theorem ER.dicO (er : ER X.K M F σ H ρ) {i : Nat} {dd : PyData} {kvs : List (PyData × PyData)} (m : M i = true) (h : ρ[i]? = some (some dd)) (hk : kvsOf dd = some kvs) : ∃ (pp : Addr) (ks : List Key) (xs : List V) (ds : List PyData), σ[i]? = some (some (.ref pp)) ∧ H pp = some (.dK (ks.zip xs)) ∧ ks.length = xs.length ∧ RpA X.K H (RS M F σ ρ false) xs ds ∧ kvs = (ks.map kD).zip ds := by
  obtain ⟨pp, hs, _, w⟩ := er.ow i _ h m
  cases w with
  | lst e r => cases hk
  | dic e l r =>
    cases hk
    exact ⟨pp, _, _, _, hs, e, l, r, rfl⟩
  | dit e l r => cases hk
  | dct e l r => cases hk
theorem zip_len {ks : List Key} {xs : List V} {ds : List PyData} (l : ks.length = xs.length) (r : xs.length = ds.length) : ((ks.map kD).zip ds).length = (ks.zip xs).length := by
  rw [List.length_zip, List.length_zip, List.length_map]
  omega
theorem ds_dput {i : Nat} {x : Str} {p1 p2 : Pos} (hu : X.A.units + 64 < cLine) (m : M i = true) (h : DE X M F E la fa a f) (hg : DE X M F E lb fb b g) (hN : X.N[i]? = some x := by rfl) (hv : Vis X.env.scope x := by first | exact Or.inl rfl | exact Or.inr (Or.inl rfl) | exact Or.inr (Or.inr rfl)) (hd : (x == ("__debug__" : Str)) = false := by decide)
    (hcd : (x == ("__classdict__" : Str)) = false := by decide) (hs : swapsWith a (some (.Subscript (.Name x p1) b p2)) pos.line X.env = pure false := by rfl) :
    DS X M F E (.Assign [.Subscript (.Name x p1) b p2] a pos) (sPutD i la f g) := by
  obtain ⟨ta, pa, h⟩ := h
  obtain ⟨tb, pb, hg⟩ := hg
  refine ⟨_, ps_dput (by omega) (pe_var hN hv hd hcd) pb pa hs, fun σ H ρ er D w => ?_⟩
  refine h σ H ρ er _ (ws_step er w fun d v H1 e1 s1 r1 _ w1 => ?_)
  have er1 := er.same s1
  cases q : ρ[i]? with
  | none =>
    rw [q] at w1
    exact w1.elim
  | some o =>
    cases o with
    | none =>
      rw [q] at w1
      exact w1.elim
    | some dd =>
      rw [q] at w1
      obtain ⟨pp, sp, _, w0⟩ := er1.ow i dd q m
      refine ⟨.ref pp, sp, ?_⟩
      refine hg σ H1 ρ er1 _ (ws_step (lk := lb) (fr := fb) er1 w1 fun e u H2 e2 s2 r2 _ w2 => ?_)
      have er2 := er1.same s2
      cases qk : kvsOf dd with
      | none =>
        rw [qk] at w2
        exact w2.elim
      | some kvs =>
        rw [qk] at w2
        cases r2 with
        | int n =>
          have w2 : WS X M F E σ H2 ρ (if okLen (kvs.length + 1) = true ∧ lookI kvs n = none ∧ (la = true → imm d = true) then .nx (ρ.set i (some (dicD (kvs ++ [(.int n, d)])))) else .bad) D := w2
          by_cases c : okLen (kvs.length + 1) = true ∧ lookI kvs n = none ∧ (la = true → imm d = true)
          · rw [if_pos c] at w2
            obtain ⟨c1, c2, c3⟩ := c
            obtain ⟨pp', ks, xs, ds, sp', hx, l, rr, ek⟩ := er2.dicO m q qk
            rw [sp] at sp'
            cases sp'
            have lo := look_of n l rr
            rw [← ek, c2] at lo
            have hlen : (ks.zip xs).length < sizeLine := by
              have := of_decide_eq_true c1
              rw [ek, zip_len l rr.length] at this
              exact Nat.lt_of_lt_of_le (Nat.lt_of_succ_le this) (by decide)
            have ez : putK (ks.zip xs) (.inl n) v = (ks ++ [(Sum.inl n : Key)]).zip (xs ++ [v]) := by
              rw [putK_new v lo, List.zip_append l]
              rfl
            have ed : dicD (kvs ++ [(.int n, d)]) = .dict ((.bool true, .none) :: ((ks ++ [(.inl n : Key)]).map kD).zip (ds ++ [d])) := by
              rw [ek, List.map_append, List.zip_append (by rw [List.length_map, l, rr.length])]
              rfl
            have rA := rr.append (.cons (rp_lk (r1.same s2) c3) .nil)
            obtain ⟨er3, ev3⟩ := er2.put (o := .dK ((ks ++ [(Sum.inl n : Key)]).zip (xs ++ [v]))) (d' := dicD (kvs ++ [(.int n, d)])) m q sp (by
              rw [ed]
              refine .dic upd_same (by rw [List.length_append, List.length_append, l]; rfl) (rA.keep ⟨fun a u qa xa _ => ?_⟩ fun _ _ x _ _ => x)
              rw [upd_ne]
              · exact qa
              · intro za
                subst za
                rcases xa with xa | xa
                · exact xa.2 rfl ⟨i, dd, m, q, sp⟩
                · rw [hx] at qa
                  cases qa
                  exact xa trivial)
            refine ⟨_, _, rfl, DPut.k (k := Sum.inl n) hx hlen, ?_⟩
            rw [ez]
            exact w2 σ _ er3 ev3
          · rw [if_neg c] at w2
            exact w2.elim
        | bl _ => exact w2.elim
        | non => exact w2.elim
        | str _ => exact w2.elim
        | tup _ _ => exact w2.elim
        | lst _ _ _ => exact w2.elim
        | scr _ _ => exact w2.elim
        | dic _ _ _ _ => exact w2.elim
        | dit _ _ _ _ => exact w2.elim
        | dif _ _ _ => exact w2.elim
        | rng _ => exact w2.elim
        | dct _ _ _ _ => exact w2.elim
end
end Pu

set_option Elab.async false
set_option linter.all false
set_option maxRecDepth 100000
set_option maxHeartbeats 2000000
namespace Pu
open PySem PySem.Spec PyProof.Rows L2
variable [TabL]
section
variable {X : Cx} {M : Nat → Bool} {F : Fx} {E : L2.St → XK} {σ σ1 : L2.St} {ρ ρ1 : Rho} {H H' H1 : Hp} {D : Ends} {K : PySem.W.Frag}
/-! ### sorted(d), list(d) -/
theorem ints_keys : ∀ {ks : List Key} {ns : List Int}, ks.map kD = ns.map PyData.int → ks = ns.map Sum.inl
  | [], [], _ => rfl
  | [], _ :: _, h => by cases h
  | _ :: _, [], h => by cases h
  | k :: ks, n :: ns, h => by
    rw [List.map_cons, List.map_cons] at h
    obtain ⟨h1, h2⟩ := List.cons.inj h
    rw [List.map_cons, ints_keys h2]
    cases k with
    | inl j =>
      have e : PyData.int j = .int n := h1
      cases e
      rfl
    | inr s => cases h1
def keysOf (kvs : List (PyData × PyData)) : Option (List Int) := asInts (kvs.map (·.1))
def bSortD : List PyData → Option PyData := fun ds => match ds with
  | [d] => (kvsOf d).bind fun kvs => (keysOf kvs).bind fun ns => if ns.length < 64 then some (.list ((srtZ ns).map PyData.int)) else none
  | _ => none
def bListD : List PyData → Option PyData := fun ds => match ds with
  | [d] => (kvsOf d).bind fun kvs => (keysOf kvs).bind fun ns => some (.list (ns.map PyData.int))
  | _ => none
theorem zip_fst : ∀ {α β : Type} (ks : List α) (ds : List β), ks.length = ds.length → (ks.zip ds).map (·.1) = ks
  | _, _, [], [], _ => rfl
  | _, _, _ :: ks, _ :: ds, h => by
    rw [List.zip_cons_cons, List.map_cons, zip_fst ks ds (by simpa using h)]
  | _, _, [], _ :: _, h => by simp at h
  | _, _, _ :: _, [], h => by simp at h
theorem dic_in {S : Addr → Prop} {v : V} {d : PyData} {kvs : List (PyData × PyData)} {ns : List Int} (r : Rp K H S v d) (hk : kvsOf d = some kvs) (hn : keysOf kvs = some ns) : ∃ (a : Addr) (ks : List Key) (xs : List V), v = .ref a ∧ Rd H a (.dK (ks.zip xs)) ∧ (ks.zip xs).map (·.1) = ns.map Sum.inl := by
  cases r with
  | dic h1 h2 h3 h4 =>
    cases hk
    unfold keysOf at hn
    have e := asInts_eq hn
    rw [zip_fst _ _ (by rw [List.length_map, h3, h4.length])] at e
    exact ⟨_, _, _, rfl, .inl h1, by rw [zip_fst _ _ h3, ints_keys e]⟩
  | scr _ _ => cases hk
  | rng _ => cases hk
  | dct _ _ _ _ => cases hk
  | dit _ _ _ _ => cases hk
  | dif h1 h3 h4 =>
    cases hk
    unfold keysOf at hn
    have e := asInts_eq hn
    rw [zip_fst _ _ (by rw [List.length_map, h3, h4.length])] at e
    exact ⟨_, _, _, rfl, .inr ⟨_, h1⟩, by rw [zip_fst _ _ h3, ints_keys e]⟩
  | bl _ => cases hk
  | non => cases hk
  | int _ => cases hk
  | str _ => cases hk
  | tup _ _ => cases hk
  | lst _ _ _ => cases hk
theorem s_sortD : SemL K (fun xs H Q => ∃ (a : Addr) (kvs : List (Key × V)) (ks : List Int), xs = [.ref a] ∧ Rd H a (.dK kvs) ∧ kvs.map (·.1) = ks.map Sum.inl ∧ ks.length < 64 ∧
    ∀ (ys : List Int) (p : Addr), ys.Perm ks → ys.Pairwise (· ≤ ·) → H p = none → Q (.ref p) (upd H p (.lst (ys.map V.int)))) true bSortD := fun S H xs ds z Q new r q k => by
  unfold bSortD at q
  split at q
  · obtain ⟨kvs, e1, q⟩ := Option.bind_eq_some_iff.mp q
    obtain ⟨ns, e2, q⟩ := Option.bind_eq_some_iff.mp q
    by_cases c : ns.length < 64
    · rw [if_pos c] at q
      cases q
      cases r with
      | cons r1 r2 =>
        cases r2
        obtain ⟨a, ks, xs, rfl, hx, hm⟩ := dic_in r1 e1 e2
        refine ⟨a, _, ns, rfl, hx, hm, c, fun ys p hp hs hn => ?_⟩
        rw [srtZ_uniq hp hs]
        exact k _ _ (same_new hn) (.lst upd_same (new p hn) (RpA.ints _)) fun _ => frs_lst hn (RpA.ints _)
    · rw [if_neg c] at q
      cases q
  · cases q
theorem kV_ints : ∀ ns : List Int, (ns.map (Sum.inl (β := Str))).map kV = ns.map V.int
  | [] => rfl
  | n :: ns => by
    rw [List.map_cons, List.map_cons, kV_ints ns]
    rfl
theorem s_listD : SemL K (fun xs H Q => ∃ (a : Addr) (kvs : List (Key × V)), xs = [.ref a] ∧ Rd H a (.dK kvs) ∧ ∀ p, H p = none → Q (.ref p) (upd H p (.lst (kvs.map fun kv => kV kv.1)))) true bListD := fun S H xs ds z Q new r q k => by
  unfold bListD at q
  split at q
  · obtain ⟨kvs, e1, q⟩ := Option.bind_eq_some_iff.mp q
    obtain ⟨ns, e2, q⟩ := Option.bind_eq_some_iff.mp q
    cases q
    cases r with
    | cons r1 r2 =>
      cases r2
      obtain ⟨a, ks, xs, rfl, hx, hm⟩ := dic_in r1 e1 e2
      refine ⟨a, _, rfl, hx, fun p hn => ?_⟩
      have e : (ks.zip xs).map (fun kv => kV kv.1) = ns.map V.int := by
        rw [← kV_ints, ← hm, List.map_map]
        rfl
      rw [e]
      exact k _ _ (same_new hn) (.lst upd_same (new p hn) (RpA.ints _)) fun _ => frs_lst hn (RpA.ints _)
  · cases q
/-! ### {k: v for ..} -/
def dcGo (g : PyData → Rho → Option Rho) (t : Rho → Re Bool) (fk f : Rho → Re PyData) (ρ : Rho) : List PyData → List (PyData × PyData) → Option (List (PyData × PyData))
  | [], acc => some acc
  | d :: ds, acc => match g d ρ with
    | none => none
    | some ρ1 => match t ρ1 with
      | .ok true => (match fk ρ1 with | .ok (.int n) => (match f ρ1 with | .ok z => if okLen (acc.length + 1) = true ∧ lookI acc n = none then dcGo g t fk f ρ ds (acc ++ [(.int n, z)]) else none | _ => none) | _ => none)
      | .ok false => dcGo g t fk f ρ ds acc
      | _ => none
def rDc (its : Rho → Re (List PyData)) (vs : List Nat) (g : PyData → Rho → Option Rho) (t : Rho → Re Bool) (fk f : Rho → Re PyData) : Rho → Re PyData := fun ρ => (its ρ).andThen fun ds => if okLen ds.length = true then (match dcGo g t fk f (wipeR ρ vs) ds [] with | some kvs => .ok (dicD kvs) | none => .bad) else .bad
theorem dc_run {ts vs : List Nat} {wi : TI} {its : Rho → Re (List PyData)} {gg : PyData → Rho → Option Rho} {tt : Rho → Re Bool} {fk f : Rho → Re PyData} {lk fr lk1 fr1 : Bool} (hi : ∀ σ H ρ, ER X.K M F σ H ρ → ∀ R, WI X M F E σ ρ H (its ρ) R → wi σ H R)
    (hv : ∀ i ∈ vs, M i = false) (hts : ∀ i ∈ ts, i ∈ vs) (er : ER X.K M F σ H ρ) {Q : VK} (w : WE X M F E lk true σ ρ H (rDc its vs gg tt fk f ρ) Q) : tDc wi (canG X M ts gg) (canT X M E0s tt) (canE X M E0s lk1 fr1 fk) (canE X M E0s lk fr f) vs σ H Q := by
  refine hi σ H ρ er _ ?_
  unfold rDc at w
  cases q : its ρ with
  | ex c =>
    rw [q] at w
    exact w
  | bad =>
    rw [q] at w
    exact w
  | ok ds =>
    rw [q] at w
    have w : WE X M F E lk true σ ρ H (if okLen ds.length = true then (match dcGo gg tt fk f (wipeR ρ vs) ds [] with | some kvs => .ok (dicD kvs) | none => .bad) else .bad) Q := w
    by_cases hz : okLen ds.length = true
    · rw [if_pos hz] at w
      cases q2 : dcGo gg tt fk f (wipeR ρ vs) ds [] with
      | none =>
        rw [q2] at w
        exact w.elim
      | some tot =>
        rw [q2] at w
        refine fun J H1 sm wk Dd hD => ?_
        have er1 := er.same sm
        refine ⟨fun i m H2 => m = ds.length - i ∧ i ≤ ds.length ∧ Same H1 H2 ∧ ∃ (ks : List Key) (xs : List V) (accd : List PyData), H2 Dd = some (.dK (ks.zip xs)) ∧ ks.length = xs.length ∧ RpA X.K H2 (fun a => RS M F σ ρ lk a ∧ a ≠ Dd) xs accd ∧ xs.length ≤ i ∧ dcGo gg tt fk f (wipeR ρ vs) (ds.drop i) ((ks.map kD).zip accd) = some tot,
          ⟨ds.length, by simp, Nat.zero_le _, same_new hD, [], [], [], upd_same, rfl, .nil, Nat.le_refl _, q2⟩, ?_⟩
        rintro i m H2 ⟨rfl, hi', sm2, ks, xs, accd, e1, lz, r1, l1, g1⟩
        have kp : Kp (fun a => RS M F σ ρ false a ∧ Nn H1 a) H1 H2 := kp_same sm2
        by_cases hlt : i < ds.length
        · obtain ⟨go, yl⟩ := (wk H2 kp i).1 _ (List.getElem?_eq_getElem hlt)
          refine .inr ⟨go, fun H3 => ds.length - (i + 1) = ds.length - (i + 1) ∧ i + 1 ≤ ds.length ∧ Same H1 H3 ∧ ∃ (ks : List Key) (xs : List V) (accd : List PyData), H3 Dd = some (.dK (ks.zip xs)) ∧ ks.length = xs.length ∧ RpA X.K H3 (fun a => RS M F σ ρ lk a ∧ a ≠ Dd) xs accd ∧ xs.length ≤ i + 1 ∧ dcGo gg tt fk f (wipeR ρ vs) (ds.drop (i + 1)) ((ks.map kD).zip accd) = some tot, fun H3 x => ⟨ds.length - (i + 1), by omega, x⟩, fun x H3 y => ?_⟩
          obtain ⟨s3, rx⟩ := yl x H3 y
          rw [drop_get (List.getElem?_eq_getElem hlt)] at g1
          have g1 : (match gg ds[i] (wipeR ρ vs) with
            | none => none
            | some ρ1 => match tt ρ1 with
              | .ok true => (match fk ρ1 with | .ok (.int n) => (match f ρ1 with | .ok z => if okLen (((ks.map kD).zip accd).length + 1) = true ∧ lookI ((ks.map kD).zip accd) n = none then dcGo gg tt fk f (wipeR ρ vs) (ds.drop (i + 1)) (((ks.map kD).zip accd) ++ [(.int n, z)]) else none | _ => none) | _ => none)
              | .ok false => dcGo gg tt fk f (wipeR ρ vs) (ds.drop (i + 1)) ((ks.map kD).zip accd)
              | _ => none) = some tot := g1
          cases q3 : gg ds[i] (wipeR ρ vs) with
          | none =>
            rw [q3] at g1
            cases g1
          | some ρ1 =>
            rw [q3] at g1
            have g1 : (match tt ρ1 with
              | .ok true => (match fk ρ1 with | .ok (.int n) => (match f ρ1 with | .ok z => if okLen (((ks.map kD).zip accd).length + 1) = true ∧ lookI ((ks.map kD).zip accd) n = none then dcGo gg tt fk f (wipeR ρ vs) (ds.drop (i + 1)) (((ks.map kD).zip accd) ++ [(.int n, z)]) else none | _ => none) | _ => none)
              | .ok false => dcGo gg tt fk f (wipeR ρ vs) (ds.drop (i + 1)) ((ks.map kD).zip accd)
              | _ => none) = some tot := g1
            obtain ⟨erw, rsw⟩ := er1.wipe (vs := vs) hv
            have s13 : Same H1 H3 := sm2.trans s3
            have e3 : H3 Dd = some (.dK (ks.zip xs)) := s3 _ _ e1
            have erb := erw.blk hD s13 e3
            have rx' : Rp X.K H3 (RS M (inBlk F Dd) (wipe σ vs) (wipeR ρ vs) false) x ds[i] := rx.wide fun a z => by
              have := rsw false
              refine ⟨⟨z.1.1, fun zz => ?_⟩, ?_⟩
              · rw [zz] at z
                exact z.2.not hD
              · have z1 : RS M F (wipe σ vs) (wipeR ρ vs) false a := by
                  rw [this]
                  exact z.1
                exact z1.2
            refine ⟨inBlk F Dd, wipeR ρ vs, ds[i], ρ1, erb, rx', q3, fun σ4 er4 ev4 wp4 ow4 => ⟨?_, ?_⟩⟩
            · rw [wp4 vs hts]
              exact (show wipe (wipe σ vs) vs = wipe σ vs from by
                have : ∀ (l : List Nat) (τ : L2.St), (∀ i ∈ l, i < τ.length → τ[i]? = some none) → wipe τ l = τ := by
                  intro l
                  induction l with
                  | nil => intro τ _; rfl
                  | cons v l ih =>
                    intro τ h
                    show (wipe τ l).set v none = τ
                    rw [ih τ fun i hi => h i (List.mem_cons_of_mem _ hi)]
                    by_cases hv : v < τ.length
                    · have := h v List.mem_cons_self hv
                      obtain ⟨h1, h2⟩ := List.getElem?_eq_some_iff.mp this
                      rw [← h2, List.set_getElem_self]
                    · rw [List.set_eq_of_length_le (by omega)]
                refine this vs _ fun i hi hl => ?_
                have mem : ∀ (l : List Nat) (i : Nat), i ∈ l → i < (wipe σ l).length → (wipe σ l)[i]? = some none := by
                  intro l
                  induction l with
                  | nil => intro i h; cases h
                  | cons v l ih =>
                    intro i h hl
                    show ((wipe σ l).set v none)[i]? = some none
                    have hl' : i < (wipe σ l).length := by
                      have hl2 : i < ((wipe σ l).set v none).length := hl
                      rwa [List.length_set] at hl2
                    by_cases e : v = i
                    · subst e
                      rw [List.getElem?_set_self hl']
                    · rw [List.getElem?_set_ne e]
                      exact ih i ((List.mem_cons.mp h).resolve_left fun z => e z.symm) hl'
                exact mem vs i hi hl)
            · refine ⟨inBlk F Dd, ρ1, er4, ?_⟩
              cases q4 : tt ρ1 with
              | ex c =>
                rw [q4] at g1
                cases g1
              | bad =>
                rw [q4] at g1
                cases g1
              | ok bb =>
                rw [q4] at g1
                cases bb with
                | false =>
                  refine fun H5 s5 => ?_
                  show (if false = true then _ else _)
                  rw [if_neg Bool.false_ne_true]
                  exact ⟨rfl, hlt, s13.trans s5, ks, xs, accd, s5 _ _ e3, lz, r1.same (s3.trans s5), by omega, g1⟩
                | true =>
                  refine fun H5 s5 => ?_
                  show (if true = true then _ else _)
                  rw [if_pos rfl]
                  have g1 : (match fk ρ1 with | .ok (.int n) => (match f ρ1 with | .ok z => if okLen (((ks.map kD).zip accd).length + 1) = true ∧ lookI ((ks.map kD).zip accd) n = none then dcGo gg tt fk f (wipeR ρ vs) (ds.drop (i + 1)) (((ks.map kD).zip accd) ++ [(.int n, z)]) else none | _ => none) | _ => none) = some tot := g1
                  cases qk : fk ρ1 with
                  | ex c =>
                    rw [qk] at g1
                    cases g1
                  | bad =>
                    rw [qk] at g1
                    cases g1
                  | ok kd =>
                    rw [qk] at g1
                    have kint : ∃ n, kd = .int n := by
                      cases kd with
                      | int n => exact ⟨n, rfl⟩
                      | _ => cases g1
                    obtain ⟨n, rfl⟩ := kint
                    have g1 : (match f ρ1 with | .ok z => if okLen (((ks.map kD).zip accd).length + 1) = true ∧ lookI ((ks.map kD).zip accd) n = none then dcGo gg tt fk f (wipeR ρ vs) (ds.drop (i + 1)) ((ks.map kD).zip accd ++ [(.int n, z)]) else none | _ => none) = some tot := g1
                    refine ⟨inBlk F Dd, ρ1, er4.same s5, ?_⟩
                    rw [qk]
                    refine fun kv H5' s5' rk _ => ?_
                    cases rk with
                    | int _ =>
                      cases q5 : f ρ1 with
                      | ex c =>
                        rw [q5] at g1
                        cases g1
                      | bad =>
                        rw [q5] at g1
                        cases g1
                      | ok xd =>
                        rw [q5] at g1
                        have g1 : (if okLen (((ks.map kD).zip accd).length + 1) = true ∧ lookI ((ks.map kD).zip accd) n = none then dcGo gg tt fk f (wipeR ρ vs) (ds.drop (i + 1)) ((ks.map kD).zip accd ++ [(.int n, xd)]) else none) = some tot := g1
                        by_cases cc : okLen (((ks.map kD).zip accd).length + 1) = true ∧ lookI ((ks.map kD).zip accd) n = none
                        · rw [if_pos cc] at g1
                          refine ⟨inBlk F Dd, ρ1, (er4.same s5).same s5', ?_⟩
                          rw [q5]
                          refine fun v H6 s6 r6 _ => ?_
                          have e6 : H6 Dd = some (.dK (ks.zip xs)) := s6 _ _ (s5' _ _ (s5 _ _ e3))
                          have lo := look_of n lz r1
                          rw [cc.2] at lo
                          have acl : (ks.zip xs).length < sizeLine := by
                            have := of_decide_eq_true cc.1
                            rw [zip_len lz r1.length] at this
                            exact Nat.lt_of_lt_of_le (Nat.lt_of_succ_le this) (by decide)
                          have ez : putK (ks.zip xs) (Sum.inl n : Key) v = (ks ++ [(Sum.inl n : Key)]).zip (xs ++ [v]) := by
                            rw [putK_new v lo, List.zip_append lz]
                            rfl
                          have ed : (ks.map kD).zip accd ++ [(PyData.int n, xd)] = ((ks ++ [(Sum.inl n : Key)]).map kD).zip (accd ++ [xd]) := by
                            rw [List.map_append, List.zip_append (by rw [List.length_map, lz, r1.length])]
                            rfl
                          rw [ed] at g1
                          refine ⟨ks.zip xs, Sum.inl n, rfl, e6, acl, rfl, hlt, (((s13.trans s5).trans s5').trans s6).put hD e6 plain_dK, ks ++ [(Sum.inl n : Key)], xs ++ [v], accd ++ [xd], ?_, ?_, ?_, ?_, g1⟩
                          · rw [ez]
                            exact upd_same
                          · rw [List.length_append, List.length_append, lz]
                            rfl
                          · rw [ez]
                            have kpD : Kp (fun a => RS M F σ ρ lk a ∧ a ≠ Dd) H6 (upd H6 Dd (.dK ((ks ++ [(Sum.inl n : Key)]).zip (xs ++ [v])))) := by
                              refine ⟨fun a u qa xa _ => ?_⟩
                              rw [upd_ne]
                              · exact qa
                              · intro za
                                subst za
                                rcases xa with xa | xa
                                · exact xa.2 rfl
                                · rw [e6] at qa
                                  cases qa
                                  exact xa trivial
                            have rA : RpA X.K H6 (fun a => RS M F σ ρ lk a ∧ a ≠ Dd) xs accd := r1.same (((s3.trans s5).trans s5').trans s6)
                            have rV : Rp X.K H6 (fun a => RS M F σ ρ lk a ∧ a ≠ Dd) v xd := r6.wide fun a za => by
                              refine ⟨⟨za.1.1, fun zl => fun o => ?_⟩, za.1.2⟩
                              have rw0 := rsw false
                              obtain ⟨hh0, hs0, uu, hu⟩ := er1.own o
                              have nb : ¬ OwnA M (wipe σ vs) (wipeR ρ vs) a → False := fun nn => by
                                have : RS M F (wipe σ vs) (wipeR ρ vs) false a := ⟨hs0, fun _ => nn⟩
                                rw [rw0] at this
                                exact this.2 rfl o
                              refine za.2 zl ?_
                              by_cases ob : OwnA M (wipe σ vs) (wipeR ρ vs) a
                              · exact ow4 a ob
                              · exact (nb ob).elim
                            exact (rA.append (.cons rV .nil)).keep kpD fun _ _ x _ _ => x
                          · rw [List.length_append]
                            show xs.length + 1 ≤ i + 1
                            omega
                        · rw [if_neg cc] at g1
                          cases g1
        · have ei : i = ds.length := by omega
          subst ei
          rw [List.drop_length] at g1
          have g1 : some ((ks.map kD).zip accd) = some tot := g1
          cases g1
          refine .inl ⟨(wk H2 kp _).2 rfl, w (.ref Dd) H2 (sm.trans sm2) (.dic e1 ?_ lz (r1.wide fun a x => x.1)) fun _ => ⟨Dd, rfl, sm.free hD, .dic e1 lz r1⟩⟩
          exact er1.freshS _ hD
    · rw [if_neg hz] at w
      exact w.elim
theorem de_dc {kx vx tg iter : Expr} {ifs : List Expr} {scope : Scope} {own : List (Str × Nat)} {ts : List Nat} {pos : Pos} (vs : List Nat) {its : Rho → Re (List PyData)} {gg : PyData → Rho → Option Rho} {tt : Rho → Re Bool} {fk f : Rho → Re PyData} {lk fr lk1 fr1 : Bool}
    (hc : X.calm = true) (hN : X.N.Nodup) (hi : DI X M F E tg iter its) (ok : BlkOk X.N X.env.scope scope own) (hv : ∀ i ∈ vs, M i = false)
    (hg : ∀ (s : Shared) (H : Hp) (C : Addr) (cl : List (Str × Addr)) (fp : List Addr) (F : Fx), DG (X.blk s H scope (compEnvC scope cl C X.env) fp) M F tg ts gg)
    (ht : ∀ (s : Shared) (H : Hp) (C : Addr) (cl : List (Str × Addr)) (fp : List Addr), DTs (X.blk s H scope (compEnvC scope cl C X.env) fp) M E0s ifs tt)
    (hk : ∀ (s : Shared) (H : Hp) (C : Addr) (cl : List (Str × Addr)) (fp : List Addr) (F : Fx), DE (X.blk s H scope (compEnvC scope cl C X.env) fp) M F E0s lk1 fr1 kx fk)
    (he : ∀ (s : Shared) (H : Hp) (C : Addr) (cl : List (Str × Addr)) (fp : List Addr) (F : Fx), DE (X.blk s H scope (compEnvC scope cl C X.env) fp) M F E0s lk fr vx f)
    (hvs : own.map (·.2) = vs := by rfl) (hts : ∀ i ∈ ts, i ∈ vs := by decide) (hs : ∀ x, foldedSetIterable iter X.env x = pure x := by intro _; rfl) :
    DE X M F E lk true (.DictComp kx vx [⟨tg, iter, ifs, 0⟩] scope pos) (rDc its vs gg tt fk f) := by
  subst hvs
  obtain ⟨wi, pw, hi⟩ := hi
  exact ⟨_, pe_dc (g := canG X M ts gg) (tt := canT X M E0s tt) (tk := canE X M E0s lk1 fr1 fk) (tv := canE X M E0s lk fr f) hc hN pw ok (fun s H C cl fp => canG_ok (hg s H C cl fp)) (fun s H C cl fp => ht s H C cl fp) (fun s H C cl fp => canE_ok (hk s H C cl fp)) (fun s H C cl fp => canE_ok (he s H C cl fp)) hs, fun σ H ρ er Q w => dc_run hi hv hts er w⟩
end
end Pu

set_option Elab.async false
set_option linter.all false
set_option maxRecDepth 100000
set_option maxHeartbeats 2000000
namespace Pu
open PySem PySem.Spec PyProof.Rows L2
variable [TabL]
section
variable {α β : Type} {ρ : Rho} {i j : Int}
@[simp] theorem imm_i : imm (.int i) = true := by
  unfold imm
  rfl
def appRT (ρ : Rho) (i : Nat) : Option (List PyData) → Re PyData → Sr
  | some ds, r => r.st ρ fun d => if okLen (ds.length + 1) = true ∧ imm d = true then .nx (ρ.set i (some (.list (ds ++ [d])))) else .bad
  | none, _ => .bad
@[simp] theorem ap_sAppT (i : Nat) (f : Rho → Re PyData) : sApp i true f ρ = appRT ρ i (lOf ρ[i]?) (f ρ) := by
  unfold sApp appRT
  rw [getL_eq]
  cases lOf ρ[i]? with
  | none => rfl
  | some ds =>
    show (f ρ).st ρ _ = (f ρ).st ρ _
    congr 1
    funext d
    simp
theorem appRT_i {k : Nat} {ns : List Int} {x : Int} (h : ns.length < 10000) : appRT ρ k (some (ns.map PyData.int)) (.ok (.int x)) = .nx (ρ.set k (some (lI (ns ++ [x])))) := by
  show (if okLen ((ns.map PyData.int).length + 1) = true ∧ imm (.int x) = true then Sr.nx (ρ.set k (some (PyData.list (ns.map PyData.int ++ [.int x])))) else .bad) = _
  rw [if_pos ⟨by rw [List.length_map]; exact decide_eq_true h, imm_i⟩, snoc_i]
@[simp] theorem ap_sSetT (k : Nat) (f : Rho → Re PyData) : sSet k true f ρ = (f ρ).st ρ fun d => if imm d = true then .nx (ρ.set k (some d)) else .bad := by
  unfold sSet
  congr 1
  funext d
  simp
/-! dicts: the keys ks, k ↦ h k -/
def fD (ks : List Int) (h : Int → Int) : PyData := dicD (ks.map fun k => (PyData.int k, PyData.int (h k)))
theorem look_f {ks : List Int} {h : Int → Int} : ∀ {ks : List Int}, i ∈ ks → lookI (ks.map fun k => (PyData.int k, PyData.int (h k))) i = some (.int (h i))
  | k :: ks, m => by
    rw [List.map_cons]
    unfold lookI
    rw [List.find?_cons]
    by_cases e : k = i
    · subst e
      show Option.map _ (match decide (k = k) with | true => some _ | false => _) = _
      rw [decide_eq_true rfl]
      rfl
    · show Option.map _ (match decide (k = i) with | true => some _ | false => _) = _
      rw [decide_eq_false e]
      exact look_f (h := h) (ks := []) ((List.mem_cons.mp m).resolve_left fun q => e q.symm)
theorem look_no {h : Int → Int} : ∀ {ks : List Int}, i ∉ ks → lookI (ks.map fun k => (PyData.int k, PyData.int (h k))) i = none
  | [], _ => rfl
  | k :: ks, m => by
    rw [List.map_cons]
    unfold lookI
    rw [List.find?_cons]
    have e : ¬ k = i := fun e => m (by rw [e]; exact List.mem_cons_self)
    show Option.map _ (match decide (k = i) with | true => some _ | false => _) = _
    rw [decide_eq_false e]
    exact look_no fun q => m (List.mem_cons_of_mem _ q)
theorem dget_f {ks : List Int} {h : Int → Int} (m : i ∈ ks) : oDGet (fD ks h) (.int i) = some (.int (h i)) := by
  show lookI (ks.map fun k => (PyData.int k, PyData.int (h k))) i = _
  exact look_f (ks := []) m
theorem keys_f {ks : List Int} {h : Int → Int} : keysOf (ks.map fun k => (PyData.int k, PyData.int (h k))) = some ks := by
  unfold keysOf
  rw [List.map_map]
  exact asInts_map ks
theorem sortD_f {ks : List Int} {h : Int → Int} (hl : ks.length < 64) : bSortD [fD ks h] = some (lI (srtZ ks)) := by
  show (keysOf (ks.map fun k => (PyData.int k, PyData.int (h k)))).bind _ = _
  rw [keys_f, Option.bind_some, if_pos hl]
  rfl
theorem listD_f {ks : List Int} {h : Int → Int} : bListD [fD ks h] = some (lI ks) := by
  show (keysOf (ks.map fun k => (PyData.int k, PyData.int (h k)))).bind _ = _
  rw [keys_f]
  rfl
/-- {k: h(k) for k in ks} -/
theorem dc_i {its : Rho → Re (List PyData)} {v : Nat} {fk f : Rho → Re PyData} {ks : List Int} {h : Int → Int} (hi : its ρ = .ok (ks.map PyData.int)) (hl : ks.length < 10000) (nd : ks.Nodup) (hk : ∀ k ∈ ks, fk ((ρ.set v none).set v (some (.int k))) = .ok (.int k)) (hf : ∀ k ∈ ks, f ((ρ.set v none).set v (some (.int k))) = .ok (.int (h k))) :
    rDc its [v] (gSlot v) yesR fk f ρ = .ok (fD ks h) := by
  unfold rDc
  rw [hi, re_ok, if_pos (by rw [List.length_map]; exact decide_eq_true (Nat.le_of_lt hl))]
  have key : ∀ ms as : List Int, as ++ ms = ks → dcGo (gSlot v) yesR fk f (ρ.set v none) (ms.map PyData.int) (as.map fun k => (PyData.int k, PyData.int (h k))) = some (ks.map fun k => (PyData.int k, PyData.int (h k))) := by
    intro ms
    induction ms with
    | nil =>
      intro as e
      rw [List.append_nil] at e
      rw [e]
      rfl
    | cons k ms ih =>
      intro as e
      have mk : k ∈ ks := by rw [← e]; simp
      have nk : k ∉ as := by
        rw [← e] at nd
        intro q
        exact (List.nodup_append.mp nd).2.2 k q k List.mem_cons_self rfl
      have la : as.length < 10000 := by
        have := congrArg List.length e
        rw [List.length_append] at this
        omega
      show (match fk ((ρ.set v none).set v (some (.int k))) with | .ok (.int n) => (match f ((ρ.set v none).set v (some (.int k))) with | .ok z => if okLen ((as.map fun k => (PyData.int k, PyData.int (h k))).length + 1) = true ∧ lookI (as.map fun k => (PyData.int k, PyData.int (h k))) n = none then dcGo (gSlot v) yesR fk f (ρ.set v none) (ms.map PyData.int) ((as.map fun k => (PyData.int k, PyData.int (h k))) ++ [(PyData.int n, z)]) else none | _ => none) | _ => none) = _
      rw [hk k mk, hf k mk]
      show (if okLen ((as.map fun k => (PyData.int k, PyData.int (h k))).length + 1) = true ∧ lookI (as.map fun k => (PyData.int k, PyData.int (h k))) k = none then dcGo (gSlot v) yesR fk f (ρ.set v none) (ms.map PyData.int) ((as.map fun k => (PyData.int k, PyData.int (h k))) ++ [(PyData.int k, PyData.int (h k))]) else none) = _
      rw [if_pos ⟨by rw [List.length_map]; exact decide_eq_true la, look_no nk⟩]
      have := ih (as ++ [k]) (by rw [List.append_assoc]; exact e)
      rw [List.map_append] at this
      exact this
  show (match dcGo (gSlot v) yesR fk f (ρ.set v none) (ks.map PyData.int) [] with | some kvs => Re.ok (dicD kvs) | none => .bad) = _
  rw [show ([] : List (PyData × PyData)) = ([] : List Int).map fun k => (PyData.int k, PyData.int (h k)) from rfl, key ks [] rfl]
  rfl
/-- d[k] = v of an own dict -/
theorem putD_i {k : Nat} {lk : Bool} {f g : Rho → Re PyData} {ks : List Int} {h : Int → Int} {n : Int} (hk : ρ[k]? = some (some (fD ks h))) (hf : f ρ = .ok (.int (h n))) (hg : g ρ = .ok (.int n)) (hn : n ∉ ks) (hl : ks.length < 10000) : sPutD k lk f g ρ = .nx (ρ.set k (some (fD (ks ++ [n]) h))) := by
  unfold sPutD
  rw [hf, st_ok, hk]
  show (g ρ).st ρ _ = _
  rw [hg, st_ok]
  show (if okLen ((ks.map fun k => (PyData.int k, PyData.int (h k))).length + 1) = true ∧ lookI (ks.map fun k => (PyData.int k, PyData.int (h k))) n = none ∧ (lk = true → imm (.int (h n)) = true) then Sr.nx (ρ.set k (some (dicD ((ks.map fun k => (PyData.int k, PyData.int (h k))) ++ [(PyData.int n, PyData.int (h n))])))) else .bad) = _
  rw [if_pos ⟨by rw [List.length_map]; exact decide_eq_true hl, look_no hn, fun _ => imm_i⟩]
  unfold fD
  rw [List.map_append]
  rfl
/-! while -/
theorem while_go {p : Rho → Re Bool} {b : Rho → Sr} {n : Nat} {ρ2 : Rho} (h : p ρ = .ok true) (h2 : b ρ = .nx ρ2) : sWhile p b (n + 1) ρ = sWhile p b n ρ2 := by
  show ((p ρ).stT ρ fun c => if c = true then (match b ρ with
      | .nx ρ2 => sWhile p b n ρ2
      | .ct ρ2 => sWhile p b n ρ2
      | .bk ρ2 => .nx ρ2
      | .rt d => .rt d
      | .ex c ρ2 => .ex c ρ2
      | .bad => .bad) else .nx ρ) = _
  rw [h, stT_ok, if_pos rfl, h2]
theorem while_end {p : Rho → Re Bool} {b : Rho → Sr} {n : Nat} (h : p ρ = .ok false) : sWhile p b (n + 1) ρ = .nx ρ := by
  show ((p ρ).stT ρ fun c => if c = true then _ else Sr.nx ρ) = _
  rw [h, stT_ok, if_neg Bool.false_ne_true]
end
end Pu

set_option Elab.async false
set_option linter.all false
set_option maxRecDepth 100000
set_option maxHeartbeats 2000000
/-! rings of a permutation -/
namespace Pu
open PySem PySem.Spec PyProof.Rows L2
variable [TabL]
def itZ (f : Int → Int) : Nat → Int → Int
  | 0, s => s
  | n + 1, s => f (itZ f n s)
theorem itZ_add (f : Int → Int) (m n : Nat) (s : Int) : itZ f (m + n) s = itZ f m (itZ f n s) := by
  induction m with
  | zero => rw [Nat.zero_add]; rfl
  | succ m ih =>
    rw [show m + 1 + n = (m + n) + 1 by omega]
    show f (itZ f (m + n) s) = f (itZ f m (itZ f n s))
    rw [ih]
structure Pm (f : Int → Int) (ks : List Int) : Prop where
  nd : ks.Nodup
  to : ∀ k ∈ ks, f k ∈ ks
  inj : ∀ k ∈ ks, ∀ l ∈ ks, f k = f l → k = l
section
variable {f : Int → Int} {ks : List Int}
theorem Pm.it (P : Pm f ks) (n : Nat) {s : Int} (h : s ∈ ks) : itZ f n s ∈ ks := by
  induction n with
  | zero => exact h
  | succ n ih => exact P.to _ ih
theorem Pm.itInj (P : Pm f ks) (n : Nat) {s t : Int} (h : s ∈ ks) (h2 : t ∈ ks) (e : itZ f n s = itZ f n t) : s = t := by
  induction n with
  | zero => exact e
  | succ n ih => exact ih (P.inj _ (P.it n h) _ (P.it n h2) e)
theorem php : ∀ (l ks : List Int), l.Nodup → (∀ x ∈ l, x ∈ ks) → l.length ≤ ks.length
  | [], _, _, _ => Nat.zero_le _
  | x :: l, ks, nd, h => by
    obtain ⟨n1, n2⟩ := List.nodup_cons.mp nd
    have hx := h x List.mem_cons_self
    have := php l (ks.erase x) n2 fun y hy => (List.mem_erase_of_ne (fun e => n1 (by rw [← e]; exact hy))).mpr (h y (List.mem_cons_of_mem _ hy))
    rw [List.length_erase_of_mem hx] at this
    have : 0 < ks.length := List.length_pos_of_mem hx
    rw [List.length_cons]
    omega
theorem least {P : Nat → Prop} (n : Nat) (h : P n) : ∃ m, m ≤ n ∧ P m ∧ ∀ k, k < m → ¬ P k := by
  induction n using Nat.strongRecOn with
  | _ n ih =>
    by_cases c : ∃ k, k < n ∧ P k
    · obtain ⟨k, hk, pk⟩ := c
      obtain ⟨m, h1, h2, h3⟩ := ih k hk pk
      exact ⟨m, by omega, h2, h3⟩
    · exact ⟨n, Nat.le_refl _, h, fun k hk pk => c ⟨k, hk, pk⟩⟩
/-- m is the number of turns that lead s back -/
def IsPer (f : Int → Int) (s : Int) (m : Nat) : Prop := 0 < m ∧ itZ f m s = s ∧ ∀ k, 0 < k → k < m → itZ f k s ≠ s
theorem Pm.per (P : Pm f ks) {s : Int} (h : s ∈ ks) : ∃ m, m ≤ ks.length ∧ IsPer f s m := by
  have key : ∃ i j, i < j ∧ j ≤ ks.length ∧ itZ f i s = itZ f j s := by
    by_cases c : ∃ i j, i < j ∧ j ≤ ks.length ∧ itZ f i s = itZ f j s
    · exact c
    · have nd : ((List.range (ks.length + 1)).map fun k => itZ f k s).Nodup := by
        refine List.pairwise_iff_getElem.mpr fun i j hi hj hij e => c ⟨i, j, hij, ?_, ?_⟩
        · rw [List.length_map, List.length_range] at hj
          omega
        · rw [List.getElem_map, List.getElem_map, List.getElem_range, List.getElem_range] at e
          exact e
      have := php _ ks nd fun x hx => by
        obtain ⟨k, _, rfl⟩ := List.mem_map.mp hx
        exact P.it k h
      rw [List.length_map, List.length_range] at this
      omega
  obtain ⟨i, j, hij, hj, e⟩ := key
  have e2 : itZ f (j - i) s = s := by
    refine P.itInj i (P.it _ h) h ?_
    rw [← itZ_add, show i + (j - i) = j by omega]
    exact e.symm
  obtain ⟨m, h1, ⟨h2, h3⟩, h4⟩ := least (P := fun m => 0 < m ∧ itZ f m s = s) (j - i) ⟨by omega, e2⟩
  exact ⟨m, by omega, h2, h3, fun k k0 km e => h4 k km ⟨k0, e⟩⟩
open Classical in
/-- .. -/
noncomputable def pd (f : Int → Int) (s : Int) : Nat := if h : ∃ m, IsPer f s m then h.choose else 0
theorem Pm.isPer (P : Pm f ks) {s : Int} (h : s ∈ ks) : IsPer f s (pd f s) ∧ pd f s ≤ ks.length := by
  obtain ⟨m, hm, hp⟩ := P.per h
  have ex : ∃ m, IsPer f s m := ⟨m, hp⟩
  have e : IsPer f s (pd f s) := by
    unfold pd
    rw [dif_pos ex]
    exact ex.choose_spec
  refine ⟨e, ?_⟩
  by_cases c : pd f s ≤ m
  · omega
  · exact absurd hp.2.1 (e.2.2 m hp.1 (by omega))
/-- s and its followers -/
def orb (f : Int → Int) (s : Int) (m : Nat) : List Int := (List.range m).map fun k => itZ f k s
theorem orb_length (s : Int) (m : Nat) : (orb f s m).length = m := by simp [orb]
theorem orb_get {s : Int} {m k : Nat} (h : k < m) : (orb f s m)[k]? = some (itZ f k s) := by
  unfold orb
  rw [List.getElem?_map, List.getElem?_range h]
  rfl
theorem orb_succ (s : Int) (m : Nat) : orb f s (m + 1) = orb f s m ++ [itZ f m s] := by
  unfold orb
  rw [List.range_succ, List.map_append]
  rfl
noncomputable def ringZ (f : Int → Int) (s : Int) : List Int := orb f s (pd f s)
theorem it_mod {s : Int} {m : Nat} (h : itZ f m s = s) (q r : Nat) : itZ f (m * q + r) s = itZ f r s := by
  induction q with
  | zero => rw [Nat.mul_zero, Nat.zero_add]
  | succ q ih =>
    rw [show m * (q + 1) + r = (m * q + r) + m by rw [Nat.mul_succ]; omega, itZ_add, h]
    exact ih
theorem Pm.mem_ring (P : Pm f ks) {s x : Int} (h : s ∈ ks) : x ∈ ringZ f s ↔ ∃ n, x = itZ f n s := by
  obtain ⟨⟨p0, p1, p2⟩, _⟩ := P.isPer h
  unfold ringZ orb
  constructor
  · intro hx
    obtain ⟨k, _, rfl⟩ := List.mem_map.mp hx
    exact ⟨k, rfl⟩
  · rintro ⟨n, rfl⟩
    refine List.mem_map.mpr ⟨n % pd f s, List.mem_range.mpr (Nat.mod_lt _ p0), ?_⟩
    have := it_mod p1 (n / pd f s) (n % pd f s)
    rw [Nat.div_add_mod] at this
    exact this.symm
theorem Pm.ring_in (P : Pm f ks) {s x : Int} (h : s ∈ ks) (hx : x ∈ ringZ f s) : x ∈ ks := by
  obtain ⟨n, rfl⟩ := (P.mem_ring h).mp hx
  exact P.it n h
theorem Pm.ring_self (P : Pm f ks) {s : Int} (h : s ∈ ks) : s ∈ ringZ f s := (P.mem_ring h).mpr ⟨0, rfl⟩
theorem Pm.ring_back (P : Pm f ks) {s x : Int} (h : s ∈ ks) (hx : x ∈ ringZ f s) : s ∈ ringZ f x := by
  obtain ⟨⟨p0, p1, p2⟩, _⟩ := P.isPer h
  have hk := P.ring_in h hx
  obtain ⟨n, rfl⟩ := (P.mem_ring h).mp hx
  refine (P.mem_ring hk).mpr ⟨pd f s * n - n, ?_⟩
  rw [← itZ_add, Nat.sub_add_cancel (Nat.le_mul_of_pos_left n p0)]
  have := it_mod p1 n 0
  rw [Nat.add_zero] at this
  exact this.symm
theorem Pm.ring_trans (P : Pm f ks) {s x y : Int} (h : s ∈ ks) (hx : x ∈ ringZ f s) (hy : y ∈ ringZ f x) : y ∈ ringZ f s := by
  obtain ⟨n, rfl⟩ := (P.mem_ring h).mp hx
  obtain ⟨m, rfl⟩ := (P.mem_ring (P.it n h)).mp hy
  exact (P.mem_ring h).mpr ⟨m + n, by rw [itZ_add]⟩
theorem Pm.ring_nd (P : Pm f ks) {s : Int} (h : s ∈ ks) : (ringZ f s).Nodup := by
  obtain ⟨⟨p0, p1, p2⟩, _⟩ := P.isPer h
  unfold ringZ orb
  refine List.pairwise_iff_getElem.mpr fun i j hi hj hij e => ?_
  rw [List.length_map, List.length_range] at hi hj
  rw [List.getElem_map, List.getElem_map, List.getElem_range, List.getElem_range] at e
  refine p2 (j - i) (by omega) (by omega) (P.itInj i (P.it _ h) h ?_)
  rw [← itZ_add, show i + (j - i) = j by omega]
  exact e.symm
/-- the least of a list -/
def mnZ : List Int → Int
  | [] => 0
  | x :: xs => minZ x xs
theorem mnZ_in {l : List Int} (h : l ≠ []) : mnZ l ∈ l ∧ ∀ y ∈ l, mnZ l ≤ y := by
  cases l with
  | nil => exact absurd rfl h
  | cons x xs => exact minZ_mem xs x
theorem mn_eq {l m : List Int} (hl : l ≠ []) (hm : m ≠ []) (h : ∀ x, x ∈ l ↔ x ∈ m) : mnZ l = mnZ m := by
  obtain ⟨a1, a2⟩ := mnZ_in hl
  obtain ⟨b1, b2⟩ := mnZ_in hm
  have h1 := a2 _ ((h _).mpr b1)
  have h2 := b2 _ ((h _).mp a1)
  omega
theorem Pm.ring_ne (P : Pm f ks) {s : Int} (h : s ∈ ks) : ringZ f s ≠ [] := fun e => by
  have := P.ring_self h
  rw [e] at this
  cases this
theorem Pm.ring_same (P : Pm f ks) {s x : Int} (h : s ∈ ks) (hx : x ∈ ringZ f s) (y : Int) : y ∈ ringZ f s ↔ y ∈ ringZ f x :=
  ⟨fun hy => P.ring_trans (P.ring_in h hx) (P.ring_back h hx) hy, fun hy => P.ring_trans h hx hy⟩
/-- the first ones of the rings -/
noncomputable def heads (f : Int → Int) (ks : List Int) : List Int := ks.filter fun s => decide (mnZ (ringZ f s) = s)
theorem mem_heads {s : Int} : s ∈ heads f ks ↔ s ∈ ks ∧ mnZ (ringZ f s) = s := by
  unfold heads
  rw [List.mem_filter, decide_eq_true_eq]
theorem Pm.rings_perm (P : Pm f ks) : ((heads f ks).flatMap (ringZ f)).Perm ks := by
  refine (List.perm_ext_iff_of_nodup ?_ P.nd).mpr fun x => ?_
  · refine List.pairwise_flatMap.mpr ⟨fun s hs => P.ring_nd (mem_heads.mp hs).1, ?_⟩
    refine List.Pairwise.imp_of_mem ?_ (List.Pairwise.filter _ P.nd)
    intro s t hs ht ne x hx y hy e
    obtain ⟨s1, s2⟩ := mem_heads.mp hs
    obtain ⟨t1, t2⟩ := mem_heads.mp ht
    subst e
    have e1 := mn_eq (P.ring_ne s1) (P.ring_ne (P.ring_in s1 hx)) (P.ring_same s1 hx)
    have e2 := mn_eq (P.ring_ne t1) (P.ring_ne (P.ring_in t1 hy)) (P.ring_same t1 hy)
    exact ne (by rw [← s2, ← t2, e1, e2])
  · rw [List.mem_flatMap]
    constructor
    · rintro ⟨s, hs, hx⟩
      exact P.ring_in (mem_heads.mp hs).1 hx
    · intro hx
      obtain ⟨m1, m2⟩ := mnZ_in (P.ring_ne hx)
      have hs := P.ring_in hx m1
      refine ⟨mnZ (ringZ f x), mem_heads.mpr ⟨hs, ?_⟩, P.ring_back hx m1⟩
      exact (mn_eq (P.ring_ne hx) (P.ring_ne hs) (P.ring_same hx m1)).symm
theorem bMin_t {l : List Int} (h : l ≠ []) : bMinA [tI l] = some (.int (mnZ l)) := by
  cases l with
  | nil => exact absurd rfl h
  | cons x xs =>
    show (match asInts ((x :: xs).map PyData.int) with | some (n :: ns) => some (PyData.int (minZ n ns)) | _ => none) = _
    rw [asInts_map]
    rfl
end
end Pu

set_option Elab.async false
set_option linter.all false
set_option maxRecDepth 100000
set_option maxHeartbeats 2000000
/-! rings, when two places are exchanged; the way back -/
namespace Pu
open PySem PySem.Spec PyProof.Rows L2
variable [TabL]
section
variable {f f' : Int → Int} {ks : List Int}
theorem heads_nd (P : Pm f ks) : (heads f ks).Nodup := List.Pairwise.filter _ P.nd
theorem Pm.mn_ring (P : Pm f ks) {s x : Int} (h : s ∈ ks) (hx : x ∈ ringZ f s) : mnZ (ringZ f s) = mnZ (ringZ f x) := mn_eq (P.ring_ne h) (P.ring_ne (P.ring_in h hx)) (P.ring_same h hx)
theorem heads_swap (P : Pm f ks) (P' : Pm f' ks) {i j : Int} (hi : i ∈ ks) (h : ∀ x ∈ ks, f x ≠ i → f x ≠ j → f' x = f x) : (heads f ks).length ≤ (heads f' ks).length + 1 := by
  have same : ∀ s ∈ ks, i ∉ ringZ f s → j ∉ ringZ f s → ∀ n, itZ f' n s = itZ f n s := fun s hs h1 h2 n => by
    induction n with
    | zero => rfl
    | succ n ih =>
      show f' (itZ f' n s) = f (itZ f n s)
      rw [ih]
      have m : f (itZ f n s) ∈ ringZ f s := (P.mem_ring hs).mpr ⟨n + 1, rfl⟩
      exact h _ (P.it n hs) (fun e => h1 (e ▸ m)) fun e => h2 (e ▸ m)
  have mem : ∀ s ∈ ks, i ∉ ringZ f s → j ∉ ringZ f s → ∀ x, x ∈ ringZ f' s ↔ x ∈ ringZ f s := fun s hs h1 h2 x => by
    rw [P.mem_ring hs, P'.mem_ring hs]
    constructor
    · rintro ⟨n, rfl⟩
      exact ⟨n, same s hs h1 h2 n⟩
    · rintro ⟨n, rfl⟩
      exact ⟨n, (same s hs h1 h2 n).symm⟩
  let A := (heads f ks).filter fun s => decide (i ∉ ringZ f s ∧ j ∉ ringZ f s)
  have mA : ∀ s, s ∈ A ↔ s ∈ heads f ks ∧ i ∉ ringZ f s ∧ j ∉ ringZ f s := fun s => by
    show s ∈ (heads f ks).filter _ ↔ _
    rw [List.mem_filter, decide_eq_true_eq]
  have nA : A.Nodup := List.Pairwise.filter _ (heads_nd P)
  obtain ⟨m1, m2⟩ := mnZ_in (P'.ring_ne hi)
  have hh := P'.ring_in hi m1
  have ih : i ∈ ringZ f' (mnZ (ringZ f' i)) := P'.ring_back hi m1
  have hhd : mnZ (ringZ f' i) ∈ heads f' ks := mem_heads.mpr ⟨hh, (P'.mn_ring hi m1).symm⟩
  have l1 : A.length + 1 ≤ (heads f' ks).length := by
    have := php (mnZ (ringZ f' i) :: A) (heads f' ks) (List.nodup_cons.mpr ⟨fun q => ?_, nA⟩) fun x hx => ?_
    · rwa [List.length_cons] at this
    · obtain ⟨q1, q2, q3⟩ := (mA _).mp q
      exact q2 ((mem _ (mem_heads.mp q1).1 q2 q3 i).mp ih)
    · rcases List.mem_cons.mp hx with rfl | hx
      · exact hhd
      · obtain ⟨q1, q2, q3⟩ := (mA _).mp hx
        obtain ⟨q4, q5⟩ := mem_heads.mp q1
        refine mem_heads.mpr ⟨q4, ?_⟩
        rw [mn_eq (P'.ring_ne q4) (P.ring_ne q4) (mem x q4 q2 q3)]
        exact q5
  have l2 : (heads f ks).length ≤ A.length + 2 := by
    have := php (heads f ks) (A ++ [mnZ (ringZ f i), mnZ (ringZ f j)]) (heads_nd P) fun x hx => ?_
    · rw [List.length_append] at this
      exact this
    · obtain ⟨q4, q5⟩ := mem_heads.mp hx
      rw [List.mem_append]
      by_cases c : i ∈ ringZ f x
      · refine .inr ?_
        rw [← q5, P.mn_ring q4 c]
        exact List.mem_cons_self
      · by_cases c2 : j ∈ ringZ f x
        · refine .inr (List.mem_cons_of_mem _ ?_)
          rw [← q5, P.mn_ring q4 c2]
          exact List.mem_cons_self
        · exact .inl ((mA x).mpr ⟨hx, c, c2⟩)
  omega
/-- the way back has the same rings -/
theorem heads_inv (P : Pm f ks) (P' : Pm f' ks) (h : ∀ x ∈ ks, f' (f x) = x) : heads f' ks = heads f ks := by
  have itb : ∀ n s, s ∈ ks → itZ f' n (itZ f n s) = s := fun n => by
    induction n with
    | zero => exact fun s _ => rfl
    | succ n ih =>
      intro s hs
      have e : itZ f (n + 1) s = itZ f n (f s) := itZ_add f n 1 s
      rw [e]
      show f' (itZ f' n (itZ f n (f s))) = s
      rw [ih (f s) (P.to s hs)]
      exact h s hs
  have mem : ∀ s ∈ ks, ∀ x, x ∈ ringZ f s → x ∈ ringZ f' s := fun s hs x hx => by
    have hk := P.ring_in hs hx
    obtain ⟨n, rfl⟩ := (P.mem_ring hs).mp hx
    refine P'.ring_back hk ((P'.mem_ring hk).mpr ⟨n, ?_⟩)
    exact (itb n s hs).symm
  have mem2 : ∀ s ∈ ks, ∀ x, x ∈ ringZ f' s → x ∈ ringZ f s := fun s hs x hx => by
    have hk := P'.ring_in hs hx
    obtain ⟨n, rfl⟩ := (P'.mem_ring hs).mp hx
    have it2 : ∀ n s, s ∈ ks → itZ f n (itZ f' n s) = s := fun n => by
      induction n with
      | zero => exact fun s _ => rfl
      | succ n ih =>
        intro s hs
        have e : itZ f' (n + 1) s = itZ f' n (f' s) := itZ_add f' n 1 s
        rw [e]
        show f (itZ f n (itZ f' n (f' s))) = s
        rw [ih (f' s) (P'.to s hs)]
        refine P'.inj _ (P.to _ (P'.to s hs)) _ hs ?_
        exact h _ (P'.to s hs)
    refine P.ring_back hk ((P.mem_ring hk).mpr ⟨n, ?_⟩)
    exact (it2 n s hs).symm
  unfold heads
  refine List.filter_congr fun s hs => ?_
  rw [mn_eq (P'.ring_ne hs) (P.ring_ne hs) fun x => ⟨mem2 s hs x, mem s hs x⟩]
theorem heads_id (P : Pm f ks) (h : ∀ x ∈ ks, f x = x) : heads f ks = ks := by
  unfold heads
  refine List.filter_eq_self.mpr fun s hs => decide_eq_true ?_
  have it : ∀ n, itZ f n s = s := fun n => by
    induction n with
    | zero => rfl
    | succ n ih =>
      show f (itZ f n s) = s
      rw [ih]
      exact h s hs
  obtain ⟨m1, _⟩ := mnZ_in (P.ring_ne hs)
  obtain ⟨n, e⟩ := (P.mem_ring hs).mp m1
  rw [e, it]
end
end Pu

set_option Elab.async false
set_option linter.all false
set_option maxRecDepth 100000
set_option maxHeartbeats 2000000
/-! two plain rows: where a piece of the first stands in the second -/
namespace Pu
open PySem PySem.Spec PyProof.Rows L2
variable [TabL]
theorem up_nodup (a : Int) (n : Nat) : (upI a n).Nodup := by
  unfold upI
  refine List.pairwise_map.mpr (List.pairwise_lt_range.imp fun h => ?_)
  omega
theorem up_mem {a x : Int} {n : Nat} : x ∈ upI a n ↔ a ≤ x ∧ x < a + n := by
  unfold upI
  rw [List.mem_map]
  constructor
  · rintro ⟨k, hk, rfl⟩
    have := List.mem_range.mp hk
    omega
  · intro h
    exact ⟨(x - a).toNat, List.mem_range.mpr (by omega), by omega⟩
/-- two plain rows of n pieces -/
structure Two (n : Nat) (a b : List Int) : Prop where
  pa : a.Perm (upI 1 n)
  pb : b.Perm (upI 1 n)
section
variable {n : Nat} {a b : List Int}
theorem Two.la (T : Two n a b) : a.length = n := by rw [T.pa.length_eq, upI_length]
theorem Two.lb (T : Two n a b) : b.length = n := by rw [T.pb.length_eq, upI_length]
theorem Two.nb (T : Two n a b) : b.Nodup := T.pb.symm.nodup (up_nodup 1 n)
theorem Two.na (T : Two n a b) : a.Nodup := T.pa.symm.nodup (up_nodup 1 n)
theorem Two.back (T : Two n a b) : Two n b a := ⟨T.pb, T.pa⟩
/-- the place in b of the piece at p of a -/
def gZ (a b : List Int) (p : Int) : Int := ((idxZ ((atZ a p).getD 0) b).getD 0 : Nat)
theorem Two.at (T : Two n a b) {p : Int} (hp : p ∈ upI 0 n) : ∃ x, atZ a p = some x ∧ a[p.toNat]? = some x ∧ gZ a b p ∈ upI 0 n ∧ atZ b (gZ a b p) = some x := by
  have la := T.la
  obtain ⟨h1, h2⟩ := up_mem.mp hp
  obtain ⟨x, e1, e2⟩ := atZ_p (ns := a) h1 (by omega)
  have hx : x ∈ b := T.pb.mem_iff.mpr (T.pa.mem_iff.mp (List.mem_of_getElem? e2))
  obtain ⟨j, ej⟩ := idxZ_mem hx
  have gj := (idxZ_some ej).1
  have hj := getSome gj
  have lb := T.lb
  have eg : gZ a b p = (j : Int) := by
    unfold gZ
    rw [e1]
    show (((idxZ x b).getD 0 : Nat) : Int) = j
    rw [ej]
    rfl
  refine ⟨x, e1, e2, ?_, ?_⟩
  · rw [eg]
    exact up_mem.mpr (by omega)
  · rw [eg, atZ_nat hj]
    exact gj
theorem atZ_inj {l : List Int} (nd : l.Nodup) {p q x : Int} (hp : p ∈ upI 0 l.length) (hq : q ∈ upI 0 l.length) (e1 : atZ l p = some x) (e2 : atZ l q = some x) : p = q := by
  obtain ⟨h1, h2⟩ := up_mem.mp hp
  obtain ⟨h3, h4⟩ := up_mem.mp hq
  obtain ⟨y, a1, a2⟩ := atZ_p (ns := l) h1 (by omega)
  obtain ⟨z, b1, b2⟩ := atZ_p (ns := l) h3 (by omega)
  rw [e1] at a1
  rw [e2] at b1
  cases a1
  cases b1
  obtain ⟨i1, j1⟩ := List.getElem?_eq_some_iff.mp a2
  obtain ⟨i2, j2⟩ := List.getElem?_eq_some_iff.mp b2
  have := (List.getElem_inj (h₀ := i1) (h₁ := i2) nd).mp (j1.trans j2.symm)
  omega
theorem Two.g_eq (T : Two n a b) {p q x : Int} (hp : p ∈ upI 0 n) (hq : q ∈ upI 0 n) (e1 : atZ a p = some x) (e2 : atZ b q = some x) : gZ a b p = q := by
  obtain ⟨y, a1, _, a3, a4⟩ := T.at hp
  rw [e1] at a1
  cases a1
  have lb := T.lb
  exact atZ_inj T.nb (by rw [lb]; exact a3) (by rw [lb]; exact hq) a4 e2
theorem Two.pm (T : Two n a b) : Pm (gZ a b) (upI 0 n) := by
  refine ⟨up_nodup 0 n, fun p hp => (T.at hp).choose_spec.2.2.1, fun p hp q hq e => ?_⟩
  obtain ⟨x, a1, _, a3, a4⟩ := T.at hp
  obtain ⟨y, b1, _, b3, b4⟩ := T.at hq
  rw [e] at a4
  rw [a4] at b4
  cases b4
  have la := T.la
  exact atZ_inj T.na (by rw [la]; exact hp) (by rw [la]; exact hq) a1 b1
theorem Two.inv (T : Two n a b) : ∀ p ∈ upI 0 n, gZ b a (gZ a b p) = p := fun p hp => by
  obtain ⟨x, a1, _, a3, a4⟩ := T.at hp
  exact T.back.g_eq a3 hp a4 a1
/-- places i and j exchanged -/
def swZ (r : List Int) (i j : Int) : List Int := (r.set i.toNat ((atZ r j).getD 0)).set j.toNat ((atZ r i).getD 0)
theorem swZ_len (r : List Int) (i j : Int) : (swZ r i j).length = r.length := by
  unfold swZ
  rw [List.length_set, List.length_set]
theorem swZ_at {r : List Int} {i j p : Int} (hi : i ∈ upI 0 r.length) (hj : j ∈ upI 0 r.length) (hp : p ∈ upI 0 r.length) (hij : i ≠ j) : atZ (swZ r i j) p = if p = j then atZ r i else if p = i then atZ r j else atZ r p := by
  obtain ⟨h1, h2⟩ := up_mem.mp hi
  obtain ⟨h3, h4⟩ := up_mem.mp hj
  obtain ⟨h5, h6⟩ := up_mem.mp hp
  obtain ⟨x, e1, e2⟩ := atZ_p (ns := r) h1 (by omega)
  obtain ⟨y, e3, e4⟩ := atZ_p (ns := r) h3 (by omega)
  obtain ⟨z, e5, e6⟩ := atZ_p (ns := r) h5 (by omega)
  have hl := swZ_len r i j
  have get : ∀ (l : List Int) (q : Int), 0 ≤ q → q < l.length → atZ l q = l[q.toNat]? := fun l q a b => by
    obtain ⟨w, f1, f2⟩ := atZ_p (ns := l) a b
    rw [f1, f2]
  rw [get (swZ r i j) p h5 (by omega)]
  unfold swZ
  by_cases c : p = j
  · rw [if_pos c]
    subst c
    rw [List.getElem?_set_self (by rw [List.length_set]; omega), e1]
    rfl
  · rw [if_neg c, List.getElem?_set_ne (by omega)]
    by_cases c2 : p = i
    · rw [if_pos c2]
      subst c2
      rw [List.getElem?_set_self (by omega), e3]
      rfl
    · rw [if_neg c2, List.getElem?_set_ne (by omega), e5, e6]
theorem ext_at {l m : List Int} (h : l.length = m.length) (e : ∀ p ∈ upI 0 l.length, atZ l p = atZ m p) : l = m := List.ext_getElem? fun k => by
  by_cases c : k < l.length
  · have := e (k : Int) (up_mem.mpr (by omega))
    rwa [atZ_nat c, atZ_nat (by omega)] at this
  · rw [List.getElem?_eq_none (by omega), List.getElem?_eq_none (by omega)]
theorem atZ_mem {r : List Int} {p x : Int} (hp : p ∈ upI 0 r.length) (e : atZ r p = some x) : x ∈ r := by
  obtain ⟨h1, h2⟩ := up_mem.mp hp
  obtain ⟨y, e1, e2⟩ := atZ_p (ns := r) h1 (by omega)
  rw [e] at e1
  cases e1
  exact List.mem_of_getElem? e2
theorem mem_atZ {r : List Int} {x : Int} (h : x ∈ r) : ∃ p, p ∈ upI 0 r.length ∧ atZ r p = some x := by
  obtain ⟨k, hk, e⟩ := List.mem_iff_getElem.mp h
  refine ⟨(k : Int), up_mem.mpr (by omega), ?_⟩
  rw [atZ_nat hk, List.getElem?_eq_getElem hk, e]
theorem swZ_perm {r : List Int} (nd : r.Nodup) {i j : Int} (hi : i ∈ upI 0 r.length) (hj : j ∈ upI 0 r.length) (hij : i ≠ j) : (swZ r i j).Perm r := by
  have hl := swZ_len r i j
  have key : ∀ x, x ∈ swZ r i j ↔ x ∈ r := fun x => by
    constructor
    · intro h
      obtain ⟨p, hp, e⟩ := mem_atZ h
      rw [hl] at hp
      rw [swZ_at hi hj hp hij] at e
      split at e
      · exact atZ_mem hi e
      · split at e
        · exact atZ_mem hj e
        · exact atZ_mem hp e
    · intro h
      obtain ⟨p, hp, e⟩ := mem_atZ h
      by_cases c : p = j
      · subst c
        refine atZ_mem (p := i) (by rw [hl]; exact hi) ?_
        rw [swZ_at hi hj hi hij, if_neg hij, if_pos rfl]
        exact e
      · by_cases c2 : p = i
        · subst c2
          refine atZ_mem (p := j) (by rw [hl]; exact hj) ?_
          rw [swZ_at hi hj hj hij, if_pos rfl]
          exact e
        · refine atZ_mem (p := p) (by rw [hl]; exact hp) ?_
          rw [swZ_at hi hj hp hij, if_neg c, if_neg c2]
          exact e
  have nd2 : (swZ r i j).Nodup := by
    refine List.pairwise_iff_getElem.mpr fun k m hk hm hkm e => ?_
    have ek : atZ (swZ r i j) (k : Int) = some (swZ r i j)[k] := by rw [atZ_nat hk, List.getElem?_eq_getElem hk]
    have em : atZ (swZ r i j) (m : Int) = some (swZ r i j)[m] := by rw [atZ_nat hm, List.getElem?_eq_getElem hm]
    rw [e] at ek
    have mk : (k : Int) ∈ upI 0 r.length := up_mem.mpr (by omega)
    have mm : (m : Int) ∈ upI 0 r.length := up_mem.mpr (by omega)
    rw [swZ_at hi hj mk hij] at ek
    rw [swZ_at hi hj mm hij] at em
    have inj := fun {p q x : Int} hp hq e1 e2 => atZ_inj (x := x) (p := p) (q := q) nd hp hq e1 e2
    split at ek <;> split at em <;> (try split at ek) <;> (try split at em) <;> first
      | (have := inj hi hi ek em; omega) | (have := inj hi hj ek em; omega) | (have := inj hi mm ek em; omega) | (have := inj hj hi ek em; omega) | (have := inj hj hj ek em; omega) | (have := inj hj mm ek em; omega)
      | (have := inj mk hi ek em; omega) | (have := inj mk hj ek em; omega) | (have := inj mk mm ek em; omega)
  exact (List.perm_ext_iff_of_nodup nd2 nd).mpr key
/-- the least number of swaps -/
noncomputable def lsZ (n : Nat) (a b : List Int) : Nat := n - (heads (gZ a b) (upI 0 n)).length
theorem heads_le (f : Int → Int) (n : Nat) : (heads f (upI 0 n)).length ≤ n := by
  have := List.length_filter_le (fun s => decide (mnZ (ringZ f s) = s)) (upI 0 n)
  rw [upI_length] at this
  exact this
theorem Two.ls_back (T : Two n a b) : lsZ n b a = lsZ n a b := by
  unfold lsZ
  rw [heads_inv T.pm T.back.pm T.inv]
theorem ls_self {r : List Int} (h : r.Perm (upI 1 n)) : lsZ n r r = 0 := by
  have T : Two n r r := ⟨h, h⟩
  unfold lsZ
  rw [heads_id T.pm fun p hp => ?_]
  · rw [upI_length]
    omega
  · obtain ⟨x, a1, _, _, _⟩ := T.at hp
    exact T.g_eq hp hp a1 a1
theorem Two.swap (T : Two n a b) {i j : Int} (hi : i ∈ upI 0 n) (hj : j ∈ upI 0 n) (hij : i ≠ j) : Two n a (swZ b i j) ∧ lsZ n a (swZ b i j) ≤ lsZ n a b + 1 := by
  have lb := T.lb
  have hi' : i ∈ upI 0 b.length := by rw [lb]; exact hi
  have hj' : j ∈ upI 0 b.length := by rw [lb]; exact hj
  have T' : Two n a (swZ b i j) := ⟨T.pa, (swZ_perm T.nb hi' hj' hij).trans T.pb⟩
  refine ⟨T', ?_⟩
  have := heads_swap T.pm T'.pm hi (j := j) fun p hp h1 h2 => by
    obtain ⟨x, a1, _, a3, a4⟩ := T.at hp
    refine T'.g_eq hp a3 a1 ?_
    rw [swZ_at hi' hj' (by rw [lb]; exact a3) hij, if_neg h2, if_neg h1]
    exact a4
  have h2 := heads_le (gZ a b) n
  unfold lsZ
  omega
end
end Pu

set_option Elab.async false
set_option linter.all false
set_option maxRecDepth 100000
set_option maxHeartbeats 2000000
/-! x, *ys = t of a tuple -/
namespace HT
open PySem PySem.Spec PyProof.Rows
section
variable {prog : Program} {w : World} {A : Around} {E : Value → Shared → Prop} {s : Shared}
theorem walk_from (hh : A.handled = none) (I ax : Addr) (hne : ax ≠ I) (its : Array Value) (k : Nat) (hk : k ≤ its.size) :
    Walks prog w A I [I, ax] [I] (its.size - k) (fun i v => its[k + i]? = some v) (fun i h => h.IsTupleIter I ax (k + i) ∧ h.IsTuple ax its) where
  sub := fun b hb => by
    rw [List.mem_singleton.mp hb]
    exact List.mem_cons_self
  frame := fun _ _ _ st q => ⟨st.1.at fun o e => q I List.mem_cons_self o e, st.2.at fun o e => q ax (List.mem_cons_of_mem _ List.mem_cons_self) o e⟩
  item := fun i s Q E hi st hQ => by
    have hlt : k + i < its.size := by omega
    refine wpAny_pyNext_tuple_item st.1 st.2 (x := its[k + i]) (by simp [hlt]) fun h' it' sb => ?_
    exact hQ _ h' s.toks (by simp [hlt]) ⟨it', st.2.extBut sb.extBut hne⟩ fun b o hb e => sb.extBut b o (fun z => hb (List.mem_singleton.mpr z)) e
  done := fun s Q E st hQ => wpAny_pyNext_tuple_end hh st.1 st.2 (by simp; omega) fun h' ex => hQ h' s.toks fun b o hb e => ex b o (fun z => hb (List.mem_singleton.mpr z)) e
  self := fun _ _ _ _ st hQ => wpAny_pyIter_tupleiter st.1 hQ
theorem star_items {t : Addr} {x : Value} {its : List Value} {Q : List Value → Shared → Prop} (hh : A.handled = none) (ht : IsTup s.heap t (x :: its).toArray) (hz : its.length ≤ sizeLine)
    (hQ : ∀ (h' : Heap) (tk : Nat), (∀ b o, s.heap.get? b = some o → h'.get? b = some o) → Q [x, .ref h'.objs.size] { s with heap := h'.push { cls := .type "list", data := .seq its.toArray }, toks := tk }) :
    wpAny (model prog w) A (unpackItems (.ref t) 2 (some 1)) Q E s := by
  have hlt : t ≠ s.heap.objs.size := by
    obtain ⟨o, ho, _⟩ := ht
    exact Nat.ne_of_lt (Heap.lt_size ho)
  unfold unpackItems
  refine wpAny_bind ?_
  unfold notIterableAtAll
  refine wpAny_bind (wpAny_specialOf ht.typeIs slot_tuple_iter.lookup ?_)
  refine wpAny_pure ?_
  simp only [Bool.false_eq_true, if_false]
  refine wpAny_bind (wpAny_holding (iter_tuple ht ?_))
  refine wpAny_bind (wpAny_holding (draw_tuple hlt 1 0 _ _ ⟨_, Heap.get?_push_size _ rfl, rfl, rfl⟩ (ht.push _) (by simp) fun h1 hit1 sb1 => ?_))
  have hall : List.take 1 (List.drop 0 (x :: its).toArray.toList) = [x] := rfl
  rw [hall]
  rw [if_neg (by simp)]
  have ht1 : IsTup h1 t (x :: its).toArray := (ht.push _).extBut sb1.extBut hlt
  have W := walk_from (prog := prog) (w := w) (A := A.in1) hh s.heap.objs.size t hlt (x :: its).toArray 1 (by simp)
  have hlen : (x :: its).toArray.size - 1 = its.length := by simp
  have hI : s.heap.objs.size < h1.objs.size := by
    obtain ⟨o, ho, _⟩ := hit1
    exact Heap.lt_size ho
  have ht1' : t < h1.objs.size := by
    obtain ⟨o, ho, _⟩ := ht1
    exact Heap.lt_size ho
  refine wpAny_bind (wpAny_holding ?_)
  refine wpAny_collect_iter (T := "tuple_iterator") (.inr (.inr (.inr rfl))) W.toS (fun i s st => by
    obtain ⟨o, e1, e2, _⟩ := st.1
    exact ⟨o, e1, e2⟩) (St := fun i s => _) ⟨hit1, ht1⟩ (fun b hb => ?_) List.mem_cons_self (fun s' acc mv io => ?_) (by rw [hlen]; exact hz)
  · rcases List.mem_cons.mp hb with rfl | hb
    · exact hI
    · rw [List.mem_singleton.mp hb]
      exact ht1'
  · have ea : acc.toList = its := by
      obtain ⟨i1, i2⟩ := io
      rw [hlen] at i1
      refine List.ext_getElem? fun j => ?_
      by_cases c : j < its.length
      · have hj : j < acc.size := by omega
        have e1 : acc[j]? = some acc[j] := by simp [hj]
        have e2 : (x :: its).toArray[1 + j]? = some acc[j] := i2 j _ e1
        have e3 : (x :: its).toArray[1 + j]? = its[j]? := by
          rw [List.getElem?_toArray, Nat.add_comm, List.getElem?_cons_succ]
        rw [e3] at e2
        rw [e2, Array.getElem?_toList, e1]
      · rw [List.getElem?_eq_none (by rw [Array.length_toList]; omega), List.getElem?_eq_none (by omega)]
    rw [ea]
    show wpAny _ _ (if its.length < 0 then _ else _) _ _ s'
    rw [if_neg (Nat.not_lt_zero _)]
    show wpAny _ _ (newList (its.take (its.length - 0)) >>= fun l => pure ([x] ++ [l] ++ its.drop (its.length - 0))) _ _ s'
    rw [Nat.sub_zero, List.take_length, List.drop_length]
    refine wpAny_bind (wpAny_newObj_type ?_ (by show its.toArray.size ≤ sizeLine; rw [List.size_toArray]; exact hz))
    refine wpAny_pure ?_
    obtain ⟨m1, m2, m3, m4, m5⟩ := mv
    obtain ⟨hp, gn, dr, tk, os⟩ := s'
    have m2 : gn = s.gens := m2
    have m3 : dr = s.drawn := m3
    have m4 : os = s.os := m4
    subst m2 m3 m4
    have hk : ∀ b o, s.heap.get? b = some o → hp.get? b = some o := fun b o e => by
      have hb : b ≠ s.heap.objs.size := Nat.ne_of_lt (Heap.lt_size e)
      exact m1 b o (fun z => hb (List.mem_singleton.mp z)) (sb1.extBut b o hb (Heap.get?_push_of_some _ e))
    exact hQ hp tk hk
end
end HT
namespace Pu
open PySem PySem.Spec PyProof.Rows L2
variable [TabL]
section
variable {X : Cx} {M : Nat → Bool} {F : Fx} {E : L2.St → XK} {la fa : Bool} {a : Expr} {pos : Pos} {f : Rho → Re PyData}
def gStar (K : PySem.W.Frag) (t0 t1 : TG) : TG := fun v σ H Q => ∃ p x xs, v = .ref p ∧ SqT K H p (x :: xs) ∧ ∀ l, H l = none → t0 x σ (upd H l (.lst xs)) fun σ1 H1 => t1 (.ref l) σ1 H1 Q
theorem pg_star {e0 e1 : Expr} {k : Nat} {p1 : Pos} {t0 t1 : TG} (hc : X.calm = true) (h0 : PG X e0 t0) (h1 : PG X e1 t1) (he : assignEach [e0, .Starred e1 p1] X.env = [(false, assign e0 X.env), (true, assign e1 X.env)] := by rfl) : PG X (.Tuple [e0, .Starred e1 p1] k pos) (gStar X.K t0 t1) := by
  refine ⟨fun pins s σ H v u Q I r hw => ?_⟩
  obtain ⟨p, x, xs, rfl, hq, hw⟩ := hw
  cases r
  obtain ⟨its, rv, ht, hz⟩ := I.tuple hq
  cases rv with
  | cons rx rxs =>
    rename_i y ys
    rw [PyProof.Rows.assign_Tuple]
    refine wpAny_bind (wpAny_standAt ?_)
    unfold unpack
    rw [he]
    refine wpAny_bind (wpAny_holding (HT.star_items (I.ok.hd hc) ht (by have := rxs.length; rw [List.length_cons] at hz; omega) fun h' tk hk => ?_))
    have I1 : Inv X pins σ H { s with heap := h', toks := tk } := I.kept (t' := tk) hk
    have hf : H h'.objs.size = none := I1.hok.fresh (Nat.le_refl _)
    have I2 : Inv X pins σ (upd H h'.objs.size (.lst xs)) { s with heap := h'.push { cls := .type "list", data := .seq ys.toArray }, toks := tk } := by
      refine I1.laid (t' := tk) (fun b u e => Heap.get?_push_of_some _ e) (Nat.le_refl _) ?_
      exact ⟨by rw [List.length_cons] at hz; omega, ys, 0, rxs, Heap.get?_push_size _ rfl⟩
    refine assignInOrder_cons (thn (h0.run pins _ σ _ x y _ I2 rx (hw _ hf)) ?_)
    rintro _ s1 ⟨σ1, H1, J, q⟩
    refine assignInOrder_cons (thn (h1.run pins s1 σ1 H1 (.ref h'.objs.size) (.ref h'.objs.size) _ J rfl q) ?_)
    rintro _ s2 ⟨σ2, H2, J2, q2⟩
    exact assignInOrder_nil ⟨σ2, H2, J2, q2⟩
/-- x, *ys = e -/
def sStar (i j : Nat) (f : Rho → Re PyData) : Rho → Sr := fun ρ => (f ρ).st ρ fun d => (match d with | .tuple (x :: xs) => .nx ((ρ.set i (some x)).set j (some (.list xs))) | _ => .bad)
theorem ds_star {i j : Nat} {x y : Str} {q0 q1 p1 q2 : Pos} {k : Nat} (mi : M i = false) (mj : M j = false) (hN : X.N.Nodup) (hc : X.calm = true) (h : DE X M F E false fa a f)
    (hi : X.N[i]? = some x := by rfl) (hj : X.N[j]? = some y := by rfl) (hx : Loc X.env.scope x := by first | exact Or.inl rfl | exact Or.inr rfl) (hy : Loc X.env.scope y := by first | exact Or.inl rfl | exact Or.inr rfl)
    (hfx : X.fn x = true ∨ X.env.scope.names.lookup x = some .local := by first | exact .inl rfl | exact .inr rfl) (hfy : X.fn y = true ∨ X.env.scope.names.lookup y = some .local := by first | exact .inl rfl | exact .inr rfl)
    (h1 : (assignEach [.Tuple [.Name x q0, .Starred (.Name y q1) p1] k q2] X.env).map (·.2) = [assign (.Tuple [.Name x q0, .Starred (.Name y q1) p1] k q2) X.env] := by rfl)
    (hs : swapsWithSole [.Tuple [.Name x q0, .Starred (.Name y q1) p1] k q2] a pos.line X.env = pure false := by rfl) (hw : swappedStores [.Tuple [.Name x q0, .Starred (.Name y q1) p1] k q2] a X.env = pure none := by rfl)
    (he : assignEach [.Name x q0, .Starred (.Name y q1) p1] X.env = [(false, assign (.Name x q0) X.env), (true, assign (.Name y q1) X.env)] := by rfl) :
    DS X M F E (.Assign [.Tuple [.Name x q0, .Starred (.Name y q1) p1] k q2] a pos) (sStar i j f) := by
  obtain ⟨t, pa, h⟩ := h
  refine ⟨_, ps_asg pa (pg_star hc (pg_name hN hi hx hfx) (pg_name hN hj hy hfy) he) hs hw (h1 := h1), fun σ H ρ er D w => ?_⟩
  refine h σ H ρ er _ (ws_step er w fun d v H1 e sm r _ w1 => ?_)
  have er1 := er.same sm
  cases r with
  | tup h1 rr =>
    cases rr with
    | nil => exact w1.elim
    | cons r1 r2 =>
      rename_i aa v0 vs0 d0 ds0 ff
      refine ⟨aa, v0, vs0, rfl, h1.sq, fun l hl => ?_⟩
      have s2 : Same H1 (upd H1 l (.lst vs0)) := same_new hl
      have fr : RS M F σ ρ false l := er1.freshS l hl
      have er3 : ER X.K M F (σ.set i (some v0)) (upd H1 l (.lst vs0)) (ρ.set i (some d0)) := (er1.same s2).set mi (r1.same s2)
      have cv : ∀ q, RS M F σ ρ false q → RS M F (σ.set i (some v0)) (ρ.set i (some d0)) false q := fun q z => ⟨z.1, fun _ o => z.2 rfl ((own_set mi).mp o)⟩
      have rl : Rp X.K (upd H1 l (.lst vs0)) (RS M F (σ.set i (some v0)) (ρ.set i (some d0)) false) (.ref l) (.list ds0) := .lst upd_same (cv l fr) ((r2.same s2).wide cv)
      have w2 : WS X M F E σ H1 ρ (.nx ((ρ.set i (some d0)).set j (some (.list ds0)))) D := w1
      refine w2 _ _ (er3.set mj rl) ?_
      exact (Evo.same s2).trans fun b u q n _ => ⟨q, fun o => n ((own_set mi).mp ((own_set mj).mp o))⟩
  | bl _ => exact w1.elim
  | non => exact w1.elim
  | int _ => exact w1.elim
  | str _ => exact w1.elim
  | lst _ _ _ => exact w1.elim
  | scr _ _ => exact w1.elim
  | dic _ _ _ _ => exact w1.elim
  | dit _ _ _ _ => exact w1.elim
  | dif _ _ _ => exact w1.elim
  | rng _ => exact w1.elim
  | dct _ _ _ _ => exact w1.elim
end
end Pu

set_option Elab.async false
set_option linter.all false
set_option maxRecDepth 100000
set_option maxHeartbeats 2000000
/-! x[e1], x[e2] = (v1, v2) on a list of the frame's own, numbers -/
namespace Pu
open PySem PySem.Spec PyProof.Rows L2
variable [TabL]
section
variable {X : Cx} {M : Nat → Bool} {F : Fx} {E : L2.St → XK} {σ : L2.St} {ρ : Rho} {H : Hp} {D : Ends} {la lb lc fb fc : Bool} {b c : Expr} {pos : Pos} {g1 g2 : Rho → Re PyData} {gs : Rho → Re (List PyData)}
theorem ws_stepLA {lk : Bool} {r : Re (List PyData)} {g : List PyData → Sr} {K : List V → Hp → Prop} (er : ER X.K M F σ H ρ) (w : WS X M F E σ H ρ (r.stL ρ g) D)
    (h : ∀ d v H', r = .ok d → Same H H' → RpA X.K H' (RS M F σ ρ lk) v d → WS X M F E σ H' ρ (g d) D → K v H') : WA X M F E lk σ ρ H r K := by
  cases r with
  | ok d => exact fun v H' s r => h d v H' rfl s r (ws_evo (Evo.same s) w)
  | ex c => exact fun C H' m s => w C σ H' m (er.same s) (Evo.same s)
  | bad => exact w
theorem sub_run {i : Nat} {t2 : TE} {fb : Bool} {z : Int} (m : M i = true) (h2 : ∀ σ H ρ, ER X.K M F σ H ρ → ∀ Q, WE X M F E lb fb σ ρ H (g1 ρ) Q → t2 σ H Q) (er : ER X.K M F σ H ρ) (w : WS X M F E σ H ρ (sPut i false (rC (.int z)) g1 ρ) D) :
    gSub (tVar i) t2 rSetL (.int z) σ H D.nx := by
  have w1 : WS X M F E σ H ρ (match getL ρ i with
    | some ds => (g1 ρ).st ρ fun e => (match e with
      | .int n => (match ixN ds.length n with
        | some k => if (false = true → imm (.int z) = true) then .nx (ρ.set i (some (.list (ds.set k (.int z))))) else .bad
        | none => .bad)
      | _ => .bad)
    | none => .bad) D := w
  cases hl : getL ρ i with
  | none =>
    rw [hl] at w1
    exact w1.elim
  | some ds =>
    rw [hl] at w1
    obtain ⟨pp, xs, hs', hx, rx⟩ := er.lst m hl
    refine ⟨.ref pp, hs', h2 σ H ρ er _ (ws_step er w1 fun d2 v2 H2 e2 sm2 r2 _ w2 => ?_)⟩
    cases r2 with
    | int n =>
      have w2 : WS X M F E σ H2 ρ (match ixN ds.length n with
        | some k => if (false = true → imm (.int z) = true) then .nx (ρ.set i (some (.list (ds.set k (.int z))))) else .bad
        | none => .bad) D := w2
      cases hk : ixN ds.length n with
      | none =>
        rw [hk] at w2
        exact w2.elim
      | some k =>
        rw [hk] at w2
        have w2 : WS X M F E σ H2 ρ (if (false = true → imm (.int z) = true) then .nx (ρ.set i (some (.list (ds.set k (.int z))))) else .bad) D := w2
        rw [if_pos fun z => nomatch z] at w2
        have er2 := er.same sm2
        obtain ⟨er3, ev3⟩ := er2.putL m hl hs' (sm2 _ _ hx) (RpA.set (.int z) k (rx.same sm2))
        exact ⟨pp, xs, n, k, rfl, rfl, sm2 _ _ hx, by rw [rx.length]; exact hk, w2 σ _ er3 ev3⟩
    | bl _ => exact w2.elim
    | non => exact w2.elim
    | str _ => exact w2.elim
    | tup _ _ => exact w2.elim
    | lst _ _ _ => exact w2.elim
    | scr _ _ => exact w2.elim
    | dic _ _ _ _ => exact w2.elim
    | dit _ _ _ _ => exact w2.elim
    | dif _ _ _ => exact w2.elim
    | rng _ => exact w2.elim
    | dct _ _ _ _ => exact w2.elim
def sPut2 (i : Nat) (gs : Rho → Re (List PyData)) (g1 g2 : Rho → Re PyData) : Rho → Sr := fun ρ => (gs ρ).stL ρ fun ds => (match ds with
  | [.int y, .int z] => sSeq (sPut i false (rC (.int y)) g1) (sPut i false (rC (.int z)) g2) ρ
  | _ => .bad)
theorem put2_shape {i : Nat} (ds : List PyData) (w : WS X M F E σ H ρ (match ds with
  | [.int y, .int z] => sSeq (sPut i false (rC (.int y)) g1) (sPut i false (rC (.int z)) g2) ρ
  | _ => .bad) D) : ∃ y z, ds = [.int y, .int z] := by
  split at w
  · exact ⟨_, _, rfl⟩
  · exact w.elim
theorem ds_put2 {i : Nat} {x : Str} {q1 q2 p1 p2 p3 p4 : Pos} {k k2 : Nat} {va vb : Expr} (m : M i = true) (hc : X.calm = true) (hv2 : DA X M F E la [va, vb] gs) (hb : DE X M F E lb fb b g1) (hc2 : DE X M F E lc fc c g2) (hN : X.N[i]? = some x := by rfl) (hv : Vis X.env.scope x := by first | exact Or.inl rfl | exact Or.inr (Or.inl rfl) | exact Or.inr (Or.inr rfl)) (hd : (x == ("__debug__" : Str)) = false := by decide)
    (hcd : (x == ("__classdict__" : Str)) = false := by decide)
    (h1 : (assignEach [.Tuple [.Subscript (.Name x p1) b p2, .Subscript (.Name x p3) c p4] k q1] X.env).map (·.2) = [assign (.Tuple [.Subscript (.Name x p1) b p2, .Subscript (.Name x p3) c p4] k q1) X.env] := by rfl)
    (hs : swapsWithSole [.Tuple [.Subscript (.Name x p1) b p2, .Subscript (.Name x p3) c p4] k q1] (.Tuple [va, vb] k2 q2) pos.line X.env = pure false := by rfl) (hw : swappedStores [.Tuple [.Subscript (.Name x p1) b p2, .Subscript (.Name x p3) c p4] k q1] (.Tuple [va, vb] k2 q2) X.env = pure none := by rfl)
    (ha1 : ∀ v, assign (.Subscript (.Name x p1) b p2) X.env v = (do
      let ov ← holding [v] (eval (.Name x p1) X.env); let iv ← holding [v, ov] (eval b X.env); standAt p2; holding [v, ov, iv] (setItem ov iv v); release [v, ov, iv] []) := by intro _; rfl)
    (ha2 : ∀ v, assign (.Subscript (.Name x p3) c p4) X.env v = (do
      let ov ← holding [v] (eval (.Name x p3) X.env); let iv ← holding [v, ov] (eval c X.env); standAt p4; holding [v, ov, iv] (setItem ov iv v); release [v, ov, iv] []) := by intro _; rfl) :
    DS X M F E (.Assign [.Tuple [.Subscript (.Name x p1) b p2, .Subscript (.Name x p3) c p4] k q1] (.Tuple [va, vb] k2 q2) pos) (sPut2 i gs g1 g2) := by
  obtain ⟨ta, pa, hv2⟩ := hv2
  obtain ⟨tb, pb, hb⟩ := hb
  obtain ⟨tc, pc, hc2⟩ := hc2
  refine ⟨_, ps_asg (pe_tupF pa) (pg_tup hc (pgs_cons (pg_sub (pe_var hN hv hd hcd) pb set_list ha1) (pgs_cons (pg_sub (pe_var hN hv hd hcd) pc set_list ha2) pgs_nil))) hs hw (h1 := h1), fun σ H ρ er D w => ?_⟩
  refine hv2 σ H ρ er _ (ws_stepLA (lk := la) er w fun ds vs H1 e sm r w1 => ?_)
  have er1 := er.same sm
  have sh := put2_shape ds w1
  obtain ⟨y, z, rfl⟩ := sh
  have w1 : WS X M F E σ H1 ρ (sSeq (sPut i false (rC (.int y)) g1) (sPut i false (rC (.int z)) g2) ρ) D := w1
  cases r with
  | cons ra rr =>
    cases rr with
    | cons rb rr =>
      cases rr
      cases ra
      cases rb
      refine ⟨by show 2 ≤ sizeLine; decide, fun p o hp hd0 => ?_⟩
      refine ⟨p, _, rfl, .inl (.inr ⟨o, upd_same⟩), rfl, ?_⟩
      have s2 : Same H1 (upd H1 p (.frz o (.tup [.int y, .int z]))) := same_new hp
      have er2 := er1.same s2
      have w2 := ws_evo (Evo.same s2) w1
      refine ⟨_, _, rfl, ?_⟩
      unfold sSeq at w2
      refine sub_run (D := ⟨fun σ' H' => _, D.rt, D.bk, D.ct⟩) m hb er2 ?_
      cases q : sPut i false (rC (.int y)) g1 ρ with
      | nx ρ' =>
        rw [q] at w2
        refine fun σ' H' er' ev => ?_
        refine ⟨_, _, rfl, ?_⟩
        refine sub_run (D := ⟨fun σ' H' => _, D.rt, D.bk, D.ct⟩) m hc2 er' ?_
        have w3 : WS X M F E σ' H' ρ' (sPut i false (rC (.int z)) g2 ρ') D := ws_evo ev w2
        revert w3
        generalize sPut i false (rC (.int z)) g2 ρ' = rr
        intro w3
        cases rr with
        | nx ρ2 => exact fun σ2 H2 er2 ev2 => ⟨rfl, w3 σ2 H2 er2 ev2⟩
        | rt d => exact w3
        | bk ρ2 => exact w3
        | ct ρ2 => exact w3
        | ex c ρ2 => exact w3
        | bad => exact w3
      | rt d =>
        rw [q] at w2
        exact w2
      | bk ρ' =>
        rw [q] at w2
        exact w2
      | ct ρ' =>
        rw [q] at w2
        exact w2
      | ex c ρ' =>
        rw [q] at w2
        exact w2
      | bad =>
        rw [q] at w2
        exact w2
end
end Pu

set_option Elab.async false
set_option linter.all false
set_option maxRecDepth 100000
set_option maxHeartbeats 2000000
/-! reckoning, more: star, exchanges, unpacked lists, words -/
namespace Pu
open PySem PySem.Spec PyProof.Rows L2
variable [TabL]
section
variable {ρ : Rho} {i j : Int}
def starR (ρ : Rho) (k m : Nat) : PyData → Sr
  | .tuple (x :: xs) => .nx ((ρ.set k (some x)).set m (some (.list xs)))
  | _ => .bad
@[simp] theorem starR_t (k m : Nat) (x : PyData) (xs : List PyData) : starR ρ k m (.tuple (x :: xs)) = .nx ((ρ.set k (some x)).set m (some (.list xs))) := (rfl)
@[simp] theorem ap_star (k m : Nat) (f : Rho → Re PyData) : sStar k m f ρ = (f ρ).st ρ (starR ρ k m) := by
  unfold sStar
  congr 1
@[simp] theorem gSeq2l (g : List PyData → Rho → Option Rho) (a b : PyData) : gSeqD 2 g (.list [a, b]) ρ = g [a, b] ρ := (rfl)
@[simp] theorem gSeq4l (g : List PyData → Rho → Option Rho) (a b c d : PyData) : gSeqD 4 g (.list [a, b, c, d]) ρ = g [a, b, c, d] ρ := (rfl)
@[simp] theorem gSeq4 (g : List PyData → Rho → Option Rho) (a b c d : PyData) : gSeqD 4 g (.tuple [a, b, c, d]) ρ = g [a, b, c, d] ρ := (rfl)
@[simp] theorem gSeq2tI (g : List PyData → Rho → Option Rho) (a b : Int) : gSeqD 2 g (tI [a, b]) ρ = g [.int a, .int b] ρ := (rfl)
@[simp] theorem gSeq2lI (g : List PyData → Rho → Option Rho) (a b : Int) : gSeqD 2 g (lI [a, b]) ρ = g [.int a, .int b] ρ := (rfl)
@[simp] theorem gSeq4tI (g : List PyData → Rho → Option Rho) (a b c d : Int) : gSeqD 4 g (tI [a, b, c, d]) ρ = g [.int a, .int b, .int c, .int d] ρ := (rfl)
@[simp] theorem gSeq4lI (g : List PyData → Rho → Option Rho) (a b c d : Int) : gSeqD 4 g (lI [a, b, c, d]) ρ = g [.int a, .int b, .int c, .int d] ρ := (rfl)
theorem lI_eq (ns : List Int) : PyData.list (ns.map PyData.int) = lI ns := rfl
theorem tI_eq (ns : List Int) : PyData.tuple (ns.map PyData.int) = tI ns := rfl
theorem li1 {a : Int} : PyData.list [.int a] = lI [a] := rfl
theorem li2 {a b : Int} : PyData.list [.int a, .int b] = lI [a, b] := rfl
theorem li4 {a b c d : Int} : PyData.list [.int a, .int b, .int c, .int d] = lI [a, b, c, d] := rfl
/-- x[i], x[j] = (y, z) -/
theorem put2_i {k : Nat} {gs : Rho → Re (List PyData)} {g1 g2 : Rho → Re PyData} {ns : List Int} {y z a b : Int} (hk : ρ[k]? = some (some (lI ns))) (hs : gs ρ = .ok [.int y, .int z]) (h1 : g1 ρ = .ok (.int a)) (h2 : g2 (ρ.set k (some (lI (ns.set a.toNat y)))) = .ok (.int b))
    (a0 : 0 ≤ a) (a1 : a < ns.length) (b0 : 0 ≤ b) (b1 : b < ns.length) : sPut2 k gs g1 g2 ρ = .nx (ρ.set k (some (lI ((ns.set a.toNat y).set b.toNat z)))) := by
  unfold sPut2
  rw [hs, stL_ok]
  show sSeq (sPut k false (rC (.int y)) g1) (sPut k false (rC (.int z)) g2) ρ = _
  have hkl : k < ρ.length := by
    rw [List.getElem?_eq_some_iff] at hk
    exact hk.1
  rw [ap_sSeq, put_i hk (ap_c _) h1 a0 a1, sqS_nx, put_i (ρ := ρ.set k (some (lI (ns.set a.toNat y)))) (ns := ns.set a.toNat y) (by rw [List.getElem?_set_self hkl]) (ap_c _) h2 b0 (by rw [List.length_set]; exact b1), List.set_set]
@[simp] theorem nat_nlt (i : Nat) : ((i : Int) < 0) = False := eq_false (by omega)
def lnkE : Option PyData → Re PyData → Re PyData
  | some (.bool true), r => r
  | some (.bool false), _ => .ok (.bool false)
  | _, _ => .bad
@[simp] theorem lnkE_b (b : Bool) (r : Re PyData) : lnkE (some (.bool b)) r = if b = true then r else .ok (.bool false) := by cases b <;> rfl
@[simp] theorem ap_link (gg : PyData → PyData → Option PyData) (g : Rho → Re PyData) (k : PyData → Rho → Re PyData) (d : PyData) : cLink gg g k d ρ = (g ρ).andThen fun e => lnkE (gg d e) (k e ρ) := by
  unfold cLink
  congr 1
  funext e
  rcases gg d e with _ | v
  · rfl
  · cases v with
    | bool b => cases b <;> rfl
    | _ => rfl
theorem run4 {m : Nat} {s : Rho → Sr} {a b c d : PyData} : runF 4 m s [a, b, c, d] = outR (s (some a :: some b :: some c :: some d :: List.replicate (m - 4) none)) := run_eq rfl
theorem run5 {m : Nat} {s : Rho → Sr} {a b c d e : PyData} : runF 5 m s [a, b, c, d, e] = outR (s (some a :: some b :: some c :: some d :: some e :: List.replicate (m - 5) none)) := run_eq rfl
theorem run0 {m : Nat} {s : Rho → Sr} : runF 0 m s [] = outR (s (List.replicate m none)) := run_eq rfl
@[simp] theorem ap_isi {T : String} {f : Rho → Re PyData} : rIsi T f ρ = (f ρ).andThen fun d => liftO ((isD d T).map PyData.bool) := (rfl)
@[simp] theorem isi_tup {ds : List PyData} : isD (.tuple ds) "tuple" = some true := by
  show kitB "tuple" "tuple" = some true
  decide +kernel
@[simp] theorem isi_tI {ns : List Int} : isD (tI ns) "tuple" = some true := isi_tup
@[simp] theorem isi_int {z : Int} : isD (.int z) "int" = some true := by
  show kitB "int" "int" = some true
  decide +kernel
@[simp] theorem isi_intb {z : Int} : isD (.int z) "bool" = some false := by
  show kitB "int" "bool" = some false
  decide +kernel
/-! words -/
theorem shp (x : Str) (h : SeqAt.shaped (.str x) = true := by decide +kernel) : SeqAt.shaped (.str x) = true := h
@[simp] theorem wq_swap_swap : oEq (.str ("swap" : Str)) (.str ("swap" : Str)) = some (.bool true) := by
  rw [oEq_s (shp _) (shp _)]
  simp
@[simp] theorem wn_swap_swap : oNe (.str ("swap" : Str)) (.str ("swap" : Str)) = some (.bool false) := by
  rw [oNe_s (shp _) (shp _)]
  simp
@[simp] theorem wq_swap_next : oEq (.str ("swap" : Str)) (.str ("next" : Str)) = some (.bool false) := by
  rw [oEq_s (shp _) (shp _)]
  congr 1
@[simp] theorem wn_swap_next : oNe (.str ("swap" : Str)) (.str ("next" : Str)) = some (.bool true) := by
  rw [oNe_s (shp _) (shp _)]
  congr 1
@[simp] theorem wq_swap_take : oEq (.str ("swap" : Str)) (.str ("take" : Str)) = some (.bool false) := by
  rw [oEq_s (shp _) (shp _)]
  congr 1
@[simp] theorem wn_swap_take : oNe (.str ("swap" : Str)) (.str ("take" : Str)) = some (.bool true) := by
  rw [oNe_s (shp _) (shp _)]
  congr 1
@[simp] theorem wq_swap_flip : oEq (.str ("swap" : Str)) (.str ("flip" : Str)) = some (.bool false) := by
  rw [oEq_s (shp _) (shp _)]
  congr 1
@[simp] theorem wn_swap_flip : oNe (.str ("swap" : Str)) (.str ("flip" : Str)) = some (.bool true) := by
  rw [oNe_s (shp _) (shp _)]
  congr 1
@[simp] theorem wq_swap_blocks : oEq (.str ("swap" : Str)) (.str ("blocks" : Str)) = some (.bool false) := by
  rw [oEq_s (shp _) (shp _)]
  congr 1
@[simp] theorem wn_swap_blocks : oNe (.str ("swap" : Str)) (.str ("blocks" : Str)) = some (.bool true) := by
  rw [oNe_s (shp _) (shp _)]
  congr 1
@[simp] theorem wq_swap_turn : oEq (.str ("swap" : Str)) (.str ("turn" : Str)) = some (.bool false) := by
  rw [oEq_s (shp _) (shp _)]
  congr 1
@[simp] theorem wn_swap_turn : oNe (.str ("swap" : Str)) (.str ("turn" : Str)) = some (.bool true) := by
  rw [oNe_s (shp _) (shp _)]
  congr 1
@[simp] theorem wq_next_swap : oEq (.str ("next" : Str)) (.str ("swap" : Str)) = some (.bool false) := by
  rw [oEq_s (shp _) (shp _)]
  congr 1
@[simp] theorem wn_next_swap : oNe (.str ("next" : Str)) (.str ("swap" : Str)) = some (.bool true) := by
  rw [oNe_s (shp _) (shp _)]
  congr 1
@[simp] theorem wq_next_next : oEq (.str ("next" : Str)) (.str ("next" : Str)) = some (.bool true) := by
  rw [oEq_s (shp _) (shp _)]
  simp
@[simp] theorem wn_next_next : oNe (.str ("next" : Str)) (.str ("next" : Str)) = some (.bool false) := by
  rw [oNe_s (shp _) (shp _)]
  simp
@[simp] theorem wq_next_take : oEq (.str ("next" : Str)) (.str ("take" : Str)) = some (.bool false) := by
  rw [oEq_s (shp _) (shp _)]
  congr 1
@[simp] theorem wn_next_take : oNe (.str ("next" : Str)) (.str ("take" : Str)) = some (.bool true) := by
  rw [oNe_s (shp _) (shp _)]
  congr 1
@[simp] theorem wq_next_flip : oEq (.str ("next" : Str)) (.str ("flip" : Str)) = some (.bool false) := by
  rw [oEq_s (shp _) (shp _)]
  congr 1
@[simp] theorem wn_next_flip : oNe (.str ("next" : Str)) (.str ("flip" : Str)) = some (.bool true) := by
  rw [oNe_s (shp _) (shp _)]
  congr 1
@[simp] theorem wq_next_blocks : oEq (.str ("next" : Str)) (.str ("blocks" : Str)) = some (.bool false) := by
  rw [oEq_s (shp _) (shp _)]
  congr 1
@[simp] theorem wn_next_blocks : oNe (.str ("next" : Str)) (.str ("blocks" : Str)) = some (.bool true) := by
  rw [oNe_s (shp _) (shp _)]
  congr 1
@[simp] theorem wq_next_turn : oEq (.str ("next" : Str)) (.str ("turn" : Str)) = some (.bool false) := by
  rw [oEq_s (shp _) (shp _)]
  congr 1
@[simp] theorem wn_next_turn : oNe (.str ("next" : Str)) (.str ("turn" : Str)) = some (.bool true) := by
  rw [oNe_s (shp _) (shp _)]
  congr 1
@[simp] theorem wq_take_swap : oEq (.str ("take" : Str)) (.str ("swap" : Str)) = some (.bool false) := by
  rw [oEq_s (shp _) (shp _)]
  congr 1
@[simp] theorem wn_take_swap : oNe (.str ("take" : Str)) (.str ("swap" : Str)) = some (.bool true) := by
  rw [oNe_s (shp _) (shp _)]
  congr 1
@[simp] theorem wq_take_next : oEq (.str ("take" : Str)) (.str ("next" : Str)) = some (.bool false) := by
  rw [oEq_s (shp _) (shp _)]
  congr 1
@[simp] theorem wn_take_next : oNe (.str ("take" : Str)) (.str ("next" : Str)) = some (.bool true) := by
  rw [oNe_s (shp _) (shp _)]
  congr 1
@[simp] theorem wq_take_take : oEq (.str ("take" : Str)) (.str ("take" : Str)) = some (.bool true) := by
  rw [oEq_s (shp _) (shp _)]
  simp
@[simp] theorem wn_take_take : oNe (.str ("take" : Str)) (.str ("take" : Str)) = some (.bool false) := by
  rw [oNe_s (shp _) (shp _)]
  simp
@[simp] theorem wq_take_flip : oEq (.str ("take" : Str)) (.str ("flip" : Str)) = some (.bool false) := by
  rw [oEq_s (shp _) (shp _)]
  congr 1
@[simp] theorem wn_take_flip : oNe (.str ("take" : Str)) (.str ("flip" : Str)) = some (.bool true) := by
  rw [oNe_s (shp _) (shp _)]
  congr 1
@[simp] theorem wq_take_blocks : oEq (.str ("take" : Str)) (.str ("blocks" : Str)) = some (.bool false) := by
  rw [oEq_s (shp _) (shp _)]
  congr 1
@[simp] theorem wn_take_blocks : oNe (.str ("take" : Str)) (.str ("blocks" : Str)) = some (.bool true) := by
  rw [oNe_s (shp _) (shp _)]
  congr 1
@[simp] theorem wq_take_turn : oEq (.str ("take" : Str)) (.str ("turn" : Str)) = some (.bool false) := by
  rw [oEq_s (shp _) (shp _)]
  congr 1
@[simp] theorem wn_take_turn : oNe (.str ("take" : Str)) (.str ("turn" : Str)) = some (.bool true) := by
  rw [oNe_s (shp _) (shp _)]
  congr 1
@[simp] theorem wq_flip_swap : oEq (.str ("flip" : Str)) (.str ("swap" : Str)) = some (.bool false) := by
  rw [oEq_s (shp _) (shp _)]
  congr 1
@[simp] theorem wn_flip_swap : oNe (.str ("flip" : Str)) (.str ("swap" : Str)) = some (.bool true) := by
  rw [oNe_s (shp _) (shp _)]
  congr 1
@[simp] theorem wq_flip_next : oEq (.str ("flip" : Str)) (.str ("next" : Str)) = some (.bool false) := by
  rw [oEq_s (shp _) (shp _)]
  congr 1
@[simp] theorem wn_flip_next : oNe (.str ("flip" : Str)) (.str ("next" : Str)) = some (.bool true) := by
  rw [oNe_s (shp _) (shp _)]
  congr 1
@[simp] theorem wq_flip_take : oEq (.str ("flip" : Str)) (.str ("take" : Str)) = some (.bool false) := by
  rw [oEq_s (shp _) (shp _)]
  congr 1
@[simp] theorem wn_flip_take : oNe (.str ("flip" : Str)) (.str ("take" : Str)) = some (.bool true) := by
  rw [oNe_s (shp _) (shp _)]
  congr 1
@[simp] theorem wq_flip_flip : oEq (.str ("flip" : Str)) (.str ("flip" : Str)) = some (.bool true) := by
  rw [oEq_s (shp _) (shp _)]
  simp
@[simp] theorem wn_flip_flip : oNe (.str ("flip" : Str)) (.str ("flip" : Str)) = some (.bool false) := by
  rw [oNe_s (shp _) (shp _)]
  simp
@[simp] theorem wq_flip_blocks : oEq (.str ("flip" : Str)) (.str ("blocks" : Str)) = some (.bool false) := by
  rw [oEq_s (shp _) (shp _)]
  congr 1
@[simp] theorem wn_flip_blocks : oNe (.str ("flip" : Str)) (.str ("blocks" : Str)) = some (.bool true) := by
  rw [oNe_s (shp _) (shp _)]
  congr 1
@[simp] theorem wq_flip_turn : oEq (.str ("flip" : Str)) (.str ("turn" : Str)) = some (.bool false) := by
  rw [oEq_s (shp _) (shp _)]
  congr 1
@[simp] theorem wn_flip_turn : oNe (.str ("flip" : Str)) (.str ("turn" : Str)) = some (.bool true) := by
  rw [oNe_s (shp _) (shp _)]
  congr 1
@[simp] theorem wq_blocks_swap : oEq (.str ("blocks" : Str)) (.str ("swap" : Str)) = some (.bool false) := by
  rw [oEq_s (shp _) (shp _)]
  congr 1
@[simp] theorem wn_blocks_swap : oNe (.str ("blocks" : Str)) (.str ("swap" : Str)) = some (.bool true) := by
  rw [oNe_s (shp _) (shp _)]
  congr 1
@[simp] theorem wq_blocks_next : oEq (.str ("blocks" : Str)) (.str ("next" : Str)) = some (.bool false) := by
  rw [oEq_s (shp _) (shp _)]
  congr 1
@[simp] theorem wn_blocks_next : oNe (.str ("blocks" : Str)) (.str ("next" : Str)) = some (.bool true) := by
  rw [oNe_s (shp _) (shp _)]
  congr 1
@[simp] theorem wq_blocks_take : oEq (.str ("blocks" : Str)) (.str ("take" : Str)) = some (.bool false) := by
  rw [oEq_s (shp _) (shp _)]
  congr 1
@[simp] theorem wn_blocks_take : oNe (.str ("blocks" : Str)) (.str ("take" : Str)) = some (.bool true) := by
  rw [oNe_s (shp _) (shp _)]
  congr 1
@[simp] theorem wq_blocks_flip : oEq (.str ("blocks" : Str)) (.str ("flip" : Str)) = some (.bool false) := by
  rw [oEq_s (shp _) (shp _)]
  congr 1
@[simp] theorem wn_blocks_flip : oNe (.str ("blocks" : Str)) (.str ("flip" : Str)) = some (.bool true) := by
  rw [oNe_s (shp _) (shp _)]
  congr 1
@[simp] theorem wq_blocks_blocks : oEq (.str ("blocks" : Str)) (.str ("blocks" : Str)) = some (.bool true) := by
  rw [oEq_s (shp _) (shp _)]
  simp
@[simp] theorem wn_blocks_blocks : oNe (.str ("blocks" : Str)) (.str ("blocks" : Str)) = some (.bool false) := by
  rw [oNe_s (shp _) (shp _)]
  simp
@[simp] theorem wq_blocks_turn : oEq (.str ("blocks" : Str)) (.str ("turn" : Str)) = some (.bool false) := by
  rw [oEq_s (shp _) (shp _)]
  congr 1
@[simp] theorem wn_blocks_turn : oNe (.str ("blocks" : Str)) (.str ("turn" : Str)) = some (.bool true) := by
  rw [oNe_s (shp _) (shp _)]
  congr 1
@[simp] theorem wq_turn_swap : oEq (.str ("turn" : Str)) (.str ("swap" : Str)) = some (.bool false) := by
  rw [oEq_s (shp _) (shp _)]
  congr 1
@[simp] theorem wn_turn_swap : oNe (.str ("turn" : Str)) (.str ("swap" : Str)) = some (.bool true) := by
  rw [oNe_s (shp _) (shp _)]
  congr 1
@[simp] theorem wq_turn_next : oEq (.str ("turn" : Str)) (.str ("next" : Str)) = some (.bool false) := by
  rw [oEq_s (shp _) (shp _)]
  congr 1
@[simp] theorem wn_turn_next : oNe (.str ("turn" : Str)) (.str ("next" : Str)) = some (.bool true) := by
  rw [oNe_s (shp _) (shp _)]
  congr 1
@[simp] theorem wq_turn_take : oEq (.str ("turn" : Str)) (.str ("take" : Str)) = some (.bool false) := by
  rw [oEq_s (shp _) (shp _)]
  congr 1
@[simp] theorem wn_turn_take : oNe (.str ("turn" : Str)) (.str ("take" : Str)) = some (.bool true) := by
  rw [oNe_s (shp _) (shp _)]
  congr 1
@[simp] theorem wq_turn_flip : oEq (.str ("turn" : Str)) (.str ("flip" : Str)) = some (.bool false) := by
  rw [oEq_s (shp _) (shp _)]
  congr 1
@[simp] theorem wn_turn_flip : oNe (.str ("turn" : Str)) (.str ("flip" : Str)) = some (.bool true) := by
  rw [oNe_s (shp _) (shp _)]
  congr 1
@[simp] theorem wq_turn_blocks : oEq (.str ("turn" : Str)) (.str ("blocks" : Str)) = some (.bool false) := by
  rw [oEq_s (shp _) (shp _)]
  congr 1
@[simp] theorem wn_turn_blocks : oNe (.str ("turn" : Str)) (.str ("blocks" : Str)) = some (.bool true) := by
  rw [oNe_s (shp _) (shp _)]
  congr 1
@[simp] theorem wq_turn_turn : oEq (.str ("turn" : Str)) (.str ("turn" : Str)) = some (.bool true) := by
  rw [oEq_s (shp _) (shp _)]
  simp
@[simp] theorem wn_turn_turn : oNe (.str ("turn" : Str)) (.str ("turn" : Str)) = some (.bool false) := by
  rw [oNe_s (shp _) (shp _)]
  simp
@[simp] theorem wq_no_swap : oEq (.str ("" : Str)) (.str ("swap" : Str)) = some (.bool false) := by
  rw [oEq_s (shp _) (shp _)]
  congr 1
@[simp] theorem wn_no_swap : oNe (.str ("" : Str)) (.str ("swap" : Str)) = some (.bool true) := by
  rw [oNe_s (shp _) (shp _)]
  congr 1
@[simp] theorem wq_no_next : oEq (.str ("" : Str)) (.str ("next" : Str)) = some (.bool false) := by
  rw [oEq_s (shp _) (shp _)]
  congr 1
@[simp] theorem wn_no_next : oNe (.str ("" : Str)) (.str ("next" : Str)) = some (.bool true) := by
  rw [oNe_s (shp _) (shp _)]
  congr 1
@[simp] theorem wq_no_take : oEq (.str ("" : Str)) (.str ("take" : Str)) = some (.bool false) := by
  rw [oEq_s (shp _) (shp _)]
  congr 1
@[simp] theorem wn_no_take : oNe (.str ("" : Str)) (.str ("take" : Str)) = some (.bool true) := by
  rw [oNe_s (shp _) (shp _)]
  congr 1
@[simp] theorem wq_no_flip : oEq (.str ("" : Str)) (.str ("flip" : Str)) = some (.bool false) := by
  rw [oEq_s (shp _) (shp _)]
  congr 1
@[simp] theorem wn_no_flip : oNe (.str ("" : Str)) (.str ("flip" : Str)) = some (.bool true) := by
  rw [oNe_s (shp _) (shp _)]
  congr 1
@[simp] theorem wq_no_blocks : oEq (.str ("" : Str)) (.str ("blocks" : Str)) = some (.bool false) := by
  rw [oEq_s (shp _) (shp _)]
  congr 1
@[simp] theorem wn_no_blocks : oNe (.str ("" : Str)) (.str ("blocks" : Str)) = some (.bool true) := by
  rw [oNe_s (shp _) (shp _)]
  congr 1
@[simp] theorem wq_no_turn : oEq (.str ("" : Str)) (.str ("turn" : Str)) = some (.bool false) := by
  rw [oEq_s (shp _) (shp _)]
  congr 1
@[simp] theorem wn_no_turn : oNe (.str ("" : Str)) (.str ("turn" : Str)) = some (.bool true) := by
  rw [oNe_s (shp _) (shp _)]
  congr 1
theorem bMinA_l1 {a : Int} : bMinA [lI [a]] = some (.int a) := rfl
theorem bMaxA_l1 {a : Int} : bMaxA [lI [a]] = some (.int a) := rfl
end
end Pu

set_option Elab.async false
set_option linter.all false
set_option maxRecDepth 100000
set_option maxHeartbeats 2000000
namespace Pu
open PySem PySem.Spec PyProof.Rows L2
variable [TabL]
/-- a word and numbers -/
def mvR (w : Str) (ns : List Int) : PyData := .tuple (.str w :: ns.map PyData.int)
def words5 : List Str := ["swap", "next", "take", "flip", "blocks"]
def words7 : List Str := ["swap", "next", "take", "flip", "blocks", "turn", ""]
/-- a loop with an invariant, which may be left by break -/
theorem loop_brk {g : PyData → Rho → Option Rho} {body : Rho → Sr} (I : Nat → Rho → Prop) : ∀ (ds : List PyData) (k0 : Nat) (ρ : Rho), I k0 ρ → (∀ k d ρ, ds[k]? = some d → I (k0 + k) ρ → ∃ ρ1, g d ρ = some ρ1 ∧ ∃ ρ2, (body ρ1 = .nx ρ2 ∨ body ρ1 = .bk ρ2) ∧ I (k0 + k + 1) ρ2) →
    ∃ ρ' k', sLoop g body ds ρ = .nx ρ' ∧ k' ≤ k0 + ds.length ∧ I k' ρ'
  | [], k0, ρ, h, _ => ⟨ρ, k0, rfl, Nat.le_refl _, h⟩
  | d :: ds, k0, ρ, h, st => by
    obtain ⟨ρ1, e1, ρ2, e2, h2⟩ := st 0 d ρ rfl h
    rcases e2 with e2 | e2
    · obtain ⟨ρ', k', e3, h4, h3⟩ := loop_brk I ds (k0 + 1) ρ2 h2 fun k d' ρ'' hk hI => by
        have := st (k + 1) d' ρ'' (by simpa using hk) (by rw [show k0 + (k + 1) = k0 + 1 + k by omega]; exact hI)
        rw [show k0 + (k + 1) + 1 = k0 + 1 + k + 1 by omega] at this
        exact this
      exact ⟨ρ', k', (loop_nx e1 e2).trans e3, by rw [List.length_cons]; omega, h3⟩
    · refine ⟨ρ2, k0 + 1, ?_, by rw [List.length_cons]; omega, h2⟩
      show (match g d ρ with
        | none => Sr.bad
        | some ρ1 => match body ρ1 with
          | .nx ρ2 => sLoop g body ds ρ2
          | .ct ρ2 => sLoop g body ds ρ2
          | .bk ρ2 => .nx ρ2
          | .rt d => .rt d
          | .ex c ρ2 => .ex c ρ2
          | .bad => .bad) = _
      rw [e1]
      show (match body ρ1 with
        | .nx ρ2 => sLoop g body ds ρ2
        | .ct ρ2 => sLoop g body ds ρ2
        | .bk ρ2 => .nx ρ2
        | .rt d => .rt d
        | .ex c ρ2 => .ex c ρ2
        | .bad => .bad) = _
      rw [e2]
section
variable {ρ : Rho}
theorem seq_nx {s u : Rho → Sr} {ρ' : Rho} {R : Sr} (h : s ρ = .nx ρ') (k : u ρ' = R) : sSeq s u ρ = R := by
  rw [ap_sSeq, h, sqS_nx]
  exact k
theorem cutD_to {ds : List PyData} {k : Nat} (h : k ≤ ds.length) : cutD ds none (some (k : Int)) = ds.take k := by
  unfold cutD
  rw [HT.sIx_none, HT.sIx_nat]
  simp [Nat.min_eq_left h]
theorem cutD_from {ds : List PyData} {k : Nat} : cutD ds (some (k : Int)) none = ds.drop k := by
  unfold cutD
  rw [HT.sIx_none, HT.sIx_nat]
  by_cases h : k ≤ ds.length
  · rw [Nat.min_eq_left h, ← List.length_drop, List.take_length]
  · rw [Nat.min_eq_right (by omega), List.drop_length, List.take_nil, List.drop_eq_nil_of_le (by omega)]
@[simp] theorem oCut_d {ds : List PyData} {lo hi : Option Int} : oCut (.tuple ds) lo hi = .ok (.tuple (cutD ds lo hi)) := (rfl)
@[simp] theorem oCut_dl {ds : List PyData} {lo hi : Option Int} : oCut (.list ds) lo hi = .ok (.list (cutD ds lo hi)) := (rfl)
@[simp] theorem bList_d (ds : List PyData) : bList [.tuple ds] = some (.list ds) := (rfl)
@[simp] theorem bList_dl (ds : List PyData) : bList [.list ds] = some (.list ds) := (rfl)
@[simp] theorem cut1_d (a : PyData) (ds : List PyData) : cutD (a :: ds) (some 1) none = ds := (cutD_from (k := 1)).trans (by simp)
end
end Pu

set_option Elab.async false
set_option linter.all false
set_option maxRecDepth 100000
set_option maxHeartbeats 2000000
/-! list comprehensions of two clauses -/
namespace Pu
open PySem PySem.Spec PyProof.Rows L2
variable [TabL]
section
variable {X : Cx} {M : Nat → Bool} {F : Fx} {E : L2.St → XK} {σ σ1 : L2.St} {ρ ρ1 : Rho} {H H' H1 : Hp}
def canI (X : Cx) (M : Nat → Bool) (E : L2.St → XK) (f : Rho → Re (List PyData)) : TI := fun σ H R => ∃ (F : Fx) (ρ : Rho), ER X.K M F σ H ρ ∧ WI X M F E σ ρ H (f ρ) R
theorem canI_ok {tg it : Expr} {f : Rho → Re (List PyData)} (h : ∀ F, DI X M F E tg it f) : PI X tg it (canI X M E f) := ⟨fun pins s σ H R I ⟨F, ρ, er, w⟩ => by
  obtain ⟨t, pt, h⟩ := h F
  exact pt.run pins s σ H R I (h σ H ρ er R w)⟩
theorem own_set1 {i : Nat} (m : M i = false) (a : Addr) : OwnA M (σ.set i none) (ρ.set i none) a ↔ OwnA M σ ρ a := by
  constructor
  · rintro ⟨j, x, mj, r, s⟩
    have hj : i ≠ j := fun z => by
      subst z
      rw [m] at mj
      cases mj
    rw [List.getElem?_set_ne hj] at r s
    exact ⟨j, x, mj, r, s⟩
  · rintro ⟨j, x, mj, r, s⟩
    have hj : i ≠ j := fun z => by
      subst z
      rw [m] at mj
      cases mj
    exact ⟨j, x, mj, by rw [List.getElem?_set_ne hj]; exact r, by rw [List.getElem?_set_ne hj]; exact s⟩
theorem own_wipe : ∀ {vs : List Nat}, (∀ i ∈ vs, M i = false) → ∀ a, OwnA M (wipe σ vs) (wipeR ρ vs) a ↔ OwnA M σ ρ a
  | [], _, _ => Iff.rfl
  | v :: vs, h, a => (own_set1 (σ := wipe σ vs) (ρ := wipeR ρ vs) (h v List.mem_cons_self) a).trans (own_wipe (fun i hi => h i (List.mem_cons_of_mem _ hi)) a)
theorem wipe_same : ∀ (l : List Nat) (τ : L2.St), (∀ i ∈ l, i < τ.length → τ[i]? = some none) → wipe τ l = τ
  | [], _, _ => rfl
  | v :: l, τ, h => by
    show (wipe τ l).set v none = τ
    rw [wipe_same l τ fun i hi => h i (List.mem_cons_of_mem _ hi)]
    by_cases hv : v < τ.length
    · have := h v List.mem_cons_self hv
      obtain ⟨h1, h2⟩ := List.getElem?_eq_some_iff.mp this
      rw [← h2, List.set_getElem_self]
    · rw [List.set_eq_of_length_le (by omega)]
theorem wipe_get (σ : L2.St) : ∀ (l : List Nat) (i : Nat), i ∈ l → i < (wipe σ l).length → (wipe σ l)[i]? = some none
  | [], i, h, _ => nomatch h
  | v :: l, i, h, hl => by
    show ((wipe σ l).set v none)[i]? = some none
    have hl' : i < (wipe σ l).length := by
      have hl2 : i < ((wipe σ l).set v none).length := hl
      rwa [List.length_set] at hl2
    by_cases e : v = i
    · subst e
      rw [List.getElem?_set_self hl']
    · rw [List.getElem?_set_ne e]
      exact wipe_get σ l i ((List.mem_cons.mp h).resolve_left fun z => e z.symm) hl'
theorem wipe_wipe (σ : L2.St) (vs : List Nat) : wipe (wipe σ vs) vs = wipe σ vs := wipe_same vs _ fun i hi hl => wipe_get σ vs i hi hl
theorem ER.blk2 {Dd : Addr} (e : ER X.K M (inBlk F Dd) σ H ρ) {acc : List V} (hD : H Dd = some (.lst acc)) (sm : SameX Dd H H') (hD' : H' Dd ≠ none) : ER X.K M (inBlk F Dd) σ H' ρ := by
  have kp : Kp (RS M (inBlk F Dd) σ ρ false) H H' := ⟨fun a u q x n => sm.k a u (by
    rintro rfl
    rcases x with x | x
    · exact x.1.2 rfl
    · rw [hD] at q
      cases q
      exact x trivial) q n⟩
  refine ⟨e.len, .nil (sm.tab e.tab), fun a q => ?_, sm.tab e.tab, fun i d r m => ?_, fun i d r m => ?_, e.ap⟩
  · have na : a ≠ Dd := fun z => hD' (z ▸ q)
    exact e.new a (sm.free na q)
  · obtain ⟨v, s, rp⟩ := e.im i d r m
    exact ⟨v, s, rp.keep kp fun _ _ x _ _ => x⟩
  · obtain ⟨p, s, z, w⟩ := e.ow i d r m
    exact ⟨p, s, z, w.keep kp (fun _ _ x _ _ => x) fun u q n => sm.k p u z.2.2 q n⟩
def lcGo2 (g : PyData → Rho → Option Rho) (t : Rho → Re Bool) (its1 : Rho → Re (List PyData)) (vs1 : List Nat) (g1 : PyData → Rho → Option Rho) (t1 : Rho → Re Bool) (f : Rho → Re PyData) (ρ : Rho) : List PyData → Option (List PyData)
  | [] => some []
  | d :: ds => match g d ρ with
    | none => none
    | some ρ1 => match t ρ1 with
      | .ok true => (match its1 ρ1 with
        | .ok es => (match lcGo g1 t1 f (wipeR ρ1 vs1) es with
          | some xs => (match lcGo2 g t its1 vs1 g1 t1 f ρ ds with | some ys => some (xs ++ ys) | none => none)
          | none => none)
        | _ => none)
      | .ok false => lcGo2 g t its1 vs1 g1 t1 f ρ ds
      | _ => none
def rLc2 (its : Rho → Re (List PyData)) (vs : List Nat) (g : PyData → Rho → Option Rho) (t : Rho → Re Bool) (its1 : Rho → Re (List PyData)) (vs1 : List Nat) (g1 : PyData → Rho → Option Rho) (t1 : Rho → Re Bool) (f : Rho → Re PyData) : Rho → Re PyData := fun ρ => (its ρ).andThen fun ds => match lcGo2 g t its1 vs1 g1 t1 f (wipeR ρ vs) ds with | some xs => if okLen xs.length = true then .ok (.list xs) else .bad | none => .bad
theorem lc2_run {ts vs ts1 vs1 : List Nat} {wi : TI} {its its1 : Rho → Re (List PyData)} {gg gg1 : PyData → Rho → Option Rho} {tt tt1 : Rho → Re Bool} {f : Rho → Re PyData} {lk fr : Bool} (hi : ∀ σ H ρ, ER X.K M F σ H ρ → ∀ R, WI X M F E σ ρ H (its ρ) R → wi σ H R)
    (hv : ∀ i ∈ vs, M i = false) (hv1 : ∀ i ∈ vs1, M i = false) (hts : ∀ i ∈ ts, i ∈ vs) (hts1 : ∀ i ∈ ts1, i ∈ vs1) (er : ER X.K M F σ H ρ) {Q : VK} (w : WE X M F E lk true σ ρ H (rLc2 its vs gg tt its1 vs1 gg1 tt1 f ρ) Q) :
    tLc2 wi (canG X M ts gg) (canT X M E0s tt) (canI X M E0s its1) (canG X M ts1 gg1) (canT X M E0s tt1) (canE X M E0s lk fr f) vs vs1 σ H Q := by
  refine hi σ H ρ er _ ?_
  unfold rLc2 at w
  cases q : its ρ with
  | ex c =>
    rw [q] at w
    exact w
  | bad =>
    rw [q] at w
    exact w
  | ok ds =>
    rw [q] at w
    have w : WE X M F E lk true σ ρ H (match lcGo2 gg tt its1 vs1 gg1 tt1 f (wipeR ρ vs) ds with | some xs => if okLen xs.length = true then Re.ok (.list xs) else .bad | none => .bad) Q := w
    cases q2 : lcGo2 gg tt its1 vs1 gg1 tt1 f (wipeR ρ vs) ds with
    | none =>
      rw [q2] at w
      exact w.elim
    | some tot =>
      rw [q2] at w
      have w : WE X M F E lk true σ ρ H (if okLen tot.length = true then Re.ok (.list tot) else .bad) Q := w
      by_cases hz : okLen tot.length = true
      · rw [if_pos hz] at w
        refine fun J H1 sm wk Dd hD => ?_
        have er1 := er.same sm
        refine ⟨fun i m H2 => m = ds.length - i ∧ i ≤ ds.length ∧ Same H1 H2 ∧ ∃ acc accd rst, H2 Dd = some (.lst acc) ∧ RpA X.K H2 (fun a => RS M F σ ρ lk a ∧ a ≠ Dd) acc accd ∧ lcGo2 gg tt its1 vs1 gg1 tt1 f (wipeR ρ vs) (ds.drop i) = some rst ∧ tot = accd ++ rst,
          ⟨ds.length, by simp, Nat.zero_le _, same_new hD, [], [], tot, upd_same, .nil, q2, rfl⟩, ?_⟩
        rintro i m H2 ⟨rfl, hi', sm2, acc, accd, rst, e1, r1, g1, t1⟩
        have kp : Kp (fun a => RS M F σ ρ false a ∧ Nn H1 a) H1 H2 := kp_same sm2
        by_cases hlt : i < ds.length
        · obtain ⟨go, yl⟩ := (wk H2 kp i).1 _ (List.getElem?_eq_getElem hlt)
          refine .inr ⟨go, fun H3 => Same H1 H3 ∧ ∃ acc accd rst, H3 Dd = some (.lst acc) ∧ RpA X.K H3 (fun a => RS M F σ ρ lk a ∧ a ≠ Dd) acc accd ∧ lcGo2 gg tt its1 vs1 gg1 tt1 f (wipeR ρ vs) (ds.drop (i + 1)) = some rst ∧ tot = accd ++ rst, fun H3 x => ⟨ds.length - (i + 1), by omega, rfl, by omega, x⟩, fun x H3 y => ?_⟩
          obtain ⟨s3, rx⟩ := yl x H3 y
          rw [drop_get (List.getElem?_eq_getElem hlt)] at g1
          have g1 : (match gg ds[i] (wipeR ρ vs) with
            | none => none
            | some ρ1 => match tt ρ1 with
              | .ok true => (match its1 ρ1 with
                | .ok es => (match lcGo gg1 tt1 f (wipeR ρ1 vs1) es with
                  | some xs => (match lcGo2 gg tt its1 vs1 gg1 tt1 f (wipeR ρ vs) (ds.drop (i + 1)) with | some ys => some (xs ++ ys) | none => none)
                  | none => none)
                | _ => none)
              | .ok false => lcGo2 gg tt its1 vs1 gg1 tt1 f (wipeR ρ vs) (ds.drop (i + 1))
              | _ => none) = some rst := g1
          cases q3 : gg ds[i] (wipeR ρ vs) with
          | none =>
            rw [q3] at g1
            cases g1
          | some ρ1 =>
            rw [q3] at g1
            have g1 : (match tt ρ1 with
              | .ok true => (match its1 ρ1 with
                | .ok es => (match lcGo gg1 tt1 f (wipeR ρ1 vs1) es with
                  | some xs => (match lcGo2 gg tt its1 vs1 gg1 tt1 f (wipeR ρ vs) (ds.drop (i + 1)) with | some ys => some (xs ++ ys) | none => none)
                  | none => none)
                | _ => none)
              | .ok false => lcGo2 gg tt its1 vs1 gg1 tt1 f (wipeR ρ vs) (ds.drop (i + 1))
              | _ => none) = some rst := g1
            obtain ⟨erw, rsw⟩ := er1.wipe (vs := vs) hv
            have s13 : Same H1 H3 := sm2.trans s3
            have e3 : H3 Dd = some (.lst acc) := s3 _ _ e1
            have erb := erw.blk hD s13 e3
            have rx' : Rp X.K H3 (RS M (inBlk F Dd) (wipe σ vs) (wipeR ρ vs) false) x ds[i] := rx.wide fun a z => by
              have := rsw false
              refine ⟨⟨z.1.1, fun zz => ?_⟩, ?_⟩
              · rw [zz] at z
                exact z.2.not hD
              · have z1 : RS M F (wipe σ vs) (wipeR ρ vs) false a := by
                  rw [this]
                  exact z.1
                exact z1.2
            refine ⟨inBlk F Dd, wipeR ρ vs, ds[i], ρ1, erb, rx', q3, fun σ4 er4 ev4 wp4 ow4 => ⟨?_, ?_⟩⟩
            · rw [wp4 vs hts]
              exact wipe_wipe σ vs
            · refine ⟨inBlk F Dd, ρ1, er4, ?_⟩
              cases q4 : tt ρ1 with
              | ex c =>
                rw [q4] at g1
                cases g1
              | bad =>
                rw [q4] at g1
                cases g1
              | ok bb =>
                rw [q4] at g1
                cases bb with
                | false =>
                  refine fun H5 s5 => ?_
                  show (if false = true then _ else _)
                  rw [if_neg Bool.false_ne_true]
                  exact ⟨s13.trans s5, acc, accd, rst, s5 _ _ e3, r1.same (s3.trans s5), g1, t1⟩
                | true =>
                  refine fun H5 s5 => ?_
                  show (if true = true then _ else _)
                  rw [if_pos rfl]
                  have g1 : (match its1 ρ1 with
                    | .ok es => (match lcGo gg1 tt1 f (wipeR ρ1 vs1) es with
                      | some xs => (match lcGo2 gg tt its1 vs1 gg1 tt1 f (wipeR ρ vs) (ds.drop (i + 1)) with | some ys => some (xs ++ ys) | none => none)
                      | none => none)
                    | _ => none) = some rst := g1
                  cases q5 : its1 ρ1 with
                  | ex c =>
                    rw [q5] at g1
                    cases g1
                  | bad =>
                    rw [q5] at g1
                    cases g1
                  | ok es =>
                    rw [q5] at g1
                    have g1 : (match lcGo gg1 tt1 f (wipeR ρ1 vs1) es with
                      | some xs => (match lcGo2 gg tt its1 vs1 gg1 tt1 f (wipeR ρ vs) (ds.drop (i + 1)) with | some ys => some (xs ++ ys) | none => none)
                      | none => none) = some rst := g1
                    cases q6 : lcGo gg1 tt1 f (wipeR ρ1 vs1) es with
                    | none =>
                      rw [q6] at g1
                      cases g1
                    | some xs =>
                      rw [q6] at g1
                      have g1 : (match lcGo2 gg tt its1 vs1 gg1 tt1 f (wipeR ρ vs) (ds.drop (i + 1)) with | some ys => some (xs ++ ys) | none => none) = some rst := g1
                      cases q7 : lcGo2 gg tt its1 vs1 gg1 tt1 f (wipeR ρ vs) (ds.drop (i + 1)) with
                      | none =>
                        rw [q7] at g1
                        cases g1
                      | some ys =>
                        rw [q7] at g1
                        have g1 : some (xs ++ ys) = some rst := g1
                        cases g1
                        refine ⟨inBlk F Dd, ρ1, er4.same s5, ?_⟩
                        rw [q5]
                        refine fun J1 H6 s6 wk1 => ?_
                        have e6 : H6 Dd = some (.lst acc) := s6 _ _ (s5 _ _ e3)
                        have er6 := (er4.same s5).same s6
                        refine ⟨fun j k H' => k = es.length - j ∧ j ≤ es.length ∧ Same H1 H' ∧ SameX Dd H6 H' ∧ ∃ acc accd rst, H' Dd = some (.lst acc) ∧ RpA X.K H' (fun a => RS M F σ ρ lk a ∧ a ≠ Dd) acc accd ∧ lcGo gg1 tt1 f (wipeR ρ1 vs1) (es.drop j) = some rst ∧ tot = accd ++ (rst ++ ys),
                          ⟨es.length, by simp, Nat.zero_le _, s13.trans (s5.trans s6), .refl, acc, accd, xs, e6, r1.same (s3.trans (s5.trans s6)), q6, t1⟩, ?_⟩
                        rintro j k H7 ⟨rfl, hj', sm7, sb7, acc7, accd7, rst7, e7, r7, g7, t7⟩
                        have kp7 : Kp (fun a => RS M (inBlk F Dd) σ4 ρ1 false a ∧ Nn H6 a) H6 H7 := ⟨fun a u qa xa n => sb7.k a u (by
                          rintro rfl
                          rcases xa with xa | xa
                          · exact xa.1.1.2 rfl
                          · rw [e6] at qa
                            cases qa
                            exact xa trivial) qa n⟩
                        by_cases hlt7 : j < es.length
                        · obtain ⟨go7, yl7⟩ := (wk1 H7 kp7 j).1 _ (List.getElem?_eq_getElem hlt7)
                          refine .inr ⟨go7, fun H8 => Same H1 H8 ∧ SameX Dd H6 H8 ∧ ∃ acc accd rst, H8 Dd = some (.lst acc) ∧ RpA X.K H8 (fun a => RS M F σ ρ lk a ∧ a ≠ Dd) acc accd ∧ lcGo gg1 tt1 f (wipeR ρ1 vs1) (es.drop (j + 1)) = some rst ∧ tot = accd ++ (rst ++ ys), fun H8 x => ⟨es.length - (j + 1), by omega, rfl, by omega, x⟩, fun x8 H8 y8 => ?_⟩
                          obtain ⟨s8, rx8⟩ := yl7 x8 H8 y8
                          have er7 : ER X.K M (inBlk F Dd) σ4 H7 ρ1 := er6.blk2 e6 sb7 (by rw [e7]; exact nofun)
                          have er8 := er7.same s8
                          obtain ⟨erw8, rsw8⟩ := er8.wipe (vs := vs1) hv1
                          have rx8' : Rp X.K H8 (RS M (inBlk F Dd) (wipe σ4 vs1) (wipeR ρ1 vs1) false) x8 es[j] := rx8.wide fun a z => by
                            rw [rsw8 false]
                            exact z.1
                          rw [drop_get (List.getElem?_eq_getElem hlt7)] at g7
                          have g7 : (match gg1 es[j] (wipeR ρ1 vs1) with
                            | none => none
                            | some ρ2 => match tt1 ρ2 with
                              | .ok true => (match f ρ2 with | .ok x => (match lcGo gg1 tt1 f (wipeR ρ1 vs1) (es.drop (j + 1)) with | some xs => some (x :: xs) | none => none) | _ => none)
                              | .ok false => lcGo gg1 tt1 f (wipeR ρ1 vs1) (es.drop (j + 1))
                              | _ => none) = some rst7 := g7
                          cases q8 : gg1 es[j] (wipeR ρ1 vs1) with
                          | none =>
                            rw [q8] at g7
                            cases g7
                          | some ρ2 =>
                            rw [q8] at g7
                            have g7 : (match tt1 ρ2 with
                              | .ok true => (match f ρ2 with | .ok x => (match lcGo gg1 tt1 f (wipeR ρ1 vs1) (es.drop (j + 1)) with | some xs => some (x :: xs) | none => none) | _ => none)
                              | .ok false => lcGo gg1 tt1 f (wipeR ρ1 vs1) (es.drop (j + 1))
                              | _ => none) = some rst7 := g7
                            refine ⟨inBlk F Dd, wipeR ρ1 vs1, es[j], ρ2, erw8, rx8', q8, fun σ5 er5 ev5 wp5 ow5 => ⟨?_, ?_⟩⟩
                            · rw [wp5 vs1 hts1]
                              exact wipe_wipe σ4 vs1
                            · refine ⟨inBlk F Dd, ρ2, er5, ?_⟩
                              cases q9 : tt1 ρ2 with
                              | ex c =>
                                rw [q9] at g7
                                cases g7
                              | bad =>
                                rw [q9] at g7
                                cases g7
                              | ok bb =>
                                rw [q9] at g7
                                cases bb with
                                | false =>
                                  refine fun H9 s9 => ?_
                                  show (if false = true then _ else _)
                                  rw [if_neg Bool.false_ne_true]
                                  exact ⟨sm7.trans (s8.trans s9), sb7.trans (.of (s8.trans s9)), acc7, accd7, rst7, s9 _ _ (s8 _ _ e7), r7.same (s8.trans s9), g7, t7⟩
                                | true =>
                                  refine fun H9 s9 => ?_
                                  show (if true = true then _ else _)
                                  rw [if_pos rfl]
                                  have g7 : (match f ρ2 with | .ok x => (match lcGo gg1 tt1 f (wipeR ρ1 vs1) (es.drop (j + 1)) with | some xs => some (x :: xs) | none => none) | _ => none) = some rst7 := g7
                                  cases q10 : f ρ2 with
                                  | ex c =>
                                    rw [q10] at g7
                                    cases g7
                                  | bad =>
                                    rw [q10] at g7
                                    cases g7
                                  | ok xd =>
                                    rw [q10] at g7
                                    have g7 : (match lcGo gg1 tt1 f (wipeR ρ1 vs1) (es.drop (j + 1)) with | some xs => some (xd :: xs) | none => none) = some rst7 := g7
                                    cases q11 : lcGo gg1 tt1 f (wipeR ρ1 vs1) (es.drop (j + 1)) with
                                    | none =>
                                      rw [q11] at g7
                                      cases g7
                                    | some zs =>
                                      rw [q11] at g7
                                      have g7 : some (xd :: zs) = some rst7 := g7
                                      cases g7
                                      refine ⟨inBlk F Dd, ρ2, er5.same s9, ?_⟩
                                      rw [q10]
                                      refine fun v H10 s10 r10 _ => ?_
                                      have e9 : H9 Dd = some (.lst acc7) := s9 _ _ (s8 _ _ e7)
                                      have e10 : H10 Dd = some (.lst acc7) := s10 _ _ e9
                                      have acl : acc7.length < sizeLine := by
                                        have h1 := of_decide_eq_true hz
                                        have h2 := r7.length
                                        rw [t7, List.length_append, List.length_append, List.length_cons] at h1
                                        exact Nat.lt_of_lt_of_le (show acc7.length < 10001 by omega) (by decide)
                                      have s7t : Same H7 H10 := s8.trans (s9.trans s10)
                                      refine ⟨acc7, e10, acl, (sm7.trans s7t).put hD e10 plain_lst, (sb7.trans (.of s7t)).put e10 plain_lst, acc7 ++ [v], accd7 ++ [xd], zs, upd_same, ?_, rfl, ?_⟩
                                      · have kpD : Kp (fun a => RS M F σ ρ lk a ∧ a ≠ Dd) H10 (upd H10 Dd (.lst (acc7 ++ [v]))) := by
                                          refine ⟨fun a u qa xa _ => ?_⟩
                                          rw [upd_ne]
                                          · exact qa
                                          · intro za
                                            subst za
                                            rcases xa with xa | xa
                                            · exact xa.2 rfl
                                            · rw [e10] at qa
                                              cases qa
                                              exact xa trivial
                                        have rA : RpA X.K H10 (fun a => RS M F σ ρ lk a ∧ a ≠ Dd) acc7 accd7 := r7.same s7t
                                        have rV : Rp X.K H10 (fun a => RS M F σ ρ lk a ∧ a ≠ Dd) v xd := r10.wide fun a za => by
                                          refine ⟨⟨za.1.1, fun zl => fun o => ?_⟩, za.1.2⟩
                                          exact za.2 zl (ow5 a ((own_wipe hv1 a).mpr (ow4 a ((own_wipe hv a).mpr o))))
                                        exact (rA.append (.cons rV .nil)).keep kpD fun _ _ x _ _ => x
                                      · rw [t7, List.append_assoc]
                                        rfl
                        · have ej : j = es.length := by omega
                          subst ej
                          rw [List.drop_length] at g7
                          have g7 : some ([] : List PyData) = some rst7 := g7
                          cases g7
                          exact .inl ⟨(wk1 H7 kp7 _).2 rfl, sm7, acc7, accd7, ys, e7, r7, rfl, t7⟩
        · have ei : i = ds.length := by omega
          subst ei
          rw [List.drop_length] at g1
          have g1 : some ([] : List PyData) = some rst := g1
          cases g1
          rw [List.append_nil] at t1
          subst t1
          refine .inl ⟨(wk H2 kp _).2 rfl, w (.ref Dd) H2 (sm.trans sm2) (.lst e1 ?_ (r1.wide fun a x => x.1)) fun _ => ⟨Dd, rfl, sm.free hD, .lst e1 r1⟩⟩
          exact er1.freshS _ hD
      · rw [if_neg hz] at w
        exact w.elim
variable {elt tg iter tg1 iter1 : Expr} {ifs ifs1 : List Expr} {scope : Scope} {own : List (Str × Nat)} {ts ts1 vs1 : List Nat} {pos : Pos} {its its1 : Rho → Re (List PyData)} {gg gg1 : PyData → Rho → Option Rho} {tt tt1 : Rho → Re Bool} {f : Rho → Re PyData} {lk fr : Bool}
theorem de_lc2 (vs : List Nat) (hc : X.calm = true) (hN : X.N.Nodup) (hi : DI X M F E tg iter its) (ok : BlkOk X.N X.env.scope scope own) (hv : ∀ i ∈ vs, M i = false) (hvv : ∀ i ∈ vs1, i ∈ vs)
    (hg : ∀ (s : Shared) (H : Hp) (C : Addr) (cl : List (Str × Addr)) (fp : List Addr) (F : Fx), DG (X.blk s H scope (compEnvC scope cl C X.env) fp) M F tg ts gg)
    (ht : ∀ (s : Shared) (H : Hp) (C : Addr) (cl : List (Str × Addr)) (fp : List Addr), DTs (X.blk s H scope (compEnvC scope cl C X.env) fp) M E0s ifs tt)
    (hi1 : ∀ (s : Shared) (H : Hp) (C : Addr) (cl : List (Str × Addr)) (fp : List Addr) (F : Fx), DI (X.blk s H scope (compEnvC scope cl C X.env) fp) M F E0s tg1 iter1 its1)
    (hg1 : ∀ (s : Shared) (H : Hp) (C : Addr) (cl : List (Str × Addr)) (fp : List Addr) (F : Fx), DG (X.blk s H scope (compEnvC scope cl C X.env) fp) M F tg1 ts1 gg1)
    (ht1 : ∀ (s : Shared) (H : Hp) (C : Addr) (cl : List (Str × Addr)) (fp : List Addr), DTs (X.blk s H scope (compEnvC scope cl C X.env) fp) M E0s ifs1 tt1)
    (he : ∀ (s : Shared) (H : Hp) (C : Addr) (cl : List (Str × Addr)) (fp : List Addr) (F : Fx), DE (X.blk s H scope (compEnvC scope cl C X.env) fp) M F E0s lk fr elt f)
    (hvs : own.map (·.2) = vs := by rfl) (hts : ∀ i ∈ ts, i ∈ vs := by decide) (hts1 : ∀ i ∈ ts1, i ∈ vs1 := by decide) (hs : ∀ x, foldedSetIterable iter X.env x = pure x := by intro _; rfl) (hs1 : ∀ env x, foldedSetIterable iter1 env x = pure x := by intro _ _; rfl) :
    DE X M F E lk true (.ListComp elt [⟨tg, iter, ifs, 0⟩, ⟨tg1, iter1, ifs1, 0⟩] scope pos) (rLc2 its vs gg tt its1 vs1 gg1 tt1 f) := by
  subst hvs
  obtain ⟨wi, pw, hi⟩ := hi
  exact ⟨_, pe_lc2 (g := canG X M ts gg) (tt := canT X M E0s tt) (wi1 := canI X M E0s its1) (g1 := canG X M ts1 gg1) (tt1 := canT X M E0s tt1) (te := canE X M E0s lk fr f) hc hN pw ok hvv (fun s H C cl fp => canG_ok (hg s H C cl fp)) (fun s H C cl fp => ht s H C cl fp)
    (fun s H C cl fp => canI_ok (hi1 s H C cl fp)) (fun s H C cl fp => canG_ok (hg1 s H C cl fp)) (fun s H C cl fp => ht1 s H C cl fp) (fun s H C cl fp => canE_ok (he s H C cl fp)) hs hs1, fun σ H ρ er Q w => lc2_run hi hv (fun i h => hv i (hvv i h)) hts hts1 er w⟩
end
end Pu

set_option Elab.async false
set_option linter.all false
set_option maxRecDepth 100000
set_option maxHeartbeats 2000000
/-! zip of two, tuples or lists -/
namespace ZG
open PySem PySem.Spec PyProof.Rows L2
def SqK (t : Bool) (K : PySem.W.Frag) (H : Hp) (a : Addr) (xs : List V) : Prop := match t with | true => SqT K H a xs | false => SqL K H a xs
def HK (t : Bool) (h : Heap) (a : Addr) (its : Array Value) : Prop := match t with | true => h.IsTuple a its | false => h.IsList a its
def StK (t : Bool) (h : Heap) (it a : Addr) (i : Nat) : Prop := match t with | true => h.IsTupleIter it a i | false => h.IsListIter it a i
def itO (t : Bool) (a : Addr) : Obj := match t with | true => { cls := .type "tuple_iterator", data := .fields #[.ref a, .int 0 0] } | false => { cls := .type "list_iterator", data := .fields #[.ref a, .int 0 0] }
theorem draws {prog : Program} {w : World} {A : Around} (t : Bool) (hh : A.handled = none) (it a : Addr) (hne : a ≠ it) (its : Array Value) :
    Draws prog w A it [it, a] its.size (fun i v => its[i]? = some v) (fun i h => StK t h it a i ∧ HK t h a its) := by
  cases t with
  | true => exact Draws.tuple hh it a hne its
  | false => exact Draws.list hh it a hne its
theorem begins (t : Bool) (a : Addr) (its : Array Value) : Begins (.ref a) (itO t a) fun h => HK t h a its := by
  cases t with
  | true => exact begins_tuple a its
  | false => exact begins_list a its
theorem st0 {t : Bool} {h : Heap} {it a : Addr} (e : h.get? it = some (itO t a)) : StK t h it a 0 := by
  cases t with
  | true => exact ⟨_, e, rfl, rfl⟩
  | false => exact ⟨_, e, rfl, rfl⟩
theorem st_at {t : Bool} {h h' : Heap} {it a : Addr} {i : Nat} (s : StK t h it a i) (k : ∀ o, h.get? it = some o → h'.get? it = some o) : StK t h' it a i := by
  cases t with
  | true => exact Heap.IsTupleIter.at s k
  | false => exact Heap.IsListIter.at s k
theorem st_obj {t : Bool} {h : Heap} {it a : Addr} {i : Nat} (s : StK t h it a i) : ∃ o, h.get? it = some o ∧ ∀ v, o.data ≠ .cell v := by
  cases t with
  | true =>
    obtain ⟨o, e, _, d⟩ := s
    exact ⟨o, e, fun v q => by rw [d] at q; cases q⟩
  | false =>
    obtain ⟨o, e, _, d⟩ := s
    exact ⟨o, e, fun v q => by rw [d] at q; cases q⟩
section
variable {X : Cx} {pins : List (Addr × Obj)} {σ : L2.St} {H : Hp} {s : Shared} {t : Bool} {a : Addr} {xs ys : List V}
theorem sqk (I : Inv X pins σ H s) (h : SqK t X.K H a xs) : ∃ its : List Value, Vals xs its ∧ HK t s.heap a its.toArray := by
  cases t with
  | true =>
    obtain ⟨its, rv, p, _⟩ := I.tuple h
    exact ⟨its, rv, p⟩
  | false =>
    obtain ⟨its, rv, p, _⟩ := I.list h
    exact ⟨its, rv, p.isList⟩
theorem sqk_inj (I : Inv X pins σ H s) (h : SqK t X.K H a xs) (h' : SqK t X.K H a ys) : xs = ys := by
  cases t with
  | true => exact I.tuple_inj h h'
  | false => exact I.list_inj h h'
end
/-- the two as they stand at each turn, the items in new pairs -/
def ItzG (K : PySem.W.Frag) (t1 t2 : Bool) (a b : Addr) : It :=
  ⟨fun i H => ∃ (xs ys : List V) (x y : V), SqK t1 K H a xs ∧ SqK t2 K H b ys ∧ xs[i]? = some x ∧ ys[i]? = some y,
    fun i H v H' => ∃ T o x y, v = .ref T ∧ H T = none ∧ o.dict = none ∧ H' = upd H T (.frz o (.tup [x, y])) ∧ (∀ xs, SqK t1 K H a xs → xs[i]? = some x) ∧ ∀ ys, SqK t2 K H b ys → ys[i]? = some y,
    fun i H => ∃ xs ys : List V, SqK t1 K H a xs ∧ SqK t2 K H b ys ∧ i ≤ xs.length ∧ i ≤ ys.length ∧ (i = xs.length ∨ i = ys.length)⟩
theorem sep {z TI TO i1 i2 a b : Addr} (D : ZipApart z TI TO i1 i2 a b) : ZipSep2 z TI TO i1 i2 [i1, a] [i2, b] where
  TIz := D.TIz
  TOz := D.TOz
  TITO := D.TITO
  TIi1 := D.TIi1
  mem1 := by simp
  zf1 := by
    intro h
    rcases List.mem_cons.mp h with e | h
    · exact D.i1z e.symm
    · exact D.l1z (List.mem_singleton.mp h).symm
  Tf1 := by
    intro h
    rcases List.mem_cons.mp h with e | h
    · exact D.TOi1 e
    · exact D.l1TO (List.mem_singleton.mp h).symm
  TIi2 := D.TIi2
  mem2 := by simp
  zf2 := by
    intro h
    rcases List.mem_cons.mp h with e | h
    · exact D.i2z e.symm
    · exact D.l2z (List.mem_singleton.mp h).symm
  Tf2 := by
    intro h
    rcases List.mem_cons.mp h with e | h
    · exact D.TOi2 e
    · exact D.l2TO (List.mem_singleton.mp h).symm
  sep1_2 := by
    intro h
    rcases List.mem_cons.mp h with e | h
    · exact D.i12 e
    · exact D.l2i1 (List.mem_singleton.mp h).symm
  sep2_1 := by
    intro h
    rcases List.mem_cons.mp h with e | h
    · exact D.i12 e.symm
    · exact D.l1i2 (List.mem_singleton.mp h).symm
theorem turn_zipG {P : Program} {w : World} {K : PySem.W.Frag} {elts : List Expr} {kk : Nat} {tpos : Pos} {t1 t2 : Bool} {a b z TI TO i1 i2 : Addr} (D : ZipApart z TI TO i1 i2 a b) :
    Turn P w K (.Tuple elts kk tpos) (ItzG K t1 t2 a b) [z, TI, TO, i1, i2] z (fun i h => IsZip h z TI TO .none ∧ IsPair h TI (.ref i1) (.ref i2) ∧ (∃ x y, IsPair h TO x y) ∧ StK t1 h i1 a i ∧ StK t2 h i2 b i) where
  mem := by simp
  obj := fun i h st c hc => by
    obtain ⟨hz, hTI, ⟨x, y, hTO⟩, s1, s2⟩ := st
    have e' : c = z ∨ c = TI ∨ c = TO ∨ c = i1 ∨ c = i2 := by simpa using hc
    rcases e' with q | q | q | q | q
    · rw [q]; exact ⟨_, hz, fun v q => nomatch q⟩
    · rw [q]; exact ⟨_, hTI, fun v q => nomatch q⟩
    · rw [q]; exact ⟨_, hTO, fun v q => nomatch q⟩
    · rw [q]; exact st_obj s1
    · rw [q]; exact st_obj s2
  keep := fun i h h' st k => by
    obtain ⟨hz, hTI, ⟨x, y, hTO⟩, h1, h2⟩ := st
    exact ⟨k z (by simp) _ hz, k TI (by simp) _ hTI, ⟨x, y, k TO (by simp) _ hTO⟩, st_at h1 fun o q => k i1 (by simp) o q, st_at h2 fun o q => k i2 (by simp) o q⟩
  item := by
    intro X hP hw hK hc i pins s σ H E I hf st hg
    subst hP hw hK
    obtain ⟨hz, hTI, ⟨x0, y0, hTO⟩, h1, h2⟩ := st
    obtain ⟨xs, ys, x, y, hqx, hqy, hx, hy⟩ := hg
    obtain ⟨its, rv, p⟩ := sqk I hqx
    obtain ⟨its2, rv2, p2⟩ := sqk I hqy
    obtain ⟨u, hu, ru⟩ := rv.get hx
    obtain ⟨u2, hu2, ru2⟩ := rv2.get hy
    have hzl : z < s.heap.objs.size := Heap.lt_size hz
    have hh : X.A.in1.handled = none := I.ok.hd hc
    have D1 := draws (prog := X.prog) (w := X.w) (A := X.A.in1) t1 hh i1 a D.l1i1 its.toArray
    have D2 := draws (prog := X.prog) (w := X.w) (A := X.A.in1) t2 hh i2 b D.l2i2 its2.toArray
    refine wpAny_pyNext_zipD2_item (sep D) D1 D2 hz hTI hTO (i := i) ⟨h1, p⟩ ⟨h2, p2⟩ (by have := (List.getElem?_eq_some_iff.mp hu).1; simpa using this) (by have := (List.getElem?_eq_some_iff.mp hu2).1; simpa using this) fun x1 x2 h' tk e1 e2 z' TO' q1 q2 hT hsz hk => ?_
    have eu : x1 = u := by
      have : its.toArray[i]? = some x1 := e1
      rw [List.getElem?_toArray, hu] at this
      exact (Option.some.inj this).symm
    have eu2 : x2 = u2 := by
      have : its2.toArray[i]? = some x2 := e2
      rw [List.getElem?_toArray, hu2] at this
      exact (Option.some.inj this).symm
    subst eu eu2
    refine ⟨_, rfl, wpAny_letOwnedTupleGo_zip (s := { s with heap := h', toks := tk }) z' fun h'' z'' sb => ?_⟩
    have hT2 : h''.get? s.heap.objs.size = some { cls := .type "tuple", data := .seq #[x1, x2] } := (sb.2 _ (Nat.ne_of_gt hzl)).trans hT
    have new : ObjOk X.prog X.w (upd H s.heap.objs.size (.frz { cls := .type "tuple", data := .seq #[x1, x2] } (.tup [x, y]))) h'' s.heap.objs.size (.frz { cls := .type "tuple", data := .seq #[x1, x2] } (.tup [x, y])) :=
      ⟨hT2, by show 2 ≤ sizeLine; decide, [x1, x2], .cons ru (.cons ru2 .nil), ⟨_, hT2, rfl, _, rfl⟩⟩
    have I1 : Inv X pins σ (upd H s.heap.objs.size (.frz { cls := .type "tuple", data := .seq #[x1, x2] } (.tup [x, y]))) { s with heap := h'', toks := tk } :=
      I.turnedNew (t' := tk) (ch := [z, TI, TO, i1, i2]) (fun c o hb q => (sb.2 c (fun q' => hb (by simp [q']))).trans (hk c o (fun q' => hb (by simp [q'])) (fun q' => hb (by simp [q'])) (fun q' => hb (by simp [q'])) (fun q' => hb (by simp [q'])) q)) hf (Nat.le_refl _) new
    refine ⟨.ref s.heap.objs.size, _, I1, rfl, ⟨_, _, x, y, rfl, I.hok.fresh (Nat.le_refl _), rfl, rfl, fun l hl => by rw [sqk_inj I hl hqx]; exact hx, fun l hl => by rw [sqk_inj I hl hqy]; exact hy⟩, ⟨z'', ?_, ⟨x1, x2, ?_⟩, ?_, ?_⟩, fun c hcm => ?_⟩
    · exact (sb.2 _ D.TIz).trans (hk _ _ D.TIz D.TITO D.TIi1 D.TIi2 hTI)
    · exact (sb.2 _ D.TOz).trans TO'
    · exact st_at q1.1 fun o q => (sb.2 _ D.i1z).trans q
    · exact st_at q2.1 fun o q => (sb.2 _ D.i2z).trans q
    · have hlt : c < s.heap.objs.size := by
        have e' : c = z ∨ c = TI ∨ c = TO ∨ c = i1 ∨ c = i2 := by simpa using hcm
        rcases e' with q | q | q | q | q
        · rw [q]; exact hzl
        · rw [q]; exact Heap.lt_size hTI
        · rw [q]; exact Heap.lt_size hTO
        · rw [q]; obtain ⟨_, e1, _⟩ := st_obj h1; exact Heap.lt_size e1
        · rw [q]; obtain ⟨_, e2, _⟩ := st_obj h2; exact Heap.lt_size e2
      rw [upd_ne (Nat.ne_of_lt hlt)]
      exact (hf c hcm).1
  done := by
    intro X hP hw hK hc i pins s σ H E I hf st hg
    subst hP hw hK
    obtain ⟨hz, hTI, ⟨x0, y0, hTO⟩, h1, h2⟩ := st
    obtain ⟨xs, ys, hqx, hqy, le1, le2, hend⟩ := hg
    obtain ⟨its, rv, p⟩ := sqk I hqx
    obtain ⟨its2, rv2, p2⟩ := sqk I hqy
    have l1 := rv.length
    have l2 := rv2.length
    have hh : X.A.in1.handled = none := I.ok.hd hc
    have D1 := draws (prog := X.prog) (w := X.w) (A := X.A.in1) t1 hh i1 a D.l1i1 its.toArray
    have D2 := draws (prog := X.prog) (w := X.w) (A := X.A.in1) t2 hh i2 b D.l2i2 its2.toArray
    refine wpAny_pyNext_zipD2_end (sep D) D1 D2 hz hTI hTO (i := i) ⟨h1, p⟩ ⟨h2, p2⟩ (by simp; omega) (by simp; omega) (by simp; omega) fun h' tk hk => ⟨rfl, ?_⟩
    exact I.turnedL (t' := tk) (ch := [z, TI, TO, i1, i2]) (fun c o hb q =>
      hk c o (fun q' => hb (by simp [q'])) (fun q' => hb (by simp [q'])) (fun q' => hb (by simp [q'])) (fun q' => hb (by simp [q'])) q) hf
  self := fun A i s Q E st h => wpAny_pyIter_zip st.1 h
def iZipG (K : PySem.W.Frag) (ta : TA) : TI := fun σ H R => ta σ H fun vs H1 => ∃ t1 t2 a b xs ys, vs = [.ref a, .ref b] ∧ SqK t1 K H1 a xs ∧ SqK t2 K H1 b ys ∧ R (ItzG K t1 t2 a b) H1
theorem hk_lt {t : Bool} {h : Heap} {a : Addr} {its : Array Value} (p : HK t h a its) : a < h.objs.size := by
  cases t with
  | true =>
    obtain ⟨_, e, _⟩ := p
    exact Heap.lt_size e
  | false =>
    obtain ⟨_, e, _⟩ := p
    exact Heap.lt_size e
theorem pi_zipG {X : Cx} {e e2 : Expr} {ta : TA} {p pos tpos : Pos} {elts : List Expr} {kk : Nat} (hg : Gl X "zip") (hm : X.mg "zip" = none) (ha : PA X [e, e2] ta)
    (hs : starEach [e, e2] X.env = (false, eval e X.env) :: starEach [e2] X.env := by rfl) (hpl : (backTo pos (starEach [e2] X.env)).any (·.1) = false := by rfl) :
    PI X (.Tuple elts kk tpos) (.Call (.Name "zip" p) [e, e2] [] pos) (iZipG X.K ta) := by
  refine ⟨fun pins s σ H R I h => ?_⟩
  refine Call_ (ld_blt I hg hm PyProof.Rows.boot_zip (PyProof.Rows.callWith_type1 (thn (ha.run pos pins s σ H _ I h) fun us s1 ⟨vs, H1, I1, r1, q1⟩ => ?_) hs hpl))
  obtain ⟨t1, t2, a, b, xs, ys, ex, hqx, hqy, q⟩ := q1
  subst ex
  cases r1 with
  | cons r rr =>
    cases rr with
    | cons r' rr =>
      cases rr
      cases r
      cases r'
      have fresh5 : ∀ c, c ∈ [s1.heap.objs.size + 4, s1.heap.objs.size + 2, s1.heap.objs.size + 3, s1.heap.objs.size, s1.heap.objs.size + 1] → FpOk X pins H1 c := fun c hcm => by
        have e' : c = s1.heap.objs.size + 4 ∨ c = s1.heap.objs.size + 2 ∨ c = s1.heap.objs.size + 3 ∨ c = s1.heap.objs.size ∨ c = s1.heap.objs.size + 1 := by simpa using hcm
        have hle : s1.heap.objs.size ≤ c := by
          rcases e' with z | z | z | z | z
          · rw [z]; exact Nat.le_add_right _ _
          · rw [z]; exact Nat.le_add_right _ _
          · rw [z]; exact Nat.le_add_right _ _
          · rw [z]; exact Nat.le_refl _
          · rw [z]; exact Nat.le_add_right _ _
        exact I1.fpOk hle (I1.hok.fresh hle)
      obtain ⟨its, rv, p1⟩ := sqk I1 hqx
      obtain ⟨its2, rv2, p2⟩ := sqk I1 hqy
      refine zip_begins2 (begins t1 a its.toArray) (begins t2 b its2.toArray) p1 p2 fun h' hz hTI hTO h1 h2 hsz hk => wpAny_pyIter_zip hz ?_
      have I2 : Inv X pins σ H1 { s1 with heap := h' } := I1.kept (t' := s1.toks) hk
      exact ⟨s1.heap.objs.size + 4, [s1.heap.objs.size + 4, s1.heap.objs.size + 2, s1.heap.objs.size + 3, s1.heap.objs.size, s1.heap.objs.size + 1], _, _, H1, rfl, I2, turn_zipG (zipApart_new (hk_lt p1) (hk_lt p2)), ⟨hz, hTI, ⟨_, _, hTO⟩, st0 h1, st0 h2⟩, fresh5, q⟩
end ZG
namespace Pu
open PySem PySem.Spec PyProof.Rows L2 ZG
variable [TabL]
section
variable {X : Cx} {M : Nat → Bool} {F : Fx} {E : L2.St → XK} {σ : L2.St} {ρ : Rho} {H H1 H2 : Hp} {S : Addr → Prop} {K : PySem.W.Frag}
def pairD (z : PyData × PyData) : PyData := .tuple [z.1, z.2]
def zipR (ds : List PyData) : Re (List PyData) := match ds with
  | [d, e] => (itS d).andThen fun xs => (itS e).andThen fun ys => .ok ((xs.zip ys).map pairD)
  | _ => .bad
/-- one of the two sides -/
def Sd (t : Bool) (K : PySem.W.Frag) (H : Hp) (S : Addr → Prop) (a : Addr) (vs : List V) : Prop := match t with | true => TupD K H a vs | false => H a = some (.lst vs) ∧ S a
theorem sd_keep {t : Bool} {a : Addr} {vs : List V} (s : Sd t K H1 S a vs) (kp : Kp (fun a => S a ∧ Nn H1 a) H1 H2) : SqK t K H2 a vs := by
  cases t with
  | true => exact (tupD_keep s fun u q m n => kp a u q (.inr m) n).sq
  | false =>
    obtain ⟨e, hS⟩ := s
    exact SqL.of (kp a _ e (.inl ⟨hS, _, e, by first | assumption | exact fun _ z => nomatch z⟩))
theorem sd_sq {t : Bool} {a : Addr} {vs : List V} (s : Sd t K H1 S a vs) : SqK t K H1 a vs := by
  cases t with
  | true => exact s.sq
  | false => exact SqL.of s.1
theorem walk_z {t1 t2 : Bool} {a b : Addr} {vs us : List V} {xs ys : List PyData} (s1 : Sd t1 K H1 S a vs) (r1 : RpA K H1 S vs xs) (s2 : Sd t2 K H1 S b us) (r2 : RpA K H1 S us ys) : Walks K (fun a => S a ∧ Nn H1 a) (ItzG K t1 t2 a b) ((xs.zip ys).map pairD) H1 := fun H2 kp i => by
  have e1 := sd_keep s1 kp
  have e2 := sd_keep s2 kp
  have l1 := r1.length
  have l2 := r2.length
  refine ⟨fun d hd => ?_, fun hl => ⟨vs, us, e1, e2, ?_⟩⟩
  · rw [List.getElem?_map] at hd
    obtain ⟨⟨dx, dy⟩, hz, rfl⟩ := Option.map_eq_some_iff.mp hd
    obtain ⟨hx, hy⟩ := List.getElem?_zip_eq_some.mp hz
    obtain ⟨v, hv, rv⟩ := r1.thru.get' hx
    obtain ⟨u, hu, ru⟩ := r2.thru.get' hy
    refine ⟨⟨vs, us, v, u, e1, e2, hv, hu⟩, fun x H' y => ?_⟩
    obtain ⟨T, o, x', y', rfl, hT, hdn, rfl, q1, q2⟩ := y
    have g1 := q1 vs e1
    have g2 := q2 us e2
    rw [hv] at g1
    rw [hu] at g2
    cases g1
    cases g2
    have sn : Same H2 (upd H2 T (.frz o (.tup [v, u]))) := same_new hT
    exact ⟨sn, .tup (.inl ⟨o, upd_same, hdn⟩) (.cons ((rv.keep kp fun _ _ x _ _ => x).same sn) (.cons ((ru.keep kp fun _ _ x _ _ => x).same sn) .nil))⟩
  · rw [List.length_map, List.length_zip] at hl
    refine ⟨by omega, by omega, by omega⟩
theorem sd_of {a : V} {d : PyData} {xs : List PyData} (r : Rp K H S a d) (h : itS d = .ok xs) : ∃ t p vs, a = .ref p ∧ Sd t K H S p vs ∧ RpA K H S vs xs := by
  cases r with
  | tup h1 h2 =>
    cases h
    exact ⟨true, _, _, rfl, h1, h2⟩
  | lst h1 h2 h3 =>
    cases h
    exact ⟨false, _, _, rfl, ⟨h1, h2⟩, h3⟩
  | bl _ => cases h
  | non => cases h
  | int _ => cases h
  | str _ => cases h
  | scr _ _ => cases h
  | dic _ _ _ _ => cases h
  | dit _ _ _ _ => cases h
  | dif _ _ _ => cases h
  | rng _ => cases h
  | dct _ _ _ _ => cases h
def iZp (gs : Rho → Re (List PyData)) : Rho → Re (List PyData) := fun ρ => (gs ρ).andThen zipR
theorem di_zip {e e2 : Expr} {gs : Rho → Re (List PyData)} {p pos tpos : Pos} {elts : List Expr} {kk : Nat} (hg : Gl X "zip") (hm : X.mg "zip" = none) (h : DA X M F E false [e, e2] gs)
    (hs : starEach [e, e2] X.env = (false, eval e X.env) :: starEach [e2] X.env := by rfl) (hpl : (backTo pos (starEach [e2] X.env)).any (·.1) = false := by rfl) : DI X M F E (.Tuple elts kk tpos) (.Call (.Name "zip" p) [e, e2] [] pos) (iZp gs) := by
  obtain ⟨t, pa, h⟩ := h
  refine ⟨_, pi_zipG hg hm pa hs hpl, fun σ H ρ er R w => ?_⟩
  unfold iZp at w
  refine h σ H ρ er _ ?_
  cases q : gs ρ with
  | ex c =>
    rw [q] at w
    exact w
  | bad =>
    rw [q] at w
    exact w
  | ok ds =>
    rw [q] at w
    refine fun vs H1 sm r => ?_
    have w : WI X M F E σ ρ H (zipR ds) R := w
    match ds, r, w with
    | [d, e'], .cons r1 (.cons r2 .nil), w =>
      have w : WI X M F E σ ρ H ((itS d).andThen fun xs => (itS e').andThen fun ys => .ok ((xs.zip ys).map pairD)) R := w
      cases q1 : itS d with
      | ok xs =>
        rw [q1] at w
        have w : WI X M F E σ ρ H ((itS e').andThen fun ys => .ok ((xs.zip ys).map pairD)) R := w
        cases q2 : itS e' with
        | ok ys =>
          rw [q2] at w
          obtain ⟨t1, a, vs1, rfl, s1, ra1⟩ := sd_of r1 q1
          obtain ⟨t2, b, vs2, rfl, s2, ra2⟩ := sd_of r2 q2
          exact ⟨t1, t2, a, b, vs1, vs2, rfl, sd_sq s1, sd_sq s2, w _ H1 sm (walk_z s1 ra1 s2 ra2)⟩
        | ex c => cases d <;> cases e' <;> cases q2
        | bad =>
          rw [q2] at w
          exact w.elim
      | ex c => cases d <;> cases q1
      | bad =>
        rw [q1] at w
        exact w.elim
@[simp] theorem ap_iZp (gs : Rho → Re (List PyData)) : iZp gs ρ = (gs ρ).andThen zipR := (rfl)
end
end Pu

set_option Elab.async false
set_option linter.all false
set_option maxRecDepth 100000
set_option maxHeartbeats 2000000
namespace Pu
open PySem PySem.Spec PyProof.Rows L2
variable [TabL]
section
variable {ρ : Rho}
/-- [e(k) for k in items], any target, e(k) any data -/
theorem lc_gen {α : Type} {its : Rho → Re (List PyData)} {vs : List Nat} {g : PyData → Rho → Option Rho} {f : Rho → Re PyData} {as : List α} {e : α → PyData} {ρ1 : α → Rho} {h : α → PyData} (hi : its ρ = .ok (as.map e)) (hl : as.length ≤ 10000) (hg : ∀ k ∈ as, g (e k) (wipeR ρ vs) = some (ρ1 k)) (hf : ∀ k ∈ as, f (ρ1 k) = .ok (h k)) :
    rLc its vs g yesR f ρ = .ok (.list (as.map h)) := by
  unfold rLc
  rw [hi, re_ok, if_pos (by rw [List.length_map]; exact decide_eq_true hl)]
  have key : ∀ ms : List α, (∀ k ∈ ms, k ∈ as) → lcGo g yesR f (wipeR ρ vs) (ms.map e) = some (ms.map h) := by
    intro ms
    induction ms with
    | nil => intro _; rfl
    | cons k ms ih =>
      intro hk
      have hka := hk k List.mem_cons_self
      show (match g (e k) (wipeR ρ vs) with
        | none => none
        | some ρ1 => match yesR ρ1 with
          | .ok true => (match f ρ1 with | .ok x => (match lcGo g yesR f (wipeR ρ vs) (ms.map e) with | some xs => some (x :: xs) | none => none) | _ => none)
          | .ok false => lcGo g yesR f (wipeR ρ vs) (ms.map e)
          | _ => none) = _
      rw [hg k hka]
      show (match f (ρ1 k) with | .ok x => (match lcGo g yesR f (wipeR ρ vs) (ms.map e) with | some xs => some (x :: xs) | none => none) | _ => none) = _
      rw [hf k hka, ih fun k' hk' => hk k' (List.mem_cons_of_mem _ hk')]
      rfl
  show (match lcGo g yesR f (wipeR ρ vs) (as.map e) with | some xs => Re.ok (PyData.list xs) | none => .bad) = _
  rw [key as fun _ h => h]
theorem zip_own {α β : Type} (g : α → β) : ∀ l : List α, l.zip (l.map g) = l.map fun x => (x, g x)
  | [] => rfl
  | x :: l => by
    rw [List.map_cons, List.zip_cons_cons, zip_own g l, List.map_cons]
theorem zip_map_own {α β γ : Type} (f : α → β) (g : α → γ) : ∀ l : List α, (l.map f).zip (l.map g) = l.map fun x => (f x, g x)
  | [] => rfl
  | x :: l => by
    rw [List.map_cons, List.map_cons, List.zip_cons_cons, zip_map_own f g l, List.map_cons]
@[simp] theorem zipR_tl (a b : List Int) : zipR [tI a, lI b] = .ok (((a.map PyData.int).zip (b.map PyData.int)).map pairD) := (rfl)
@[simp] theorem zipR_tt (a b : List Int) : zipR [tI a, tI b] = .ok (((a.map PyData.int).zip (b.map PyData.int)).map pairD) := (rfl)
@[simp] theorem zipR_ll (a b : List Int) : zipR [lI a, lI b] = .ok (((a.map PyData.int).zip (b.map PyData.int)).map pairD) := (rfl)
@[simp] theorem zipR_lt (a b : List Int) : zipR [lI a, tI b] = .ok (((a.map PyData.int).zip (b.map PyData.int)).map pairD) := (rfl)
end
end Pu

set_option Elab.async false
set_option linter.all false
set_option maxRecDepth 100000
set_option maxHeartbeats 2000000
/-! enumerate of a tuple or a list; range with a step; x.extend of a tuple or a list; x = y = e -/
namespace ZG
open PySem PySem.Spec PyProof.Rows L2
open AutoSeq1 (wpAny_loadPart')
set_option maxHeartbeats 1000000 in
theorem meets_enum1 {v : Value} {o : Obj} {H : Heap → Prop} (B : Begins v o H) :
    Meets (Builtin.«enumerate.__new__» ⟨[.type "enumerate", v], []⟩) (fun _ R s => H s.heap ∧
      R (.ok (.ret (.ref (s.heap.push o).objs.size))) { s with heap := (s.heap.push o).push { cls := .type "enumerate", data := .fields #[.none, .bool false, .ref s.heap.objs.size, rawInt 0, .none, .none] } }) :=
  .of_wp fun prog w A R s h => by
    obtain ⟨hp, g, d, tk, os⟩ := s; obtain ⟨h1, h⟩ := h
    have hsub := sub_enumerate
    have q1 : ∀ {A' : Around} {E : Value → Shared → Prop} {Q : Value → Shared → Prop}, Q (.ref hp.objs.size) ⟨hp.push o, g, d, tk, os⟩ → wpAny (model prog w) A' (pyIter v) Q E ⟨hp, g, d, tk, os⟩ :=
      fun q => B.iter prog w _ _ ⟨hp, g, d, tk, os⟩ _ h1 q
    wp_walk using q1
    refine wpAny_stack_any fun st => wpAny_pure ?_
    split
    · rename_i c _ _ _ _ _
      cases (c == Value.type "enumerate")
      · wp_walk using q1
        exact ⟨_, rfl, h⟩
      · wp_walk using q1
        exact ⟨_, rfl, h⟩
    · wp_walk using q1
      exact ⟨_, rfl, h⟩
section
variable {prog : Program} {w : World} {A : Around} {E : Value → Shared → Prop} {s : Shared}
theorem enum_begins1 {v : Value} {o : Obj} {H : Heap → Prop} {Q : Value → Shared → Prop} (B : Begins v o H) (h1 : H s.heap)
    (h : ∀ h', IsEnum h' (s.heap.objs.size + 1) s.heap.objs.size 0 .none → h'.get? s.heap.objs.size = some o → h'.objs.size = s.heap.objs.size + 2 →
      (∀ b o, s.heap.get? b = some o → h'.get? b = some o) → Q (.ref (s.heap.objs.size + 1)) { s with heap := h' }) :
    wpAny (model prog w) A (call (.type "enumerate") [v]) Q E s := by
  refine callType_new F.called_enumerate (by decide) (F.typeCall_enumerate_1 _) (F.newCall_enumerate_1 _) (fun obj => F.args_object_init_2 obj _) F.entry_enumerate_new
    (meets_enum1 B) ⟨h1, ?_⟩
  have hz : (s.heap.push o).objs.size = s.heap.objs.size + 1 := Heap.size_push ..
  show _ ∧ _
  rw [hz]
  have he : IsEnum ((s.heap.push o).push { cls := .type "enumerate", data := .fields #[.none, .bool false, .ref s.heap.objs.size, rawInt 0, .none, .none] }) (s.heap.objs.size + 1) s.heap.objs.size 0 .none := by
    have := Heap.get?_push_size (s.heap.push o) (o := { cls := .type "enumerate", data := .fields #[.none, .bool false, .ref s.heap.objs.size, rawInt 0, .none, .none] }) rfl
    rw [hz] at this; exact this
  refine ⟨⟨_, he, rfl⟩, h _ he (Heap.get?_push_of_some _ (Heap.get?_push_size _ B.free)) (by rw [Heap.size_push, hz]) fun b o x => Heap.get?_push_of_some _ (Heap.get?_push_of_some _ x)⟩
end
/-- the items in new pairs with their numbers -/
def IteG (K : PySem.W.Frag) (t : Bool) (a : Addr) : It :=
  ⟨fun i H => ∃ (xs : List V) (x : V), SqK t K H a xs ∧ xs[i]? = some x,
    fun i H v H' => ∃ T o x, v = .ref T ∧ H T = none ∧ o.dict = none ∧ H' = upd H T (.frz o (.tup [.int (i : Nat), x])) ∧ ∀ xs, SqK t K H a xs → xs[i]? = some x,
    fun i H => ∃ xs : List V, SqK t K H a xs ∧ i = xs.length⟩
theorem turn_enumG {P : Program} {w : World} {K : PySem.W.Frag} {elts : List Expr} {kk : Nat} {tpos : Pos} {t : Bool} {a e it : Addr} (hne : e ≠ it) (hea : e ≠ a) (hai : a ≠ it) :
    Turn P w K (.Tuple elts kk tpos) (IteG K t a) [e, it] e (fun i h => (∃ old, IsEnum h e it ((i : Nat) : Int) old) ∧ StK t h it a i) where
  mem := by simp
  obj := fun i h st b hb => by
    obtain ⟨⟨old, he⟩, hi⟩ := st
    have e' : b = e ∨ b = it := by simpa using hb
    rcases e' with z | z
    · rw [z]; exact ⟨_, he, fun v q => nomatch q⟩
    · rw [z]; exact st_obj hi
  keep := fun i h h' st k => let ⟨⟨old, he⟩, hi⟩ := st; ⟨⟨old, k e (by simp) _ he⟩, st_at hi fun o q => k it (by simp) o q⟩
  item := by
    intro X hP hw hK hc i pins s σ H E I hf st hg
    subst hP hw hK
    obtain ⟨⟨old, he⟩, hit⟩ := st
    obtain ⟨xs, x, hq, hx⟩ := hg
    obtain ⟨its, rv, p⟩ := sqk I hq
    obtain ⟨u, hu, ru⟩ := rv.get hx
    have hel : e < s.heap.objs.size := Heap.lt_size he
    have hil : it < s.heap.objs.size := by obtain ⟨_, q, _⟩ := st_obj hit; exact Heap.lt_size q
    have hh : X.A.in1.handled = none := I.ok.hd hc
    have D1 := draws (prog := X.prog) (w := X.w) (A := X.A.in1) t hh it a hai its.toArray
    refine wpAny_pyNext_enum_itemD D1 he ⟨hit, p⟩ (by have := (List.getElem?_eq_some_iff.mp hu).1; simpa using this) hne (by simp; exact ⟨hne, hea⟩) fun x1 h' tk e1 ho q1 hT hsz hk => ?_
    have eu : x1 = u := by
      have : its.toArray[i]? = some x1 := e1
      rw [List.getElem?_toArray, hu] at this
      exact (Option.some.inj this).symm
    subst eu
    refine ⟨_, rfl, wpAny_letOwnedTupleGo_enum (s := { s with heap := h', toks := tk + 1 }) ho fun h'' he' sb => ?_⟩
    have hT2 : h''.get? s.heap.objs.size = some { cls := .type "tuple", data := .seq #[.int i tk, x1] } := (sb.2 _ (Nat.ne_of_gt hel)).trans hT
    have new : ObjOk X.prog X.w (upd H s.heap.objs.size (.frz { cls := .type "tuple", data := .seq #[.int i tk, x1] } (.tup [.int (i : Nat), x]))) h'' s.heap.objs.size (.frz { cls := .type "tuple", data := .seq #[.int i tk, x1] } (.tup [.int (i : Nat), x])) :=
      ⟨hT2, by show 2 ≤ sizeLine; decide, [.int i tk, x1], .cons ⟨_, rfl⟩ (.cons ru .nil), ⟨_, hT2, rfl, _, rfl⟩⟩
    have I1 : Inv X pins σ (upd H s.heap.objs.size (.frz { cls := .type "tuple", data := .seq #[.int i tk, x1] } (.tup [.int (i : Nat), x]))) { s with heap := h'', toks := tk + 1 } :=
      I.turnedNew (ch := [e, it]) (fun b ob hb q => (sb.2 b (fun z => hb (by simp [z]))).trans (hk b ob (fun z => hb (by simp [z])) (fun z => hb (by simp [z])) q)) hf (Nat.le_refl _) new
    refine ⟨.ref s.heap.objs.size, _, I1, rfl, ⟨_, _, x, rfl, I.hok.fresh (Nat.le_refl _), rfl, rfl, fun ys hy => by rw [sqk_inj I hy hq]; exact hx⟩, ⟨⟨x1, ?_⟩, st_at q1.1 fun o q => (sb.2 it (Ne.symm hne)).trans q⟩, fun b hb => ?_⟩
    · have e1 : ((i + 1 : Nat) : Int) = (i : Int) + 1 := by omega
      rw [e1]; exact he'
    · have hb' : b < s.heap.objs.size := by
        have e' : b = e ∨ b = it := by simpa using hb
        rcases e' with z | z
        · rw [z]; exact hel
        · rw [z]; exact hil
      rw [upd_ne (Nat.ne_of_lt hb')]
      exact (hf b hb).1
  done := by
    intro X hP hw hK hc i pins s σ H E I hf st hg
    subst hP hw hK
    obtain ⟨⟨old, he⟩, hit⟩ := st
    obtain ⟨xs, hq, hx⟩ := hg
    obtain ⟨its, rv, p⟩ := sqk I hq
    obtain ⟨f0, f1, f2, f3, f4, f5⟩ := hf it (by simp)
    have hl := rv.length
    have hh : X.A.in1.handled = none := I.ok.hd hc
    have D1 := draws (prog := X.prog) (w := X.w) (A := X.A.in1) t hh it a hai its.toArray
    have en : i = its.toArray.size := by simp; omega
    subst en
    exact wpAny_pyNext_enum_endD D1 he ⟨hit, p⟩ fun h' eb => ⟨rfl, I.turned (t' := s.toks) (fun b o hb q => eb b o hb q) f0 f1 f3 f4 f5⟩
  self := fun A i s Q E st h => let ⟨⟨_, he⟩, _⟩ := st; wpAny_pyIter_enum he h
def iEnumG (K : PySem.W.Frag) (ta : TA) : TI := fun σ H R => ta σ H fun vs H1 => ∃ t a xs, vs = [.ref a] ∧ SqK t K H1 a xs ∧ R (IteG K t a) H1
theorem pi_enumG {X : Cx} {e : Expr} {ta : TA} {p pos tpos : Pos} {elts : List Expr} {kk : Nat} (hg : Gl X "enumerate") (hm : X.mg "enumerate" = none) (ha : PA X [e] ta) (hs : starEach [e] X.env = [(false, eval e X.env)] := by rfl) :
    PI X (.Tuple elts kk tpos) (.Call (.Name "enumerate" p) [e] [] pos) (iEnumG X.K ta) := by
  refine ⟨fun pins s σ H R I h => ?_⟩
  refine Call_ (ld_blt I hg hm boot_enumerate (PyProof.Rows.callWith_type1 (thn (ha.run pos pins s σ H _ I h) fun us s1 ⟨vs, H1, I1, r1, q1⟩ => ?_) hs rfl))
  obtain ⟨t, a, xs, ex, hq, q⟩ := q1
  subst ex
  cases r1 with
  | cons r rr =>
    cases rr
    cases r
    obtain ⟨its, rv, p1⟩ := sqk I1 hq
    have hlt := hk_lt p1
    refine enum_begins1 (begins t a its.toArray) p1 fun h' he hit hsz hk => wpAny_pyIter_enum he ?_
    have I2 : Inv X pins σ H1 { s1 with heap := h' } := I1.kept (t' := s1.toks) hk
    refine ⟨s1.heap.objs.size + 1, [s1.heap.objs.size + 1, s1.heap.objs.size], _, _, H1, rfl, I2, turn_enumG (Nat.succ_ne_self _) (Nat.ne_of_gt (Nat.lt_succ_of_lt hlt)) (Nat.ne_of_lt hlt), ⟨⟨.none, he⟩, st0 hit⟩, fun b hb => ?_, q⟩
    have e' : b = s1.heap.objs.size + 1 ∨ b = s1.heap.objs.size := by simpa using hb
    have hle : s1.heap.objs.size ≤ b := by
      rcases e' with z | z
      · rw [z]; exact Nat.le_add_right _ _
      · rw [z]; exact Nat.le_refl _
    exact I1.fpOk hle (I1.hok.fresh hle)
/-- x.extend of a tuple -/
theorem extend_tup (l : Addr) (items : Array Value) (n : Nat) (b : Addr) (items2 : Array Value) (n2 : Nat) (dct : Option Addr) (sl : Array (Option Value)) (hs0 : ¬(!items.isEmpty && Builtin.List.listTooLong (items.size + items2.size)) = true) (hs1 : items.size ≤ sizeLine) (hs2 : items.size + items2.size ≤ sizeLine + 1) :
    Meets (Builtin.«list.extend» ⟨[.ref l, .ref b], []⟩) (fun _ R s => s.heap.get? l = some { cls := .type "list", dict := none, data := .seq items n, slots := #[] } ∧ s.heap.get? b = some { cls := .type "tuple", dict := dct, data := .seq items2 n2, slots := sl } ∧ R (.ok (.ret Value.none)) { s with heap := s.heap.update l (Obj.mapSeq fun x => x ++ items2), toks := s.toks }) :=
  .of_wp fun prog w A R s h => by
    obtain ⟨hp, g, d, tk, os⟩ := s; obtain ⟨hl, hb, h⟩ := h; have f1 := AutoSeq1.idx_int; have f2 := AutoSeq1.sub_tuple_tuple; have f3 := AutoSeq1.sub_list_list; have f4 := AutoSeq1.sub_tuple_list; have f5 := AutoSeq1.sub_list_tuple;
    have hz' : (items ++ items2).size ≤ sizeLine + 1 := by rw [Array.size_append]; exact hs2
    wp_walk using (wpAny_updateSeq hl rfl (hz := hs1) (_hz' := hz')), wpAny_loadPart' hl, wpAny_loadPart' hb; exact ⟨_, rfl, h⟩
def rExtendT (K : PySem.W.Frag) : V → List V → Hp → VK → Prop := fun x vs H Q => ∃ l b xs zs, x = .ref l ∧ vs = [.ref b] ∧ H l = some (.lst xs) ∧ SqT K H b zs ∧ xs.length + zs.length ≤ sizeLine ∧ Q .non (upd H l (.lst (xs ++ zs)))
theorem mt_extendT {X : Cx} : MtM X "list.extend" (rExtendT X.K) := by
  intro pins s σ H x vs v us Q I rx rv h
  obtain ⟨l, b, xs, zs, rfl, rfl, hH, hB, hz, q⟩ := h
  cases rx
  obtain ⟨u, rfl, ru⟩ := rv.one
  cases ru
  obtain ⟨z, its, n, r, hl, e⟩ := I.lstM hH
  obtain ⟨its2, r2, ⟨⟨c, dct, dt, sl⟩, e2, hc, n2, hd⟩, z2⟩ := I.tuple hB
  replace hc : c = .type "tuple" := hc
  replace hd : dt = .seq its2.toArray n2 := hd
  subst hc hd
  have hl2 := r2.length
  have hsz : its.toArray.size + its2.toArray.size ≤ sizeLine := by rw [List.size_toArray, List.size_toArray]; omega
  have hlong : ¬ (!its.toArray.isEmpty && Builtin.List.listTooLong (its.toArray.size + its2.toArray.size)) = true := by
    rw [notLongL hsz, Bool.and_false]
    exact Bool.false_ne_true
  refine call_meets F.slot_list_extend ⟨_, e, rfl⟩ F.entry_list_extend (F.args_list_extend_2 _ _)
    (extend_tup l its.toArray n b its2.toArray n2 dct sl hlong (by rw [List.size_toArray]; omega) (by omega)) ⟨e, e2, ?_⟩
  refine ⟨.non, _, I.lset (its' := its ++ its2) hH e (by simp) (r.append r2) ?_, rfl, q⟩
  rw [List.length_append]
  omega
end ZG
namespace Pu
open PySem PySem.Spec PyProof.Rows L2 ZG
variable [TabL]
section
variable {X : Cx} {M : Nat → Bool} {F : Fx} {E : L2.St → XK} {σ : L2.St} {ρ : Rho} {H H1 H2 : Hp} {S : Addr → Prop} {K : PySem.W.Frag} {la fa lb fb : Bool} {a b : Expr} {f g : Rho → Re PyData} {pos : Pos}
/-! ### enumerate -/
def enuD (ds : List PyData) : List PyData := (List.range ds.length).map fun (i : Nat) => PyData.tuple [.int (i : Int), ds.getD i .none]
theorem enuD_len (ds : List PyData) : (enuD ds).length = ds.length := by
  unfold enuD
  simp
theorem enuD_get {ds : List PyData} {i : Nat} {d : PyData} (h : (enuD ds)[i]? = some d) : ∃ x, ds[i]? = some x ∧ d = .tuple [.int (i : Int), x] := by
  have hi : i < ds.length := by
    have := getSome h
    rwa [enuD_len] at this
  unfold enuD at h
  rw [List.getElem?_map, List.getElem?_range hi] at h
  refine ⟨ds[i], List.getElem?_eq_getElem hi, ?_⟩
  have := Option.some.inj h
  rw [← this]
  show PyData.tuple [PyData.int (i : Int), ds.getD i PyData.none] = _
  rw [List.getD_eq_getElem?_getD, List.getElem?_eq_getElem hi]
  rfl
def enuR (d : PyData) : Re (List PyData) := (itS d).andThen fun xs => .ok (enuD xs)
def enuA (ds : List PyData) : Re (List PyData) := match ds with
  | [d] => enuR d
  | _ => .bad
theorem walk_e {t : Bool} {a : Addr} {vs : List V} {xs : List PyData} (s1 : Sd t K H1 S a vs) (r1 : RpA K H1 S vs xs) : Walks K (fun a => S a ∧ Nn H1 a) (IteG K t a) (enuD xs) H1 := fun H2 kp i => by
  have e1 := sd_keep s1 kp
  have l1 := r1.length
  refine ⟨fun d hd => ?_, fun hl => ⟨vs, e1, ?_⟩⟩
  · obtain ⟨dx, hx, rfl⟩ := enuD_get hd
    obtain ⟨v, hv, rv⟩ := r1.thru.get' hx
    refine ⟨⟨vs, v, e1, hv⟩, fun x H' y => ?_⟩
    obtain ⟨T, o, x', rfl, hT, hdn, rfl, q1⟩ := y
    have g1 := q1 vs e1
    rw [hv] at g1
    cases g1
    have sn : Same H2 (upd H2 T (.frz o (.tup [.int (i : Nat), v]))) := same_new hT
    exact ⟨sn, .tup (.inl ⟨o, upd_same, hdn⟩) (.cons (.int _) (.cons ((rv.keep kp fun _ _ x _ _ => x).same sn) .nil))⟩
  · rw [enuD_len] at hl
    omega
def iEnu (gs : Rho → Re (List PyData)) : Rho → Re (List PyData) := fun ρ => (gs ρ).andThen enuA
theorem di_enum {e : Expr} {gs : Rho → Re (List PyData)} {p pos tpos : Pos} {elts : List Expr} {kk : Nat} (hg : Gl X "enumerate") (hm : X.mg "enumerate" = none) (h : DA X M F E false [e] gs)
    (hs : starEach [e] X.env = [(false, eval e X.env)] := by rfl) : DI X M F E (.Tuple elts kk tpos) (.Call (.Name "enumerate" p) [e] [] pos) (iEnu gs) := by
  obtain ⟨t, pa, h⟩ := h
  refine ⟨_, pi_enumG hg hm pa hs, fun σ H ρ er R w => ?_⟩
  unfold iEnu at w
  refine h σ H ρ er _ ?_
  cases q : gs ρ with
  | ex c =>
    rw [q] at w
    exact w
  | bad =>
    rw [q] at w
    exact w
  | ok ds =>
    rw [q] at w
    refine fun vs H1 sm r => ?_
    have w : WI X M F E σ ρ H (enuA ds) R := w
    match ds, r, w with
    | [d], .cons r1 .nil, w =>
      have w : WI X M F E σ ρ H ((itS d).andThen fun xs => .ok (enuD xs)) R := w
      cases q1 : itS d with
      | ok xs =>
        rw [q1] at w
        obtain ⟨t1, a, vs1, rfl, s1, ra1⟩ := sd_of r1 q1
        exact ⟨t1, a, vs1, rfl, sd_sq s1, w _ H1 sm (walk_e s1 ra1)⟩
      | ex c => cases d <;> cases q1
      | bad =>
        rw [q1] at w
        exact w.elim
@[simp] theorem ap_iEnu (gs : Rho → Re (List PyData)) : iEnu gs ρ = (gs ρ).andThen enuA := (rfl)
@[simp] theorem enuA_t (ds : List PyData) : enuA [.tuple ds] = .ok (enuD ds) := (rfl)
@[simp] theorem enuA_l (ds : List PyData) : enuA [.list ds] = .ok (enuD ds) := (rfl)
/-! ### range(a, b, c) -/
def stepFrom (lo c : Int) (n : Nat) : List PyData := (List.range n).map fun (k : Nat) => PyData.int (lo + (k : Int) * c)
def rg3 (ds : List PyData) : Re (List PyData) := match ds with
  | [.int i, .int j, .int c] => if c ≠ 0 ∧ c.natAbs < 1073741824 ∧ Builtin.Range.small i j c = true ∧ Builtin.Range.rangeSize i j c = ((Builtin.Range.rangeSize i j c).toNat : Int) then .ok (stepFrom i c (Builtin.Range.rangeSize i j c).toNat) else .bad
  | _ => .bad
theorem walk_c {S : Addr → Prop} {lo c : Int} {n : Nat} : Walks K S (Itc lo c n) (stepFrom lo c n) H1 := fun H2 kp i => by
  refine ⟨fun d hd => ?_, fun hl => ?_⟩
  · have hi : i < n := by
      have := getSome hd
      unfold stepFrom at this
      simpa using this
    unfold stepFrom at hd
    rw [List.getElem?_map, List.getElem?_range hi] at hd
    have e := Option.some.inj hd
    subst e
    refine ⟨hi, fun x H' y => ?_⟩
    obtain ⟨rfl, rfl⟩ := y
    exact ⟨Same.refl _, .int _⟩
  · unfold stepFrom at hl
    rw [List.length_map, List.length_range] at hl
    exact Nat.le_of_eq hl.symm
def iR3 (gs : Rho → Re (List PyData)) : Rho → Re (List PyData) := fun ρ => (gs ρ).andThen rg3
theorem di_rg3 {tg : Expr} {c : Expr} {gs : Rho → Re (List PyData)} {pp : Pos} (hg : Gl X "range") (hm : X.mg "range" = none) (ha : DA X M F E la [a, b, c] gs) (hs : starEach [a, b, c] X.env = (false, eval a X.env) :: starEach [b, c] X.env := by rfl) (hpl : (backTo pos (starEach [b, c] X.env)).any (·.1) = false := by rfl) :
    DI X M F E tg (.Call (.Name "range" pp) [a, b, c] [] pos) (iR3 gs) := by
  obtain ⟨t, pa, ha⟩ := ha
  refine ⟨_, pi_range3 hg hm pa hs hpl, fun σ H ρ er R w => ?_⟩
  refine ha σ H ρ er _ (wi_stepA w fun ds vs H1 e sm r w1 => ?_)
  unfold rg3 at w1
  split at w1
  · rename_i i j c
    cases r with
    | cons r1 r2 =>
      cases r1
      cases r2 with
      | cons r2 r3 =>
        cases r2
        cases r3 with
        | cons r3 r4 =>
          cases r3
          cases r4
          split at w1
          · rename_i hc
            exact ⟨i, j, c, _, rfl, hc, w1 _ H1 (Same.refl _) walk_c⟩
          · exact w1.elim
  · exact w1.elim
@[simp] theorem ap_iR3 (g : Rho → Re (List PyData)) : iR3 g ρ = (g ρ).andThen rg3 := (rfl)
/-- every second number -/
theorem rg3_two {m : Nat} (h : m ≤ 100000) : rg3 [.int 0, .int (2 * (m : Int)), .int 2] = .ok ((List.range m).map fun (k : Nat) => PyData.int (2 * (k : Int))) := by
  have e : Builtin.Range.rangeSize 0 (2 * (m : Int)) 2 = (m : Int) := by
    unfold Builtin.Range.rangeSize
    rw [if_pos (by decide)]
    by_cases h0 : m = 0
    · subst h0
      rfl
    · rw [if_pos (by omega)]
      omega
  have s : Builtin.Range.small 0 (2 * (m : Int)) 2 = true := by
    have Ft : ∀ i : Int, -1000000 ≤ i → i ≤ 1000000 → Builtin.Range.rangeFitsLong i = true := fun i h1 h2 => by
      unfold Builtin.Range.rangeFitsLong
      rw [decide_eq_true (by omega), decide_eq_true (by omega)]
      rfl
    have q : ∀ z : Int, z = (m : Int) → (Builtin.Range.rangeFitsLong 0 && Builtin.Range.rangeFitsLong (2 * (m : Int)) && Builtin.Range.rangeFitsLong 2 && Builtin.Range.rangeFitsLong z && (z == 0 || if (2 : Int) > 0 then Builtin.Range.rangeFitsLong (2 * (m : Int) + (2 - 1)) else Builtin.Range.rangeFitsLong (2 * (m : Int) + (2 + 1)))) = true := fun z hz => by
      rw [if_pos (by decide), Ft 0 (by omega) (by omega), Ft (2 * (m : Int)) (by omega) (by omega), Ft 2 (by omega) (by omega), Ft z (by omega) (by omega), Ft (2 * (m : Int) + (2 - 1)) (by omega) (by omega), Bool.or_true]
      rfl
    exact q _ e
  have hc : (2 : Int) ≠ 0 ∧ (2 : Int).natAbs < 1073741824 ∧ Builtin.Range.small 0 (2 * (m : Int)) 2 = true ∧ Builtin.Range.rangeSize 0 (2 * (m : Int)) 2 = ((Builtin.Range.rangeSize 0 (2 * (m : Int)) 2).toNat : Int) := ⟨by decide, by decide +kernel, s, by rw [e, Int.toNat_natCast]⟩
  have g : rg3 [.int 0, .int (2 * (m : Int)), .int 2] = if (2 : Int) ≠ 0 ∧ (2 : Int).natAbs < 1073741824 ∧ Builtin.Range.small 0 (2 * (m : Int)) 2 = true ∧ Builtin.Range.rangeSize 0 (2 * (m : Int)) 2 = ((Builtin.Range.rangeSize 0 (2 * (m : Int)) 2).toNat : Int) then .ok (stepFrom 0 2 (Builtin.Range.rangeSize 0 (2 * (m : Int)) 2).toNat) else .bad := rfl
  rw [g, if_pos hc, e, Int.toNat_natCast]
  have q : stepFrom 0 2 m = (List.range m).map fun (k : Nat) => PyData.int (2 * (k : Int)) := by
    unfold stepFrom
    refine List.map_congr_left fun k _ => ?_
    have : (0 : Int) + (k : Int) * 2 = 2 * (k : Int) := by omega
    rw [this]
  rw [q]
/-! ### x.extend(e) -/
def sExt (i : Nat) (lk : Bool) (f : Rho → Re PyData) : Rho → Sr := fun ρ => match getL ρ i with
  | some ds => (f ρ).st ρ fun d => (match d with
    | .tuple es => if okLen (ds.length + es.length) = true ∧ (lk = true → imm d = true) then .nx (ρ.set i (some (.list (ds ++ es)))) else .bad
    | _ => .bad)
  | none => .bad
theorem ds_ext {i : Nat} {x : Str} {p1 p2 p3 : Pos} (m : M i = true) (h : DE X M F E la fa a f) (hN : X.N[i]? = some x := by rfl) (hv : Vis X.env.scope x := by first | exact Or.inl rfl | exact Or.inr (Or.inl rfl) | exact Or.inr (Or.inr rfl)) (hd : (x == ("__debug__" : Str)) = false := by decide)
    (hcd : (x == ("__classdict__" : Str)) = false := by decide)
    (hs : swapsWith (.Call (.Attribute (.Name x p1) "extend" p2) [a] [] p3) none pos.line X.env = pure false := by rfl) (hbase : attributeBase (.Name x p1) "extend" X.env (eval (.Name x p1) X.env) = eval (.Name x p1) X.env := by rfl)
    (hfew : ((backTo p3 (starEach (a :: []) X.env)).all (fun x => !x.1) && (backToKw p3 (keywordEach [] X.env)).all (fun x => x.1.isSome)
      && decide ((a :: ([] : List Expr)).length + ([] : List Keyword).length + (if ([] : List Keyword).isEmpty then 0 else 1) < 30)) = true := by rfl)
    (hline : (p2.endLine == p3.line) = true := by rfl) (hst : starEach (a :: []) X.env = (false, eval a X.env) :: starEach [] X.env := by rfl) (hplain : (backTo p3 (starEach [] X.env)).any (·.1) = false := by rfl) :
    DS X M F E (.Expr (.Call (.Attribute (.Name x p1) "extend" p2) [a] [] p3) pos) (sExt i la f) := by
  obtain ⟨t, pa, h⟩ := h
  refine ⟨_, ps_expr (pe_bm PySem.F.plainAttrs_list PySem.F.slot_list_extend PySem.F.type_list_extend mt_extendT (pe_var hN hv hd hcd) (pa_cons pa pa_nil hst) hbase hfew hline hst hplain) hs, fun σ H ρ er D w => ?_⟩
  unfold sExt at w
  cases hl : getL ρ i with
  | none =>
    rw [hl] at w
    exact w.elim
  | some ds =>
    rw [hl] at w
    obtain ⟨pp, xs, hs', hx, rx⟩ := er.lst m hl
    refine ⟨.ref pp, hs', sq_l hx, h σ H ρ er _ (ws_step er w fun d v H1 e sm r _ w1 => ?_)⟩
    cases r with
    | tup h1 h2 =>
      rename_i b zs es _
      have w1 : WS X M F E σ H1 ρ (if okLen (ds.length + es.length) = true ∧ (la = true → imm (.tuple es) = true) then .nx (ρ.set i (some (.list (ds ++ es)))) else .bad) D := w1
      by_cases hc : okLen (ds.length + es.length) = true ∧ (la = true → imm (.tuple es) = true)
      · rw [if_pos hc] at w1
        have er1 := er.same sm
        have hx1 := sm _ _ hx
        have hz : xs.length + zs.length ≤ sizeLine := by
          have := of_decide_eq_true hc.1
          rw [rx.length, h2.length]
          exact Nat.le_trans this (by decide)
        have r2 : RpA X.K H1 (RS M F σ ρ false) zs es := by
          cases la with
          | false => exact h2
          | true => exact h2.noAddr (imm_tup.symm.trans (hc.2 rfl))
        obtain ⟨er2, ev2⟩ := er1.putL m hl hs' hx1 ((rx.same sm).append r2)
        exact ⟨pp, _, xs, zs, rfl, rfl, hx1, h1.sq, hz, w1 σ _ er2 ev2⟩
      · rw [if_neg hc] at w1
        exact w1.elim
    | bl _ => exact w1.elim
    | non => exact w1.elim
    | int _ => exact w1.elim
    | str _ => exact w1.elim
    | lst _ _ _ => exact w1.elim
    | scr _ _ => exact w1.elim
    | dic _ _ _ _ => exact w1.elim
    | dit _ _ _ _ => exact w1.elim
    | dif _ _ _ => exact w1.elim
    | rng _ => exact w1.elim
    | dct _ _ _ _ => exact w1.elim
/-! ### x = y = e -/
def sSet2 (i j : Nat) (lk : Bool) (f : Rho → Re PyData) : Rho → Sr := fun ρ => (f ρ).st ρ fun d => if lk = true → imm d = true then .nx ((ρ.set i (some d)).set j (some d)) else .bad
theorem ds_set2 {i j : Nat} {x y : Str} {p1 p2 : Pos} (m : M i = false) (mj : M j = false) (hN : X.N.Nodup) (h : DE X M F E la fa a f) (hi : X.N[i]? = some x := by rfl) (hj : X.N[j]? = some y := by rfl) (hx : Loc X.env.scope x := by first | exact Or.inl rfl | exact Or.inr rfl) (hy : Loc X.env.scope y := by first | exact Or.inl rfl | exact Or.inr rfl)
    (ha : (assignEach [.Name x p1, .Name y p2] X.env).map (·.2) = [assign (.Name x p1) X.env, assign (.Name y p2) X.env] := by rfl) (hw : swappedStores [.Name x p1, .Name y p2] a X.env = pure none := by rfl)
    (hf : X.fn x = true ∨ X.env.scope.names.lookup x = some .local := by first | exact .inl rfl | exact .inr rfl) (hg : X.fn y = true ∨ X.env.scope.names.lookup y = some .local := by first | exact .inl rfl | exact .inr rfl) :
    DS X M F E (.Assign [.Name x p1, .Name y p2] a pos) (sSet2 i j la f) := by
  obtain ⟨t, p, h⟩ := h
  refine ⟨_, ps_asg2 p (pg_name hN hi hx hf) (pg_name hN hj hy hg) ha hw, fun σ H ρ er D w => ?_⟩
  refine h σ H ρ er _ (ws_step er w fun d v H1 e sm r _ w1 => ?_)
  by_cases hd : la = true → imm d = true
  · rw [if_pos hd] at w1
    have r' : Rp X.K H1 (RS M F σ ρ false) v d := by
      cases la with
      | false => exact r
      | true => exact r.noAddr (hd rfl)
    have e1 := (er.same sm).set m r'
    have r2 : Rp X.K H1 (RS M F (σ.set i (some v)) (ρ.set i (some d)) false) v d := by
      rw [rs_set m]
      exact r'
    exact w1 _ H1 (e1.set mj r2) fun a u q n _ => ⟨q, fun o => n ((own_set m).mp ((own_set mj).mp o))⟩
  · rw [if_neg hd] at w1
    exact w1.elim
@[simp] theorem ap_sSet2 (i j : Nat) (f : Rho → Re PyData) : sSet2 i j false f ρ = (f ρ).st ρ fun d => .nx ((ρ.set i (some d)).set j (some d)) := by
  unfold sSet2
  simp
/-- x.extend as data -/
def extR (ρ : Rho) (i : Nat) : Option (List PyData) → Re PyData → Sr
  | some ds, r => r.st ρ fun d => (match d with | .tuple es => if okLen (ds.length + es.length) = true then .nx (ρ.set i (some (.list (ds ++ es)))) else .bad | _ => .bad)
  | none, _ => .bad
@[simp] theorem ap_sExt (i : Nat) (f : Rho → Re PyData) : sExt i false f ρ = extR ρ i (lOf ρ[i]?) (f ρ) := by
  unfold sExt extR
  rw [getL_eq]
  cases lOf ρ[i]? with
  | none => rfl
  | some ds =>
    show (f ρ).st ρ _ = (f ρ).st ρ _
    congr 1
    funext d
    cases d <;> simp
theorem extR_i {i : Nat} {ns es : List Int} (h : ns.length + es.length < 10000) : extR ρ i (some (ns.map PyData.int)) (.ok (tI es)) = .nx (ρ.set i (some (lI (ns ++ es)))) := by
  unfold extR tI
  simp only [st_ok, List.length_map]
  have hk : okLen (ns.length + es.length) = true := decide_eq_true (by omega)
  rw [if_pos hk]
  unfold lI
  rw [List.map_append]
end
end Pu

set_option Elab.async false
set_option linter.all false
set_option maxRecDepth 100000
set_option maxHeartbeats 2000000
/-! equality of nested data of numbers -/
namespace Pu
open PySem PySem.Spec PyProof.Rows L2
variable [TabL]
/-- numbers in tuples and lists, k deep -/
def zok : Nat → PyData → Bool
  | _, .int _ => true
  | 0, _ => false
  | k + 1, .tuple xs => xs.all fun x => zok k x
  | k + 1, .list xs => xs.all fun x => zok k x
  | _, _ => false
theorem zok_lay : ∀ (k : Nat) (d : PyData), zok k d = true → PyData.canLay0 d = true ∧ PyData.depth d ≤ k
  | k, .int i, _ => ⟨rfl, by simp [PyData.depth]⟩
  | 0, .tuple xs, h => by simp [zok] at h
  | 0, .list xs, h => by simp [zok] at h
  | 0, .none, h => by simp [zok] at h
  | 0, .bool _, h => by simp [zok] at h
  | 0, .str _, h => by simp [zok] at h
  | 0, .dict _, h => by simp [zok] at h
  | k + 1, .none, h => by simp [zok] at h
  | k + 1, .bool _, h => by simp [zok] at h
  | k + 1, .str _, h => by simp [zok] at h
  | k + 1, .dict _, h => by simp [zok] at h
  | k + 1, .tuple xs, h => by
    have q : ∀ x ∈ xs, zok k x = true := by simpa [zok] using h
    have ih : ∀ ys : List PyData, (∀ x ∈ ys, zok k x = true) → PyData.canLayAll0 ys = true ∧ PyData.depthAll ys ≤ k := by
      intro ys
      induction ys with
      | nil => intro _; exact ⟨by simp [PyData.canLayAll0], by simp [PyData.depthAll]⟩
      | cons y ys ih =>
        intro hy
        obtain ⟨a1, a2⟩ := zok_lay k y (hy y List.mem_cons_self)
        obtain ⟨b1, b2⟩ := ih fun x hx => hy x (List.mem_cons_of_mem _ hx)
        refine ⟨by simp [PyData.canLayAll0, a1, b1], ?_⟩
        rw [PyData.depthAll]
        omega
    obtain ⟨c1, c2⟩ := ih xs q
    exact ⟨by rw [PyData.canLay0]; exact c1, by rw [PyData.depth]; omega⟩
  | k + 1, .list xs, h => by
    have q : ∀ x ∈ xs, zok k x = true := by simpa [zok] using h
    have ih : ∀ ys : List PyData, (∀ x ∈ ys, zok k x = true) → PyData.canLayAll0 ys = true ∧ PyData.depthAll ys ≤ k := by
      intro ys
      induction ys with
      | nil => intro _; exact ⟨by simp [PyData.canLayAll0], by simp [PyData.depthAll]⟩
      | cons y ys ih =>
        intro hy
        obtain ⟨a1, a2⟩ := zok_lay k y (hy y List.mem_cons_self)
        obtain ⟨b1, b2⟩ := ih fun x hx => hy x (List.mem_cons_of_mem _ hx)
        refine ⟨by simp [PyData.canLayAll0, a1, b1], ?_⟩
        rw [PyData.depthAll]
        omega
    obtain ⟨c1, c2⟩ := ih xs q
    exact ⟨by rw [PyData.canLay0]; exact c1, by rw [PyData.depth]; omega⟩
theorem zok_shaped {k : Nat} {d : PyData} (h : zok k d = true) (hk : k ≤ 64) : SeqAt.shaped d = true := by
  obtain ⟨h1, h2⟩ := zok_lay k d h
  unfold SeqAt.shaped
  rw [h1, decide_eq_true (by omega)]
  rfl
theorem zok_eqv : ∀ (k : Nat) (a b : PyData), zok k a = true → zok k b = true → (PyData.eqv a b = true ↔ a = b)
  | k, .int i, .int j, _, _ => by
    rw [PyData.eqv]
    simp
  | k + 1, .int i, .tuple ys, _, _ => by
    rw [PyData.eqv]
    simp
  | k + 1, .int i, .list ys, _, _ => by
    rw [PyData.eqv]
    simp
  | k + 1, .tuple ys, .int i, _, _ => by
    rw [PyData.eqv]
    simp
  | k + 1, .list ys, .int i, _, _ => by
    rw [PyData.eqv]
    simp
  | k + 1, .tuple xs, .list ys, _, _ => by
    rw [PyData.eqv]
    simp
  | k + 1, .list xs, .tuple ys, _, _ => by
    rw [PyData.eqv]
    simp
  | k + 1, .tuple xs, .tuple ys, ha, hb => by
    have qa : ∀ x ∈ xs, zok k x = true := by simpa [zok] using ha
    have qb : ∀ x ∈ ys, zok k x = true := by simpa [zok] using hb
    have ih : ∀ xs ys : List PyData, (∀ x ∈ xs, zok k x = true) → (∀ x ∈ ys, zok k x = true) → (PyData.eqvAll xs ys = true ↔ xs = ys) := by
      intro xs
      induction xs with
      | nil =>
        intro ys _ _
        cases ys <;> simp [PyData.eqvAll]
      | cons x xs ih =>
        intro ys h1 h2
        cases ys with
        | nil => simp [PyData.eqvAll]
        | cons y ys =>
          rw [PyData.eqvAll, Bool.and_eq_true, zok_eqv k x y (h1 x List.mem_cons_self) (h2 y List.mem_cons_self), ih ys (fun z hz => h1 z (List.mem_cons_of_mem _ hz)) fun z hz => h2 z (List.mem_cons_of_mem _ hz), List.cons.injEq]
    rw [PyData.eqv, ih xs ys qa qb]
    simp
  | k + 1, .list xs, .list ys, ha, hb => by
    have qa : ∀ x ∈ xs, zok k x = true := by simpa [zok] using ha
    have qb : ∀ x ∈ ys, zok k x = true := by simpa [zok] using hb
    have ih : ∀ xs ys : List PyData, (∀ x ∈ xs, zok k x = true) → (∀ x ∈ ys, zok k x = true) → (PyData.eqvAll xs ys = true ↔ xs = ys) := by
      intro xs
      induction xs with
      | nil =>
        intro ys _ _
        cases ys <;> simp [PyData.eqvAll]
      | cons x xs ih =>
        intro ys h1 h2
        cases ys with
        | nil => simp [PyData.eqvAll]
        | cons y ys =>
          rw [PyData.eqvAll, Bool.and_eq_true, zok_eqv k x y (h1 x List.mem_cons_self) (h2 y List.mem_cons_self), ih ys (fun z hz => h1 z (List.mem_cons_of_mem _ hz)) fun z hz => h2 z (List.mem_cons_of_mem _ hz), List.cons.injEq]
    rw [PyData.eqv, ih xs ys qa qb]
    simp
  | 0, .tuple xs, _, h, _ => by simp [zok] at h
  | 0, .list xs, _, h, _ => by simp [zok] at h
  | 0, _, .tuple xs, _, h => by simp [zok] at h
  | 0, _, .list xs, _, h => by simp [zok] at h
  | 0, .none, _, h, _ => by simp [zok] at h
  | 0, .bool _, _, h, _ => by simp [zok] at h
  | 0, .str _, _, h, _ => by simp [zok] at h
  | 0, .dict _, _, h, _ => by simp [zok] at h
  | k + 1, .none, _, h, _ => by simp [zok] at h
  | k + 1, .bool _, _, h, _ => by simp [zok] at h
  | k + 1, .str _, _, h, _ => by simp [zok] at h
  | k + 1, .dict _, _, h, _ => by simp [zok] at h
  | 0, _, .none, _, h => by simp [zok] at h
  | 0, _, .bool _, _, h => by simp [zok] at h
  | 0, _, .str _, _, h => by simp [zok] at h
  | 0, _, .dict _, _, h => by simp [zok] at h
  | k + 1, _, .none, _, h => by simp [zok] at h
  | k + 1, _, .bool _, _, h => by simp [zok] at h
  | k + 1, _, .str _, _, h => by simp [zok] at h
  | k + 1, _, .dict _, _, h => by simp [zok] at h
theorem zok_int (k : Nat) (i : Int) : zok k (.int i) = true := by
  cases k <;> rfl
theorem zok_tI (k : Nat) (ns : List Int) : zok (k + 1) (tI ns) = true := by
  unfold tI
  simp [zok, zok_int]
theorem zok_lI (k : Nat) (ns : List Int) : zok (k + 1) (lI ns) = true := by
  unfold lI
  simp [zok, zok_int]
theorem zok_tup {k : Nat} {ds : List PyData} (h : ∀ d ∈ ds, zok k d = true) : zok (k + 1) (.tuple ds) = true := by
  simp only [zok, List.all_eq_true]
  exact h
theorem zok_lst {k : Nat} {ds : List PyData} (h : ∀ d ∈ ds, zok k d = true) : zok (k + 1) (.list ds) = true := by
  simp only [zok, List.all_eq_true]
  exact h
theorem oEq_z (k : Nat) {a b : PyData} (ha : zok k a = true) (hb : zok k b = true) (hk : k ≤ 64) [Decidable (a = b)] : oEq a b = some (.bool (decide (a = b))) := by
  unfold oEq
  rw [if_pos ⟨zok_shaped ha hk, zok_shaped hb hk⟩]
  have h := zok_eqv k a b ha hb
  by_cases e : a = b
  · rw [decide_eq_true e, h.mpr e]
  · rw [decide_eq_false e]
    cases q : PyData.eqv a b with
    | false => rfl
    | true => exact (e (h.mp q)).elim
theorem oNe_z (k : Nat) {a b : PyData} (ha : zok k a = true) (hb : zok k b = true) (hk : k ≤ 64) [Decidable (a = b)] : oNe a b = some (.bool (!decide (a = b))) := by
  unfold oNe
  rw [if_pos ⟨zok_shaped ha hk, zok_shaped hb hk⟩]
  have h := zok_eqv k a b ha hb
  by_cases e : a = b
  · rw [decide_eq_true e, h.mpr e]
  · rw [decide_eq_false e]
    cases q : PyData.eqv a b with
    | false => rfl
    | true => exact (e (h.mp q)).elim
theorem oEq_self (k : Nat) {a : PyData} (ha : zok k a = true) (hk : k ≤ 64) : oEq a a = some (.bool true) := by
  unfold oEq
  rw [if_pos ⟨zok_shaped ha hk, zok_shaped ha hk⟩, (zok_eqv k a a ha ha).mpr rfl]
theorem oNe_self (k : Nat) {a : PyData} (ha : zok k a = true) (hk : k ≤ 64) : oNe a a = some (.bool false) := by
  unfold oNe
  rw [if_pos ⟨zok_shaped ha hk, zok_shaped ha hk⟩, (zok_eqv k a a ha ha).mpr rfl]
  rfl
theorem tI_inj {a b : List Int} (h : tI a = tI b) : a = b := by
  unfold tI at h
  injection h with h
  exact List.map_inj_right (fun x y q => by injection q) |>.mp h
theorem ap_methL_l (o : PyData → List PyData → Option PyData) {ns : List Int} {f : Rho → Re PyData} {g : Rho → Re (List PyData)} {ρ : Rho} (h : f ρ = .ok (lI ns)) : rMethL o f g ρ = (g ρ).andThen fun es => liftO (o (lI ns) es) := by
  unfold rMethL
  rw [h]
  rfl
theorem oIdxL_ii {ns : List Int} {z : Int} : oIdxL (lI ns) [.int z] = (idxZ z ns).map fun (j : Nat) => PyData.int (j : Int) := by
  show ((asInts (ns.map PyData.int)).bind fun ns => (idxZ z ns).map fun (j : Nat) => PyData.int (j : Int)) = _
  rw [asInts_map]
  rfl
end Pu

set_option Elab.async false
set_option linter.all false
set_option maxRecDepth 100000
set_option maxHeartbeats 2000000
/-! any, all; {k: True}; d.update(e); x = e[y.pop()]; is True; xs.count(t) -/
namespace ZG
open PySem PySem.Spec PyProof.Rows L2
def rUpd : V → List V → Hp → VK → Prop := fun x vs H Q => ∃ (d o : Addr) (kvs more : List (L2.Key × V)), x = .ref d ∧ vs = [.ref o] ∧ d ≠ o ∧ H d = some (.dK kvs) ∧ Rd H o (.dK more) ∧ kvs.length + more.length ≤ sizeLine ∧ Q .non (upd H d (.dK (mergeK kvs more)))
theorem mt_upd {X : Cx} : MtR X "dict.update" rUpd := by
  intro pins s σ H x vs v us Q I rx rv h
  obtain ⟨d, o, kvs, more, rfl, rfl, hdo, hd, ho, hz, q⟩ := h
  cases rx
  obtain ⟨u, rfl, ru⟩ := rv.one
  cases ru
  obtain ⟨z1, s1, vs1, rel1, dd1⟩ := dk_of I.hok hd
  obtain ⟨z2, s2, vs2, rel2, dd2⟩ := dk_rd I.hok ho
  refine call_meetsIn PySem.F.slot_dict_update dd1.typeIs PySem.F.entry_dict_update (PySem.F.args_dict_update_2 _ _) (meets_dict_update (mixKind X.prog X.w) d o hdo s2) ⟨vs1, vs2, dd1, dd2, by rw [← rel1.length, ← rel2.length]; exact hz, fun h' dd' do' hs => ?_⟩
  have hl : (mergeK kvs more).length ≤ sizeLine := by have := length_mergeK more kvs; omega
  have he : ∃ q, h'.get? d = some q := let ⟨q, _, _, hq, _⟩ := dd'; ⟨q, hq⟩
  exact ⟨.non, _, d_write I (by rw [hd]; exact True.intro) hs he (dk_new hl s1 (rel2.merge rel1) dd'), rfl, q⟩
theorem mergeK_new : ∀ {more kvs : List (L2.Key × V)}, (∀ p ∈ more, valV kvs p.1 = none) → (more.map (·.1)).Nodup → mergeK kvs more = kvs ++ more
  | [], kvs, _, _ => by
    unfold mergeK
    simp
  | p :: more, kvs, h, nd => by
    have e : mergeK kvs (p :: more) = mergeK (putK kvs p.1 p.2) more := rfl
    rw [List.map_cons, List.nodup_cons] at nd
    have hp := h p List.mem_cons_self
    rw [e, mergeK_new (fun q hq => ?_) nd.2, putK_new p.2 hp, List.append_assoc]
    · rfl
    · rw [valV_put]
      have : q.1 ≠ p.1 := fun z => nd.1 (z ▸ List.mem_map.mpr ⟨q, hq, rfl⟩)
      rw [if_neg this]
      exact h q (List.mem_cons_of_mem _ hq)
/-- xs.count(t), items of any depth -/
def rCountD (K : PySem.W.Frag) : V → List V → Hp → VK → Prop := fun x xs H Q => ∃ (a : Addr) (y : V) (d : PyData) (ds : List PyData), x = V.ref a ∧ xs = [y] ∧ Dp K H (V.ref a) (.list ds) ∧ Dp K H y d ∧
  SeqAt.shaped (.list ds) = true ∧ SeqAt.shaped d = true ∧ Q (.int ((ds.countP fun z => PyData.eqv z d) : Nat)) H
theorem countP_map' {α β : Type} (f : α → β) (p : β → Bool) : ∀ l : List α, (l.map f).countP p = l.countP fun x => p (f x)
  | [] => rfl
  | a :: l => by
    rw [List.map_cons, List.countP_cons, List.countP_cons, countP_map' f p l]
theorem mt_countD {X : Cx} (hu : X.A.units + 65 < cLine) : MtR X "list.count" (rCountD X.K) := by
  intro pins s σ H x xs v us Q I rx rxs h
  obtain ⟨a, y, d, ds, rfl, rfl, hl, hy, sl, sd, q⟩ := h
  cases rx
  cases rxs with
  | cons ry rt =>
    rename_i uy ut
    cases rt
    obtain ⟨bs, r1⟩ := Dp.reads I d y uy hy ry
    have hxs : PyData.canLayAll0 ds = true := SeqAt.canLay_of_shaped sl
    have hroom : X.A.units + 1 + min (PyData.depthAll ds) d.depth < cLine := room_in_shaped sd hu
    cases hl with
    | lst hs ha =>
      obtain ⟨its, rv, ⟨⟨cls, dd, data, sls⟩, n, ho, hc, hdn, hdt⟩, hlen⟩ := I.list hs
      simp only at hc hdt
      subst hc hdt
      obtain ⟨as, h4⟩ := Dp.readsAll I ds _ its ha rv
      have hmap : its.map (SeqAt.readOf s.heap) = ds := SeqAt.readsAll_map ds its as hxs h4
      refine call_meets PySem.F.slot_list_count ⟨_, ho, rfl⟩ PySem.F.entry_list_count (PySem.F.args_list_count_2 _ _)
        (SeqAt.list_countAt a its.toArray n dd sls uy (fun u => PyData.eqv (SeqAt.readOf s.heap u) d)) ⟨ho, SeqAt.items_eqAt (vs := its.toArray) (show ReadsAll s.heap its.toArray.toList ds as from h4) r1 hxs (SeqAt.canLay_of_shaped sd) hroom, ?_⟩
      have ec : its.toArray.toList.countP (fun u => PyData.eqv (SeqAt.readOf s.heap u) d) = ds.countP fun z => PyData.eqv z d := by
        rw [← hmap, countP_map']
      refine ⟨.int ((ds.countP fun z => PyData.eqv z d) : Nat), H, I.tok _, ⟨s.toks, ?_⟩, q⟩
      show Value.int ((its.toArray.toList.countP (fun u => PyData.eqv (SeqAt.readOf s.heap u) d) : Nat) : Int) s.toks = Value.int _ s.toks
      rw [ec]
end ZG
namespace Pu
open PySem PySem.Spec PyProof.Rows L2 ZG
variable [TabL]
section
variable {X : Cx} {M : Nat → Bool} {F : Fx} {E : L2.St → XK} {σ : L2.St} {ρ : Rho} {H H1 H2 : Hp} {S : Addr → Prop} {K : PySem.W.Frag} {la fa lb fb : Bool} {a b : Expr} {f g : Rho → Re PyData} {pos : Pos}
/-! ### any, all -/
def asBools : List PyData → Option (List Bool)
  | [] => some []
  | .bool b :: ds => (asBools ds).map (b :: ·)
  | _ :: _ => none
theorem asBools_map : ∀ bs : List Bool, asBools (bs.map PyData.bool) = some bs
  | [] => rfl
  | b :: bs => by
    rw [List.map_cons]
    show (asBools (bs.map PyData.bool)).map (b :: ·) = _
    rw [asBools_map bs]
    rfl
theorem asBools_eq : ∀ {ds : List PyData} {bs : List Bool}, asBools ds = some bs → ds = bs.map PyData.bool
  | [], bs, h => by
    cases h
    rfl
  | .bool b :: ds, bs, h => by
    obtain ⟨cs, e, rfl⟩ := Option.map_eq_some_iff.mp h
    rw [asBools_eq e]
    rfl
  | .none :: _, _, h => by cases h
  | .int _ :: _, _, h => by cases h
  | .str _ :: _, _, h => by cases h
  | .list _ :: _, _, h => by cases h
  | .tuple _ :: _, _, h => by cases h
  | .dict _ :: _, _, h => by cases h
theorem RpA.of_bools : ∀ {bs : List Bool} {vs : List V}, RpA K H S vs (bs.map PyData.bool) → vs = bs.map V.bl
  | [], _, .nil => rfl
  | b :: bs, _, .cons h1 h2 => by
    cases h1
    rw [RpA.of_bools h2]
    rfl
def bAny : List PyData → Option PyData := fun ds => match ds with | [.list xs] => (asBools xs).map fun bs => .bool (bs.any id) | _ => none
def bAll : List PyData → Option PyData := fun ds => match ds with | [.list xs] => (asBools xs).map fun bs => .bool (bs.all id) | _ => none
theorem s_any : SemL K (rAny K) false bAny := fun S H xs ds z Q new r q k => by
  unfold bAny at q
  split at q
  · rename_i ys
    obtain ⟨bs, e, rfl⟩ := Option.map_eq_some_iff.mp q
    cases r with
    | cons r1 r2 =>
      cases r2
      cases r1 with
      | lst h1 s1 r1 =>
        rw [asBools_eq e] at r1
        rw [RpA.of_bools r1] at h1
        exact ⟨_, bs, rfl, SqL.of h1, k _ H (Same.refl H) (.bl _) fun z => nomatch z⟩
  · cases q
theorem s_all : SemL K (rAll K) false bAll := fun S H xs ds z Q new r q k => by
  unfold bAll at q
  split at q
  · rename_i ys
    obtain ⟨bs, e, rfl⟩ := Option.map_eq_some_iff.mp q
    cases r with
    | cons r1 r2 =>
      cases r2
      cases r1 with
      | lst h1 s1 r1 =>
        rw [asBools_eq e] at r1
        rw [RpA.of_bools r1] at h1
        exact ⟨_, bs, rfl, SqL.of h1, k _ H (Same.refl H) (.bl _) fun z => nomatch z⟩
  · cases q
@[simp] theorem bAny_b (bs : List Bool) : bAny [.list (bs.map PyData.bool)] = some (.bool (bs.any id)) := by
  show (asBools (bs.map PyData.bool)).map _ = _
  rw [asBools_map]
  rfl
@[simp] theorem bAll_b (bs : List Bool) : bAll [.list (bs.map PyData.bool)] = some (.bool (bs.all id)) := by
  show (asBools (bs.map PyData.bool)).map _ = _
  rw [asBools_map]
  rfl
/-! ### is True, is False -/
def oIsB (neg : Bool) : PyData → PyData → Option PyData := fun d e => match d, e with | .bool x, .bool y => some (.bool (if neg then !decide (x = y) else decide (x = y))) | _, _ => none
theorem s_isB : SemB K (fun x y H Q => ∃ a b, x = .bl a ∧ y = .bl b ∧ Q (.bl (decide (a = b))) H) false (oIsB false) := fun S H x y d e z Q new rx ry q k => by
  unfold oIsB at q
  split at q
  · cases q
    cases rx
    cases ry
    exact ⟨_, _, rfl, rfl, k _ H (Same.refl H) (.bl _) fun z => nomatch z⟩
  · cases q
theorem s_isnotB : SemB K (fun x y H Q => ∃ a b, x = .bl a ∧ y = .bl b ∧ Q (.bl (!decide (a = b))) H) false (oIsB true) := fun S H x y d e z Q new rx ry q k => by
  unfold oIsB at q
  split at q
  · cases q
    cases rx
    cases ry
    exact ⟨_, _, rfl, rfl, k _ H (Same.refl H) (.bl _) fun z => nomatch z⟩
  · cases q
@[simp] theorem oIsB_f (x y : Bool) : oIsB false (.bool x) (.bool y) = some (.bool (decide (x = y))) := rfl
@[simp] theorem oIsB_t (x y : Bool) : oIsB true (.bool x) (.bool y) = some (.bool (!decide (x = y))) := rfl
/-! ### {k: v}, v plain data -/
def rDisp (f g : Rho → Re PyData) : Rho → Re PyData := fun ρ => (f ρ).andThen fun d => (g ρ).andThen fun e => match d with | .int n => if imm e = true then .ok (dicD [(.int n, e)]) else .bad | _ => .bad
theorem de_disp (ha : DE X M F E la fa a f) (hb : DE X M F E lb fb b g) : DE X M F E (la || lb) true (.Dict [some a] [b] pos) (rDisp f g) := by
  obtain ⟨ta, pa, ha⟩ := ha
  obtain ⟨tb, pb, hb⟩ := hb
  refine ⟨_, pe_disp (pps_cons pa pb pps_nil) (by rfl) (by rfl) (fun z => by cases z) (Nat.le_of_ble_eq_true rfl), fun σ H ρ er Q w => ?_⟩
  intro p hp
  have s0 : Same H (upd H p (.dK [])) := same_new hp
  have er0 := er.same s0
  unfold rDisp at w
  refine ha σ _ ρ er0 _ ?_
  cases qf : f ρ with
  | ex c =>
    rw [qf] at w
    exact fun C H' m s => w C H' m (s0.trans s)
  | bad =>
    rw [qf] at w
    exact w.elim
  | ok d =>
    rw [qf] at w
    refine fun v H1 s1 r1 _ => ?_
    refine hb σ H1 ρ (er0.same s1) _ ?_
    cases qg : g ρ with
    | ex c =>
      rw [qg] at w
      exact fun C H' m s => w C H' m ((s0.trans s1).trans s)
    | bad =>
      rw [qg] at w
      exact w.elim
    | ok e =>
      rw [qg] at w
      refine fun u H2 s2 r2 _ => ?_
      cases r1 with
      | int n =>
        have w : WE X M F E (la || lb) true σ ρ H (if imm e = true then .ok (dicD [(.int n, e)]) else .bad) Q := w
        by_cases c : imm e = true
        · rw [if_pos c] at w
          have h2p : H2 p = some (.dK []) := s2 _ _ (s1 _ _ upd_same)
          have s02 : Same H H2 := (s0.trans s1).trans s2
          have s03 : Same H (upd H2 p (.dK [((Sum.inl n : L2.Key), u)])) := s02.put hp h2p plain_dK
          have ru : ∀ S' : Addr → Prop, Rp X.K (upd H2 p (.dK [((Sum.inl n : L2.Key), u)])) S' u e := fun S' => by
            have r0 : Rp X.K H2 (fun _ => False) u e := r2.noAddr c
            have r3 := r0.keep (S' := fun _ => False) (H' := upd H2 p (.dK [((Sum.inl n : L2.Key), u)])) ⟨fun x o q z _ => by
              rcases z with z | z
              · exact z.elim
              · have : x ≠ p := fun y => by
                  rw [y, h2p] at q
                  cases q
                  exact z trivial
                rw [upd_ne this]
                exact q⟩ fun _ _ z _ _ => z
            exact r3.wide fun _ z => z.elim
          refine ⟨h2p, [((Sum.inl n : L2.Key), u)], rfl, Nat.le_of_ble_eq_true rfl, ?_⟩
          have m : mergeK [] [((Sum.inl n : L2.Key), u)] = [((Sum.inl n : L2.Key), u)] := rfl
          rw [m]
          refine w (.ref p) _ s03 (.dic (ks := [Sum.inl n]) (xs := [u]) (ds := [e]) upd_same ?_ rfl (.cons (ru _) .nil)) fun _ => ⟨p, rfl, hp, .dic (ks := [Sum.inl n]) (xs := [u]) (ds := [e]) upd_same rfl (.cons (ru _) .nil)⟩
          exact er.freshS p hp
        · rw [if_neg c] at w
          exact w.elim
      | bl _ => exact w.elim
      | non => exact w.elim
      | str _ => exact w.elim
      | tup _ _ => exact w.elim
      | lst _ _ _ => exact w.elim
      | scr _ _ => exact w.elim
      | dic _ _ _ _ => exact w.elim
      | dit _ _ _ _ => exact w.elim
      | dif _ _ _ => exact w.elim
      | rng _ => exact w.elim
      | dct _ _ _ _ => exact w.elim
/-! ### x = a new list, whose items hold no address -/
def sSetF (i : Nat) (f : Rho → Re PyData) : Rho → Sr := fun ρ => (f ρ).st ρ fun d => if itemsImm d = true then .nx (ρ.set i (some d)) else .bad
theorem ds_setF {i : Nat} {x : Str} {pos' : Pos} (m : M i = false) (hN : X.N.Nodup) (h : DE X M F E la true a f) (hi : X.N[i]? = some x := by rfl) (hx : Loc X.env.scope x := by first | exact Or.inl rfl | exact Or.inr rfl)
    (hs : swapsWith a (some (.Name x pos')) pos.line X.env = pure false := by rfl) (hw : swappedStores [.Name x pos'] a X.env = pure none := by rfl) (hf : X.fn x = true ∨ X.env.scope.names.lookup x = some .local := by first | exact .inl rfl | exact .inr rfl) :
    DS X M F E (.Assign [.Name x pos'] a pos) (sSetF i f) := by
  obtain ⟨t, p, h⟩ := h
  refine ⟨_, ps_asg p (pg_name hN hi hx hf) hs hw, fun σ H ρ er D w => ?_⟩
  refine h σ H ρ er _ (ws_step er w fun d v H1 e sm r fr w1 => ?_)
  by_cases hd : itemsImm d = true
  · rw [if_pos hd] at w1
    obtain ⟨pp, rfl, hp, ow⟩ := fr rfl
    have r' : Rp X.K H1 (RS M F σ ρ false) (.ref pp) d := (ow.noAddr (S' := RS M F σ ρ false) hd).rp (er.freshS pp hp)
    exact w1 _ H1 ((er.same sm).set m r') fun a u q n _ => ⟨q, fun o => n ((own_set m).mp o)⟩
  · rw [if_neg hd] at w1
    exact w1.elim
@[simp] theorem ap_sSetF (i : Nat) (f : Rho → Re PyData) : sSetF i f ρ = (f ρ).st ρ fun d => if itemsImm d = true then .nx (ρ.set i (some d)) else .bad := rfl
/-! ### d.update(e), e new keys -/
def keysNew (kvs more : List (PyData × PyData)) : Bool := match keysOf more with | some ns => decide ns.Nodup && ns.all (fun n => (lookI kvs n).isNone) | none => false
def sUpd (i : Nat) (f : Rho → Re PyData) : Rho → Sr := fun ρ => match ρ[i]? with
  | some (some dd) => (match kvsOf dd with
    | some kvs => (f ρ).st ρ fun e => (match kvsOf e with
      | some more => if okLen (kvs.length + more.length) = true ∧ keysNew kvs more = true then .nx (ρ.set i (some (dicD (kvs ++ more)))) else .bad
      | none => .bad)
    | none => .bad)
  | _ => .bad
theorem zip_fstK {ks : List L2.Key} {xs : List V} (h : ks.length = xs.length) : (ks.zip xs).map (·.1) = ks := zip_fst ks xs h
theorem upd_run {pp : Addr} {ks ks2 : List L2.Key} {xs xs2 : List V} {ds ds2 : List PyData} (l : ks.length = xs.length) (r : RpA K H S xs ds) (l2 : ks2.length = xs2.length) (r2 : RpA K H S xs2 ds2)
    (h : keysNew ((ks.map kD).zip ds) ((ks2.map kD).zip ds2) = true) : mergeK (ks.zip xs) (ks2.zip xs2) = (ks ++ ks2).zip (xs ++ xs2) := by
  unfold keysNew at h
  split at h
  · rename_i ns e
    rw [Bool.and_eq_true, decide_eq_true_eq] at h
    obtain ⟨nd, hn⟩ := h
    unfold keysOf at e
    rw [zip_fst _ _ (by rw [List.length_map, l2, r2.length])] at e
    have ek := ints_keys (asInts_eq e)
    rw [List.zip_append l]
    refine mergeK_new (fun p hp => ?_) ?_
    · have hp1 : p.1 ∈ ks2 := by
        rw [← zip_fstK l2]
        exact List.mem_map.mpr ⟨p, hp, rfl⟩
      rw [ek] at hp1
      obtain ⟨n, hn', e'⟩ := List.mem_map.mp hp1
      have q := List.all_eq_true.mp hn n hn'
      have lo := look_of n l r
      rw [Option.isNone_iff_eq_none] at q
      rw [q] at lo
      rw [← e']
      exact lo
    · rw [zip_fstK l2, ek]
      exact List.Pairwise.map _ (fun a b h z => h (Sum.inl.inj z)) nd
  · cases h
theorem ds_upd {i : Nat} {x : Str} {p1 p2 p3 : Pos} (m : M i = true) (h : DE X M F E false fa a f) (hN : X.N[i]? = some x := by rfl) (hv : Vis X.env.scope x := by first | exact Or.inl rfl | exact Or.inr (Or.inl rfl) | exact Or.inr (Or.inr rfl)) (hd : (x == ("__debug__" : Str)) = false := by decide)
    (hcd : (x == ("__classdict__" : Str)) = false := by decide)
    (hs : swapsWith (.Call (.Attribute (.Name x p1) "update" p2) [a] [] p3) none pos.line X.env = pure false := by rfl) (hbase : attributeBase (.Name x p1) "update" X.env (eval (.Name x p1) X.env) = eval (.Name x p1) X.env := by rfl)
    (hfew : ((backTo p3 (starEach (a :: []) X.env)).all (fun x => !x.1) && (backToKw p3 (keywordEach [] X.env)).all (fun x => x.1.isSome)
      && decide ((a :: ([] : List Expr)).length + ([] : List Keyword).length + (if ([] : List Keyword).isEmpty then 0 else 1) < 30)) = true := by rfl)
    (hline : (p2.endLine == p3.line) = true := by rfl) (hst : starEach (a :: []) X.env = (false, eval a X.env) :: starEach [] X.env := by rfl) (hplain : (backTo p3 (starEach [] X.env)).any (·.1) = false := by rfl) :
    DS X M F E (.Expr (.Call (.Attribute (.Name x p1) "update" p2) [a] [] p3) pos) (sUpd i f) := by
  obtain ⟨t, pa, h⟩ := h
  refine ⟨_, ps_expr (pe_bm PySem.F.plainAttrs_dict PySem.F.slot_dict_update PySem.F.type_dict_update mt_upd (pe_var hN hv hd hcd) (pa_cons pa pa_nil hst) hbase hfew hline hst hplain) hs, fun σ H ρ er D w => ?_⟩
  unfold sUpd at w
  cases q : ρ[i]? with
  | none =>
    rw [q] at w
    exact w.elim
  | some o =>
    cases o with
    | none =>
      rw [q] at w
      exact w.elim
    | some dd =>
      rw [q] at w
      obtain ⟨pp, sp, _, w0⟩ := er.ow i dd q m
      cases qk : kvsOf dd with
      | none =>
        simp only [qk] at w
        exact w.elim
      | some kvs =>
        simp only [qk] at w
        obtain ⟨pp', ks, xs, ds, sp', hx, l, rr, ek⟩ := er.dicO m q qk
        rw [sp] at sp'
        cases sp'
        refine ⟨.ref pp, sp, .inr (.inr (.inl ⟨rfl, .inl ⟨_, hx⟩⟩)), ?_⟩
        refine h σ H ρ er _ (ws_step er w fun e u H1 e1 s1 r1 _ w1 => ?_)
        have er1 := er.same s1
        have hx1 := s1 _ _ hx
        cases qe : kvsOf e with
        | none =>
          rw [qe] at w1
          exact w1.elim
        | some more =>
          rw [qe] at w1
          have w1 : WS X M F E σ H1 ρ (if okLen (kvs.length + more.length) = true ∧ keysNew kvs more = true then .nx (ρ.set i (some (dicD (kvs ++ more)))) else .bad) D := w1
          by_cases c : okLen (kvs.length + more.length) = true ∧ keysNew kvs more = true
          · rw [if_pos c] at w1
            obtain ⟨a2, ks2, xs2, ds2, rfl, l2, rr2, em, rd2, ne⟩ : ∃ (a2 : Addr) (ks2 : List L2.Key) (xs2 : List V) (ds2 : List PyData), u = .ref a2 ∧ ks2.length = xs2.length ∧ RpA X.K H1 (RS M F σ ρ false) xs2 ds2 ∧ more = (ks2.map kD).zip ds2 ∧ Rd H1 a2 (.dK (ks2.zip xs2)) ∧ pp ≠ a2 := by
              cases r1 with
              | dic h1 h2 h3 h4 =>
                cases qe
                exact ⟨_, _, _, _, rfl, h3, h4, rfl, .inl h1, fun z => h2.2 rfl ⟨i, dd, m, q, z ▸ sp⟩⟩
              | dif h1 h3 h4 =>
                cases qe
                exact ⟨_, _, _, _, rfl, h3, h4, rfl, .inr ⟨_, h1⟩, fun z => by
                  rw [← z, hx1] at h1
                  cases h1⟩
              | scr _ _ => cases qe
              | rng _ => cases qe
              | dct _ _ _ _ => cases qe
              | dit _ _ _ _ => cases qe
              | bl _ => cases qe
              | non => cases qe
              | int _ => cases qe
              | str _ => cases qe
              | tup _ _ => cases qe
              | lst _ _ _ => cases qe
            have rr1 := rr.same s1
            have hl1 := rr1.length
            have hl2 := rr2.length
            have hlen : (ks.zip xs).length + (ks2.zip xs2).length ≤ sizeLine := by
              have := okLen_le c.1
              rw [ek, em, zip_len l hl1, zip_len l2 hl2] at this
              exact this
            have hm := upd_run (pp := pp) l rr1 l2 rr2 (by rw [← ek, ← em]; exact c.2)
            have ed : dicD (kvs ++ more) = .dict ((.bool true, .none) :: ((ks ++ ks2).map kD).zip (ds ++ ds2)) := by
              rw [ek, em, List.map_append, List.zip_append (by rw [List.length_map, l, hl1])]
              rfl
            have rA := rr1.append rr2
            obtain ⟨er3, ev3⟩ := er1.put (o := .dK ((ks ++ ks2).zip (xs ++ xs2))) (d' := dicD (kvs ++ more)) m q sp (by
              rw [ed]
              refine .dic upd_same (by rw [List.length_append, List.length_append, l, l2]) (rA.keep ⟨fun a u qa xa _ => ?_⟩ fun _ _ x _ _ => x)
              rw [upd_ne]
              · exact qa
              · intro za
                subst za
                rcases xa with xa | xa
                · exact xa.2 rfl ⟨i, dd, m, q, sp⟩
                · rw [hx1] at qa
                  cases qa
                  exact xa trivial)
            refine ⟨pp, a2, _, _, rfl, rfl, ne, hx1, rd2, hlen, ?_⟩
            rw [hm]
            exact w1 σ _ er3 ev3
          · rw [if_neg c] at w1
            exact w1.elim
/-! ### x = e[y.pop()] -/
def sIxPop (i j : Nat) (f : Rho → Re PyData) : Rho → Sr := fun ρ => (f ρ).st ρ fun d => match getL ρ j with
  | some es => (match es.getLast? with
    | some y => if i ≠ j then (match oIx d y with | some z => .nx ((ρ.set j (some (.list es.dropLast))).set i (some z)) | none => .bad) else .bad
    | none => .bad)
  | none => .bad
theorem RpA.dropLast {vs : List V} {ds : List PyData} (r : RpA K H S vs ds) : RpA K H S vs.dropLast ds.dropLast := by
  rw [List.dropLast_eq_take, List.dropLast_eq_take, r.length]
  exact r.take _
theorem ds_ixPop {i j : Nat} {x y : Str} {p0 q1 q2 q3 p4 : Pos} (m : M i = false) (mj : M j = true) (hNd : X.N.Nodup) (h : DE X M F E false fa a f) (hi : X.N[i]? = some x := by rfl) (hx : Loc X.env.scope x := by first | exact Or.inl rfl | exact Or.inr rfl)
    (hNy : X.N[j]? = some y := by rfl) (hvy : Vis X.env.scope y := by first | exact Or.inl rfl | exact Or.inr (Or.inl rfl) | exact Or.inr (Or.inr rfl)) (hdy : (y == ("__debug__" : Str)) = false := by decide) (hcdy : (y == ("__classdict__" : Str)) = false := by decide)
    (hbase2 : attributeBase (.Name y q1) "pop" X.env (eval (.Name y q1) X.env) = eval (.Name y q1) X.env := by rfl) (hline2 : (q2.endLine == q3.line) = true := by rfl)
    (hpl : PlainIx (.Call (.Attribute (.Name y q1) "pop" q2) [] [] q3) := by intro _ _; rfl)
    (hs : swapsWith (.Subscript a (.Call (.Attribute (.Name y q1) "pop" q2) [] [] q3) p4) (some (.Name x p0)) pos.line X.env = pure false := by rfl) (hw : swappedStores [.Name x p0] (.Subscript a (.Call (.Attribute (.Name y q1) "pop" q2) [] [] q3) p4) X.env = pure none := by rfl)
    (hf : X.fn x = true ∨ X.env.scope.names.lookup x = some .local := by first | exact .inl rfl | exact .inr rfl) :
    DS X M F E (.Assign [.Name x p0] (.Subscript a (.Call (.Attribute (.Name y q1) "pop" q2) [] [] q3) p4) pos) (sIxPop i j f) := by
  obtain ⟨t, pa, h⟩ := h
  refine ⟨_, ps_asg (pe_ix ix_seq pa (pe_bm0 PySem.F.plainAttrs_list PySem.F.slot_list_pop PySem.F.type_list_pop mt_pop (pe_var hNy hvy hdy hcdy) hbase2 hline2) hpl) (pg_name hNd hi hx hf) hs hw, fun σ H ρ er D w => ?_⟩
  refine h σ H ρ er _ (ws_step er w fun d v H1 e s1 r _ w1 => ?_)
  have er1 := er.same s1
  cases hl2 : getL ρ j with
  | none =>
    rw [hl2] at w1
    exact w1.elim
  | some es =>
    rw [hl2] at w1
    obtain ⟨qq, ys, hs2, hy, ry⟩ := er1.lst mj hl2
    cases hg : es.getLast? with
    | none =>
      simp only [hg] at w1
      exact w1.elim
    | some yd =>
      simp only [hg] at w1
      by_cases hij : i ≠ j
      · rw [if_pos hij] at w1
        have hel : es[es.length - 1]? = some yd := by rw [← List.getLast?_eq_getElem?]; exact hg
        obtain ⟨yv, hyv, ryv⟩ := ry.get' hel
        rw [← ry.length] at hyv
        cases hz : oIx d yd with
        | none =>
          rw [hz] at w1
          exact w1.elim
        | some z =>
          rw [hz] at w1
          obtain ⟨er2, ev2⟩ := er1.putL mj hl2 hs2 hy ry.dropLast
          refine ⟨.ref qq, hs2, sq_l hy, qq, ys, yv, rfl, rfl, hy, hyv, ?_⟩
          have r2 := r.keep (Evo.kp er1 ev2) fun a u x q n => Evo.rs ev2 a u x q n
          have ryv2 := ryv.keep (Evo.kp er1 ev2) fun a u x q n => Evo.rs ev2 a u x q n
          refine s_ix (RS M F σ (ρ.set j (some (.list es.dropLast))) false) _ v yv d yd z _ er2.freshS r2 ryv2 hz fun v' H' s' r' _ => ?_
          have er3 := er2.same s'
          refine w1 _ H' (er3.set m r') (ev2.trans ((Evo.same s').trans fun a u q n _ => ⟨q, fun o => n ((own_set m).mp o)⟩))
      · rw [if_neg hij] at w1
        exact w1.elim
/-! ### xs.count(t) -/
def oCntD : PyData → List PyData → Option PyData := fun d es => match d, es with
  | .list ds, [e] => if SeqAt.shaped (.list ds) = true ∧ SeqAt.shaped e = true then some (.int ((ds.countP fun z => PyData.eqv z e) : Nat)) else none
  | _, _ => none
theorem ru65 {k : Nat} {A : Around} (r : Room k A) : A.units + 65 < cLine := by
  have := r.un
  omega
theorem de_cntL {es : List Expr} {gs : Rho → Re (List PyData)} {p2 : Pos} (hu : X.A.units + 65 < cLine) (ha : DE X M F E la fa a f) (hb : DA X M F E lb (b :: es) gs)
    (hbase : attributeBase a "count" X.env (eval a X.env) = eval a X.env := by rfl)
    (hfew : ((backTo pos (starEach (b :: es) X.env)).all (fun x => !x.1) && (backToKw pos (keywordEach [] X.env)).all (fun x => x.1.isSome)
      && decide ((b :: es).length + ([] : List Keyword).length + (if ([] : List Keyword).isEmpty then 0 else 1) < 30)) = true := by rfl)
    (hline : (p2.endLine == pos.line) = true := by rfl) (hs : starEach (b :: es) X.env = (false, eval b X.env) :: starEach es X.env := by rfl) (hplain : (backTo pos (starEach es X.env)).any (·.1) = false := by rfl) :
    DE X M F E false false (.Call (.Attribute a "count" p2) (b :: es) [] pos) (rMethL oCntD f gs) := by
  obtain ⟨ta, pa, ha⟩ := ha
  obtain ⟨tb, pb, hb⟩ := hb
  refine ⟨_, pe_bm PySem.F.plainAttrs_list PySem.F.slot_list_count PySem.F.type_list_count (mt_countD hu) pa pb hbase hfew hline hs hplain, fun σ H ρ er Q w => ?_⟩
  refine ha σ H ρ er _ (we_step w fun d v H1 e1 s1 r1 _ w1 => ?_)
  have er1 := er.same s1
  cases r1 with
  | lst h1 hS rr =>
    rename_i aa xs ds0 _
    refine ⟨sq_l h1, hb σ H1 ρ er1 _ (we_stepA (lk' := lb) w1 fun ds vs H2 e2 s2 r2 w2 => ?_)⟩
    have h2 := s2 _ _ h1
    have rr2 := rr.same s2
    have w2 : WE X M F E false false σ ρ H2 (liftO (oCntD (.list ds0) ds)) Q := w2
    generalize q : oCntD (.list ds0) ds = oo at w2
    cases oo with
    | none => exact w2.elim
    | some z =>
      unfold oCntD at q
      split at q
      · rename_i ds1 e hh
        cases hh
        obtain ⟨hc, rfl⟩ := if_some q
        cases r2 with
        | cons r2 r3 =>
          cases r3
          have rl : Rp X.K H2 (RS M F σ ρ la) (.ref aa) (.list ds0) := .lst h2 hS rr2
          exact ⟨_, _, e, ds0, rfl, rfl, rl.dp hc.1, r2.dp hc.2, hc.1, hc.2, w2 _ H2 (Same.refl _) (.int _) fun z => nomatch z⟩
      · cases q
  | bl _ => exact w1.elim
  | non => exact w1.elim
  | int _ => exact w1.elim
  | str _ => exact w1.elim
  | tup _ _ => exact w1.elim
  | scr _ _ => exact w1.elim
  | dic _ _ _ _ => exact w1.elim
  | dit _ _ _ _ => exact w1.elim
  | dif _ _ _ => exact w1.elim
  | rng _ => exact w1.elim
  | dct _ _ _ _ => exact w1.elim
end
end Pu

set_option Elab.async false
set_option linter.all false
set_option maxRecDepth 100000
set_option maxHeartbeats 2000000
/-! sorted(d) of any number of whole keys; t in ts, items of any depth; what is not looked at -/
namespace ZG
open PySem PySem.Spec PyProof.Rows L2
theorem call_sortedDL {X : Cx} (hcalm : X.calm = true) : CallR X (.builtin "sorted") (fun xs H Q => ∃ (a : Addr) (kvs : List (L2.Key × V)) (ks : List Int), xs = [.ref a] ∧ Rd H a (.dK kvs) ∧ kvs.map (·.1) = ks.map Sum.inl ∧
    ∀ (ys : List Int) (p : Addr), ys.Perm ks → ys.Pairwise (· ≤ ·) → H p = none → Q (.ref p) (upd H p (.lst (ys.map V.int)))) := by
  intro pins s σ H xs us Q I r q
  obtain ⟨a, kvs, ks, ex, hd, hks, q⟩ := q
  subst ex
  rw [Vals.ref1 r]
  obtain ⟨z, lo, vs, rel, dd⟩ := dk_rd I.hok hd
  obtain ⟨ep, hat⟩ := dd.dictAt
  have hkeys : vs.map (·.1) = ks.map Sum.inl := rel.keys.symm.trans hks
  have hl : vs.length = ks.length := by
    have e := congrArg List.length hkeys
    rw [List.length_map, List.length_map] at e
    exact e
  have h16 : vs.length ≤ sizeLine := by rw [← rel.length]; exact z
  refine Calls.call_function_entry PyProof.Rows.kind_sorted PyProof.Rows.plain_sorted PyProof.Rows.entry_sorted (PyProof.Rows.args_sorted1 _) ?_
  unfold Builtin.«sorted»
  refine wpAny_bind (m := checkCount "sorted" 1 1 _) (wpAny_pure ?_)
  refine wpAny_bind (PySem.W.kdu_collect (A := X.A.in1) (PySem.W.kdl_dict (knd := mixKind X.prog X.w) (kvs := vs) (ep := ep) lo) (I.ok.hd hcalm) hat h16 fun h' tk acc hk hacc => ?_)
  have hal : acc.toList.length = ks.length := by rw [Array.length_toList, hacc.1, hl]
  have hS : IntsAre acc.toList ks := ints_each hal fun j v e => by
    obtain ⟨k, x, e1, e2⟩ := hacc.2 j v (by rw [← Array.getElem?_toList]; exact e)
    have e3 : (vs.map (·.1))[j]? = some k := by rw [List.getElem?_map, e1]; rfl
    rw [hkeys, List.getElem?_map] at e3
    cases e4 : ks[j]? with
    | none => rw [e4] at e3; cases e3
    | some y =>
      rw [e4] at e3
      have e5 : Sum.inl y = k := Option.some.inj e3
      subst e5
      rcases keyIs_shape (show keyIs (Sum.inl y) v = true from e2) with ⟨i, t, ek, ev⟩ | ⟨z, t, ek, ev⟩
      · cases ek
        exact ⟨y, t, rfl, ev⟩
      · cases ek
  have I1 : Inv X pins σ H { s with heap := h', toks := tk } := I.kept hk
  have hz2 : acc.toList.length ≤ sizeLine := by rw [hal, ← hl]; exact h16
  refine wpAny_bind (wpAny_newList ?_ hz2)
  have hoL : (h'.push (seqObj "list" acc.toList.toArray 0)).get? h'.objs.size = some (seqObj "list" acc.toList.toArray 0) := Heap.get?_push_size _ rfl
  show wpAny _ _ _ _ _ { s with heap := h'.push (seqObj "list" acc.toList.toArray 0), toks := tk }
  refine wpAny_bind (wpAny_holding (wpAny_call_entry PyProof.Rows.slot_list_sort ⟨_, hoL, rfl⟩ PyProof.Rows.entry_list_sort
    (SrtO.list_sort_ord (s := { s with heap := h'.push (seqObj "list" acc.toList.toArray 0), toks := tk }) SrtO.swo_int hoL hz2 (fun h2 => SrtO.ints_sortable hS h2) fun out h1 h2 => ⟨_, rfl, ?_⟩) (PyProof.Rows.args_list_sort _)))
  obtain ⟨k1, k2, k3⟩ := SrtO.ints_out hS h1 h2
  obtain ⟨e', he'⟩ := PyProof.Rows.sortedHeap_at (vs := acc.toList) (out := out.toArray) hoL
  have hlen : ((out.map SrtO.iv).map V.int).length ≤ sizeLine := by
    rw [List.length_map, k2.length_eq, ← hl]
    exact h16
  refine wpAny_pure ⟨_, rfl, .ref h'.objs.size, upd H h'.objs.size (.lst ((out.map SrtO.iv).map V.int)), I1.laid (t' := tk) (fun b u e => ?_) (Nat.le_refl _)
    (show ObjOk X.prog X.w _ _ _ (.lst ((out.map SrtO.iv).map V.int)) from ⟨hlen, out, e', vals_of_ints k1, he'⟩), rfl, q _ _ k2 k3 (I1.hok.fresh (Nat.le_refl _))⟩
  have hb : b < h'.objs.size := Heap.lt_size e
  rw [PyProof.Rows.sortedHeap_old (Nat.ne_of_lt hb) (by rw [size_push']; exact Nat.lt_succ_of_lt hb)]
  exact Heap.get?_push_of_some _ e
def rInZ (neg : Bool) (K : PySem.W.Frag) : R2 := fun x y H Q => ∃ d ds, Dp K H x d ∧ (Dp K H y (.list ds) ∨ Dp K H y (.tuple ds)) ∧ SeqAt.shaped d = true ∧ SeqAt.shaped (.list ds) = true ∧ Q (.bl (if neg = true then !ds.any fun z => PyData.eqv z d else ds.any fun z => PyData.eqv z d)) H
theorem op_inZ {X : Cx} (hu : X.A.units + 65 < cLine) : OpR X (compareOp .In) (rInZ false X.K) := by
  intro pins s σ H x y v u Q I rx ry h
  obtain ⟨d, ds, hd, he, sd, se, q⟩ := h
  obtain ⟨as, r1⟩ := Dp.reads I d x v hd rx
  rcases he with he | he
  · obtain ⟨bs, r2⟩ := Dp.reads I (.list ds) y u he ry
    exact SeqAt.in_list_reads r2 r1 (SeqAt.canLay_of_shaped se) (SeqAt.canLay_of_shaped sd) (room_in_shaped sd hu) ⟨.bl _, H, I, rfl, q⟩
  · obtain ⟨bs, r2⟩ := Dp.reads I (.tuple ds) y u he ry
    exact SeqAt.in_tuple_reads r2 r1 (SeqAt.canLay_of_shaped se) (SeqAt.canLay_of_shaped sd) (room_in_shaped sd hu) ⟨.bl _, H, I, rfl, q⟩
theorem op_notInZ {X : Cx} (hu : X.A.units + 65 < cLine) : OpR X (compareOp .NotIn) (rInZ true X.K) := by
  intro pins s σ H x y v u Q I rx ry h
  obtain ⟨d, ds, hd, he, sd, se, q⟩ := h
  obtain ⟨as, r1⟩ := Dp.reads I d x v hd rx
  rcases he with he | he
  · obtain ⟨bs, r2⟩ := Dp.reads I (.list ds) y u he ry
    exact SeqAt.notIn_list_reads r2 r1 (SeqAt.canLay_of_shaped se) (SeqAt.canLay_of_shaped sd) (room_in_shaped sd hu) ⟨.bl _, H, I, rfl, q⟩
  · obtain ⟨bs, r2⟩ := Dp.reads I (.tuple ds) y u he ry
    exact SeqAt.notIn_tuple_reads r2 r1 (SeqAt.canLay_of_shaped se) (SeqAt.canLay_of_shaped sd) (room_in_shaped sd hu) ⟨.bl _, H, I, rfl, q⟩
end ZG
namespace Pu
open PySem PySem.Spec PyProof.Rows L2 ZG
variable [TabL]
section
variable {X : Cx} {M : Nat → Bool} {F : Fx} {E : L2.St → XK} {ρ : Rho} {K : PySem.W.Frag} {H : Hp} {la fa lb fb : Bool} {a b : Expr} {f g : Rho → Re PyData} {pos : Pos}
def bSortL : List PyData → Option PyData := fun ds => match ds with
  | [d] => (kvsOf d).bind fun kvs => (keysOf kvs).bind fun ns => some (.list ((srtZ ns).map PyData.int))
  | _ => none
theorem s_sortL : SemL K (fun xs H Q => ∃ (a : Addr) (kvs : List (L2.Key × V)) (ks : List Int), xs = [.ref a] ∧ Rd H a (.dK kvs) ∧ kvs.map (·.1) = ks.map Sum.inl ∧
    ∀ (ys : List Int) (p : Addr), ys.Perm ks → ys.Pairwise (· ≤ ·) → H p = none → Q (.ref p) (upd H p (.lst (ys.map V.int)))) true bSortL := fun S H xs ds z Q new r q k => by
  unfold bSortL at q
  split at q
  · obtain ⟨kvs, q1, q⟩ := Option.bind_eq_some_iff.mp q
    obtain ⟨ns, q2, q⟩ := Option.bind_eq_some_iff.mp q
    cases q
    cases r with
    | cons r1 r2 =>
      cases r2
      obtain ⟨a, ks, xs, rfl, hr, hk⟩ := dic_in r1 q1 q2
      refine ⟨a, _, ns, rfl, hr, hk, fun ys p hp hs hn => ?_⟩
      have e := srtZ_uniq hp hs
      subst e
      exact k _ _ (same_new hn) (.lst upd_same (new _ hn) (RpA.ints _)) fun _ => ⟨p, rfl, hn, .lst upd_same (RpA.ints _)⟩
  · cases q
def oInZ (neg : Bool) : PyData → PyData → Option PyData := fun d e => match e with
  | .list ds => if SeqAt.shaped d = true ∧ SeqAt.shaped (.list ds) = true then some (.bool (if neg = true then !ds.any fun z => PyData.eqv z d else ds.any fun z => PyData.eqv z d)) else none
  | .tuple ds => if SeqAt.shaped d = true ∧ SeqAt.shaped (.list ds) = true ∧ SeqAt.shaped (.tuple ds) = true then some (.bool (if neg = true then !ds.any fun z => PyData.eqv z d else ds.any fun z => PyData.eqv z d)) else none
  | _ => none
theorem s_inZ (neg : Bool) : SemB K (rInZ neg K) false (oInZ neg) := fun S H x y d e z Q new rx ry q k => by
  unfold oInZ at q
  split at q
  · obtain ⟨h, rfl⟩ := if_some q
    exact ⟨d, _, rx.dp h.1, .inl (ry.dp h.2), h.1, h.2, k _ H (Same.refl H) (.bl _) fun z => nomatch z⟩
  · obtain ⟨h, rfl⟩ := if_some q
    exact ⟨d, _, rx.dp h.1, .inr (ry.dp h.2.2), h.1, h.2.1, k _ H (Same.refl H) (.bl _) fun z => nomatch z⟩
  · cases q
/-- a piece that nothing is said of -/
def rBad : Rho → Re PyData := fun _ => .bad
theorem de_bad {e : Expr} {lk fr : Bool} : DE X M F E lk fr e rBad := ⟨fun _ _ _ => False, ⟨fun _ _ _ _ _ _ h => h.elim⟩, fun _ _ _ _ _ w => w.elim⟩
def sBad : Rho → Sr := fun _ => .bad
theorem ds_bad {st : Stmt} : DS X M F E st sBad := ⟨fun _ _ _ => False, ⟨fun _ _ _ _ _ _ h => h.elim⟩, fun _ _ _ _ _ w => w.elim⟩
end
end Pu

set_option Elab.async false
set_option linter.all false
set_option maxRecDepth 100000
set_option maxHeartbeats 4000000
/-! objects of the program's own classes -/
namespace Pu
open PySem PySem.Spec PyProof.Rows L2
variable [TabL]
/-- an object of the class c as data -/
def insD (c : Str) (ks : List Str) (ds : List PyData) : PyData := .dict ((.bool false, .tuple [.str c, .none]) :: (ks.map PyData.str).zip ds)
def isS (f : Str) : PyData → Bool
  | .str s => decide (s = f)
  | _ => false
def fldO (kvs : List (PyData × PyData)) (f : Str) : Option PyData := (kvs.find? fun p => isS f p.1).map (·.2)
section
variable {X : Cx} {M : Nat → Bool} {F : Fx} {E : L2.St → XK} {la fa lb fb : Bool} {e : Expr} {pos : Pos}
theorem fld_cons (k f : Str) (d : PyData) (kvs : List (PyData × PyData)) : fldO ((.str k, d) :: kvs) f = if k = f then some d else fldO kvs f := by
  unfold fldO
  rw [List.find?_cons]
  by_cases h : k = f
  · rw [if_pos h]
    show Option.map _ (match decide (k = f) with | true => some _ | false => _) = _
    rw [decide_eq_true h]
    rfl
  · rw [if_neg h]
    show Option.map _ (match decide (k = f) with | true => some _ | false => _) = _
    rw [decide_eq_false h]
theorem fld_look {K : PySem.W.Frag} {H : Hp} {S : Addr → Prop} {f : Str} {z : PyData} : ∀ {ks : List Str} {xs : List V} {ds : List PyData}, ks.length = xs.length → RpA K H S xs ds → fldO ((ks.map PyData.str).zip ds) f = some z → ∃ v, List.lookup f (ks.zip xs) = some v ∧ Rp K H S v z
  | [], _, _, _, _, h => by cases h
  | k :: ks, [], _, hl, _, _ => by cases hl
  | k :: ks, x :: xs, _, hl, .cons (d := d) (ds := ds) r rs, h => by
    rw [List.map_cons, List.zip_cons_cons, fld_cons] at h
    rw [List.zip_cons_cons, List.lookup_cons]
    by_cases c : k = f
    · rw [if_pos c] at h
      cases h
      have : (f == k) = true := by rw [c]; exact beq_self_eq_true f
      rw [this]
      exact ⟨x, rfl, r⟩
    · rw [if_neg c] at h
      have : (f == k) = false := beq_eq_false_iff_ne.mpr fun q => c q.symm
      rw [this]
      exact fld_look (by simpa using hl) rs h
theorem fld_none {K : PySem.W.Frag} {H : Hp} {S : Addr → Prop} {f : Str} : ∀ {ks : List Str} {xs : List V} {ds : List PyData}, ks.length = xs.length → RpA K H S xs ds → fldO ((ks.map PyData.str).zip ds) f = none → List.lookup f (ks.zip xs) = none
  | [], _, _, _, _, _ => rfl
  | k :: ks, [], _, hl, _, _ => by cases hl
  | k :: ks, x :: xs, _, hl, .cons (d := d) (ds := ds) r rs, h => by
    rw [List.map_cons, List.zip_cons_cons, fld_cons] at h
    rw [List.zip_cons_cons, List.lookup_cons]
    by_cases c : k = f
    · rw [if_pos c] at h
      cases h
    · rw [if_neg c] at h
      have : (f == k) = false := beq_eq_false_iff_ne.mpr fun q => c q.symm
      rw [this]
      exact fld_none (by simpa using hl) rs h
/-- the fields of an object of the class c -/
def objF (c : Str) : PyData → Option (List (PyData × PyData))
  | .dict ((.bool false, .tuple [.str c', _]) :: kvs) => if c' = c then some kvs else none
  | _ => none
def rFld (c f : Str) (g : Rho → Re PyData) : Rho → Re PyData := fun ρ => (g ρ).andThen fun d => liftO ((objF c d).bind fun kvs => fldO kvs f)
theorem obj_of {K : PySem.W.Frag} {H : Hp} {S : Addr → Prop} {v : V} {d : PyData} {c : Str} {kvs : List (PyData × PyData)} (r : Rp K H S v d) (h : objF c d = some kvs) :
    ∃ (a dx : Addr) (ks : List Str) (xs : List V) (ds : List PyData), v = .ref a ∧ H a = some (.ins (He.ga K c) dx (ks.zip xs)) ∧ ks.length = xs.length ∧ RpA K H S xs ds ∧ kvs = (ks.map PyData.str).zip ds := by
  cases r with
  | @dit a dx c' tag ks xs ds h1 h2 h3 h4 =>
    have h : (if c' = c then some ((ks.map PyData.str).zip ds) else none) = some kvs := h
    by_cases q : c' = c
    · rw [if_pos q] at h
      cases h
      subst q
      exact ⟨a, dx, ks, xs, ds, rfl, h1, h3, h4, rfl⟩
    · rw [if_neg q] at h
      cases h
  | non => cases h
  | bl b => cases h
  | int i => cases h
  | str x => cases h
  | tup _ _ => cases h
  | lst _ _ _ => cases h
  | scr _ _ => cases h
  | dic _ _ _ _ => cases h
  | dif _ _ _ => cases h
  | rng _ => cases h
  | dct _ _ _ _ => cases h
/-- o.f -/
theorem de_fld {c f : Str} {g : Rho → Re PyData} (hC : Cls X.K (He.ga X.K c)) (hN : NoAttr X.K (He.ga X.K c) f) (ha : DE X M F E la fa e g) (hb : attributeBase e f X.env (eval e X.env) = eval e X.env := by rfl) : DE X M F E la false (.Attribute e f pos) (rFld c f g) := by
  obtain ⟨t, pa, ha⟩ := ha
  refine ⟨_, pe_fld pa hb, fun σ H ρ er Q z => ?_⟩
  refine ha σ H ρ er _ (we_step z fun d v H1 _ s r1 _ z1 => ?_)
  cases q : objF c d with
  | none =>
    rw [q] at z1
    exact z1.elim
  | some kvs =>
    rw [q] at z1
    obtain ⟨a, dx, ks, xs, ds, ev, h1, hl, rs, ek⟩ := obj_of r1 q
    subst ek
    cases q2 : fldO ((ks.map PyData.str).zip ds) f with
    | none =>
      have z1 : WE X M F E la false σ ρ H1 (liftO (fldO ((ks.map PyData.str).zip ds) f)) Q := z1
      rw [q2] at z1
      exact z1.elim
    | some y =>
      have z1 : WE X M F E la false σ ρ H1 (liftO (fldO ((ks.map PyData.str).zip ds) f)) Q := z1
      rw [q2] at z1
      obtain ⟨u, lu, ru⟩ := fld_look hl rs q2
      exact ⟨a, _, dx, _, u, ev, h1, hC, hN, lu, z1 u H1 (Same.refl H1) ru fun w => nomatch w⟩
/-- a method that raises nothing -/
structure HasM (P : Program) (w : World) (K : PySem.W.Frag) (mg : Str → Option Value) (base : Heap) (k : Nat) (c m : Str) (ps : List Str) (f : List PyData → Re PyData) : Prop where
  cl : Cls K (He.ga K c)
  ex : ∃ (fA : Addr) (fd : FuncData), FnOk P w K mg base (L2.CX P w) k fA fd ps (spD mg f K) ∧ Meth K (He.ga K c) m fA ∧ Binds K fd ps []
def noEx : Re PyData → Re PyData
  | .ok d => .ok d
  | _ => .bad
def rMth (c m : Str) (ff : List PyData → Re PyData) (g : Rho → Re PyData) (gs : Rho → Re (List PyData)) : Rho → Re PyData := fun ρ => (g ρ).andThen fun d => match objF c d with
  | some kvs => if fldO kvs m = none then (gs ρ).andThen fun ds => noEx (ff (d :: ds)) else .bad
  | none => .bad
theorem passM : Passes (L2.CX X.prog X.w) X fun _ _ _ => False := fun _ _ _ _ _ _ _ c => by
  obtain ⟨_, _, _, _, _, _, _, _, _, _, _, _, z⟩ := c
  exact z.elim
/-- o.m(e, ..) -/
theorem de_meth {c m : Str} {k : Nat} {ps : List Str} {ff : List PyData → Re PyData} {g : Rho → Re PyData} {a : Expr} {es : List Expr} {gs : Rho → Re (List PyData)} {p1 : Pos} {pl : Sem Bool} (h : HasM X.prog X.w X.K X.mg X.base k c m ps ff) (hr : Room k X.A) (ho : DE X M F E la fa e g) (ha : DA X M F E lb (a :: es) gs)
    (he : starEach (a :: es) X.env = (false, eval a X.env) :: starEach es X.env := by rfl) (hpl : (backTo pos (starEach es X.env)).any (·.1) = false := by rfl)
    (hev : eval (.Call (.Attribute e m p1) (a :: es) [] pos) X.env = (do
      let ov ← eval e X.env
      standAt p1.atName
      let __x ← holding [ov] (getMethod ov m pl)
      match __x with
        | (f, first) => callWith pos f first (backTo pos (starEach (a :: es) X.env)) (backToKw pos (keywordEach [] X.env))) := by rfl) :
    DE X M F E (la || lb) false (.Call (.Attribute e m p1) (a :: es) [] pos) (rMth c m ff g gs) := by
  obtain ⟨ta, pa, ho⟩ := ho
  obtain ⟨tb, pb, ha⟩ := ha
  obtain ⟨fA, fd, G, hm, bb⟩ := h.ex
  refine ⟨_, pe_meth (dvs := []) (ds := []) (E := fun _ _ _ => False) pa h.cl hm G hr bb .nil passM pb he hpl hev, fun σ H ρ er Q z => ?_⟩
  refine ho σ H ρ er _ (we_step z fun d v H1 _ s r1 _ z1 => ?_)
  cases q : objF c d with
  | none =>
    rw [q] at z1
    exact z1.elim
  | some kvs =>
    rw [q] at z1
    obtain ⟨ad, dx, ks, xs, ds, ev, h1, hl, rs, ek⟩ := obj_of r1 q
    subst ek
    have z1 : WE X M F E (la || lb) false σ ρ H1 (if fldO ((ks.map PyData.str).zip ds) m = none then (gs ρ).andThen fun ds => noEx (ff (d :: ds)) else .bad) Q := z1
    cases q2 : fldO ((ks.map PyData.str).zip ds) m with
    | some y =>
      rw [q2, if_neg (by simp)] at z1
      exact z1.elim
    | none =>
      rw [q2, if_pos rfl] at z1
      refine ⟨ad, dx, _, ev, h1, fld_none hl rs q2, ?_⟩
      refine ha σ H1 ρ (er.same s) _ (we_stepA z1 fun es' vs H2 _ s2 r2 z2 => ?_)
      refine ⟨d :: es', RS M F σ ρ (la || lb), ?_, ⟨((er.same s).same s2).freshS, ((er.same s).same s2).tab⟩, ?_⟩
      · rw [List.append_nil]
        exact .cons ((r1.wide rs_or1).same s2) (r2.wide rs_or2)
      · cases q3 : ff (d :: es') with
        | ok y =>
          rw [q3] at z2
          exact fun v' H' s' r' => z2 v' H' s' r' fun w => nomatch w
        | ex cc =>
          rw [q3] at z2
          exact z2.elim
        | bad =>
          rw [q3] at z2
          exact z2.elim
/-! ### the fields that __init__ stores -/
/-- the object that __init__ fills, with the address of its own dict -/
def slfD (c : Str) (dx : Addr) (ks : List Str) (ds : List PyData) : PyData := .dict ((.bool false, .tuple [.str c, .int (dx : Nat)]) :: (ks.map PyData.str).zip ds)
def addF (f : Str) (d : PyData) : PyData → PyData
  | .dict kvs => .dict (kvs ++ [(.str f, d)])
  | x => x
def sFldS (c : Str) (i : Nat) (f : Str) (g : Rho → Re PyData) : Rho → Sr := fun ρ => (g ρ).st ρ fun d => match ρ[i]? with
  | some (some dd) => match objF c dd with
    | some kvs => if kvs.length < 1000 ∧ fldO kvs f = none ∧ imm d = true then .nx (ρ.set i (some (addF f d dd))) else .bad
    | none => .bad
  | _ => .bad
theorem putF_new {f : Str} {v : V} : ∀ {l : List (Str × V)}, List.lookup f l = none → putF f v l = l ++ [(f, v)]
  | [], _ => rfl
  | (g, u) :: l, h => by
    have e : putF f v ((g, u) :: l) = if g = f then (g, v) :: l else (g, u) :: putF f v l := rfl
    rw [List.lookup_cons] at h
    have ne : ¬ g = f := fun q => by
      have : (f == g) = true := by rw [q]; exact beq_self_eq_true f
      rw [this] at h
      cases h
    have : (f == g) = false := beq_eq_false_iff_ne.mpr fun q => ne q.symm
    rw [this] at h
    rw [e, if_neg ne, putF_new h]
    rfl
theorem ds_fldS {c : Str} {i : Nat} {x f : Str} {a : Expr} {g : Rho → Re PyData} {p1 p2 : Pos} (hC : Cls X.K (He.ga X.K c)) (hN : NoAttr X.K (He.ga X.K c) f) (m : M i = true) (h : DE X M F E la fa a g) (hNx : X.N[i]? = some x := by rfl) (hv : Vis X.env.scope x := by first | exact Or.inl rfl | exact Or.inr (Or.inl rfl) | exact Or.inr (Or.inr rfl)) (hd : (x == ("__debug__" : Str)) = false := by decide) (hcd : (x == ("__classdict__" : Str)) = false := by decide)
    (hs : swapsWith a (some (.Attribute (.Name x p1) f p2)) pos.line X.env = pure false := by rfl) : DS X M F E (.Assign [.Attribute (.Name x p1) f p2] a pos) (sFldS c i f g) := by
  obtain ⟨ta, pa, h⟩ := h
  refine ⟨_, ps_fld (pe_var hNx hv hd hcd) pa hs, fun σ H ρ er D w => ?_⟩
  refine h σ H ρ er _ (ws_step er w fun d v H1 e1 s1 r1 _ w1 => ?_)
  have er1 := er.same s1
  cases q : ρ[i]? with
  | none =>
    rw [q] at w1
    exact w1.elim
  | some o =>
    cases o with
    | none =>
      rw [q] at w1
      exact w1.elim
    | some dd =>
      rw [q] at w1
      obtain ⟨pp, sp, z0, w0⟩ := er1.ow i dd q m
      refine ⟨.ref pp, sp, ?_⟩
      have w2 : WS X M F E σ H1 ρ (match objF c dd with
        | some kvs => if kvs.length < 1000 ∧ fldO kvs f = none ∧ imm d = true then .nx (ρ.set i (some (addF f d dd))) else .bad
        | none => .bad) D := w1
      clear w1
      cases qk : objF c dd with
      | none =>
        rw [qk] at w2
        exact w2.elim
      | some kvs =>
        rw [qk] at w2
        have w3 : WS X M F E σ H1 ρ (if kvs.length < 1000 ∧ fldO kvs f = none ∧ imm d = true then .nx (ρ.set i (some (addF f d dd))) else .bad) D := w2
        clear w2
        by_cases cc : kvs.length < 1000 ∧ fldO kvs f = none ∧ imm d = true
        · rw [if_pos cc] at w3
          obtain ⟨c1, c2, c3⟩ := cc
          cases w0 with
          | lst e r => cases qk
          | dic e l r => cases qk
          | dct e l r => cases qk
          | @dit dx c' ks xs ds e l r =>
            have qk : (if c' = c then some ((ks.map PyData.str).zip ds) else none) = some kvs := qk
            by_cases ec : c' = c
            · rw [if_pos ec] at qk
              cases qk
              subst ec
              have ln := fld_none l r c2
              have len : (ks.zip xs).length < 1000 := by
                rw [List.length_zip, List.length_map, ← r.length] at c1
                rw [List.length_zip]
                exact c1
              have ez : putF f v (ks.zip xs) = (ks ++ [f]).zip (xs ++ [v]) := by
                rw [putF_new ln, List.zip_append l]
                rfl
              have ed : addF f d (.dict ((.bool false, .tuple [.str c', .int (dx : Nat)]) :: (ks.map PyData.str).zip ds)) = .dict ((.bool false, .tuple [.str c', .int (dx : Nat)]) :: ((ks ++ [f]).map PyData.str).zip (ds ++ [d])) := by
                rw [List.map_append, List.zip_append (by rw [List.length_map, l, r.length])]
                rfl
              have rA := r.append (.cons (r1.noAddr c3) .nil)
              have ndx : dx ≠ pp := fun z => by
                have h2 := e.2
                rw [z, e.1] at h2
                cases h2
              obtain ⟨er3, ev3⟩ := er1.put (o := .ins (He.ga X.K c') dx ((ks ++ [f]).zip (xs ++ [v]))) (d' := addF f d (.dict ((.bool false, .tuple [.str c', .int (dx : Nat)]) :: (ks.map PyData.str).zip ds))) m q sp (by
                rw [ed]
                refine .dit ⟨upd_same, by rw [upd_ne ndx]; exact e.2⟩ (by rw [List.length_append, List.length_append, l]; rfl) (rA.keep ⟨fun a u qa xa _ => ?_⟩ fun _ _ x _ _ => x)
                rw [upd_ne]
                · exact qa
                · intro za
                  subst za
                  rcases xa with xa | xa
                  · exact xa.2 rfl ⟨i, _, m, q, sp⟩
                  · rw [e.1] at qa
                    cases qa
                    exact xa trivial)
              refine ⟨pp, _, dx, _, rfl, e.1, hC, hN, len, ?_⟩
              rw [ez]
              exact w3 σ _ er3 ev3
            · rw [if_neg ec] at qk
              cases qk
        · rw [if_neg cc] at w3
          exact w3.elim
/-! ### objects made -/
/-- what is left of the object at a with its dict at dx, or an error -/
def postI (mg : Str → Option Value) (K : PySem.W.Frag) (c : Str) (a dx : Addr) (H : Hp) (Q : VK) (Ex : XK) : Re PyData → Prop
  | .ok d => ∀ (H' : Hp) (ks : List Str) (xs : List V) (es : List PyData), d = insD c ks es → H' a = some (.ins (He.ga K c) dx (ks.zip xs)) → ks.length = xs.length → (∀ S', RpA K H' S' xs es) → SameX a H H' → Q .non H'
  | .ex cc => ∀ (C : Addr) (H' : Hp), mg cc = some (.ref C) → SameX a H H' → Ex (.ref C) none H'
  | .bad => False
/-- what __init__ says of the object at a with its dict at dx; f: the fields that it leaves, or an error -/
def spI (mg : Str → Option Value) (c : Str) (f : Addr → List PyData → Re PyData) (K : PySem.W.Frag) : Sp := fun vs H Q Ex => ∃ (a dx : Addr) (vs' : List V) (ds : List PyData) (S : Addr → Prop), vs = .ref a :: vs' ∧ H a = some (.ins (He.ga K c) dx []) ∧ H dx = some (.own a) ∧ RpA K H S vs' ds ∧ ((∀ p, H p = none → S p) ∧ LamX.Tabs TabL.T H) ∧ ¬ S a ∧ postI mg K c a dx H Q Ex (f dx ds)
/-- the fields that are left, as the object's data -/
def fin (c : Str) (dx : Addr) : PyData → Re PyData
  | .dict ((.bool false, .tuple [.str c', .int j]) :: kvs) => if c' = c ∧ j = ((dx : Nat) : Int) ∧ (kvs.all fun p => imm p.2) = true then .ok (.dict ((.bool false, .tuple [.str c, .none]) :: kvs)) else .bad
  | _ => .bad
def runI (c : Str) (n m : Nat) (s : Rho → Sr) (dx : Addr) (ds : List PyData) : Re PyData := if ds.length = n then (match s (some (slfD c dx [] []) :: (ds.map some ++ List.replicate (m - (n + 1)) none)) with
  | .nx ρ => (match ρ[0]? with | some (some d) => fin c dx d | _ => .bad)
  | .ex cc _ => .ex cc
  | _ => .bad) else .bad
end
end Pu

set_option Elab.async false
set_option linter.all false
set_option maxRecDepth 100000
set_option maxHeartbeats 4000000
/-! objects made: C(e, ..) -/
namespace Pu
open PySem PySem.Spec PyProof.Rows L2
variable [TabL]
section
variable {P : Program} {w : World} {K : PySem.W.Frag} {mg : Str → Option Value} {base : Heap} {x qual : Str} {params : Arguments} {body : List Stmt} {scope : Scope} {dvs : List V} {kws : List (Str × V)} {fA : Addr} {fd : FuncData}
theorem immAll_of : ∀ {ks : List PyData} {es : List PyData}, ks.length = es.length → ((ks.zip es).all fun p => imm p.2) = true → immAll es = true
  | [], [], _, _ => by rw [immAll]
  | k :: ks, e :: es, hl, h => by
    rw [List.zip_cons_cons, List.all_cons, Bool.and_eq_true] at h
    rw [immAll_cons, h.1, immAll_of (by simpa using hl) h.2]
    rfl
  | [], _ :: _, hl, _ => by cases hl
  | _ :: _, [], hl, _ => by cases hl
theorem init_ok {N ps : List Str} {k n : Nat} {c : Str} (Fd : FunD K x qual params body scope dvs kws fA fd) (S : FnScope N ps scope) (hn : ps.length = n + 1) (M : Nat → Bool) (h0 : M 0 = true) (hM : ∀ i, i < n → M (i + 1) = false) (s : Rho → Sr)
    (hb : ∀ (cdv : Value) (A : Around) (outer : List Env) (sh : Shared) (H : Hp) (Ex : XK), Gd (cxOf (L2.CX P w) P w K mg base N qual scope fA cdv A outer sh H Ex) (fun _ => Ex) k →
      ∀ F : Fx, DSs (cxOf (L2.CX P w) P w K mg base N qual scope fA cdv A outer sh H Ex) M F (fun _ => Ex) body s) :
    FnOk P w K mg base (L2.CX P w) (k + 1) fA fd ps (spI mg c (runI c n N.length s) K) := by
  refine Fd.ok S (fun vs H Q E h => ?_) fun cdv A outer sh H vs Q Ex hr h => ?_
  · obtain ⟨a, dx, vs', ds, Sx, ev, _, _, r, _, _, h⟩ := h
    unfold runI at h
    by_cases hl : ds.length = n
    · rw [ev, List.length_cons, r.length, hl, hn]
    · rw [if_neg hl] at h
      exact h.elim
  · obtain ⟨a, dx, vs', ds, Sx, ev, hA, hD, r, ⟨new, tb⟩, nS, h⟩ := h
    subst ev
    unfold runI at h
    by_cases hl : ds.length = n
    · rw [if_pos hl] at h
      have tk : Takes (cxOf (L2.CX P w) P w K mg base N qual scope fA cdv A outer sh H Ex) (fun cls d σ H => Ex cls d H) := takes_of rfl rfl rfl rfl
      have gd : Gd (cxOf (L2.CX P w) P w K mg base N qual scope fA cdv A outer sh H Ex) (fun _ => Ex) k := ⟨hr, fun σ => passAt tk σ, tk, passes_of rfl, rfl, rfl⟩
      obtain ⟨t, pt, ht⟩ := hb cdv A outer sh H Ex gd ⟨fun p => if p = a then none else H p, fun p => Sx p ∨ p = a⟩
      refine ⟨t, pt, ?_⟩
      have hNl : n + 1 ≤ N.length := by
        have := congrArg List.length S.pre
        rw [List.length_take] at this
        omega
      have r0 : ∀ i d, (ds.map some ++ List.replicate (N.length - (n + 1)) none : Rho)[i]? = some (some d) → i < n ∧ ds[i]? = some d := fun i d q => by
        by_cases hi : i < n
        · rw [List.getElem?_append_left (by rw [List.length_map, hl]; exact hi), List.getElem?_map] at q
          refine ⟨hi, ?_⟩
          cases e : ds[i]? with
          | none =>
            rw [e] at q
            cases q
          | some d' =>
            rw [e] at q
            cases q
            rfl
        · rw [List.getElem?_append_right (by rw [List.length_map, hl]; omega), List.getElem?_replicate] at q
          split at q <;> cases q
      generalize hρ : (some (slfD c dx [] []) :: (ds.map some ++ List.replicate (N.length - (n + 1)) none) : Rho) = ρ0 at h
      have g0 : ρ0[0]? = some (some (slfD c dx [] [])) := by
        rw [← hρ]
        rfl
      have g1 : ∀ i d, ρ0[i + 1]? = some (some d) → i < n ∧ ds[i]? = some d := fun i d q => by
        rw [← hρ, List.getElem?_cons_succ] at q
        exact r0 i d q
      have s0 : (L2.start N (.ref a :: vs'))[0]? = some (some (.ref a)) := start_get rfl
      have only : ∀ i d, ρ0[i]? = some (some d) → M i = true → i = 0 := fun i d q m => by
        cases i with
        | zero => rfl
        | succ i =>
          rw [hM i (g1 i d q).1] at m
          cases m
      have own : ∀ b, OwnA M (L2.start N (.ref a :: vs')) ρ0 b → b = a := fun b o => by
        obtain ⟨i, d, m, q, sq⟩ := o
        have := only i d q m
        subst this
        rw [s0] at sq
        cases sq
        rfl
      have er : ER K M ⟨fun p => if p = a then none else H p, fun p => Sx p ∨ p = a⟩ (L2.start N (.ref a :: vs')) H ρ0 := by
        refine ⟨?_, ⟨fun b u q _ => ?_, fun {b} q => ?_, fun _ => tb, fun b ps q => ?_⟩, fun b q => .inl (new b q), tb, fun i d q m => ?_, fun i d q m => ?_, fun i j d e p mi mj q1 q2 s1 s2 => ?_⟩
        · rw [← hρ]
          unfold L2.start
          rw [List.length_cons, List.length_append, List.length_append, List.length_map, List.length_map, List.length_replicate, List.length_replicate, List.length_cons, r.length, hl]
          omega
        · have q : (if b = a then none else H b) = some u := q
          by_cases cb : b = a
          · rw [if_pos cb] at q
            cases q
          · rw [if_neg cb] at q
            exact q
        · show (if b = a then none else H b) = none
          by_cases cb : b = a
          · rw [if_pos cb]
          · rw [if_neg cb]
            exact q
        · have q : (if b = a then none else H b) = some (.tbl ps) := q
          by_cases cb : b = a
          · rw [if_pos cb] at q
            cases q
          · rw [if_neg cb] at q
            exact ⟨ps, q⟩
        · cases i with
          | zero =>
            rw [h0] at m
            cases m
          | succ i =>
            obtain ⟨hi, e⟩ := g1 i d q
            obtain ⟨v, hv, rv⟩ := r.get' e
            exact ⟨v, start_get (by rw [List.getElem?_cons_succ]; exact hv), rv.wide fun b xb => ⟨.inl xb, fun _ o => nS (own b o ▸ xb)⟩⟩
        · have := only i d q m
          subst this
          rw [g0] at q
          cases q
          exact ⟨a, s0, ⟨if_pos rfl, .inr rfl⟩, .dit (ks := []) (xs := []) (ds := []) ⟨hA, hD⟩ rfl .nil⟩
        · rw [only i d q1 mi, only j e q2 mj]
      have ndx : ¬ OwnA M (L2.start N (.ref a :: vs')) ρ0 dx := fun o => by
        rw [own dx o, hA] at hD
        cases hD
      have frame : ∀ {σ' H' ρ'}, ER K M ⟨fun p => if p = a then none else H p, fun p => Sx p ∨ p = a⟩ σ' H' ρ' → SameX a H H' := fun er' => ⟨fun p u np hp n => er'.old.k p u ((if_neg np).trans hp) n, fun {p} np hp => by
        have q : (if p = a then none else H p) = none := er'.old.free hp
        rwa [if_neg np] at q, fun _ => er'.tab, fun p ps np hp => er'.old.t p ps ((if_neg np).trans hp)⟩
      refine ht _ H _ er _ ?_
      cases q : s ρ0 with
      | nx ρ' =>
        rw [q] at h
        have h : postI mg K c a dx H Q Ex (match ρ'[0]? with | some (some d) => fin c dx d | _ => .bad) := h
        intro σ' H' er' ev
        cases q0 : ρ'[0]? with
        | none =>
          rw [q0] at h
          exact h.elim
        | some o =>
          cases o with
          | none =>
            rw [q0] at h
            exact h.elim
          | some d =>
            rw [q0] at h
            obtain ⟨p, hp, z, wo⟩ := er'.ow 0 d q0 h0
            cases wo with
            | lst e r2 => exact h.elim
            | dic e l r2 => exact h.elim
            | dct e l r2 => exact h.elim
            | @dit dx' c' ks xs es e l r2 =>
              have ef : fin c dx (.dict ((.bool false, .tuple [.str c', .int (dx' : Nat)]) :: (ks.map PyData.str).zip es)) = if c' = c ∧ ((dx' : Nat) : Int) = ((dx : Nat) : Int) ∧ (((ks.map PyData.str).zip es).all fun p => imm p.2) = true then .ok (.dict ((.bool false, .tuple [.str c, .none]) :: (ks.map PyData.str).zip es)) else .bad := by
                rfl
              have h : postI mg K c a dx H Q Ex (fin c dx (.dict ((.bool false, .tuple [.str c', .int (dx' : Nat)]) :: (ks.map PyData.str).zip es))) := h
              rw [ef] at h
              by_cases cc : c' = c ∧ ((dx' : Nat) : Int) = ((dx : Nat) : Int) ∧ (((ks.map PyData.str).zip es).all fun p => imm p.2) = true
              · rw [if_pos cc] at h
                obtain ⟨c1, c2, c3⟩ := cc
                have c2 : dx' = dx := Int.ofNat.inj c2
                subst c1 c2
                have hd2 := (ev dx' _ hD ndx (by first | assumption | exact fun _ z => nomatch z)).1
                have e2 := e.2
                rw [hd2] at e2
                cases e2
                have im := immAll_of (by rw [List.length_map, l, r2.length]) c3
                exact h H' ks xs es rfl e.1 l (fun S' => r2.noAddr im) (frame er')
              · rw [if_neg cc] at h
                exact h.elim
      | rt d =>
        rw [q] at h
        exact h.elim
      | ex cc ρ' =>
        rw [q] at h
        exact fun C σ' H' m er' ev => h C H' m (frame er')
      | bk ρ' =>
        rw [q] at h
        exact h.elim
      | ct ρ' =>
        rw [q] at h
        exact h.elim
      | bad =>
        rw [q] at h
        exact h.elim
    · rw [if_neg hl] at h
      exact h.elim
end
/-- the class c makes objects: its __init__ -/
structure HasI (P : Program) (w : World) (K : PySem.W.Frag) (mg : Str → Option Value) (base : Heap) (k : Nat) (c : Str) (ps : List Str) (f : Addr → List PyData → Re PyData) : Prop where
  gC : mg c = some (.ref (He.ga K c))
  ex : ∃ (fA : Addr) (fd : FuncData), FnOk P w K mg base (L2.CX P w) k fA fd ps (spI mg c f K) ∧ Mk K (He.ga K c) fA ∧ Binds K fd ps []
open Classical in
noncomputable def mkI (f : Addr → List PyData → Re PyData) (ds : List PyData) : Re PyData := if ∀ dx, f dx ds = f 0 ds then f 0 ds else .bad
theorem mkI_of {f : Addr → List PyData → Re PyData} {ds : List PyData} {r : Re PyData} (h : ∀ dx, f dx ds = r) : mkI f ds = r := by
  unfold mkI
  rw [if_pos fun dx => (h dx).trans (h 0).symm, h 0]
section
variable {X : Cx} {M : Nat → Bool} {F : Fx} {Ex : XK} {la fa : Bool} {a : Expr} {pos : Pos}
theorem de_make {c : Str} {k : Nat} {ps : List Str} {ff : Addr → List PyData → Re PyData} {es : List Expr} {gs : Rho → Re (List PyData)} {p : Pos} (h : HasI X.prog X.w X.K X.mg X.base k c ps ff) (hr : Room (k + 1) X.A) (hx : Passes (L2.CX X.prog X.w) X Ex) (ha : DA X M F (fun _ => Ex) la (a :: es) gs)
    (hg : Gl X c := by rfl) (hdb : (c == ("__debug__" : Str)) = false := by decide) (he : starEach (a :: es) X.env = (false, eval a X.env) :: starEach es X.env := by rfl) (hpl : (backTo pos (starEach es X.env)).any (·.1) = false := by rfl) :
    DE X M F (fun _ => Ex) la false (.Call (.Name c p) (a :: es) [] pos) (rCall (mkI ff) gs) := by
  obtain ⟨t, pa, ha⟩ := ha
  obtain ⟨fA, fd, G, hm, bb⟩ := h.ex
  refine ⟨_, pe_make (dvs := []) (ds := []) (E := Ex) hm G hr hg h.gC bb .nil hx pa hdb he hpl, fun σ H ρ er Q z => ?_⟩
  refine ha σ H ρ er _ (we_stepA z fun ds vs H1 _ s r1 z1 => ?_)
  intro x dx nx ndx ne
  have er1 := er.same s
  have keep : ∀ b u, H1 b = some u → upd (upd H1 dx (.own x)) x (.ins (He.ga X.K c) dx []) b = some u := fun b u hb => by
    have b1 : b ≠ x := fun q => by
      rw [q, nx] at hb
      cases hb
    have b2 : b ≠ dx := fun q => by
      rw [q, ndx] at hb
      cases hb
    rw [upd_ne b1, upd_ne b2]
    exact hb
  refine ⟨x, dx, vs, ds, fun p => RS M F σ ρ la p ∧ p ≠ x, by rw [List.append_nil], upd_same, by rw [upd_ne ne, upd_same], ?_, ⟨fun p hp => ?_, ?_⟩, fun q => q.2 rfl, ?_⟩
  · refine r1.thru.keep ⟨fun b u hb _ _ => keep b u hb⟩ fun b u sb hb _ => ⟨sb.1, fun q => sb.2.not (by rw [q]; exact nx)⟩
  · by_cases c1 : p = x
    · rw [c1, upd_same] at hp
      cases hp
    · by_cases c2 : p = dx
      · rw [c2, upd_ne ne, upd_same] at hp
        cases hp
      · rw [upd_ne c1, upd_ne c2] at hp
        exact ⟨er1.freshS p hp, c1⟩
  · exact er1.tab.ext keep
  · have z1 : WE X M F (fun _ => Ex) la false σ ρ H1 (mkI ff ds) Q := z1
    by_cases un : ∀ dx, ff dx ds = ff 0 ds
    · have em : mkI ff ds = ff 0 ds := by
        unfold mkI
        rw [if_pos un]
      rw [em] at z1
      rw [un dx]
      have same : ∀ H', SameX x (upd (upd H1 dx (.own x)) x (.ins (He.ga X.K c) dx [])) H' → Same H1 H' := fun H' fr => (same_new ndx).trans (SameX.back (by rw [upd_ne fun q => ne q.symm]; exact nx) fr)
      cases q : ff 0 ds with
      | ok d =>
        rw [q] at z1
        intro H' ks xs es ed hA hl rs fr
        refine ⟨rfl, z1 (.ref x) H' (same H' fr) ?_ fun w => nomatch w⟩
        rw [ed]
        exact .dit hA (er1.freshS x nx) hl (rs _)
      | ex cc =>
        rw [q] at z1
        intro C H' hmg fr
        exact z1 C H' hmg (same H' fr)
      | bad =>
        rw [q] at z1
        exact z1.elim
    · have em : mkI ff ds = .bad := by
        unfold mkI
        rw [if_neg un]
      rw [em] at z1
      exact z1.elim
end
end Pu

set_option Elab.async false
set_option linter.all false
set_option maxRecDepth 100000
set_option maxHeartbeats 4000000
/-! [x] * n; an object made inside of try -/
namespace Pu
open PySem PySem.Spec PyProof.Rows L2
variable [TabL]
theorem rpA_rep {K : PySem.W.Frag} {H : Hp} {S : Addr → Prop} {xs : List V} {ds : List PyData} (r : RpA K H S xs ds) : ∀ n : Nat, RpA K H S (List.replicate n xs).flatten (List.replicate n ds).flatten
  | 0 => .nil
  | n + 1 => by
    rw [List.replicate_succ, List.replicate_succ, List.flatten_cons, List.flatten_cons]
    exact r.append (rpA_rep r n)
def oRepL : PyData → PyData → Option PyData := fun d e => match d, e with
  | .list ds, .int k => if okLen (ds.length * k.toNat) = true ∧ -2 ^ 63 ≤ k ∧ k < 2 ^ 63 then some (.list (List.replicate k.toNat ds).flatten) else none
  | _, _ => none
theorem s_repL {K : PySem.W.Frag} : SemB K rRep true oRepL := fun S H x y d e z Q new rx ry q k => by
  unfold oRepL at q
  split at q
  · obtain ⟨hl, rfl⟩ := if_some q
    cases rx with
    | lst h1 s1 r1 =>
      cases ry with
      | int j =>
        refine ⟨_, _, _, rfl, rfl, h1, hl.2.1, hl.2.2, by rw [r1.length]; exact okLen_le hl.1, fun p hp => ?_⟩
        exact k _ _ (same_new hp) (.lst upd_same (new p hp) ((rpA_rep r1 _).same (same_new hp))) fun _ => frs_lst hp (rpA_rep r1 _)
  · cases q
section
variable {X : Cx} {M : Nat → Bool} {E : L2.St → XK} {la : Bool} {s u : Rho → Sr} {pos : Pos}
def canA (X : Cx) (M : Nat → Bool) (E : L2.St → XK) (la : Bool) (f : Rho → Re (List PyData)) : TA := fun σ H Q => ∃ (F : Fx) (ρ : Rho), ER X.K M F σ H ρ ∧ WA X M F E la σ ρ H (f ρ) Q
theorem canA_ok {es : List Expr} {f : Rho → Re (List PyData)} (h : ∀ F, DA X M F E la es f) : PA X es (canA X M E la f) := ⟨fun pos pins sh σ H Q I ⟨F, ρ, er, w⟩ => by
  obtain ⟨t, pt, h⟩ := h F
  exact pt.run pos pins sh σ H Q I (h σ H ρ er Q w)⟩
/-- try: return C(e, ..); except c as n: suite, the suite reads n alone -/
noncomputable def sTryMk (c : Str) (i m : Nat) (ff : Addr → List PyData → Re PyData) (gs : Rho → Re (List PyData)) (u : Rho → Sr) : Rho → Sr := fun ρ => match gs ρ with
  | .ok ds => (match mkI ff ds with
    | .ok d => .rt d
    | .ex c' => if c' = c ∧ i < m then (match u (List.replicate m none) with | .rt d => .rt d | _ => .bad) else .bad
    | .bad => .bad)
  | _ => .bad
theorem ds_tryMk {F : Fx} {c n cl : Str} {C : Addr} {i m : Nat} {suite : List Stmt} {b0 : Stmt} {np pos' pos2 pos3 p : Pos} {k : Nat} {ps : List Str} {ff : Addr → List PyData → Re PyData} {a : Expr} {es : List Expr} {gs : Rho → Re (List PyData)}
    (G : Gd X E (k + 1)) (Ec : ErrC X.K X.mg c C) (hn : Gl X c ∧ (c == ("__debug__" : Str)) = false) (mi : M i = false) (hN : X.N.Nodup) (hI : HasI X.prog X.w X.K X.mg X.base k cl ps ff)
    (ha : ∀ (W : WX) (pn : List (Addr × Obj)) (xe : Value → Shared → Prop), Gd (X.tr pn xe) (fun σ cls d H => W cls d σ H) (k + 1) → ∀ F, DA (X.tr pn xe) M F (fun σ cls d H => W cls d σ H) la (a :: es) gs)
    (hs : ∀ (a : Addr) (oe : Obj) (pn : List (Addr × Obj)) (F : Fx), Zc (.ref C) none oe → (∃ vs, oe.data = .fields vs) → DSE (X.suite a ((a, oe) :: pn)) M F E0s i a (b0 :: suite) u)
    (hi : X.N[i]? = some n := by rfl) (hln : X.env.kindOf n = some .local := by rfl) (hNm : X.N.length = m := by rfl)
    (hg : ∀ pn xe, Gl (X.tr pn xe) cl := by intro _ _; rfl) (hdb : (cl == ("__debug__" : Str)) = false := by decide) (he : ∀ pn xe, starEach (a :: es) (X.tr pn xe).env = (false, eval a (X.tr pn xe).env) :: starEach es (X.tr pn xe).env := by intro _ _; rfl) (hpl : ∀ pn xe, (backTo pos2 (starEach es (X.tr pn xe).env)).any (·.1) = false := by intro _ _; rfl) :
    DS X M F E (.Try [.Return (some (.Call (.Name cl p) (a :: es) [] pos2)) pos3] [.ExceptHandler (some (.Name c np)) (some n) (b0 :: suite) pos'] [] [] pos) (sTryMk c i m ff gs u) := by
  obtain ⟨fA, fd, Fo, hm, bb⟩ := hI.ex
  refine ⟨_, ps_try_as (tb := fun W => tRet (tMake (He.ga X.K cl) (spI X.mg cl ff X.K) [] (fun cls d H' => ∀ σ, σ.length = X.N.length → W cls d σ H') (canA X M (fun σ cls d H => W cls d σ H) la gs))) (ts := fun a cls d D σ H => (cls = .ref C ∧ d = none) ∧ canSE X M E0s i a u D σ H) G.stk G.frm hN hi hln ⟨hn.1, hn.2, .inl Ec.gC⟩ G.tk
    (fun W pn xe tk po => pss_one (ps_ret ?_)) (fun a oe cls d pn hz hf => ⟨fun pins sh σ H D I ⟨⟨e1, e2⟩, q⟩ => ?_⟩), fun σ H ρ er D w => ?_⟩
  · have gd : Gd (X.tr pn xe) (fun σ cls d H => W cls d σ H) (k + 1) := ⟨G.room, fun σ => passAt tk σ, tk, po, G.stk, G.frm⟩
    refine pe_make (X := X.tr pn xe) (dvs := []) (ds := []) hm Fo gd.room (hg pn xe) hI.gC bb .nil ?_ (canA_ok fun F => ha W pn xe gd F) hdb (he pn xe) (hpl pn xe)
    intro pins σ H s e s' I cx
    refine gd.pass σ pins H s e s' I ?_
    obtain ⟨x1, x2, x3, x4, x5, y1, y2, y3, y4, y5, y6, y7, z⟩ := cx
    exact ⟨x1, x2, x3, x4, x5, y1, y2, y3, y4, y5, y6, y7, z σ I.len⟩
  · subst e1 e2
    exact (canSE_ok (fun F => hs a oe pn F hz hf)).run pins sh σ H D I q
  · unfold sTryMk at w
    cases q : gs ρ with
    | ex cc =>
      rw [q] at w
      exact w.elim
    | bad =>
      rw [q] at w
      exact w.elim
    | ok ds =>
      rw [q] at w
      have w : WS X M F E σ H ρ (match mkI ff ds with
        | .ok d => .rt d
        | .ex c' => if c' = c ∧ i < m then (match u (List.replicate m none) with | .rt d => .rt d | _ => .bad) else .bad
        | .bad => .bad) D := w
      refine ⟨F, ρ, er, ?_⟩
      rw [q]
      intro vs H1 s1 r1 x dx nx ndx ne
      have er1 := er.same s1
      have keep : ∀ b u, H1 b = some u → upd (upd H1 dx (.own x)) x (.ins (He.ga X.K cl) dx []) b = some u := fun b u hb => by
        have b1 : b ≠ x := fun q => by
          rw [q, nx] at hb
          cases hb
        have b2 : b ≠ dx := fun q => by
          rw [q, ndx] at hb
          cases hb
        rw [upd_ne b1, upd_ne b2]
        exact hb
      have same : ∀ H', SameX x (upd (upd H1 dx (.own x)) x (.ins (He.ga X.K cl) dx [])) H' → Same H1 H' := fun H' fr => (same_new ndx).trans (SameX.back (by rw [upd_ne fun q => ne q.symm]; exact nx) fr)
      refine ⟨x, dx, vs, ds, fun p => RS M F σ ρ la p ∧ p ≠ x, by rw [List.append_nil], upd_same, by rw [upd_ne ne, upd_same], ?_, ⟨fun p hp => ?_, er1.tab.ext keep⟩, fun q => q.2 rfl, ?_⟩
      · refine r1.thru.keep ⟨fun b u hb _ _ => keep b u hb⟩ fun b u sb hb _ => ⟨sb.1, fun q => sb.2.not (by rw [q]; exact nx)⟩
      · by_cases c1 : p = x
        · rw [c1, upd_same] at hp
          cases hp
        · by_cases c2 : p = dx
          · rw [c2, upd_ne ne, upd_same] at hp
            cases hp
          · rw [upd_ne c1, upd_ne c2] at hp
            exact ⟨er1.freshS p hp, c1⟩
      · by_cases un : ∀ dx, ff dx ds = ff 0 ds
        · have em : mkI ff ds = ff 0 ds := by
            unfold mkI
            rw [if_pos un]
          rw [em] at w
          rw [un dx]
          cases q2 : ff 0 ds with
          | ok d =>
            rw [q2] at w
            intro H' ks xs es ed hA hl rs fr
            refine ⟨rfl, w (.ref x) H' (er1.old.trans (same H' fr)) ?_⟩
            rw [ed]
            exact .dit hA (er1.new x nx) hl (rs _)
          | ex cc =>
            rw [q2] at w
            have w5 : WS X M F E σ H ρ (if cc = c ∧ i < m then (match u (List.replicate m none) with | .rt d => .rt d | _ => .bad) else .bad) D := w
            clear w
            by_cases hc : cc = c ∧ i < m
            · rw [if_pos hc] at w5
              obtain ⟨hc, hl2⟩ := hc
              subst hc
              intro C' H' hmg fr σ' hσ
              rw [Ec.gC] at hmg
              cases hmg
              have lσ : σ'.length = m := hσ.trans hNm
              refine ⟨true, Ec.eP, fun _ a ha => ?_, fun z => nomatch z⟩
              have sm := er1.old.trans (same H' fr)
              have er2 : ER X.K M F (σ'.set i (some (.ref a))) H' (List.replicate m none) := by
                refine ⟨?_, sm, fun b hb => er1.new b ((same H' fr).free hb), (same H' fr).tab er1.tab, fun j d qq _ => ?_, fun j d qq _ => ?_, fun j k d e p _ _ q1 _ _ _ => ?_⟩
                · rw [List.length_set, List.length_replicate, lσ]
                · rw [List.getElem?_replicate] at qq
                  split at qq <;> cases qq
                · rw [List.getElem?_replicate] at qq
                  split at qq <;> cases qq
                · rw [List.getElem?_replicate] at q1
                  split at q1 <;> cases q1
              refine ⟨⟨rfl, rfl⟩, F, _, er2, List.getElem?_set_self (by rw [lσ]; exact hl2), ?_⟩
              revert w5
              generalize u (List.replicate m none) = r
              intro w5
              cases r with
              | rt d => exact w5
              | ex c2 ρ2 => exact w5.elim
              | nx ρ2 => exact w5.elim
              | bk ρ2 => exact w5.elim
              | ct ρ2 => exact w5.elim
              | bad => exact w5.elim
            · rw [if_neg hc] at w5
              exact w5.elim
          | bad =>
            rw [q2] at w
            exact w.elim
        · have em : mkI ff ds = .bad := by
            unfold mkI
            rw [if_neg un]
          rw [em] at w
          exact w.elim
end
end Pu

set_option Elab.async false
set_option linter.all false
set_option maxRecDepth 100000
set_option maxHeartbeats 4000000
/-! defs that call themselves (a block of nothing promised); x = y.pop(), x = y.pop(e); x.extend(list); list(range(..)) -/
namespace Pu
open PySem PySem.Spec PyProof.Rows L2
variable [TabL]
section
variable {X : Cx} {M : Nat → Bool} {F : Fx} {E : L2.St → XK} {σ σ1 : L2.St} {ρ ρ1 : Rho} {H H' H1 : Hp} {D : Ends}
variable {la fa lb fb : Bool} {a b : Expr} {f g : Rho → Re PyData} {pos : Pos}
theorem dss_bad {b : List Stmt} : DSs X M F E b sBad := ⟨fun _ _ _ => False, ⟨fun _ _ _ _ _ _ h => h.elim⟩, fun _ _ _ _ _ w => w.elim⟩
/-! ### x = y.pop() -/
def sSetPop0 (i j : Nat) : Rho → Sr := fun ρ => match getL ρ j with
  | some es => (match es.getLast? with
    | some y => if i ≠ j then .nx ((ρ.set j (some (.list es.dropLast))).set i (some y)) else .bad
    | none => .bad)
  | none => .bad
theorem ds_setPop0 {i j : Nat} {x y : Str} {p0 q1 q2 q3 : Pos} (m : M i = false) (mj : M j = true) (hNd : X.N.Nodup) (hi : X.N[i]? = some x := by rfl) (hx : Loc X.env.scope x := by first | exact Or.inl rfl | exact Or.inr rfl)
    (hNy : X.N[j]? = some y := by rfl) (hvy : Vis X.env.scope y := by first | exact Or.inl rfl | exact Or.inr (Or.inl rfl) | exact Or.inr (Or.inr rfl)) (hdy : (y == ("__debug__" : Str)) = false := by decide) (hcdy : (y == ("__classdict__" : Str)) = false := by decide)
    (hbase2 : attributeBase (.Name y q1) "pop" X.env (eval (.Name y q1) X.env) = eval (.Name y q1) X.env := by rfl) (hline2 : (q2.endLine == q3.line) = true := by rfl)
    (hs : swapsWith (.Call (.Attribute (.Name y q1) "pop" q2) [] [] q3) (some (.Name x p0)) pos.line X.env = pure false := by rfl) (hw : swappedStores [.Name x p0] (.Call (.Attribute (.Name y q1) "pop" q2) [] [] q3) X.env = pure none := by rfl)
    (hf : X.fn x = true ∨ X.env.scope.names.lookup x = some .local := by first | exact .inl rfl | exact .inr rfl) :
    DS X M F E (.Assign [.Name x p0] (.Call (.Attribute (.Name y q1) "pop" q2) [] [] q3) pos) (sSetPop0 i j) := by
  refine ⟨_, ps_asg (pe_bm0 PySem.F.plainAttrs_list PySem.F.slot_list_pop PySem.F.type_list_pop mt_pop (pe_var hNy hvy hdy hcdy) hbase2 hline2) (pg_name hNd hi hx hf) hs hw, fun σ H ρ er1 D w1 => ?_⟩
  unfold sSetPop0 at w1
  cases hl2 : getL ρ j with
  | none =>
    rw [hl2] at w1
    exact w1.elim
  | some es =>
    rw [hl2] at w1
    obtain ⟨qq, ys, hs2, hy, ry⟩ := er1.lst mj hl2
    cases hg : es.getLast? with
    | none =>
      simp only [hg] at w1
      exact w1.elim
    | some yd =>
      simp only [hg] at w1
      by_cases hij : i ≠ j
      · rw [if_pos hij] at w1
        have hel : es[es.length - 1]? = some yd := by rw [← List.getLast?_eq_getElem?]; exact hg
        obtain ⟨yv, hyv, ryv⟩ := ry.get' hel
        rw [← ry.length] at hyv
        obtain ⟨er2, ev2⟩ := er1.putL mj hl2 hs2 hy ry.dropLast
        refine ⟨.ref qq, hs2, sq_l hy, qq, ys, yv, rfl, rfl, hy, hyv, ?_⟩
        have ryv2 := ryv.keep (Evo.kp er1 ev2) fun a u x q n => Evo.rs ev2 a u x q n
        exact w1 _ _ (er2.set m ryv2) (ev2.trans fun a u q n _ => ⟨q, fun o => n ((own_set m).mp o)⟩)
      · rw [if_neg hij] at w1
        exact w1.elim
/-! ### x = y.pop(e) -/
def sSetPop (i j : Nat) (f : Rho → Re PyData) : Rho → Sr := fun ρ => match getL ρ j with
  | some _ => (f ρ).st ρ fun d => match popAt ρ j d with
    | some (y, es') => if i ≠ j then .nx ((ρ.set j (some (.list es'))).set i (some y)) else .bad
    | none => .bad
  | none => .bad
theorem ds_setPop {i j : Nat} {x y : Str} {p0 q1 q2 q3 : Pos} (m : M i = false) (mj : M j = true) (hNd : X.N.Nodup) (h : DE X M F E la fa a f) (hi : X.N[i]? = some x := by rfl) (hx : Loc X.env.scope x := by first | exact Or.inl rfl | exact Or.inr rfl)
    (hNy : X.N[j]? = some y := by rfl) (hvy : Vis X.env.scope y := by first | exact Or.inl rfl | exact Or.inr (Or.inl rfl) | exact Or.inr (Or.inr rfl)) (hdy : (y == ("__debug__" : Str)) = false := by decide) (hcdy : (y == ("__classdict__" : Str)) = false := by decide)
    (hbase2 : attributeBase (.Name y q1) "pop" X.env (eval (.Name y q1) X.env) = eval (.Name y q1) X.env := by rfl)
    (hfew2 : ((backTo q3 (starEach (a :: []) X.env)).all (fun x => !x.1) && (backToKw q3 (keywordEach [] X.env)).all (fun x => x.1.isSome)
      && decide ((a :: ([] : List Expr)).length + ([] : List Keyword).length + (if ([] : List Keyword).isEmpty then 0 else 1) < 30)) = true := by rfl)
    (hline2 : (q2.endLine == q3.line) = true := by rfl) (hst2 : starEach (a :: []) X.env = (false, eval a X.env) :: starEach [] X.env := by rfl) (hplain2 : (backTo q3 (starEach [] X.env)).any (·.1) = false := by rfl)
    (hs : swapsWith (.Call (.Attribute (.Name y q1) "pop" q2) [a] [] q3) (some (.Name x p0)) pos.line X.env = pure false := by rfl) (hw : swappedStores [.Name x p0] (.Call (.Attribute (.Name y q1) "pop" q2) [a] [] q3) X.env = pure none := by rfl)
    (hf : X.fn x = true ∨ X.env.scope.names.lookup x = some .local := by first | exact .inl rfl | exact .inr rfl) :
    DS X M F E (.Assign [.Name x p0] (.Call (.Attribute (.Name y q1) "pop" q2) [a] [] q3) pos) (sSetPop i j f) := by
  obtain ⟨t, pa, h⟩ := h
  refine ⟨_, ps_asg (pe_bm PySem.F.plainAttrs_list PySem.F.slot_list_pop PySem.F.type_list_pop mt_popAt (pe_var hNy hvy hdy hcdy) (pa_cons pa pa_nil hst2) hbase2 hfew2 hline2 hst2 hplain2) (pg_name hNd hi hx hf) hs hw, fun σ H ρ er D w => ?_⟩
  unfold sSetPop at w
  cases hl2 : getL ρ j with
  | none =>
    rw [hl2] at w
    exact w.elim
  | some es =>
    rw [hl2] at w
    obtain ⟨qq, ys, hs2, hy, ry⟩ := er.lst mj hl2
    refine ⟨.ref qq, hs2, sq_l hy, h σ H ρ er _ (ws_step er w fun d v H1 e sm r _ w1 => ?_)⟩
    cases hp : popAt ρ j d with
    | none =>
      rw [hp] at w1
      exact w1.elim
    | some z =>
      obtain ⟨y0, es'⟩ := z
      rw [hp] at w1
      have w1 : WS X M F E σ H1 ρ (if i ≠ j then .nx ((ρ.set j (some (.list es'))).set i (some y0)) else .bad) D := w1
      by_cases hij : i ≠ j
      · rw [if_pos hij] at w1
        obtain ⟨es2, n, k, g1, rfl, g2, g3, g4, rfl⟩ := popAt_some hp
        rw [hl2] at g1
        cases g1
        cases r
        have er1 := er.same sm
        refine rpop_ok (X := X) (j := j) (sm _ _ hy) (ry.same sm) g2 g3 g4 fun v rv hv' => ?_
        obtain ⟨er2, ev2⟩ := er1.putL mj hl2 hs2 (sm _ _ hy) ((ry.same sm).erase k)
        have rv2 := rv.keep (Evo.kp er1 ev2) fun a u x q n => Evo.rs ev2 a u x q n
        exact w1 _ _ (er2.set m rv2) (ev2.trans fun a u q n _ => ⟨q, fun o => n ((own_set m).mp o)⟩)
      · rw [if_neg hij] at w1
        exact w1.elim
/-! ### x.extend(e), e a list -/
def sExtL (i : Nat) (lk : Bool) (f : Rho → Re PyData) : Rho → Sr := fun ρ => match getL ρ i with
  | some ds => (f ρ).st ρ fun d => (match d with
    | .list es => if okLen (ds.length + es.length) = true ∧ (lk = true → immAll es = true) then .nx (ρ.set i (some (.list (ds ++ es)))) else .bad
    | _ => .bad)
  | none => .bad
theorem ds_extL {i : Nat} {x : Str} {p1 p2 p3 : Pos} (m : M i = true) (h : DE X M F E la fa a f) (hN : X.N[i]? = some x := by rfl) (hv : Vis X.env.scope x := by first | exact Or.inl rfl | exact Or.inr (Or.inl rfl) | exact Or.inr (Or.inr rfl)) (hd : (x == ("__debug__" : Str)) = false := by decide)
    (hcd : (x == ("__classdict__" : Str)) = false := by decide)
    (hs : swapsWith (.Call (.Attribute (.Name x p1) "extend" p2) [a] [] p3) none pos.line X.env = pure false := by rfl) (hbase : attributeBase (.Name x p1) "extend" X.env (eval (.Name x p1) X.env) = eval (.Name x p1) X.env := by rfl)
    (hfew : ((backTo p3 (starEach (a :: []) X.env)).all (fun x => !x.1) && (backToKw p3 (keywordEach [] X.env)).all (fun x => x.1.isSome)
      && decide ((a :: ([] : List Expr)).length + ([] : List Keyword).length + (if ([] : List Keyword).isEmpty then 0 else 1) < 30)) = true := by rfl)
    (hline : (p2.endLine == p3.line) = true := by rfl) (hst : starEach (a :: []) X.env = (false, eval a X.env) :: starEach [] X.env := by rfl) (hplain : (backTo p3 (starEach [] X.env)).any (·.1) = false := by rfl) :
    DS X M F E (.Expr (.Call (.Attribute (.Name x p1) "extend" p2) [a] [] p3) pos) (sExtL i la f) := by
  obtain ⟨t, pa, h⟩ := h
  refine ⟨_, ps_expr (pe_bm PySem.F.plainAttrs_list PySem.F.slot_list_extend PySem.F.type_list_extend mt_extend (pe_var hN hv hd hcd) (pa_cons pa pa_nil hst) hbase hfew hline hst hplain) hs, fun σ H ρ er D w => ?_⟩
  unfold sExtL at w
  cases hl : getL ρ i with
  | none =>
    rw [hl] at w
    exact w.elim
  | some ds =>
    rw [hl] at w
    obtain ⟨pp, xs, hs', hx, rx⟩ := er.lst m hl
    refine ⟨.ref pp, hs', sq_l hx, h σ H ρ er _ (ws_step er w fun d v H1 e sm r _ w1 => ?_)⟩
    cases r with
    | lst h1 hS h2 =>
      rename_i b zs es _
      have w1 : WS X M F E σ H1 ρ (if okLen (ds.length + es.length) = true ∧ (la = true → immAll es = true) then .nx (ρ.set i (some (.list (ds ++ es)))) else .bad) D := w1
      by_cases hc : okLen (ds.length + es.length) = true ∧ (la = true → immAll es = true)
      · rw [if_pos hc] at w1
        have er1 := er.same sm
        have hx1 := sm _ _ hx
        have hz : xs.length + zs.length ≤ sizeLine := by
          have := of_decide_eq_true hc.1
          rw [rx.length, h2.length]
          exact Nat.le_trans this (by decide)
        have r2 : RpA X.K H1 (RS M F σ ρ false) zs es := by
          cases la with
          | false => exact h2
          | true => exact h2.noAddr (hc.2 rfl)
        obtain ⟨er2, ev2⟩ := er1.putL m hl hs' hx1 ((rx.same sm).append r2)
        exact ⟨pp, _, xs, zs, rfl, rfl, hx1, h1, hz, w1 σ _ er2 ev2⟩
      · rw [if_neg hc] at w1
        exact w1.elim
    | bl _ => exact w1.elim
    | non => exact w1.elim
    | int _ => exact w1.elim
    | str _ => exact w1.elim
    | tup _ _ => exact w1.elim
    | scr _ _ => exact w1.elim
    | dic _ _ _ _ => exact w1.elim
    | dit _ _ _ _ => exact w1.elim
    | dif _ _ _ => exact w1.elim
    | rng _ => exact w1.elim
    | dct _ _ _ _ => exact w1.elim
/-! ### list(range(e)), list(range(e, e)) -/
def lrg : PyData → PyData → Option PyData := fun d e => match d, e with | .int i, .int j => if rgOk i j = true then some (.list (upFrom i (j - i).toNat)) else none | _, _ => none
def rLstRg (f g : Rho → Re PyData) : Rho → Re PyData := r2 lrg f g
theorem de_lstRg {pp q : Pos} (hc : X.calm = true) (hg : Gl X "list") (hm : X.mg "list" = none) (hg2 : Gl X "range") (hm2 : X.mg "range" = none) (ha : DE X M F E la fa a f) (hb : DE X M F E lb fb b g)
    (na : starEach [a, b] X.env = (false, eval a X.env) :: starEach [b] X.env := by rfl) (nb : starEach [b] X.env = (false, eval b X.env) :: starEach [] X.env := by rfl)
    (np : (backTo q (starEach [b] X.env)).any (·.1) = false := by rfl) (nc : starEach [Expr.Call (.Name "range" pp) [a, b] [] q] X.env = (false, eval (.Call (.Name "range" pp) [a, b] [] q) X.env) :: starEach [] X.env := by rfl) {p0 : Pos} :
    DE X M F E (la || lb) true (.Call (.Name "list" p0) [.Call (.Name "range" pp) [a, b] [] q] [] pos) (rLstRg f g) := by
  obtain ⟨ta, pa, ha⟩ := ha
  obtain ⟨tb, pb, hb⟩ := hb
  refine ⟨_, pe_listRg hc hg hm (prg_2 hg2 hm2 pa pb na nb np) nc, fun σ H ρ er Q w => ?_⟩
  refine ha σ H ρ er _ (we_step w fun d v H1 e1 s1 q1 _ w1 => ?_)
  refine hb σ H1 ρ (er.same s1) _ (we_step w1 fun e u H2 e2 s2 q2 _ w2 => ?_)
  have er2 := (er.same s1).same s2
  cases q1 with
  | int i =>
    cases q2 with
    | int j =>
      have w2 : WE X M F E (la || lb) true σ ρ H2 (liftO (if rgOk i j = true then some (.list (upFrom i (j - i).toNat)) else none)) Q := w2
      by_cases hr : rgOk i j = true
      · rw [if_pos hr] at w2
        exact ⟨i, j, rfl, rfl, rgOk_ok hr, fun p hp => w2 _ _ (same_new hp) (.lst upd_same (er2.freshS p hp) (rg_rp i j)) fun _ => frs_lst hp (rg_rp i j)⟩
      · rw [if_neg hr] at w2
        exact w2.elim
    | bl _ => exact w2.elim
    | non => exact w2.elim
    | str _ => exact w2.elim
    | tup _ _ => exact w2.elim
    | lst _ _ _ => exact w2.elim
    | scr _ _ => exact w2.elim
    | dic _ _ _ _ => exact w2.elim
    | dit _ _ _ _ => exact w2.elim
    | dif _ _ _ => exact w2.elim
    | rng _ => exact w2.elim
    | dct _ _ _ _ => exact w2.elim
  | bl _ => exact w2.elim
  | non => exact w2.elim
  | str _ => exact w2.elim
  | tup _ _ => exact w2.elim
  | lst _ _ _ => exact w2.elim
  | scr _ _ => exact w2.elim
  | dic _ _ _ _ => exact w2.elim
  | dit _ _ _ _ => exact w2.elim
  | dif _ _ _ => exact w2.elim
  | rng _ => exact w2.elim
  | dct _ _ _ _ => exact w2.elim
def lrg1 : PyData → Option PyData := fun e => match e with | .int j => if rgOk 0 j = true then some (.list (upFrom 0 j.toNat)) else none | _ => none
def rLstRg1 (g : Rho → Re PyData) : Rho → Re PyData := r1 lrg1 g
theorem de_lstRg1 {pp q : Pos} (hc : X.calm = true) (hg : Gl X "list") (hm : X.mg "list" = none) (hg2 : Gl X "range") (hm2 : X.mg "range" = none) (hb : DE X M F E lb fb b g)
    (nb : starEach [b] X.env = (false, eval b X.env) :: starEach [] X.env := by rfl)
    (nc : starEach [Expr.Call (.Name "range" pp) [b] [] q] X.env = (false, eval (.Call (.Name "range" pp) [b] [] q) X.env) :: starEach [] X.env := by rfl) {p0 : Pos} :
    DE X M F E lb true (.Call (.Name "list" p0) [.Call (.Name "range" pp) [b] [] q] [] pos) (rLstRg1 g) := by
  obtain ⟨tb, pb, hb⟩ := hb
  refine ⟨_, pe_listRg hc hg hm (prg_1 hg2 hm2 pb nb) nc, fun σ H ρ er Q w => ?_⟩
  refine hb σ H ρ er _ (we_step w fun e u H2 e2 s2 q2 _ w2 => ?_)
  have er2 := er.same s2
  cases q2 with
  | int j =>
    have w2 : WE X M F E lb true σ ρ H2 (liftO (if rgOk 0 j = true then some (.list (upFrom 0 j.toNat)) else none)) Q := w2
    by_cases hr : rgOk 0 j = true
    · rw [if_pos hr] at w2
      have rr : RpA X.K H2 (RS M F σ ρ lb) (rgV 0 j) (upFrom 0 j.toNat) := by
        have := rg_rp (K := X.K) (H := H2) (S := RS M F σ ρ lb) 0 j
        rwa [Int.sub_zero] at this
      exact ⟨j, rfl, rgOk_ok hr, fun p hp => w2 _ _ (same_new hp) (.lst upd_same (er2.freshS p hp) (rr.same (same_new hp))) fun _ => frs_lst hp rr⟩
    · rw [if_neg hr] at w2
      exact w2.elim
  | bl _ => exact w2.elim
  | non => exact w2.elim
  | str _ => exact w2.elim
  | tup _ _ => exact w2.elim
  | lst _ _ _ => exact w2.elim
  | scr _ _ => exact w2.elim
  | dic _ _ _ _ => exact w2.elim
  | dit _ _ _ _ => exact w2.elim
  | dif _ _ _ => exact w2.elim
  | rng _ => exact w2.elim
  | dct _ _ _ _ => exact w2.elim
end
end Pu

set_option Elab.async false
set_option linter.all false
set_option maxRecDepth 100000
set_option maxHeartbeats 4000000
/-! sorted of a list of data that are alike -/
namespace Pu
open PySem PySem.Spec PyProof.Rows L2
variable [TabL]
def alikeZ (ds : List PyData) : Bool := ds.all fun d => ds.all fun e => PySem.W.alike d e
def tupZ : PyData → Bool
  | .tuple (_ :: _) => true
  | _ => false
def notZ : PyData → Bool
  | .none => false
  | .tuple _ => false
  | _ => true
def sortableZ (ds : List PyData) : Bool := ds.all tupZ || ds.all notZ
abbrev zle : PyData → PyData → Bool := PySem.W.dataLe false id
theorem alikeZ_ok {ds : List PyData} (h : alikeZ ds = true) : PySem.W.AllAlike ds := fun d hd e he => List.all_eq_true.mp (List.all_eq_true.mp h d hd) e he
theorem sortableZ_ok {ds : List PyData} (h : sortableZ ds = true) : PySem.W.Sortable ds := by
  rcases Bool.or_eq_true_iff.mp h with h | h
  · refine .inl fun d hd => ?_
    have := List.all_eq_true.mp h d hd
    unfold tupZ at this
    split at this
    · exact ⟨_, _, rfl⟩
    · cases this
  · refine .inr fun d hd => ?_
    have := List.all_eq_true.mp h d hd
    refine ⟨fun e => ?_, fun xs e => ?_⟩ <;> rw [e] at this <;> cases this
def okZ (ds : List PyData) : Bool := okLen ds.length && (alikeZ ds && (sortableZ ds && ds.all SeqAt.shaped))
def bSortZ : List PyData → Option PyData := fun ds => match ds with
  | [.list xs] => if okZ xs = true then some (.list (xs.mergeSort zle)) else none
  | _ => none
/-- two lists side by side -/
theorem each_zip {K : PySem.W.Frag} {H : Hp} {S : Addr → Prop} : ∀ {xs : List V} {us : List Value} {ds : List PyData}, Vals xs us → RpA K H S xs ds → PySem.W.EachIs (fun (u : Value) (p : V × PyData) => RelV p.1 u ∧ Rp K H S p.1 p.2) us (xs.zip ds)
  | [], [], _, .nil, .nil => .nil
  | x :: xs, u :: us, d :: ds, .cons r t, .cons r2 t2 => .cons ⟨r, r2⟩ (each_zip t t2)
theorem zip_fst' : ∀ {xs : List V} {ds : List PyData}, xs.length = ds.length → (xs.zip ds).map (·.1) = xs
  | [], [], _ => rfl
  | x :: xs, d :: ds, h => by rw [List.zip_cons_cons, List.map_cons, zip_fst' (by simpa using h)]
  | [], _ :: _, h => by cases h
  | _ :: _, [], h => by cases h
theorem each_back {K : PySem.W.Frag} {H : Hp} {S : Addr → Prop} : ∀ {us : List Value} {ps : List (V × PyData)}, PySem.W.EachIs (fun (u : Value) (p : V × PyData) => RelV p.1 u ∧ Rp K H S p.1 p.2) us ps → Vals (ps.map (·.1)) us ∧ RpA K H S (ps.map (·.1)) (ps.map (·.2))
  | _, _, .nil => ⟨.nil, .nil⟩
  | _, _, .cons h t => by
    obtain ⟨a, b⟩ := each_back t
    exact ⟨.cons h.1 a, .cons h.2 b⟩
theorem merge_map {α β : Type} (f : α → β) (le : β → β → Bool) (l : List α) (tr : ∀ a b c, le a b = true → le b c = true → le a c = true) (tot : ∀ a b, (le a b || le b a) = true) : (l.mergeSort fun a b => le (f a) (f b)).map f = (l.map f).mergeSort le := by
  exact List.map_mergeSort (r := fun a b => le (f a) (f b)) (s := le) (f := f) (l := l) fun a _ b _ => rfl
section
variable {X : Cx} {K : PySem.W.Frag}
/-- sorted(x): x a list of data that are alike -/
def rSrtZ (K : PySem.W.Frag) : List V → Hp → VK → Prop := fun vs H Q => ∃ (a : Addr) (S : Addr → Prop) (xs : List V) (ds : List PyData), vs = [V.ref a] ∧ SqL K H a xs ∧ RpA K H S xs ds ∧ okZ ds = true ∧
  ∀ (xs' : List V) (p : Addr), RpA K H S xs' (ds.mergeSort zle) → H p = none → Q (.ref p) (upd H p (.lst xs'))
theorem cr_srtZ (hu : X.A.units + 100 < cLine) : CallR X (.builtin "sorted") (rSrtZ X.K) := by
  intro pins s σ H vs us Q I r h
  obtain ⟨a, S, xs, ds, rfl, hs, rr, hok, q⟩ := h
  rw [Vals.ref1 r]
  obtain ⟨k1, hok⟩ := Bool.and_eq_true_iff.mp hok
  obtain ⟨k2, hok⟩ := Bool.and_eq_true_iff.mp hok
  obtain ⟨k3, k4⟩ := Bool.and_eq_true_iff.mp hok
  obtain ⟨its, rv, hl, hz⟩ := I.list hs
  have hlen := rr.length
  have ez := each_zip rv rr
  have e2 : (xs.zip ds).map (·.2) = ds := zip_snd xs ds hlen
  have er : PySem.W.EachIs (fun (v : Value) (b : V × PyData) => ∃ as, Reads s.heap v b.2 as) its (xs.zip ds) := by
    refine (PySem.W.each_mem ez).mono fun u p hp => ?_
    have hd : p.2 ∈ ds := by rw [← e2]; exact List.mem_map.mpr ⟨p, hp.2, rfl⟩
    exact Dp.reads I _ _ _ (hp.1.2.dp (List.all_eq_true.mp k4 _ hd)) hp.1.1
  refine PySem.W.sorted_data (bs := xs.zip ds) (enc := fun b => b.2) (vs := its) hl.isList ez er (by rw [e2]; exact alikeZ_ok k2) (by rw [e2]; exact sortableZ_ok k3) ?_ (fun b hb => ?_) fun out ho eo => ?_
  · rw [List.length_zip, hlen, Nat.min_self, ← hlen]
    exact hz
  · have hd : b.2 ∈ ds := by rw [← e2]; exact List.mem_map.mpr ⟨b, hb, rfl⟩
    have := SeqAt.depth_of_shaped (List.all_eq_true.mp k4 _ hd)
    omega
  · obtain ⟨b1, b2⟩ := each_back eo
    obtain ⟨ep, he'⟩ := PyProof.Rows.sortedAll_at s.heap its out.toArray
    have em : ((xs.zip ds).mergeSort (PySem.W.dataLe false fun b => b.2)).map (·.2) = ds.mergeSort zle := by
      have := List.map_mergeSort (r := PySem.W.dataLe false fun b : V × PyData => b.2) (s := zle) (f := fun b : V × PyData => b.2) (l := xs.zip ds) fun a _ b _ => rfl
      rw [this, e2]
    rw [em] at b2
    have hl2 : (((xs.zip ds).mergeSort (PySem.W.dataLe false fun b => b.2)).map (·.1)).length ≤ sizeLine := by
      rw [List.length_map, List.length_mergeSort, List.length_zip, hlen, Nat.min_self, ← hlen]
      exact hz
    exact ⟨.ref _, upd H (s.heap.objs.size + 1) (.lst (((xs.zip ds).mergeSort (PySem.W.dataLe false fun b => b.2)).map (·.1))), I.laid (t' := s.toks) (fun _ _ => PyProof.Rows.sortedAll_old) (Nat.le_succ _) ⟨hl2, out, ep, b1, he'⟩, rfl, q _ _ b2 (I.hok.fresh (Nat.le_succ _))⟩
theorem s_sortZ : SemL K (rSrtZ K) true bSortZ := fun S H xs ds z Q new r q k => by
  unfold bSortZ at q
  split at q
  · rename_i ys
    obtain ⟨ho, rfl⟩ := if_some q
    cases r with
    | cons r1 r2 =>
      cases r2
      cases r1 with
      | lst h1 s1 rr =>
        exact ⟨_, S, _, _, rfl, SqL.of h1, rr, ho, fun xs' p rr' hp => k _ _ (same_new hp) (.lst upd_same (new p hp) (rr'.same (same_new hp))) fun _ => frs_lst hp rr'⟩
  · cases q
end
theorem ru100 {k : Nat} {A : Around} (r : Room k A) : A.units + 100 < cLine := by
  have := r.un
  omega
/-! ### the order of data -/
theorem zle_trans (a b c : PyData) (h1 : zle a b = true) (h2 : zle b c = true) : zle a c = true := (PySem.W.sortLe_total (PyProof.Rows.listOrd PyProof.Rows.itemOrd) false (fun b => PySem.W.keyToks (id b))).trans a b c h1 h2
theorem zle_total (a b : PyData) : (zle a b || zle b a) = true := Bool.or_eq_true_iff.mpr ((PySem.W.sortLe_total (PyProof.Rows.listOrd PyProof.Rows.itemOrd) false (fun b => PySem.W.keyToks (id b))).total a b)
/-! pairs of ints -/
def pD (p : Int × Int) : PyData := .tuple [.int p.1, .int p.2]
def leP (p q : Int × Int) : Bool := decide (p.1 < q.1 ∨ (p.1 = q.1 ∧ p.2 ≤ q.2))
theorem toks_pD (p : Int × Int) : PySem.W.keyToks (pD p) = [.inl 1, .inl p.1, .inl 1, .inl p.2, .inl 0] := by
  unfold pD
  simp [PySem.W.keyToks, PySem.W.keyToksAll]
theorem blt_inl (a b : Int) : PyProof.Rows.itemLt (.inl a) (.inl b) = decide (a < b) := rfl
theorem zle_p (p q : Int × Int) : zle (pD p) (pD q) = leP p q := by
  show (!PyProof.Rows.lexLt PyProof.Rows.itemOrd (PySem.W.keyToks (pD q)) (PySem.W.keyToks (pD p))) = leP p q
  rw [toks_pD, toks_pD]
  simp only [PyProof.Rows.lex_cons, PyProof.Rows.lexLt, blt_inl]
  unfold leP
  by_cases h1 : q.1 < p.1
  · have h2 : ¬ p.1 < q.1 := by omega
    have h3 : ¬ p.1 = q.1 := by omega
    simp [h1, h2, h3, blt_inl]
  · by_cases h2 : p.1 < q.1
    · simp [h1, h2, blt_inl]
    · have h3 : p.1 = q.1 := by omega
      by_cases h4 : q.2 < p.2
      · have h5 : ¬ p.2 ≤ q.2 := by omega
        simp [h3, h4, h5, blt_inl]
      · have h5 : p.2 ≤ q.2 := by omega
        simp [h3, h4, h5, blt_inl]
theorem leP_trans (a b c : Int × Int) (h1 : leP a b = true) (h2 : leP b c = true) : leP a c = true := by
  unfold leP at *
  simp only [decide_eq_true_eq] at *
  omega
theorem leP_total (a b : Int × Int) : (leP a b || leP b a) = true := by
  unfold leP
  simp only [Bool.or_eq_true, decide_eq_true_eq]
  omega
theorem leP_anti {a b : Int × Int} (h1 : leP a b = true) (h2 : leP b a = true) : a = b := by
  unfold leP at *
  simp only [decide_eq_true_eq] at *
  obtain ⟨a1, a2⟩ := a
  obtain ⟨b1, b2⟩ := b
  simp only at h1 h2
  have e1 : a1 = b1 := by omega
  have e2 : a2 = b2 := by omega
  rw [e1, e2]
def srtP (l : List (Int × Int)) : List (Int × Int) := l.mergeSort leP
theorem srtP_perm (l : List (Int × Int)) : (srtP l).Perm l := List.mergeSort_perm _ _
theorem srtP_sorted (l : List (Int × Int)) : (srtP l).Pairwise (fun a b => leP a b = true) := List.pairwise_mergeSort (le := leP) leP_trans leP_total l
theorem srtP_uniq {l m : List (Int × Int)} (h : m.Perm l) (hs : m.Pairwise (fun a b => leP a b = true)) : m = srtP l :=
  (h.trans (srtP_perm l).symm).eq_of_pairwise (le := fun a b => leP a b = true) (fun a b _ _ h1 h2 => leP_anti h1 h2) hs (srtP_sorted l)
theorem shaped_pD (p : Int × Int) : SeqAt.shaped (pD p) = true := by
  unfold SeqAt.shaped pD
  simp [PyData.canLay0, PyData.canLayAll0, PyData.depth, PyData.depthAll]
theorem bSortZ_p {l : List (Int × Int)} (h : l.length ≤ 10000) : bSortZ [.list (l.map pD)] = some (.list ((srtP l).map pD)) := by
  have ho : okZ (l.map pD) = true := by
    unfold okZ
    have h1 : okLen (l.map pD).length = true := decide_eq_true (by rw [List.length_map]; exact h)
    have h2 : alikeZ (l.map pD) = true := by
      refine List.all_eq_true.mpr fun d hd => List.all_eq_true.mpr fun e he => ?_
      obtain ⟨p, _, rfl⟩ := List.mem_map.mp hd
      obtain ⟨q, _, rfl⟩ := List.mem_map.mp he
      unfold pD
      simp [PySem.W.alike, PySem.W.alikeAll]
    have h3 : sortableZ (l.map pD) = true := Bool.or_eq_true_iff.mpr (.inl (List.all_eq_true.mpr fun d hd => by
      obtain ⟨p, _, rfl⟩ := List.mem_map.mp hd
      rfl))
    have h4 : (l.map pD).all SeqAt.shaped = true := List.all_eq_true.mpr fun d hd => by
      obtain ⟨p, _, rfl⟩ := List.mem_map.mp hd
      exact shaped_pD p
    rw [h1, h2, h3, h4]
    rfl
  show (if okZ (l.map pD) = true then some (PyData.list ((l.map pD).mergeSort zle)) else none) = _
  rw [if_pos ho]
  have e := List.map_mergeSort (r := leP) (s := zle) (f := pD) (l := l) fun a _ b _ => (zle_p a b).symm
  unfold srtP
  rw [e]
end Pu

set_option Elab.async false
set_option linter.all false
set_option maxRecDepth 100000
set_option maxHeartbeats 4000000
/-! pairs of ends, strands -/
namespace Pu
open PySem PySem.Spec PyProof.Rows L2
variable [TabL]
/-! ### comprehensions of anything with a test -/
section
variable {ρ : Rho}
theorem lc_genF {α : Type} {its : Rho → Re (List PyData)} {vs : List Nat} {g : PyData → Rho → Option Rho} {t : Rho → Re Bool} {f : Rho → Re PyData} {as : List α} {e : α → PyData} {ρ1 : α → Rho} {P : α → Bool} {h : α → PyData} (hi : its ρ = .ok (as.map e)) (hl : as.length ≤ 10000)
    (hg : ∀ k ∈ as, g (e k) (wipeR ρ vs) = some (ρ1 k)) (ht : ∀ k ∈ as, t (ρ1 k) = .ok (P k)) (hf : ∀ k ∈ as, P k = true → f (ρ1 k) = .ok (h k)) :
    rLc its vs g t f ρ = .ok (.list ((as.filter P).map h)) := by
  unfold rLc
  rw [hi, re_ok, if_pos (by rw [List.length_map]; exact decide_eq_true hl)]
  have key : ∀ ms : List α, (∀ k ∈ ms, k ∈ as) → lcGo g t f (wipeR ρ vs) (ms.map e) = some ((ms.filter P).map h) := by
    intro ms
    induction ms with
    | nil => intro _; rfl
    | cons k ms ih =>
      intro hk
      have hka := hk k List.mem_cons_self
      have ih := ih fun k' hk' => hk k' (List.mem_cons_of_mem _ hk')
      show (match g (e k) (wipeR ρ vs) with
        | none => none
        | some ρ1 => match t ρ1 with
          | .ok true => (match f ρ1 with | .ok x => (match lcGo g t f (wipeR ρ vs) (ms.map e) with | some xs => some (x :: xs) | none => none) | _ => none)
          | .ok false => lcGo g t f (wipeR ρ vs) (ms.map e)
          | _ => none) = _
      rw [hg k hka]
      show (match t (ρ1 k) with
          | .ok true => (match f (ρ1 k) with | .ok x => (match lcGo g t f (wipeR ρ vs) (ms.map e) with | some xs => some (x :: xs) | none => none) | _ => none)
          | .ok false => lcGo g t f (wipeR ρ vs) (ms.map e)
          | _ => none) = _
      rw [ht k hka, ih, List.filter_cons]
      cases hp : P k with
      | true =>
        rw [hf k hka hp]
        rfl
      | false => rfl
  show (match lcGo g t f (wipeR ρ vs) (as.map e) with | some xs => Re.ok (PyData.list xs) | none => .bad) = _
  rw [key as fun _ h => h]
end
/-! ### pairs of ends -/
abbrev PP := Int × Int
def flatP : List PP → List Int
  | [] => []
  | p :: l => p.1 :: p.2 :: flatP l
theorem flatP_perm2 : ∀ l : List PP, (flatP l).Perm (l.map (·.1) ++ l.map (·.2))
  | [] => .refl _
  | p :: l => by
    have := flatP_perm2 l
    rw [List.map_cons, List.map_cons]
    show (p.1 :: p.2 :: flatP l).Perm (p.1 :: (l.map (·.1) ++ p.2 :: l.map (·.2)))
    exact List.Perm.cons _ ((List.Perm.cons _ this).trans List.perm_middle.symm)
theorem mem_flat {l : List PP} {e : Int} : e ∈ flatP l ↔ ∃ p ∈ l, p.1 = e ∨ p.2 = e := by
  induction l with
  | nil => simp [flatP]
  | cons p l ih =>
    show e ∈ p.1 :: p.2 :: flatP l ↔ _
    rw [List.mem_cons, List.mem_cons, ih]
    constructor
    · rintro (h | h | ⟨q, hq, h⟩)
      · exact ⟨p, List.mem_cons_self, .inl h.symm⟩
      · exact ⟨p, List.mem_cons_self, .inr h.symm⟩
      · exact ⟨q, List.mem_cons_of_mem _ hq, h⟩
    · rintro ⟨q, hq, h⟩
      rcases List.mem_cons.mp hq with rfl | hq
      · rcases h with h | h
        · exact .inl h.symm
        · exact .inr (.inl h.symm)
      · exact .inr (.inr ⟨q, hq, h⟩)
/-- the other end -/
def mate : List PP → Int → Int
  | [], _ => 0
  | p :: l, e => if p.1 = e then p.2 else if p.2 = e then p.1 else mate l e
theorem mate_no : ∀ {l : List PP} {e : Int}, e ∉ flatP l → mate l e = 0
  | [], _, _ => rfl
  | p :: l, e, h => by
    have h : ¬ e ∈ p.1 :: p.2 :: flatP l := h
    rw [List.mem_cons, List.mem_cons, not_or, not_or] at h
    unfold mate
    rw [if_neg (fun q => h.1 q.symm), if_neg (fun q => h.2.1 q.symm)]
    exact mate_no h.2.2
theorem mate_in : ∀ {l : List PP} {e : Int}, e ∈ flatP l → ∃ p ∈ l, (p.1 = e ∧ mate l e = p.2) ∨ (p.2 = e ∧ mate l e = p.1)
  | [], _, h => by cases h
  | p :: l, e, h => by
    unfold mate
    by_cases h1 : p.1 = e
    · rw [if_pos h1]
      exact ⟨p, List.mem_cons_self, .inl ⟨h1, rfl⟩⟩
    · rw [if_neg h1]
      by_cases h2 : p.2 = e
      · rw [if_pos h2]
        exact ⟨p, List.mem_cons_self, .inr ⟨h2, rfl⟩⟩
      · rw [if_neg h2]
        have h : e ∈ p.1 :: p.2 :: flatP l := h
        rw [List.mem_cons, List.mem_cons] at h
        obtain ⟨q, hq, h⟩ := mate_in (h.resolve_left (fun q => h1 q.symm) |>.resolve_left fun q => h2 q.symm)
        exact ⟨q, List.mem_cons_of_mem _ hq, h⟩
theorem mate_of : ∀ {l : List PP}, (flatP l).Nodup → ∀ p ∈ l, mate l p.1 = p.2 ∧ mate l p.2 = p.1 ∧ p.1 ≠ p.2
  | [], _, _, h => by cases h
  | q :: l, nd, p, h => by
    have nd : (q.1 :: q.2 :: flatP l).Nodup := nd
    rw [List.nodup_cons, List.nodup_cons] at nd
    obtain ⟨n1, n2, n3⟩ := nd
    have ne : q.1 ≠ q.2 := fun e => n1 (by rw [e]; exact List.mem_cons_self)
    rcases List.mem_cons.mp h with rfl | h
    · unfold mate
      rw [if_pos rfl, if_neg ne, if_pos rfl]
      exact ⟨rfl, rfl, ne⟩
    · obtain ⟨a, b, c⟩ := mate_of n3 p h
      have m1 : p.1 ∈ flatP l := mem_flat.mpr ⟨p, h, .inl rfl⟩
      have m2 : p.2 ∈ flatP l := mem_flat.mpr ⟨p, h, .inr rfl⟩
      have k1 : q.1 ≠ p.1 := fun e => n1 (by rw [e]; exact List.mem_cons_of_mem _ m1)
      have k2 : q.1 ≠ p.2 := fun e => n1 (by rw [e]; exact List.mem_cons_of_mem _ m2)
      have k3 : q.2 ≠ p.1 := fun e => n2 (by rw [e]; exact m1)
      have k4 : q.2 ≠ p.2 := fun e => n2 (by rw [e]; exact m2)
      unfold mate
      rw [if_neg k1, if_neg k3, if_neg k2, if_neg k4]
      exact ⟨a, b, c⟩
/-- two lists of the same pairs, in whatever order of the pairs and of their ends -/
theorem mate_same {l m : List PP} (nl : (flatP l).Nodup) (nm : (flatP m).Nodup) (h : ∀ p ∈ l, p ∈ m ∨ (p.2, p.1) ∈ m) (h2 : ∀ p ∈ m, p ∈ l ∨ (p.2, p.1) ∈ l) (e : Int) : mate l e = mate m e := by
  have half : ∀ {l m : List PP}, (flatP l).Nodup → (flatP m).Nodup → (∀ p ∈ l, p ∈ m ∨ (p.2, p.1) ∈ m) → e ∈ flatP l → mate l e = mate m e := by
    intro l m nl nm h he
    obtain ⟨p, hp, q⟩ := mate_in he
    rcases h p hp with hm | hm
    · obtain ⟨a, b, _⟩ := mate_of nm p hm
      rcases q with ⟨q1, q2⟩ | ⟨q1, q2⟩
      · rw [q2, ← q1, a]
      · rw [q2, ← q1, b]
    · obtain ⟨a, b, _⟩ := mate_of nm _ hm
      rcases q with ⟨q1, q2⟩ | ⟨q1, q2⟩
      · rw [q2, ← q1, b]
      · rw [q2, ← q1, a]
  by_cases h1 : e ∈ flatP l
  · exact half nl nm h h1
  · by_cases h3 : e ∈ flatP m
    · exact (half nm nl h2 h3).symm
    · rw [mate_no h1, mate_no h3]
/-- the array of the other ends -/
def putP (A : List Int) (p : PP) : List Int := (A.set p.1.toNat p.2).set p.2.toNat p.1
theorem putP_length (A : List Int) (p : PP) : (putP A p).length = A.length := by
  unfold putP
  rw [List.length_set, List.length_set]
theorem arr_length : ∀ (l : List PP) (A : List Int), (l.foldl putP A).length = A.length
  | [], _ => rfl
  | p :: l, A => by rw [List.foldl_cons, arr_length l, putP_length]
theorem arr_get : ∀ {l : List PP} {A : List Int}, (flatP l).Nodup → (∀ e ∈ flatP l, 0 ≤ e ∧ e < A.length) → ∀ k : Nat, (l.foldl putP A)[k]? = if (k : Int) ∈ flatP l then some (mate l k) else A[k]?
  | [], A, _, _, k => by rw [if_neg (by simp [flatP])]; rfl
  | p :: l, A, nd, hb, k => by
    have nd' : (p.1 :: p.2 :: flatP l).Nodup := nd
    rw [List.nodup_cons, List.nodup_cons] at nd'
    obtain ⟨n1, n2, n3⟩ := nd'
    have ne : p.1 ≠ p.2 := fun e => n1 (by rw [e]; exact List.mem_cons_self)
    have b1 := hb p.1 List.mem_cons_self
    have b2 := hb p.2 (List.mem_cons_of_mem _ List.mem_cons_self)
    rw [List.foldl_cons, arr_get n3 (fun e he => by rw [putP_length]; exact hb e (List.mem_cons_of_mem _ (List.mem_cons_of_mem _ he))) k]
    by_cases hk : (k : Int) ∈ flatP l
    · have hk2 : (k : Int) ∈ flatP (p :: l) := List.mem_cons_of_mem _ (List.mem_cons_of_mem _ hk)
      have k1 : p.1 ≠ k := fun e => n1 (by rw [e]; exact List.mem_cons_of_mem _ hk)
      have k2 : p.2 ≠ k := fun e => n2 (by rw [e]; exact hk)
      rw [if_pos hk, if_pos hk2]
      show some (mate l k) = some (if p.1 = k then p.2 else if p.2 = k then p.1 else mate l k)
      rw [if_neg k1, if_neg k2]
    · rw [if_neg hk]
      unfold putP
      by_cases k2 : p.2 = k
      · have hk2 : (k : Int) ∈ flatP (p :: l) := by rw [← k2]; exact List.mem_cons_of_mem _ List.mem_cons_self
        have ek : p.2.toNat = k := by omega
        rw [if_pos hk2, ek, List.getElem?_set_self (by rw [List.length_set]; omega)]
        show _ = some (if p.1 = k then p.2 else if p.2 = k then p.1 else mate l k)
        rw [if_neg (fun e => ne (e.trans k2.symm)), if_pos k2]
      · rw [List.getElem?_set_ne (by omega)]
        by_cases k1 : p.1 = k
        · have hk2 : (k : Int) ∈ flatP (p :: l) := by rw [← k1]; exact List.mem_cons_self
          have ek : p.1.toNat = k := by omega
          rw [if_pos hk2, ek, List.getElem?_set_self (by omega)]
          show _ = some (if p.1 = k then p.2 else if p.2 = k then p.1 else mate l k)
          rw [if_pos k1]
        · have hk2 : ¬ (k : Int) ∈ flatP (p :: l) := fun h => by
            have h : (k : Int) ∈ p.1 :: p.2 :: flatP l := h
            rcases List.mem_cons.mp h with h | h
            · exact k1 h.symm
            · rcases List.mem_cons.mp h with h | h
              · exact k2 h.symm
              · exact hk h
          rw [if_neg hk2, List.getElem?_set_ne (by omega)]
/-- the array from nothing: m + 1 places, 0 at place 0 -/
def arrZ (m : Nat) (l : List PP) : List Int := l.foldl putP (List.replicate (m + 1) 0)
structure EndsOk (m : Nat) (l : List PP) : Prop where
  nd : (flatP l).Nodup
  bd : ∀ e ∈ flatP l, 1 ≤ e ∧ e ≤ m
section
variable {m : Nat} {l : List PP}
theorem arrZ_len (m : Nat) (l : List PP) : (arrZ m l).length = m + 1 := by
  unfold arrZ
  rw [arr_length, List.length_replicate]
theorem EndsOk.arr (E : EndsOk m l) {k : Nat} (hk : k ≤ m) : (arrZ m l)[k]? = some (mate l k) := by
  unfold arrZ
  rw [arr_get E.nd (fun e he => by have := E.bd e he; rw [List.length_replicate]; omega)]
  by_cases h : (k : Int) ∈ flatP l
  · rw [if_pos h]
  · rw [if_neg h, mate_no h, List.getElem?_replicate, if_pos (by omega)]
theorem EndsOk.arr_eq (E : EndsOk m l) : arrZ m l = (upI 0 (m + 1)).map (mate l) := by
  refine List.ext_getElem? fun k => ?_
  by_cases hk : k ≤ m
  · rw [E.arr hk]
    unfold upI
    rw [List.getElem?_map, List.getElem?_map, List.getElem?_range (by omega)]
    show _ = some (mate l (0 + (k : Int)))
    rw [Int.zero_add]
  · rw [List.getElem?_eq_none (by rw [arrZ_len]; omega), List.getElem?_eq_none (by rw [List.length_map, upI_length]; omega)]
theorem EndsOk.mate0 (E : EndsOk m l) : mate l 0 = 0 := mate_no fun h => by
  have := (E.bd 0 h).1
  omega
theorem EndsOk.mate_bd (E : EndsOk m l) (e : Int) : 0 ≤ mate l e ∧ mate l e ≤ m := by
  by_cases h : e ∈ flatP l
  · obtain ⟨p, hp, q⟩ := mate_in h
    have b1 := E.bd p.1 (mem_flat.mpr ⟨p, hp, .inl rfl⟩)
    have b2 := E.bd p.2 (mem_flat.mpr ⟨p, hp, .inr rfl⟩)
    rcases q with ⟨_, q⟩ | ⟨_, q⟩ <;> omega
  · rw [mate_no h]
    omega
theorem EndsOk.mate_mate (E : EndsOk m l) {e : Int} (h : mate l e ≠ 0) : mate l (mate l e) = e ∧ mate l e ≠ e ∧ 1 ≤ e ∧ e ≤ m := by
  have he : e ∈ flatP l := Classical.byContradiction fun q => h (mate_no q)
  have be := E.bd e he
  obtain ⟨p, hp, q⟩ := mate_in he
  obtain ⟨a, b, c⟩ := mate_of E.nd p hp
  rcases q with ⟨q1, q2⟩ | ⟨q1, q2⟩
  · rw [q2, b, ← q1]
    exact ⟨rfl, fun e => c e.symm, by omega, by omega⟩
  · rw [q2, a, ← q1]
    exact ⟨rfl, c, by omega, by omega⟩
end
/-! ### each pair with its lesser end first, in ascending order -/
def normP (p : PP) : PP := (if p.2 < p.1 then p.2 else p.1, if p.2 > p.1 then p.2 else p.1)
theorem normP_cases (p : PP) : normP p = p ∨ normP p = (p.2, p.1) := by
  unfold normP
  by_cases h : p.2 < p.1
  · rw [if_pos h, if_neg (by omega)]
    exact .inr rfl
  · rw [if_neg h]
    by_cases h2 : p.2 > p.1
    · rw [if_pos h2]
      exact .inl rfl
    · rw [if_neg h2]
      have : p.1 = p.2 := by omega
      exact .inl (Prod.ext rfl this)
theorem normP_le (p : PP) : (normP p).1 ≤ (normP p).2 := by
  unfold normP
  simp only
  split <;> split <;> omega
def jntL (l : List PP) : List PP := srtP (l.map normP)
theorem flat_perm {l m : List PP} (h : l.Perm m) : (flatP l).Perm (flatP m) :=
  (flatP_perm2 l).trans (((h.map _).append (h.map _)).trans (flatP_perm2 m).symm)
theorem flat_norm : ∀ l : List PP, (flatP (l.map normP)).Perm (flatP l)
  | [] => .refl _
  | p :: l => by
    have ih := flat_norm l
    rw [List.map_cons]
    show ((normP p).1 :: (normP p).2 :: flatP (l.map normP)).Perm (p.1 :: p.2 :: flatP l)
    rcases normP_cases p with h | h
    · rw [h]
      exact List.Perm.cons _ (List.Perm.cons _ ih)
    · rw [h]
      exact (List.Perm.cons _ (List.Perm.cons _ ih)).trans (List.Perm.swap _ _ _)
theorem flat_jnt (l : List PP) : (flatP (jntL l)).Perm (flatP l) := (flat_perm (srtP_perm _)).trans (flat_norm l)
section
variable {m : Nat} {l : List PP}
theorem EndsOk.of_perm {l' : List PP} (E : EndsOk m l) (h : (flatP l').Perm (flatP l)) : EndsOk m l' := ⟨h.nodup_iff.mpr E.nd, fun e he => E.bd e (h.mem_iff.mp he)⟩
theorem EndsOk.jnt (E : EndsOk m l) : EndsOk m (jntL l) := E.of_perm (flat_jnt l)
theorem mem_jnt {p : PP} : p ∈ jntL l ↔ ∃ q ∈ l, normP q = p := by
  unfold jntL
  rw [(srtP_perm _).mem_iff, List.mem_map]
theorem EndsOk.mate_jnt (E : EndsOk m l) (e : Int) : mate (jntL l) e = mate l e := by
  refine mate_same E.jnt.nd E.nd (fun p hp => ?_) (fun p hp => ?_) e
  · obtain ⟨q, hq, rfl⟩ := mem_jnt.mp hp
    rcases normP_cases q with h | h
    · rw [h]
      exact .inl hq
    · rw [h]
      exact .inr hq
  · have := mem_jnt.mpr ⟨p, hp, rfl⟩
    rcases normP_cases p with h | h
    · rw [h] at this
      exact .inl this
    · rw [h] at this
      exact .inr this
/-- the joints read off the other ends -/
def jntF (m : Nat) (f : Int → Int) : List PP := ((upI 0 (m + 1)).filter fun e => decide (e < f e)).map fun e => (e, f e)
theorem mem_jntF {f : Int → Int} {p : PP} : p ∈ jntF m f ↔ 0 ≤ p.1 ∧ p.1 ≤ m ∧ p.2 = f p.1 ∧ p.1 < p.2 := by
  unfold jntF
  rw [List.mem_map]
  constructor
  · rintro ⟨e, he, rfl⟩
    obtain ⟨h1, h2⟩ := List.mem_filter.mp he
    have := up_mem.mp h1
    have h2 := of_decide_eq_true h2
    exact ⟨by simp only; omega, by simp only; omega, rfl, h2⟩
  · rintro ⟨h1, h2, h3, h4⟩
    refine ⟨p.1, List.mem_filter.mpr ⟨up_mem.mpr (by omega), decide_eq_true (by rw [← h3]; exact h4)⟩, ?_⟩
    rw [← h3]
theorem EndsOk.jnt_f (E : EndsOk m l) : jntF m (mate l) = jntL l := by
  refine srtP_uniq ?_ ?_
  · refine (List.perm_ext_iff_of_nodup ?_ ?_).mpr fun p => ?_
    · unfold jntF
      refine List.pairwise_map.mpr ((List.Pairwise.filter _ (up_nodup 0 (m + 1))).imp fun h e => h ?_)
      exact congrArg Prod.fst e
    · have : (flatP (l.map normP)).Nodup := (flat_norm l).nodup_iff.mpr E.nd
      have nd2 := (flatP_perm2 (l.map normP)).nodup_iff.mp this
      have nd3 := (List.nodup_append.mp nd2).1
      exact (List.pairwise_map.mp nd3).imp fun h e => h (congrArg Prod.fst e)
    · rw [mem_jntF]
      constructor
      · rintro ⟨h1, h2, h3, h4⟩
        have ne : mate l p.1 ≠ 0 := by omega
        have he : p.1 ∈ flatP l := Classical.byContradiction fun q => ne (mate_no q)
        obtain ⟨q, hq, c⟩ := mate_in he
        refine List.mem_map.mpr ⟨q, hq, ?_⟩
        rcases c with ⟨c1, c2⟩ | ⟨c1, c2⟩
        · have e1 : q = p := Prod.ext c1 (by omega)
          rw [e1]
          unfold normP
          rw [if_neg (by omega), if_pos (by omega)]
        · unfold normP
          rw [if_pos (by omega), if_neg (by omega)]
          exact Prod.ext c1 (by omega)
      · intro hp
        obtain ⟨q, hq, rfl⟩ := List.mem_map.mp hp
        obtain ⟨a, b, c⟩ := mate_of E.nd q hq
        have b1 := E.bd q.1 (mem_flat.mpr ⟨q, hq, .inl rfl⟩)
        have b2 := E.bd q.2 (mem_flat.mpr ⟨q, hq, .inr rfl⟩)
        unfold normP
        by_cases h : q.2 < q.1
        · rw [if_pos h, if_neg (by omega)]
          exact ⟨by simp only; omega, by simp only; omega, b.symm, h⟩
        · rw [if_neg h, if_pos (by omega)]
          exact ⟨by simp only; omega, by simp only; omega, a.symm, by simp only; omega⟩
  · unfold jntF
    refine List.pairwise_map.mpr (List.Pairwise.filter _ ?_)
    unfold upI
    refine List.pairwise_map.mpr (List.pairwise_lt_range.imp fun h => ?_)
    unfold leP
    exact decide_eq_true (.inl (by simp only; omega))
end
end Pu

set_option Elab.async false
set_option linter.all false
set_option maxRecDepth 100000
set_option maxHeartbeats 4000000
/-! strands and the ends that they join -/
namespace Pu
open PySem PySem.Spec PyProof.Rows L2
variable [TabL]
def abz (i : Int) : Int := if i < 0 then -i else i
/-- the end by which a number is entered, and the one by which it is left -/
def enZ (x : Int) : Int := if 0 < x then 2 * x - 1 else -2 * x
def leZ (x : Int) : Int := if enZ x % 2 = 1 then enZ x + 1 else enZ x - 1
theorem abz_pos {x : Int} (h : 0 < abz x) : x ≠ 0 := fun e => by
  subst e
  exact absurd h (by decide)
theorem leZ_eq {x : Int} (h : x ≠ 0) : leZ x = if 0 < x then 2 * x else -2 * x - 1 := by
  unfold leZ enZ
  by_cases c : 0 < x
  · rw [if_pos c, if_pos c, if_pos (by omega)]
    omega
  · rw [if_neg c, if_neg c, if_neg (by omega)]
theorem abz_cases (x : Int) : (0 ≤ x ∧ abz x = x) ∨ (x < 0 ∧ abz x = -x) := by
  unfold abz
  by_cases h : x < 0
  · rw [if_pos h]
    exact .inr ⟨h, rfl⟩
  · rw [if_neg h]
    exact .inl ⟨by omega, rfl⟩
theorem enZ_bd {x : Int} (h : x ≠ 0) : enZ x = 2 * abz x ∨ enZ x = 2 * abz x - 1 := by
  unfold enZ
  rcases abz_cases x with ⟨a, b⟩ | ⟨a, b⟩
  · rw [if_pos (by omega)]
    omega
  · rw [if_neg (by omega)]
    omega
theorem leZ_bd {x : Int} (h : x ≠ 0) : leZ x = 2 * abz x ∨ leZ x = 2 * abz x - 1 := by
  rw [leZ_eq h]
  rcases abz_cases x with ⟨a, b⟩ | ⟨a, b⟩
  · rw [if_pos (by omega)]
    omega
  · rw [if_neg (by omega)]
    omega
theorem en_ne_le {x : Int} (h : x ≠ 0) : leZ x ≠ enZ x := by
  unfold leZ
  split <;> omega
/-- the two ends of a piece -/
theorem two_ends {x : Int} (h : x ≠ 0) : (enZ x = 2 * abz x - 1 ∧ leZ x = 2 * abz x) ∨ (enZ x = 2 * abz x ∧ leZ x = 2 * abz x - 1) := by
  have := en_ne_le h
  rcases enZ_bd h with a | a <;> rcases leZ_bd h with b | b <;> omega
def folZ (c : Bool) (ps : List Int) : List Int := if c = true then ps.drop 1 ++ ps.take 1 else ps.drop 1
def jsO (c : Bool) (ps : List Int) : List PP := (ps.zip (folZ c ps)).map fun p => (leZ p.1, enZ p.2)
abbrev Strd := Bool × List Int
def jsS (l : List Strd) : List PP := l.flatMap fun s => jsO s.1 s.2
def pcS (l : List Strd) : List Int := l.flatMap (·.2)
structure OkS (n : Nat) (l : List Strd) : Prop where
  pm : ((pcS l).map abz).Perm (upI 1 n)
  ne : ∀ s ∈ l, s.2 ≠ []
theorem zip_sub1 {α β : Type} : ∀ (l : List α) (m : List β), ((l.zip m).map (·.1)).Sublist l
  | [], _ => by simp
  | _ :: _, [] => by simp
  | a :: l, b :: m => by
    rw [List.zip_cons_cons, List.map_cons]
    exact (zip_sub1 l m).cons_cons a
theorem zip_sub2 {α β : Type} : ∀ (l : List α) (m : List β), ((l.zip m).map (·.2)).Sublist m
  | [], _ => by simp
  | _ :: _, [] => by simp
  | a :: l, b :: m => by
    rw [List.zip_cons_cons, List.map_cons]
    exact (zip_sub2 l m).cons_cons b
theorem flatMap_sub {α β : Type} (f g : α → List β) : ∀ l : List α, (∀ a ∈ l, (f a).Sublist (g a)) → (l.flatMap f).Sublist (l.flatMap g)
  | [], _ => by simp
  | a :: l, h => by
    rw [List.flatMap_cons, List.flatMap_cons]
    exact (h a List.mem_cons_self).append (flatMap_sub f g l fun x hx => h x (List.mem_cons_of_mem _ hx))
theorem flatMap_perm' {α β : Type} (f g : α → List β) : ∀ l : List α, (∀ a ∈ l, (f a).Perm (g a)) → (l.flatMap f).Perm (l.flatMap g)
  | [], _ => by simp
  | a :: l, h => by
    rw [List.flatMap_cons, List.flatMap_cons]
    exact (h a List.mem_cons_self).append (flatMap_perm' f g l fun x hx => h x (List.mem_cons_of_mem _ hx))
theorem rot_perm (ps : List Int) : (ps.drop 1 ++ ps.take 1).Perm ps := by
  have := List.perm_append_comm (l₁ := ps.drop 1) (l₂ := ps.take 1)
  rwa [List.take_append_drop] at this
/-- in a list of nodup sizes the sizes tell the pieces -/
theorem abz_inj {P : List Int} (nd : (P.map abz).Nodup) : ∀ x ∈ P, ∀ y ∈ P, abz x = abz y → x = y := by
  induction P with
  | nil => intro x hx; cases hx
  | cons a P ih =>
    rw [List.map_cons, List.nodup_cons] at nd
    intro x hx y hy e
    rcases List.mem_cons.mp hx with h1 | h1
    · rcases List.mem_cons.mp hy with h2 | h2
      · rw [h1, h2]
      · exact absurd (List.mem_map.mpr ⟨y, h2, by rw [← e, h1]⟩) nd.1
    · rcases List.mem_cons.mp hy with h2 | h2
      · exact absurd (List.mem_map.mpr ⟨x, h1, by rw [e, h2]⟩) nd.1
      · exact ih nd.2 x h1 y h2 e
theorem nd_of_map {α β : Type} (f : α → β) {l : List α} (h : (l.map f).Nodup) : l.Nodup := (List.pairwise_map.mp h).imp fun h e => h (congrArg f e)
theorem nd_map_on {α β : Type} (f : α → β) {l : List α} (h : l.Nodup) (hi : ∀ x ∈ l, ∀ y ∈ l, f x = f y → x = y) : (l.map f).Nodup := by
  refine List.pairwise_map.mpr (List.Pairwise.imp_of_mem ?_ h)
  intro a b ha hb ne e
  exact ne (hi a ha b hb e)
section
variable {n : Nat} {l : List Strd}
theorem OkS.nd (O : OkS n l) : ((pcS l).map abz).Nodup := O.pm.nodup_iff.mpr (up_nodup 1 n)
theorem OkS.bd (O : OkS n l) {x : Int} (hx : x ∈ pcS l) : x ≠ 0 ∧ 1 ≤ abz x ∧ abz x ≤ n := by
  have := up_mem.mp (O.pm.mem_iff.mp (List.mem_map.mpr ⟨x, hx, rfl⟩))
  exact ⟨abz_pos (by omega), by omega, by omega⟩
/-- the pieces that are left, those that are entered -/
def lfS (l : List Strd) : List Int := l.flatMap fun s => (s.2.zip (folZ s.1 s.2)).map (·.1)
def enS (l : List Strd) : List Int := l.flatMap fun s => (s.2.zip (folZ s.1 s.2)).map (·.2)
theorem js_fst (l : List Strd) : (jsS l).map (·.1) = (lfS l).map leZ := by
  unfold jsS lfS jsO
  rw [List.map_flatMap, List.map_flatMap]
  simp [List.map_map, Function.comp_def]
theorem js_snd (l : List Strd) : (jsS l).map (·.2) = (enS l).map enZ := by
  unfold jsS enS jsO
  rw [List.map_flatMap, List.map_flatMap]
  simp [List.map_map, Function.comp_def]
theorem lf_sub (l : List Strd) : (lfS l).Sublist (pcS l) := flatMap_sub _ _ l fun s _ => zip_sub1 _ _
theorem en_sub (l : List Strd) : ∃ Q, (enS l).Sublist Q ∧ Q.Perm (pcS l) ∧ ∀ x ∈ enS l, x ∈ pcS l := by
  have h : ∃ Q, (enS l).Sublist Q ∧ Q.Perm (pcS l) := by
    refine ⟨l.flatMap fun s => s.2.drop 1 ++ s.2.take 1, flatMap_sub _ _ l fun s _ => ?_, flatMap_perm' _ _ l fun s _ => rot_perm s.2⟩
    refine (zip_sub2 _ _).trans ?_
    unfold folZ
    split
    · exact List.Sublist.refl _
    · exact List.sublist_append_left _ _
  obtain ⟨Q, h1, h2⟩ := h
  exact ⟨Q, h1, h2, fun x hx => h2.mem_iff.mp (h1.subset hx)⟩
theorem OkS.ends (O : OkS n l) : EndsOk (2 * n) (jsS l) := by
  obtain ⟨Q, q1, q2, q3⟩ := en_sub l
  have ndP := nd_of_map abz O.nd
  have inj := abz_inj O.nd
  have eq_of : ∀ x ∈ pcS l, ∀ y ∈ pcS l, ∀ e, (e = enZ x ∨ e = leZ x) → (e = enZ y ∨ e = leZ y) → x = y := fun x hx y hy e h1 h2 => by
    refine inj x hx y hy ?_
    have t1 := two_ends (O.bd hx).1
    have t2 := two_ends (O.bd hy).1
    omega
  have pm := flatP_perm2 (jsS l)
  rw [js_fst, js_snd] at pm
  have sub1 := lf_sub l
  refine ⟨pm.nodup_iff.mpr (List.nodup_append.mpr ⟨?_, ?_, ?_⟩), fun e he => ?_⟩
  · exact nd_map_on leZ (sub1.nodup ndP) fun x hx y hy e => eq_of x (sub1.subset hx) y (sub1.subset hy) _ (.inr rfl) (.inr e)
  · exact nd_map_on enZ (q1.nodup (q2.nodup_iff.mpr ndP)) fun x hx y hy e => eq_of x (q3 x hx) y (q3 y hy) _ (.inl rfl) (.inl e)
  · intro a ha b hb e
    obtain ⟨x, hx, rfl⟩ := List.mem_map.mp ha
    obtain ⟨y, hy, rfl⟩ := List.mem_map.mp hb
    have := eq_of x (sub1.subset hx) y (q3 y hy) _ (.inr rfl) (.inl e)
    subst this
    exact en_ne_le (O.bd (sub1.subset hx)).1 e
  · have he := pm.mem_iff.mp he
    rcases List.mem_append.mp he with h | h
    · obtain ⟨x, hx, rfl⟩ := List.mem_map.mp h
      have b := O.bd (sub1.subset hx)
      have t := two_ends b.1
      omega
    · obtain ⟨x, hx, rfl⟩ := List.mem_map.mp h
      have b := O.bd (q3 x hx)
      have t := two_ends b.1
      omega
end
/-! ### strands as data -/
def stD (s : Strd) : PyData := .tuple [.str (if s.1 = true then "closed" else "open"), tI s.2]
/-- with any word -/
abbrev Wrd := Str × List Int
def wtD (s : Wrd) : PyData := .tuple [.str s.1, tI s.2]
def toW (s : Strd) : Wrd := (if s.1 = true then "closed" else "open", s.2)
theorem stD_w (s : Strd) : stD s = wtD (toW s) := by
  unfold stD wtD toW
  rfl
/-- a body as data -/
def bdD (n : Int) (A : List Int) : PyData := insD "Body" ["n", "_partners"] [.int n, tI A]
@[simp] theorem fld_n (n : Int) (A : List Int) : ((objF "Body" (bdD n A)).bind fun kvs => fldO kvs "n") = some (.int n) := by
  rfl
@[simp] theorem fld_p (n : Int) (A : List Int) : ((objF "Body" (bdD n A)).bind fun kvs => fldO kvs "_partners") = some (tI A) := by
  rfl
end Pu

set_option Elab.async false
set_option linter.all false
set_option maxRecDepth 100000
set_option maxHeartbeats 4000000
/-! readings of two-clause comprehensions of anything; words open and closed; a list of pairs that fills up -/
namespace Pu
open PySem PySem.Spec PyProof.Rows L2
variable [TabL]
section
variable {ρ : Rho}
theorem lcGo_gen {α : Type} {g : PyData → Rho → Option Rho} {t : Rho → Re Bool} {f : Rho → Re PyData} {e : α → PyData} {ρ1 : α → Rho} {P : α → Bool} {h : α → PyData} : ∀ as : List α, (∀ k ∈ as, g (e k) ρ = some (ρ1 k)) → (∀ k ∈ as, t (ρ1 k) = .ok (P k)) → (∀ k ∈ as, P k = true → f (ρ1 k) = .ok (h k)) →
    lcGo g t f ρ (as.map e) = some ((as.filter P).map h)
  | [], _, _, _ => rfl
  | k :: ms, hg, ht, hf => by
    have ih := lcGo_gen ms (fun x hx => hg x (List.mem_cons_of_mem _ hx)) (fun x hx => ht x (List.mem_cons_of_mem _ hx)) fun x hx => hf x (List.mem_cons_of_mem _ hx)
    have hka : k ∈ k :: ms := List.mem_cons_self
    show (match g (e k) ρ with
      | none => none
      | some ρ1 => match t ρ1 with
        | .ok true => (match f ρ1 with | .ok x => (match lcGo g t f ρ (ms.map e) with | some xs => some (x :: xs) | none => none) | _ => none)
        | .ok false => lcGo g t f ρ (ms.map e)
        | _ => none) = _
    rw [hg k hka]
    show (match t (ρ1 k) with
        | .ok true => (match f (ρ1 k) with | .ok x => (match lcGo g t f ρ (ms.map e) with | some xs => some (x :: xs) | none => none) | _ => none)
        | .ok false => lcGo g t f ρ (ms.map e)
        | _ => none) = _
    rw [ht k hka, ih, List.filter_cons]
    cases hp : P k with
    | true =>
      rw [hf k hka hp]
      rfl
    | false => rfl
theorem lcGo2_gen {α β : Type} {g g1 : PyData → Rho → Option Rho} {its1 : Rho → Re (List PyData)} {vs1 : List Nat} {t1 : Rho → Re Bool} {f : Rho → Re PyData} {e : α → PyData} {e1 : α → β → PyData} {bs : α → List β} {ρ1 : α → Rho} {ρ2 : α → β → Rho} {P : α → β → Bool} {h : α → β → PyData} : ∀ as : List α,
    (∀ a ∈ as, g (e a) ρ = some (ρ1 a)) → (∀ a ∈ as, its1 (ρ1 a) = .ok ((bs a).map (e1 a))) → (∀ a ∈ as, ∀ b ∈ bs a, g1 (e1 a b) (wipeR (ρ1 a) vs1) = some (ρ2 a b)) → (∀ a ∈ as, ∀ b ∈ bs a, t1 (ρ2 a b) = .ok (P a b)) → (∀ a ∈ as, ∀ b ∈ bs a, P a b = true → f (ρ2 a b) = .ok (h a b)) →
    lcGo2 g yesR its1 vs1 g1 t1 f ρ (as.map e) = some (as.flatMap fun a => ((bs a).filter (P a)).map (h a))
  | [], _, _, _, _, _ => rfl
  | a :: as, hg, hi, hg1, ht, hf => by
    have ih := lcGo2_gen (P := P) (h := h) as (fun x hx => hg x (List.mem_cons_of_mem _ hx)) (fun x hx => hi x (List.mem_cons_of_mem _ hx)) (fun x hx => hg1 x (List.mem_cons_of_mem _ hx)) (fun x hx => ht x (List.mem_cons_of_mem _ hx)) fun x hx => hf x (List.mem_cons_of_mem _ hx)
    have ha : a ∈ a :: as := List.mem_cons_self
    show (match g (e a) ρ with
      | none => none
      | some ρ1 => match its1 ρ1 with
        | .ok es => (match lcGo g1 t1 f (wipeR ρ1 vs1) es with
          | some xs => (match lcGo2 g yesR its1 vs1 g1 t1 f ρ (as.map e) with | some ys => some (xs ++ ys) | none => none)
          | none => none)
        | _ => none) = _
    rw [hg a ha]
    show (match its1 (ρ1 a) with
        | .ok es => (match lcGo g1 t1 f (wipeR (ρ1 a) vs1) es with
          | some xs => (match lcGo2 g yesR its1 vs1 g1 t1 f ρ (as.map e) with | some ys => some (xs ++ ys) | none => none)
          | none => none)
        | _ => none) = _
    rw [hi a ha]
    show (match lcGo g1 t1 f (wipeR (ρ1 a) vs1) ((bs a).map (e1 a)) with
          | some xs => (match lcGo2 g yesR its1 vs1 g1 t1 f ρ (as.map e) with | some ys => some (xs ++ ys) | none => none)
          | none => none) = _
    rw [lcGo_gen (P := P a) (h := h a) (bs a) (hg1 a ha) (ht a ha) (hf a ha), ih]
    rfl
/-- [h(a, b) for a in as for b in bs(a) if P(a, b)] -/
theorem lc2_gen {α β : Type} {its its1 : Rho → Re (List PyData)} {vs vs1 : List Nat} {g g1 : PyData → Rho → Option Rho} {t1 : Rho → Re Bool} {f : Rho → Re PyData} {as : List α} {e : α → PyData} {e1 : α → β → PyData} {bs : α → List β} {ρ1 : α → Rho} {ρ2 : α → β → Rho} {P : α → β → Bool} {h : α → β → PyData}
    (hi0 : its ρ = .ok (as.map e)) (hg : ∀ a ∈ as, g (e a) (wipeR ρ vs) = some (ρ1 a)) (hi : ∀ a ∈ as, its1 (ρ1 a) = .ok ((bs a).map (e1 a))) (hg1 : ∀ a ∈ as, ∀ b ∈ bs a, g1 (e1 a b) (wipeR (ρ1 a) vs1) = some (ρ2 a b)) (ht : ∀ a ∈ as, ∀ b ∈ bs a, t1 (ρ2 a b) = .ok (P a b)) (hf : ∀ a ∈ as, ∀ b ∈ bs a, P a b = true → f (ρ2 a b) = .ok (h a b))
    (hl : (as.flatMap fun a => ((bs a).filter (P a)).map (h a)).length ≤ 10000) : rLc2 its vs g yesR its1 vs1 g1 t1 f ρ = .ok (.list (as.flatMap fun a => ((bs a).filter (P a)).map (h a))) := by
  unfold rLc2
  rw [hi0, re_ok]
  show (match lcGo2 g yesR its1 vs1 g1 t1 f (wipeR ρ vs) (as.map e) with | some xs => if okLen xs.length = true then Re.ok (PyData.list xs) else .bad | none => .bad) = _
  rw [lcGo2_gen (P := P) (h := h) as hg hi hg1 ht hf]
  show (if okLen (as.flatMap fun a => ((bs a).filter (P a)).map (h a)).length = true then Re.ok (PyData.list (as.flatMap fun a => ((bs a).filter (P a)).map (h a))) else .bad) = _
  have hk : okLen (as.flatMap fun a => ((bs a).filter (P a)).map (h a)).length = true := decide_eq_true hl
  rw [if_pos hk]
end
/-! ### fields stored by __init__ -/
theorem imm_ints (ns : List Int) : immAll (ns.map PyData.int) = true := by
  induction ns with
  | nil => rw [List.map_nil, immAll]
  | cons a l ih => rw [List.map_cons, immAll_cons, ih, imm_i]; rfl
theorem imm_tI' (ns : List Int) : imm (tI ns) = true := by
  unfold tI
  rw [imm_tup, imm_ints]
theorem fldS_go {ρ : Rho} {c f : Str} {i : Nat} {g : Rho → Re PyData} {d dd : PyData} {kvs : List (PyData × PyData)} (h1 : g ρ = .ok d) (h2 : ρ[i]? = some (some dd)) (h3 : objF c dd = some kvs) (h4 : kvs.length < 1000) (h5 : fldO kvs f = none) (h6 : imm d = true) : sFldS c i f g ρ = .nx (ρ.set i (some (addF f d dd))) := by
  unfold sFldS
  rw [h1, st_ok, h2]
  show (match objF c dd with
    | some kvs => if kvs.length < 1000 ∧ fldO kvs f = none ∧ imm d = true then Sr.nx (ρ.set i (some (addF f d dd))) else .bad
    | none => .bad) = _
  rw [h3]
  show (if kvs.length < 1000 ∧ fldO kvs f = none ∧ imm d = true then Sr.nx (ρ.set i (some (addF f d dd))) else .bad) = _
  rw [if_pos ⟨h4, h5, h6⟩]
theorem fin_ok {c : Str} {dx : Addr} {kvs : List (PyData × PyData)} (h : (kvs.all fun p => imm p.2) = true) : fin c dx (.dict ((.bool false, .tuple [.str c, .int (dx : Nat)]) :: kvs)) = .ok (.dict ((.bool false, .tuple [.str c, .none]) :: kvs)) := by
  show (if c = c ∧ (((dx : Nat) : Int)) = ((dx : Nat) : Int) ∧ (kvs.all fun p => imm p.2) = true then Re.ok _ else .bad) = _
  rw [if_pos ⟨rfl, rfl, h⟩]
theorem rep0 (n : Nat) (h : n ≤ 10000) : oRepL (lI [0]) (.int (n : Int)) = some (lI (List.replicate n 0)) := by
  have h1 : okLen ([PyData.int 0].length * ((n : Int)).toNat) = true ∧ -2 ^ 63 ≤ (n : Int) ∧ (n : Int) < 2 ^ 63 := ⟨decide_eq_true (by simp; omega), by omega, by omega⟩
  show (if okLen ([PyData.int 0].length * ((n : Int)).toNat) = true ∧ -2 ^ 63 ≤ (n : Int) ∧ (n : Int) < 2 ^ 63 then some (PyData.list (List.replicate ((n : Int)).toNat [PyData.int 0]).flatten) else none) = _
  rw [if_pos h1, Int.toNat_natCast]
  unfold lI
  congr 2
  induction n with
  | zero => rfl
  | succ n ih =>
    rw [List.replicate_succ, List.flatten_cons, List.replicate_succ, List.map_cons, ih (by omega) ⟨decide_eq_true (by simp; omega), by omega, by omega⟩]
    rfl
theorem loop_rt {g : PyData → Rho → Option Rho} {b : Rho → Sr} {d x : PyData} {ds : List PyData} {ρ ρ1 : Rho} (h : g x ρ = some ρ1) (h2 : b ρ1 = .rt d) : sLoop g b (x :: ds) ρ = .rt d := by
  show (match g x ρ with
    | none => Sr.bad
    | some ρ1 => match b ρ1 with
      | .nx ρ2 => sLoop g b ds ρ2
      | .ct ρ2 => sLoop g b ds ρ2
      | .bk ρ2 => .nx ρ2
      | .rt d => .rt d
      | .ex c ρ2 => .ex c ρ2
      | .bad => .bad) = _
  rw [h]
  show (match b ρ1 with
    | .nx ρ2 => sLoop g b ds ρ2
    | .ct ρ2 => sLoop g b ds ρ2
    | .bk ρ2 => .nx ρ2
    | .rt d => .rt d
    | .ex c ρ2 => .ex c ρ2
    | .bad => .bad) = _
  rw [h2]
theorem sApp_go {ρ : Rho} {i : Nat} {lk : Bool} {f : Rho → Re PyData} {ds : List PyData} {d : PyData} (h1 : ρ[i]? = some (some (.list ds))) (h2 : f ρ = .ok d) (h3 : ds.length < 10000) (h4 : lk = true → imm d = true) : sApp i lk f ρ = .nx (ρ.set i (some (.list (ds ++ [d])))) := by
  have e1 : getL ρ i = some ds := by rw [getL_eq, h1]; rfl
  unfold sApp
  rw [e1]
  show (f ρ).st ρ _ = _
  rw [h2, st_ok]
  have hk : okLen (ds.length + 1) = true := decide_eq_true (by omega)
  rw [if_pos ⟨hk, h4⟩]
def wdZ (b : Bool) : Str := if b = true then "closed" else "open"
theorem stD_eq (b : Bool) (ps : List Int) : stD (b, ps) = .tuple [.str (wdZ b), tI ps] := rfl
theorem pick_word (x : Int) : oIx (.list [.str "open", .str "closed"]) (.int (x % 2)) = some (.str (wdZ (decide (x % 2 = 1)))) := by
  rcases (show x % 2 = 0 ∨ x % 2 = 1 by omega) with h | h
  · rw [h]
    rfl
  · rw [h]
    rfl
theorem imm_stD (s : Strd) : imm (stD s) = true := by
  unfold stD
  rw [imm_tup, immAll_cons, immAll_cons, imm_tI', immAll]
  simp [imm]
/-! ### words -/
theorem sh_closed : SeqAt.shaped (.str ("closed" : Str)) = true := by decide +kernel
theorem sh_open : SeqAt.shaped (.str ("open" : Str)) = true := by decide +kernel
theorem eq_word (w v : Str) (hw : SeqAt.shaped (.str w) = true) (hv : SeqAt.shaped (.str v) = true) : oEq (.str w) (.str v) = some (.bool (decide (w = v))) := by
  rw [oEq_s hw hv]
  congr 2
theorem eqv_str (a b : Str) : PyData.eqv (.str a) (.str b) = decide (a = b) := by
  show (a == b) = decide (a = b)
  rfl
theorem zip_map2 {α β γ δ : Type} (f : α → γ) (g : β → δ) : ∀ (l : List α) (m : List β), (l.map f).zip (m.map g) = (l.zip m).map fun p => (f p.1, g p.2)
  | [], _ => rfl
  | _ :: _, [] => rfl
  | a :: l, b :: m => by
    rw [List.map_cons, List.map_cons, List.zip_cons_cons, List.zip_cons_cons, List.map_cons, zip_map2 f g l m]
theorem flat_len {α β : Type} (f : α → List β) (k : Nat) : ∀ l : List α, (∀ a ∈ l, (f a).length ≤ k) → (l.flatMap f).length ≤ l.length * k
  | [], _ => by simp
  | a :: l, h => by
    have := flat_len f k l fun x hx => h x (List.mem_cons_of_mem _ hx)
    have h1 := h a List.mem_cons_self
    rw [List.flatMap_cons, List.length_append, List.length_cons, Nat.add_mul]
    omega
theorem folZ_len (c : Bool) (ps : List Int) : (folZ c ps).length ≤ ps.length + 1 := by
  unfold folZ
  split
  · rw [List.length_append, List.length_drop, List.length_take]
    omega
  · rw [List.length_drop]
    omega
/-! ### with any words -/
def okW (s : Wrd) : Bool := (decide (s.1 = "open") || decide (s.1 = "closed")) && decide (s.2 ≠ [])
def ShW (W : List Wrd) : Prop := ∀ s ∈ W, SeqAt.shaped (.str s.1) = true ∧ s.2.length ≤ 100
def pcW (W : List Wrd) : List Int := W.flatMap (·.2)
def isB (n : Int) (W : List Wrd) : Bool := decide (0 ≤ n ∧ n ≤ 40) && (W.all okW && decide (srtZ ((pcW W).map abz) = upI 1 n.toNat))
theorem in_words (w : Str) : oIn false (.str w) (.tuple [.str "open", .str "closed"]) = some (.bool (decide (w = "open") || decide (w = "closed"))) := by
  have hf : flatD (.str w) = true ∧ [PyData.str "open", .str "closed"].all flatD = true := ⟨rfl, rfl⟩
  show (if flatD (.str w) = true ∧ [PyData.str "open", .str "closed"].all flatD = true then some (PyData.bool (if false = true then !inD (.str w) [.str "open", .str "closed"] else inD (.str w) [.str "open", .str "closed"])) else none) = _
  rw [if_pos hf, if_neg (by decide)]
  unfold inD
  simp only [List.any_cons, List.any_nil, Bool.or_false, eqv_str]
  congr 3
  · exact decide_eq_decide.mpr ⟨Eq.symm, Eq.symm⟩
  · exact decide_eq_decide.mpr ⟨Eq.symm, Eq.symm⟩
theorem notIn_words (w : Str) : oIn true (.str w) (.list [.str "open", .str "closed"]) = some (.bool (!(decide (w = "open") || decide (w = "closed")))) := by
  have hf : flatD (.str w) = true ∧ [PyData.str "open", .str "closed"].all flatD = true := ⟨rfl, rfl⟩
  show (if flatD (.str w) = true ∧ [PyData.str "open", .str "closed"].all flatD = true then some (PyData.bool (if true = true then !inD (.str w) [.str "open", .str "closed"] else inD (.str w) [.str "open", .str "closed"])) else none) = _
  rw [if_pos hf, if_pos rfl]
  unfold inD
  simp only [List.any_cons, List.any_nil, Bool.or_false, eqv_str]
  congr 4
  · exact decide_eq_decide.mpr ⟨Eq.symm, Eq.symm⟩
  · exact decide_eq_decide.mpr ⟨Eq.symm, Eq.symm⟩
theorem mkT_w : mkT [.str "open", .str "closed"] = .ok (.tuple [.str "open", .str "closed"]) := mkT_d (by simp)
theorem mkL_w : mkL [.str "open", .str "closed"] = .ok (.list [.str "open", .str "closed"]) := mkL_d (by simp)
/-- the strands of W where it is a body -/
def toS (s : Wrd) : Strd := (decide (s.1 = "closed"), s.2)
theorem toW_toS {s : Wrd} (h : okW s = true) : toW (toS s) = s := by
  obtain ⟨w, ps⟩ := s
  unfold okW at h
  simp only [Bool.and_eq_true, Bool.or_eq_true, decide_eq_true_eq] at h
  unfold toW toS
  simp only
  rcases h.1 with h | h
  · subst h
    rfl
  · subst h
    rfl
theorem isB_ok {n : Int} {W : List Wrd} (h : isB n W = true) : 0 ≤ n ∧ n ≤ 40 ∧ W = (W.map toS).map toW ∧ OkS n.toNat (W.map toS) := by
  unfold isB at h
  simp only [Bool.and_eq_true, decide_eq_true_eq] at h
  obtain ⟨⟨h1, h2⟩, h3, h4⟩ := h
  refine ⟨h1, h2, ?_, ⟨?_, fun s hs => ?_⟩⟩
  · rw [List.map_map]
    have : W.map id = W.map (toW ∘ toS) := List.map_congr_left fun s hs => (toW_toS (List.all_eq_true.mp h3 s hs)).symm
    rw [← this, List.map_id]
  · have e : pcS (W.map toS) = pcW W := by
      unfold pcS pcW
      rw [List.flatMap_map]
      rfl
    rw [e, ← h4]
    exact (srtZ_perm _).symm
  · obtain ⟨w, hw, rfl⟩ := List.mem_map.mp hs
    have := List.all_eq_true.mp h3 w hw
    unfold okW at this
    simp only [Bool.and_eq_true, decide_eq_true_eq] at this
    exact this.2
theorem isB_of {n : Nat} {l : List Strd} (O : OkS n l) (hn : n ≤ 40) : isB n (l.map toW) = true := by
  unfold isB
  simp only [Bool.and_eq_true, decide_eq_true_eq]
  refine ⟨⟨by omega, by omega⟩, List.all_eq_true.mpr fun s hs => ?_, ?_⟩
  · obtain ⟨s, hs', rfl⟩ := List.mem_map.mp hs
    unfold okW toW
    simp only [Bool.and_eq_true, Bool.or_eq_true, decide_eq_true_eq]
    refine ⟨?_, O.ne s hs'⟩
    cases s.1 with
    | true => exact .inr rfl
    | false => exact .inl rfl
  · have e : pcW (l.map toW) = pcS l := by
      unfold pcS pcW
      rw [List.flatMap_map]
      rfl
    rw [e, Int.toNat_natCast]
    exact (srtZ_uniq O.pm.symm (by
      unfold upI
      exact List.pairwise_map.mpr (List.pairwise_lt_range.imp fun h => by omega))).symm
theorem map_toS {l : List Strd} : (l.map toW).map toS = l := by
  rw [List.map_map]
  have : l.map (toS ∘ toW) = l.map id := List.map_congr_left fun s _ => by
    obtain ⟨c, ps⟩ := s
    cases c with
    | true => rfl
    | false => rfl
  rw [this, List.map_id]
end Pu

set_option Elab.async false
set_option linter.all false
set_option maxRecDepth 100000
set_option maxHeartbeats 4000000
/-! popped items, nested pairs -/
namespace Pu
open PySem PySem.Spec PyProof.Rows L2
variable [TabL]
section
variable {ρ : Rho}
theorem setPop0_go {i j : Nat} {es : List PyData} {y : PyData} (h : ρ[j]? = some (some (.list (es ++ [y])))) (hij : i ≠ j) : sSetPop0 i j ρ = .nx ((ρ.set j (some (.list es))).set i (some y)) := by
  have e1 : getL ρ j = some (es ++ [y]) := by rw [getL_eq, h]; rfl
  unfold sSetPop0
  rw [e1]
  show (match (es ++ [y]).getLast? with
    | some y' => if i ≠ j then Sr.nx ((ρ.set j (some (.list (es ++ [y]).dropLast))).set i (some y')) else .bad
    | none => .bad) = _
  rw [List.getLast?_concat, List.dropLast_concat]
  show (if i ≠ j then Sr.nx ((ρ.set j (some (.list es))).set i (some y)) else .bad) = _
  rw [if_pos hij]
theorem setPop_go {i j : Nat} {f : Rho → Re PyData} {es : List PyData} {y : PyData} {n : Nat} (h : ρ[j]? = some (some (.list es))) (hij : i ≠ j) (hf : f ρ = .ok (.int (n : Int))) (hl : es.length ≤ 10000) (hy : es[n]? = some y) : sSetPop i j f ρ = .nx ((ρ.set j (some (.list (es.eraseIdx n)))).set i (some y)) := by
  have e1 : getL ρ j = some es := by rw [getL_eq, h]; rfl
  have hn := getSome hy
  have e2 : popAt ρ j (.int (n : Int)) = some (y, es.eraseIdx n) := by
    unfold popAt
    rw [e1]
    show (if okLen es.length = true then (match ixN es.length (n : Int) with
      | some k => (match es[k]? with | some y => some (y, es.eraseIdx k) | none => none)
      | none => none) else none) = _
    rw [if_pos (show okLen es.length = true from decide_eq_true hl), ixN_p (by omega) (by omega), Int.toNat_natCast]
    show (match es[n]? with | some y => some (y, es.eraseIdx n) | none => none) = _
    rw [hy]
  unfold sSetPop
  rw [e1]
  show (f ρ).st ρ _ = _
  rw [hf, st_ok, e2]
  show (if i ≠ j then Sr.nx ((ρ.set j (some (.list (es.eraseIdx n)))).set i (some y)) else .bad) = _
  rw [if_pos hij]
theorem ext_go {i : Nat} {f : Rho → Re PyData} {ds es : List PyData} (h : ρ[i]? = some (some (.list ds))) (hf : f ρ = .ok (.tuple es)) (hl : ds.length + es.length ≤ 10000) : sExt i false f ρ = .nx (ρ.set i (some (.list (ds ++ es)))) := by
  have e1 : getL ρ i = some ds := by rw [getL_eq, h]; rfl
  unfold sExt
  rw [e1]
  show (f ρ).st ρ _ = _
  rw [hf, st_ok]
  show (if okLen (ds.length + es.length) = true ∧ (false = true → imm (.tuple es) = true) then Sr.nx (ρ.set i (some (.list (ds ++ es)))) else .bad) = _
  rw [if_pos ⟨decide_eq_true hl, fun z => nomatch z⟩]
theorem while_rt {p : Rho → Re Bool} {b : Rho → Sr} {n : Nat} {d : PyData} (h : p ρ = .ok true) (h2 : b ρ = .rt d) : sWhile p b (n + 1) ρ = .rt d := by
  show ((p ρ).stT ρ fun c => if c = true then (match b ρ with
      | .nx ρ2 => sWhile p b n ρ2
      | .ct ρ2 => sWhile p b n ρ2
      | .bk ρ2 => .nx ρ2
      | .rt d => .rt d
      | .ex c ρ2 => .ex c ρ2
      | .bad => .bad) else .nx ρ) = _
  rw [h, stT_ok, if_pos rfl, h2]
end
theorem isi_tt (ds : List PyData) : isD (.tuple ds) "tuple" = some true := by
  show kitB "tuple" "tuple" = some true
  decide +kernel
theorem isi_it (i : Int) : isD (.int i) "tuple" = some false := by
  show kitB "int" "tuple" = some false
  decide +kernel
theorem isi_ii (i : Int) : isD (.int i) "int" = some true := by
  show kitB "int" "int" = some true
  decide +kernel
theorem isi_ti (ds : List PyData) : isD (.tuple ds) "int" = some false := by
  show kitB "tuple" "int" = some false
  decide +kernel
/-! nested pairs -/
inductive Tr where
  | lf (i : Int)
  | n1 (a : Tr)
  | n2 (a b : Tr)
  | n3 (a b c : Tr)
def Tr.D : Tr → PyData
  | .lf i => .int i
  | .n1 a => .tuple [a.D]
  | .n2 a b => .tuple [a.D, b.D]
  | .n3 a b c => .tuple [a.D, b.D, c.D]
def Tr.wf : Tr → Bool
  | .lf _ => true
  | .n2 a b => a.wf && b.wf
  | _ => false
def Tr.lv : Tr → List Int
  | .lf i => [i]
  | .n1 a => a.lv
  | .n2 a b => a.lv ++ b.lv
  | .n3 a b c => a.lv ++ b.lv ++ c.lv
def Tr.sz : Tr → Nat
  | .lf _ => 1
  | .n1 a => a.sz + 1
  | .n2 a b => a.sz + b.sz + 1
  | .n3 a b c => a.sz + b.sz + c.sz + 1
def Tr.dp : Tr → Nat
  | .lf _ => 0
  | .n1 a => a.dp + 1
  | .n2 a b => max a.dp b.dp + 1
  | .n3 a b c => max (max a.dp b.dp) c.dp + 1
def Tr.isLf : Tr → Bool
  | .lf _ => true
  | _ => false
theorem Tr.zok : ∀ (t : Tr) (k : Nat), t.dp ≤ k → Pu.zok k t.D = true
  | .lf i, k, _ => zok_int k i
  | .n1 a, 0, h => by unfold Tr.dp at h; omega
  | .n2 a b, 0, h => by unfold Tr.dp at h; omega
  | .n3 a b c, 0, h => by unfold Tr.dp at h; omega
  | .n1 a, k + 1, h => by
    unfold Tr.dp at h
    refine zok_tup fun d hd => ?_
    rcases List.mem_cons.mp hd with rfl | hd
    · exact a.zok k (by omega)
    · cases hd
  | .n2 a b, k + 1, h => by
    unfold Tr.dp at h
    refine zok_tup fun d hd => ?_
    rcases List.mem_cons.mp hd with rfl | hd
    · exact a.zok k (by omega)
    · rcases List.mem_cons.mp hd with rfl | hd
      · exact b.zok k (by omega)
      · cases hd
  | .n3 a b c, k + 1, h => by
    unfold Tr.dp at h
    refine zok_tup fun d hd => ?_
    rcases List.mem_cons.mp hd with rfl | hd
    · exact a.zok k (by omega)
    · rcases List.mem_cons.mp hd with rfl | hd
      · exact b.zok k (by omega)
      · rcases List.mem_cons.mp hd with rfl | hd
        · exact c.zok k (by omega)
        · cases hd
theorem Tr.isT (t : Tr) : isD t.D "tuple" = some (!t.isLf) := by
  cases t with
  | lf i => exact isi_it i
  | n1 a => exact isi_tt _
  | n2 a b => exact isi_tt _
  | n3 a b c => exact isi_tt _
theorem Tr.isI (t : Tr) : isD t.D "int" = some t.isLf := by
  cases t with
  | lf i => exact isi_ii i
  | n1 a => exact isi_ti _
  | n2 a b => exact isi_ti _
  | n3 a b c => exact isi_ti _
theorem Tr.sz_pos (t : Tr) : 0 < t.sz := by
  cases t <;> unfold Tr.sz <;> omega
def szs (st : List Tr) : Nat := (st.map Tr.sz).sum
theorem szs_app (a b : List Tr) : szs (a ++ b) = szs a + szs b := by
  unfold szs
  rw [List.map_append, List.sum_append]
theorem szs_len (a : List Tr) : a.length ≤ szs a := by
  unfold szs
  induction a with
  | nil => simp
  | cons t a ih =>
    have := t.sz_pos
    rw [List.map_cons, List.sum_cons, List.length_cons]
    omega
def lvs (st : List Tr) : List Int := st.flatMap Tr.lv
theorem lvs_app (a b : List Tr) : lvs (a ++ b) = lvs a ++ lvs b := by
  unfold lvs
  rw [List.flatMap_append]
theorem srtZ_up {l : List Int} {k : Nat} : srtZ l = upI 0 k ↔ l.Perm (upI 0 k) := by
  constructor
  · intro h
    rw [← h]
    exact (srtZ_perm l).symm
  · intro h
    exact (srtZ_uniq h.symm (by
      unfold upI
      exact List.pairwise_map.mpr (List.pairwise_lt_range.imp fun h => by omega))).symm
end Pu

set_option Elab.async false
set_option linter.all false
set_option maxRecDepth 100000
set_option maxHeartbeats 4000000
/-! walks over two involutions -/
namespace Pu
variable [TabL]
structure Invo (M : Nat) (f : Int → Int) : Prop where
  z : f 0 = 0
  bd : ∀ e, 0 ≤ f e ∧ f e ≤ M
  inv : ∀ e, f e ≠ 0 → f (f e) = e ∧ f e ≠ e ∧ 1 ≤ e ∧ e ≤ M
def faZ (f g : Int → Int) (n : Nat) : Int → Int := if n % 2 = 0 then f else g
def wkZ (f g : Int → Int) (s : Int) : Nat → Int
  | 0 => s
  | n + 1 => faZ f g n (wkZ f g s n)
section
variable {M : Nat} {f g : Int → Int} {s : Int} {m : Nat}
theorem Invo.bnd (I : Invo M f) {e : Int} (h : f e ≠ 0) : 1 ≤ f e ∧ f e ≤ M := by
  have := I.bd e
  omega
theorem fa_invo (I : Invo M f) (J : Invo M g) (n : Nat) : Invo M (faZ f g n) := by
  unfold faZ
  split
  · exact I
  · exact J
theorem fa_par {i j : Nat} (h : i % 2 = j % 2) : faZ f g i = faZ f g j := by
  unfold faZ
  rw [h]
theorem fa_swap (n : Nat) : faZ g f n = faZ f g (n + 1) := by
  unfold faZ
  by_cases h : n % 2 = 0
  · rw [if_pos h, if_neg (by omega)]
  · rw [if_neg h, if_pos (by omega)]
/-- the walk goes on up to m -/
def Runs (f g : Int → Int) (s : Int) (m : Nat) : Prop := ∀ i, 1 ≤ i → i ≤ m → wkZ f g s i ≠ 0 ∧ wkZ f g s i ≠ s
theorem Runs.le (R : Runs f g s m) {k : Nat} (h : k ≤ m) : Runs f g s k := fun i h1 h2 => R i h1 (by omega)
theorem wk_succ (n : Nat) : wkZ f g s (n + 1) = faZ f g n (wkZ f g s n) := rfl
theorem wk_back (I : Invo M f) (J : Invo M g) {n : Nat} (h : wkZ f g s (n + 1) ≠ 0) : faZ f g n (wkZ f g s (n + 1)) = wkZ f g s n := ((fa_invo I J n).inv _ h).1
theorem wk_ne (I : Invo M f) (J : Invo M g) (R : Runs f g s m) : ∀ j, j ≤ m → ∀ i, i < j → wkZ f g s i ≠ wkZ f g s j := by
  intro j
  induction j using Nat.strongRecOn with
  | ind j ih =>
    intro hj i hij e
    obtain ⟨j', rfl⟩ : ∃ k, j = k + 1 := ⟨j - 1, by omega⟩
    have hz := R (j' + 1) (by omega) hj
    cases i with
    | zero => exact hz.2 e.symm
    | succ i' =>
      have hi := R (i' + 1) (by omega) (by omega)
      have bi := wk_back I J hi.1
      have bj := wk_back I J hz.1
      by_cases p : i' % 2 = j' % 2
      · rw [e, fa_par p, bj] at bi
        exact ih j' (by omega) (by omega) i' (by omega) bi.symm
      · have p2 : (i' + 1) % 2 = j' % 2 := by omega
        have e2 : wkZ f g s (i' + 2) = wkZ f g s j' := by
          rw [wk_succ, fa_par p2, e, bj]
        by_cases q : i' + 1 = j'
        · subst q
          have := ((fa_invo I J (i' + 1)).inv _ hz.1).2.1
          exact this e.symm
        · exact ih j' (by omega) (by omega) (i' + 2) (by omega) e2
def wlk (f g : Int → Int) (s : Int) (m : Nat) : List Int := (List.range (m + 1)).map (wkZ f g s)
theorem wlk_len : (wlk f g s m).length = m + 1 := by
  unfold wlk
  rw [List.length_map, List.length_range]
theorem mem_wlk {x : Int} : x ∈ wlk f g s m ↔ ∃ i, i ≤ m ∧ wkZ f g s i = x := by
  unfold wlk
  rw [List.mem_map]
  exact ⟨fun ⟨i, h, e⟩ => ⟨i, by have := List.mem_range.mp h; omega, e⟩, fun ⟨i, h, e⟩ => ⟨i, List.mem_range.mpr (by omega), e⟩⟩
theorem wlk_nd (I : Invo M f) (J : Invo M g) (R : Runs f g s m) : (wlk f g s m).Nodup := by
  unfold wlk
  refine List.pairwise_map.mpr (List.Pairwise.imp_of_mem (fun {a b} ha hb h => ?_) List.pairwise_lt_range)
  have := List.mem_range.mp hb
  exact wk_ne I J R b (by omega) a h
theorem wk_bd (I : Invo M f) (J : Invo M g) (hs : 1 ≤ s ∧ s ≤ M) (R : Runs f g s m) {i : Nat} (h : i ≤ m) : 1 ≤ wkZ f g s i ∧ wkZ f g s i ≤ M := by
  cases i with
  | zero => exact hs
  | succ i => exact (fa_invo I J i).bnd (R (i + 1) (by omega) h).1
theorem wlk_sz (I : Invo M f) (J : Invo M g) (hs : 1 ≤ s ∧ s ≤ M) (R : Runs f g s m) : m + 1 ≤ M := by
  have nd := wlk_nd I J R
  have sub : ∀ x ∈ wlk f g s m, x ∈ upI 1 M := fun x hx => by
    obtain ⟨i, hi, rfl⟩ := mem_wlk.mp hx
    have := wk_bd I J hs R hi
    exact up_mem.mpr (by omega)
  have := php _ _ nd sub
  rw [wlk_len, upI_length] at this
  exact this
/-- where the walk stops -/
theorem wk_stop (I : Invo M f) (J : Invo M g) (hs : 1 ≤ s ∧ s ≤ M) : ∃ m, Runs f g s m ∧ (wkZ f g s (m + 1) = 0 ∨ wkZ f g s (m + 1) = s) := by
  have ex : ∃ k, wkZ f g s (k + 1) = 0 ∨ wkZ f g s (k + 1) = s := by
    refine Classical.byContradiction fun no => ?_
    have R : Runs f g s M := fun i h1 h2 => by
      obtain ⟨k, rfl⟩ : ∃ k, i = k + 1 := ⟨i - 1, by omega⟩
      exact ⟨fun e => no ⟨k, .inl e⟩, fun e => no ⟨k, .inr e⟩⟩
    have := wlk_sz I J hs R
    omega
  obtain ⟨k, hk⟩ := ex
  obtain ⟨m, _, h1, h2⟩ := least (P := fun k => wkZ f g s (k + 1) = 0 ∨ wkZ f g s (k + 1) = s) k hk
  refine ⟨m, fun i hi1 hi2 => ?_, h1⟩
  obtain ⟨j, rfl⟩ : ∃ k, i = k + 1 := ⟨i - 1, by omega⟩
  have := h2 j (by omega)
  exact ⟨fun e => this (.inl e), fun e => this (.inr e)⟩
/-! what is reached -/
inductive Rc (f g : Int → Int) (a : Int) : Int → Prop
  | refl : Rc f g a a
  | f {x : Int} : Rc f g a x → f x ≠ 0 → Rc f g a (f x)
  | g {x : Int} : Rc f g a x → g x ≠ 0 → Rc f g a (g x)
theorem Rc.trans {a b c : Int} (h : Rc f g a b) (h2 : Rc f g b c) : Rc f g a c := by
  induction h2 with
  | refl => exact h
  | f _ n ih => exact .f ih n
  | g _ n ih => exact .g ih n
theorem Rc.symm (I : Invo M f) (J : Invo M g) {a b : Int} (h : Rc f g a b) : Rc f g b a := by
  induction h with
  | refl => exact .refl
  | @f x _ n ih =>
    have := (I.inv x n).1
    have st : Rc f g (f x) (f (f x)) := .f .refl (by rw [this]; have := (I.inv x n).2.2; omega)
    rw [this] at st
    exact st.trans ih
  | @g x _ n ih =>
    have := (J.inv x n).1
    have st : Rc f g (g x) (g (g x)) := .g .refl (by rw [this]; have := (J.inv x n).2.2; omega)
    rw [this] at st
    exact st.trans ih
theorem Rc.swap {a b : Int} (h : Rc f g a b) : Rc g f a b := by
  induction h with
  | refl => exact .refl
  | f _ n ih => exact .g ih n
  | g _ n ih => exact .f ih n
theorem Rc.bd (I : Invo M f) (J : Invo M g) {a b : Int} (ha : 1 ≤ a ∧ a ≤ M) (h : Rc f g a b) : 1 ≤ b ∧ b ≤ M := by
  induction h with
  | refl => exact ha
  | f _ n ih => exact I.bnd n
  | g _ n ih => exact J.bnd n
theorem rc_closed {S : List Int} (h1 : ∀ x ∈ S, f x ≠ 0 → f x ∈ S) (h2 : ∀ x ∈ S, g x ≠ 0 → g x ∈ S) {a b : Int} (ha : a ∈ S) (h : Rc f g a b) : b ∈ S := by
  induction h with
  | refl => exact ha
  | f _ n ih => exact h1 _ ih n
  | g _ n ih => exact h2 _ ih n
/-- a whole component -/
structure Cm (f g : Int → Int) (G : List Int) : Prop where
  ne : G ≠ []
  nd : G.Nodup
  cl : ∀ x ∈ G, ∀ y, y ∈ G ↔ Rc f g x y
theorem Cm.swap {G : List Int} (C : Cm f g G) : Cm g f G := ⟨C.ne, C.nd, fun x hx y => (C.cl x hx y).trans ⟨Rc.swap, Rc.swap⟩⟩
theorem Cm.of (I : Invo M f) (J : Invo M g) {G : List Int} {s : Int} (nd : G.Nodup) (hs : s ∈ G) (h1 : ∀ x ∈ G, f x ≠ 0 → f x ∈ G) (h2 : ∀ x ∈ G, g x ≠ 0 → g x ∈ G) (hr : ∀ x ∈ G, Rc f g s x) : Cm f g G :=
  ⟨fun e => (by rw [e] at hs; cases hs), nd, fun x hx y => ⟨fun hy => ((hr x hx).symm I J).trans (hr y hy), fun h => rc_closed h1 h2 hx h⟩⟩
theorem Cm.same (I : Invo M f) (J : Invo M g) {A B : List Int} (a : Cm f g A) (b : Cm f g B) {x : Int} (ha : x ∈ A) (hb : x ∈ B) : A.Perm B :=
  (List.perm_ext_iff_of_nodup a.nd b.nd).mpr fun y => (a.cl x ha y).trans (b.cl x hb y).symm
theorem wk_rc (R : Runs f g s m) : ∀ i, i ≤ m → Rc f g s (wkZ f g s i) := by
  intro i
  induction i with
  | zero => intro _; exact .refl
  | succ i ih =>
    intro h
    have h1 := ih (by omega)
    have h2 := (R (i + 1) (by omega) h).1
    rw [wk_succ] at h2 ⊢
    unfold faZ at h2 ⊢
    split at h2
    · rename_i c
      rw [if_pos c]
      exact .f h1 h2
    · rename_i c
      rw [if_neg c]
      exact .g h1 h2
/-- both functions at each place of the walk -/
theorem wk_next (i : Nat) : faZ f g i (wkZ f g s i) = wkZ f g s (i + 1) := rfl
theorem wk_prev (I : Invo M f) (J : Invo M g) (R : Runs f g s m) {i : Nat} (h1 : 1 ≤ i) (h : i ≤ m) : faZ f g (i + 1) (wkZ f g s i) = wkZ f g s (i - 1) := by
  obtain ⟨k, rfl⟩ : ∃ k, i = k + 1 := ⟨i - 1, by omega⟩
  rw [fa_par (show (k + 1 + 1) % 2 = k % 2 by omega)]
  exact wk_back I J (R (k + 1) h1 h).1
theorem two_fa (P : (Int → Int) → Prop) (i : Nat) : (P f ∧ P g) ↔ (P (faZ f g i) ∧ P (faZ f g (i + 1))) := by
  unfold faZ
  by_cases c : i % 2 = 0
  · rw [if_pos c, if_neg (by omega)]
  · rw [if_neg c, if_pos (by omega)]
    exact And.comm
/-- a way -/
structure Wy (f g : Int → Int) (s : Int) (m : Nat) : Prop where
  run : Runs f g s m
  far : g s = 0
  fin : wkZ f g s (m + 1) = 0
structure Rg (f g : Int → Int) (s : Int) (m : Nat) : Prop where
  run : Runs f g s m
  fin : wkZ f g s (m + 1) = s
theorem not_back (I : Invo M f) (J : Invo M g) (hs : 1 ≤ s ∧ s ≤ M) (R : Runs f g s m) (e : wkZ f g s (m + 1) = s) : m % 2 = 1 ∧ g s = wkZ f g s m := by
  have b := wk_back I J (n := m) (by rw [e]; omega)
  rw [e] at b
  by_cases p : m % 2 = 0
  · have b' : f s = wkZ f g s m := by rwa [show faZ f g m = f from if_pos p] at b
    cases m with
    | zero =>
      have b' : f s = s := b'
      have := (I.inv s (by omega)).2.1
      exact absurd b' this
    | succ m =>
      have w1 : wkZ f g s 1 = f s := rfl
      cases m with
      | zero => omega
      | succ m => exact absurd (w1.trans b') (wk_ne I J R (m + 1 + 1) (Nat.le_refl _) 1 (by omega))
  · exact ⟨by omega, by rwa [show faZ f g m = g from if_neg p] at b⟩
theorem wy_of (I : Invo M f) (J : Invo M g) (hs : 1 ≤ s ∧ s ≤ M) (hg : g s = 0) : ∃ m, Wy f g s m := by
  obtain ⟨m, R, e⟩ := wk_stop I J hs
  refine ⟨m, R, hg, ?_⟩
  rcases e with e | e
  · exact e
  · have := not_back I J hs R e
    have h2 := wk_bd I J hs R (Nat.le_refl m)
    omega
theorem Wy.cm (W : Wy f g s m) (I : Invo M f) (J : Invo M g) : Cm f g (wlk f g s m) := by
  have key : ∀ i, i ≤ m → (faZ f g i (wkZ f g s i) ≠ 0 → faZ f g i (wkZ f g s i) ∈ wlk f g s m) ∧ (faZ f g (i + 1) (wkZ f g s i) ≠ 0 → faZ f g (i + 1) (wkZ f g s i) ∈ wlk f g s m) := by
    intro i hi
    constructor
    · intro h
      rw [wk_next] at h ⊢
      by_cases c : i = m
      · subst c
        exact absurd W.fin h
      · exact mem_wlk.mpr ⟨i + 1, by omega, rfl⟩
    · intro h
      cases i with
      | zero => exact absurd W.far h
      | succ i =>
        rw [wk_prev I J W.run (by omega) hi]
        exact mem_wlk.mpr ⟨i, by omega, rfl⟩
  refine Cm.of I J (wlk_nd I J W.run) (mem_wlk.mpr ⟨0, by omega, rfl⟩) (fun x hx => ?_) (fun x hx => ?_) fun x hx => ?_
  · obtain ⟨i, hi, rfl⟩ := mem_wlk.mp hx
    exact ((two_fa (fun h => h (wkZ f g s i) ≠ 0 → h (wkZ f g s i) ∈ wlk f g s m) i).mpr (key i hi)).1
  · obtain ⟨i, hi, rfl⟩ := mem_wlk.mp hx
    exact ((two_fa (fun h => h (wkZ f g s i) ≠ 0 → h (wkZ f g s i) ∈ wlk f g s m) i).mpr (key i hi)).2
  · obtain ⟨i, hi, rfl⟩ := mem_wlk.mp hx
    exact wk_rc W.run i hi
theorem Rg.cm (W : Rg f g s m) (I : Invo M f) (J : Invo M g) (hs : 1 ≤ s ∧ s ≤ M) : Cm f g (wlk f g s m) := by
  have nb := not_back I J hs W.run W.fin
  have key : ∀ i, i ≤ m → (faZ f g i (wkZ f g s i) ≠ 0 → faZ f g i (wkZ f g s i) ∈ wlk f g s m) ∧ (faZ f g (i + 1) (wkZ f g s i) ≠ 0 → faZ f g (i + 1) (wkZ f g s i) ∈ wlk f g s m) := by
    intro i hi
    constructor
    · intro h
      rw [wk_next] at h ⊢
      by_cases c : i = m
      · subst c
        rw [W.fin]
        exact mem_wlk.mpr ⟨0, by omega, rfl⟩
      · exact mem_wlk.mpr ⟨i + 1, by omega, rfl⟩
    · intro h
      cases i with
      | zero =>
        show g s ∈ _
        rw [nb.2]
        exact mem_wlk.mpr ⟨m, by omega, rfl⟩
      | succ i =>
        rw [wk_prev I J W.run (by omega) hi]
        exact mem_wlk.mpr ⟨i, by omega, rfl⟩
  refine Cm.of I J (wlk_nd I J W.run) (mem_wlk.mpr ⟨0, by omega, rfl⟩) (fun x hx => ?_) (fun x hx => ?_) fun x hx => ?_
  · obtain ⟨i, hi, rfl⟩ := mem_wlk.mp hx
    exact ((two_fa (fun h => h (wkZ f g s i) ≠ 0 → h (wkZ f g s i) ∈ wlk f g s m) i).mpr (key i hi)).1
  · obtain ⟨i, hi, rfl⟩ := mem_wlk.mp hx
    exact ((two_fa (fun h => h (wkZ f g s i) ≠ 0 → h (wkZ f g s i) ∈ wlk f g s m) i).mpr (key i hi)).2
  · obtain ⟨i, hi, rfl⟩ := mem_wlk.mp hx
    exact wk_rc W.run i hi
/-- an open end of a way is its first or its last -/
theorem Wy.ends (W : Wy f g s m) (I : Invo M f) (J : Invo M g) (hs : 1 ≤ s ∧ s ≤ M) {x : Int} (hx : x ∈ wlk f g s m) (h : f x = 0 ∨ g x = 0) : x = s ∨ x = wkZ f g s m := by
  obtain ⟨i, hi, rfl⟩ := mem_wlk.mp hx
  by_cases c0 : i = 0
  · subst c0
    exact .inl rfl
  · by_cases c1 : i = m
    · subst c1
      exact .inr rfl
    · exfalso
      have n1 : faZ f g i (wkZ f g s i) ≠ 0 := by
        rw [wk_next]
        exact (W.run (i + 1) (by omega) (by omega)).1
      have n2 : faZ f g (i + 1) (wkZ f g s i) ≠ 0 := by
        rw [wk_prev I J W.run (by omega) hi]
        have := wk_bd I J hs W.run (show i - 1 ≤ m by omega)
        omega
      have := (two_fa (f := f) (g := g) (fun h => h (wkZ f g s i) ≠ 0) i).mpr ⟨n1, n2⟩
      rcases h with h | h
      · exact this.1 h
      · exact this.2 h
theorem Wy.last (W : Wy f g s m) : f (wkZ f g s m) = 0 ∨ g (wkZ f g s m) = 0 := by
  have := W.fin
  rw [wk_succ] at this
  unfold faZ at this
  split at this
  · exact .inl this
  · exact .inr this
end
/-! the same components -/
theorem comps_perm {M : Nat} {f g : Int → Int} (I : Invo M f) (J : Invo M g) {A B : List (List Int)} (ca : ∀ G ∈ A, Cm f g G) (cb : ∀ G ∈ B, Cm f g G) (na : A.flatten.Nodup) (nb : B.flatten.Nodup) (h : ∀ x, x ∈ A.flatten ↔ x ∈ B.flatten) : (A.map srtZ).Perm (B.map srtZ) := by
  have nd : ∀ {A : List (List Int)}, (∀ G ∈ A, Cm f g G) → A.flatten.Nodup → (A.map srtZ).Nodup := by
    intro A ca na
    have := (List.pairwise_flatten.mp na).2
    refine List.pairwise_map.mpr (List.Pairwise.imp_of_mem (fun {G K} hG hK d e => ?_) this)
    obtain ⟨x, hx⟩ := List.exists_mem_of_ne_nil G (ca G hG).ne
    have : x ∈ K := (srtZ_perm K).mem_iff.mp (e ▸ (srtZ_perm G).mem_iff.mpr hx)
    exact d x hx x this rfl
  have sub : ∀ {A B : List (List Int)}, (∀ G ∈ A, Cm f g G) → (∀ G ∈ B, Cm f g G) → (∀ x, x ∈ A.flatten → x ∈ B.flatten) → ∀ X, X ∈ A.map srtZ → X ∈ B.map srtZ := by
    intro A B ca cb h X hX
    obtain ⟨G, hG, rfl⟩ := List.mem_map.mp hX
    obtain ⟨x, hx⟩ := List.exists_mem_of_ne_nil G (ca G hG).ne
    obtain ⟨K, hK, hxK⟩ := List.mem_flatten.mp (h x (List.mem_flatten.mpr ⟨G, hG, hx⟩))
    refine List.mem_map.mpr ⟨K, hK, ?_⟩
    have p := (ca G hG).same I J (cb K hK) hx hxK
    exact (srtZ_uniq ((srtZ_perm K).trans p.symm) (srtZ_sorted K))
  exact (List.perm_ext_iff_of_nodup (nd ca na) (nd cb nb)).mpr fun X => ⟨sub ca cb (fun x => (h x).mp) X, sub cb ca (fun x => (h x).mpr) X⟩
end Pu

set_option Elab.async false
set_option linter.all false
set_option maxRecDepth 100000
set_option maxHeartbeats 4000000
/-! an own list that is changed no more: from here on a value like any other -/
namespace Pu
open PySem PySem.Spec PyProof.Rows L2
variable [TabL]
def offM (M : Nat → Bool) (i : Nat) : Nat → Bool := fun j => if j = i then false else M j
def sShare (s : Rho → Sr) : Rho → Sr := fun ρ => match s ρ with
  | .rt d => .rt d
  | _ => .bad
section
variable {K : PySem.W.Frag} {X : Cx} {M : Nat → Bool} {F : Fx} {E : L2.St → XK} {σ : L2.St} {H : Hp} {ρ : Rho} {body : List Stmt} {s : Rho → Sr}
omit [TabL] in
theorem own_off {i : Nat} {a : Addr} (h : OwnA (offM M i) σ ρ a) : ∃ j d, j ≠ i ∧ M j = true ∧ ρ[j]? = some (some d) ∧ σ[j]? = some (some (.ref a)) := by
  obtain ⟨j, d, m, r, s⟩ := h
  unfold offM at m
  by_cases e : j = i
  · rw [if_pos e] at m
    cases m
  · rw [if_neg e] at m
    exact ⟨j, d, e, m, r, s⟩
theorem rs_off {i : Nat} {b : Bool} : ∀ a, RS M F σ ρ b a → RS (offM M i) F σ ρ b a := fun a h => ⟨h.1, fun q o => by
  obtain ⟨j, d, _, m, r, s⟩ := own_off o
  exact h.2 q ⟨j, d, m, r, s⟩⟩
theorem er_off (e : ER K M F σ H ρ) (i : Nat) : ER K (offM M i) F σ H ρ where
  len := e.len
  old := e.old
  new := e.new
  tab := e.tab
  im := fun j d q m => by
    by_cases hj : M j = true
    · have ej : j = i := by
        unfold offM at m
        by_cases z : j = i
        · exact z
        · rw [if_neg z, hj] at m
          cases m
      obtain ⟨p, sp, z, w⟩ := e.ow j d q hj
      refine ⟨_, sp, (w.keep (S' := RS (offM M i) F σ ρ false) (kp_same (Same.refl H)) (fun a _ x _ _ => rs_off a x) fun _ q _ => q).rp ⟨z.2, fun _ o => ?_⟩⟩
      obtain ⟨k, d', n, mk, rk, sk⟩ := own_off o
      exact n ((e.ap j k d d' p hj mk q rk sp sk).symm.trans ej)
    · obtain ⟨v, sv, r⟩ := e.im j d q (by simpa using hj)
      exact ⟨v, sv, r.wide fun a x => rs_off a x⟩
  ow := fun j d q m => by
    unfold offM at m
    by_cases z : j = i
    · rw [if_pos z] at m
      cases m
    · rw [if_neg z] at m
      obtain ⟨p, sp, zz, w⟩ := e.ow j d q m
      exact ⟨p, sp, zz, w.keep (S' := RS (offM M i) F σ ρ false) (kp_same (Same.refl H)) (fun a _ x _ _ => rs_off a x) fun _ q _ => q⟩
  ap := fun j k d d' p mj mk q1 q2 s1 s2 => by
    unfold offM at mj mk
    by_cases z : j = i
    · rw [if_pos z] at mj
      cases mj
    · by_cases z2 : k = i
      · rw [if_pos z2] at mk
        cases mk
      · rw [if_neg z] at mj
        rw [if_neg z2] at mk
        exact e.ap j k d d' p mj mk q1 q2 s1 s2
theorem dss_share (i : Nat) (h : DSs X (offM M i) F E body s) : DSs X M F E body (sShare s) := by
  obtain ⟨t, pt, h⟩ := h
  refine ⟨t, pt, fun σ H ρ er D w => h σ H ρ (er_off er i) D ?_⟩
  unfold sShare at w
  cases q : s ρ with
  | rt d =>
    rw [q] at w
    exact w
  | nx _ =>
    rw [q] at w
    exact w.elim
  | bk _ =>
    rw [q] at w
    exact w.elim
  | ct _ =>
    rw [q] at w
    exact w.elim
  | ex _ _ =>
    rw [q] at w
    exact w.elim
  | bad =>
    rw [q] at w
    exact w.elim
end
end Pu

set_option Elab.async false
set_option linter.all false
set_option maxRecDepth 100000
set_option maxHeartbeats 4000000
/-! the strands that are read from the joints of a body -/
namespace Pu
/-- the other end of the piece -/
def siZ (n : Nat) (e : Int) : Int := if 1 ≤ e ∧ e ≤ 2 * n then (if e % 2 = 1 then e + 1 else e - 1) else 0
theorem siZ_in {n : Nat} {e : Int} (h : 1 ≤ e ∧ e ≤ (2 * n : Nat)) : siZ n e = (if e % 2 = 1 then e + 1 else e - 1) ∧ 1 ≤ siZ n e ∧ siZ n e ≤ (2 * n : Nat) ∧ siZ n e ≠ e ∧ (siZ n e + 1) / 2 = (e + 1) / 2 := by
  unfold siZ
  rw [if_pos (by omega)]
  split <;> omega
theorem siZ_invo (n : Nat) : Invo (2 * n) (siZ n) := by
  refine ⟨by unfold siZ; rw [if_neg (by omega)], fun e => ?_, fun e h => ?_⟩
  · unfold siZ
    split
    · split <;> omega
    · omega
  · have hb : 1 ≤ e ∧ e ≤ (2 * n : Nat) := by
      by_cases c : 1 ≤ e ∧ e ≤ 2 * (n : Int)
      · omega
      · unfold siZ at h
        rw [if_neg c] at h
        exact absurd rfl h
    obtain ⟨e1, b1, b2, ne, _⟩ := siZ_in hb
    obtain ⟨e2, _⟩ := siZ_in (n := n) ⟨b1, b2⟩
    refine ⟨?_, ne, by omega, by omega⟩
    rw [e2, e1]
    by_cases c : e % 2 = 1
    · rw [if_pos c, if_neg (by omega)]
      omega
    · rw [if_neg c, if_pos (by omega)]
      omega
def nuZ (e : Int) : Int := if e % 2 = 1 then (e + 1) / 2 else -(e / 2)
theorem en_nu {e : Int} (h : 1 ≤ e) : enZ (nuZ e) = e := by
  unfold enZ nuZ
  by_cases c : e % 2 = 1
  · rw [if_pos c, if_pos (by omega)]
    omega
  · rw [if_neg c, if_neg (by omega)]
    omega
theorem le_nu {n : Nat} {e : Int} (h : 1 ≤ e ∧ e ≤ (2 * n : Nat)) : leZ (nuZ e) = siZ n e := by
  unfold leZ
  rw [en_nu h.1, (siZ_in h).1]
theorem abz_nu {e : Int} (h : 1 ≤ e) : abz (nuZ e) = (e + 1) / 2 := by
  unfold abz nuZ
  by_cases c : e % 2 = 1
  · rw [if_pos c, if_neg (by omega)]
  · rw [if_neg c, if_pos (by omega)]
    omega
structure Wk (n : Nat) (par : Int → Int) (s : Int) (m : Nat) : Prop where
  bd : 1 ≤ s ∧ s ≤ (2 * n : Nat)
  run : Runs (siZ n) par s m
  fin : (par s = 0 ∧ wkZ (siZ n) par s (m + 1) = 0) ∨ wkZ (siZ n) par s (m + 1) = s
section
variable {n : Nat} {par : Int → Int} {s : Int} {m : Nat}
theorem Wk.odd (J : Invo (2 * n) par) (w : Wk n par s m) : m % 2 = 1 := by
  rcases w.fin with ⟨_, e⟩ | e
  · rcases (show m % 2 = 1 ∨ m % 2 = 0 by omega) with c | c
    · exact c
    · rw [wk_succ] at e
      unfold faZ at e
      rw [if_pos c] at e
      have := (siZ_in (wk_bd (siZ_invo n) J w.bd w.run (Nat.le_refl m))).2.1
      omega
  · exact (not_back (siZ_invo n) J w.bd w.run e).1
theorem Wk.cm (J : Invo (2 * n) par) (w : Wk n par s m) : Cm (siZ n) par (wlk (siZ n) par s m) := by
  rcases w.fin with ⟨h, e⟩ | e
  · exact Wy.cm ⟨w.run, h, e⟩ (siZ_invo n) J
  · exact Rg.cm ⟨w.run, e⟩ (siZ_invo n) J w.bd
theorem Wk.at (J : Invo (2 * n) par) (w : Wk n par s m) {i : Nat} (h : i ≤ m) : 1 ≤ wkZ (siZ n) par s i ∧ wkZ (siZ n) par s i ≤ (2 * n : Nat) := wk_bd (siZ_invo n) J w.bd w.run h
theorem wk_ev (j : Nat) : wkZ (siZ n) par s (2 * j + 1) = siZ n (wkZ (siZ n) par s (2 * j)) := by
  rw [wk_succ]
  unfold faZ
  rw [if_pos (by omega)]
theorem wk_od (j : Nat) : wkZ (siZ n) par s (2 * j + 2) = par (wkZ (siZ n) par s (2 * j + 1)) := by
  rw [show 2 * j + 2 = (2 * j + 1) + 1 from rfl, wk_succ (2 * j + 1)]
  unfold faZ
  rw [if_neg (by omega)]
end
/-! every other end -/
def evs (n : Nat) (par : Int → Int) (s : Int) (m : Nat) : List Int := (List.range ((m + 1) / 2)).map fun j => wkZ (siZ n) par s (2 * j)
theorem range_two (F : Nat → Int) : ∀ t : Nat, ((List.range (2 * t)).map F).Perm ((List.range t).map (fun j => F (2 * j)) ++ (List.range t).map fun j => F (2 * j + 1))
  | 0 => .refl _
  | t + 1 => by
    have e : List.range (2 * (t + 1)) = List.range (2 * t) ++ [2 * t, 2 * t + 1] := by
      rw [show 2 * (t + 1) = 2 * t + 1 + 1 by omega, List.range_succ, List.range_succ, List.append_assoc]
      rfl
    rw [e, List.map_append, List.range_succ, List.map_append, List.map_append]
    refine ((range_two F t).append_right _).trans ?_
    rw [List.append_assoc, List.append_assoc]
    refine List.Perm.append_left _ ?_
    show (List.map (fun j => F (2 * j + 1)) (List.range t) ++ ([F (2 * t)] ++ [F (2 * t + 1)])).Perm ([F (2 * t)] ++ (List.map (fun j => F (2 * j + 1)) (List.range t) ++ [F (2 * t + 1)]))
    rw [← List.append_assoc, ← List.append_assoc]
    exact List.perm_append_comm.append_right _
section
variable {n : Nat} {par : Int → Int} {s : Int} {m : Nat}
theorem wlk_evs (h : m % 2 = 1) : (wlk (siZ n) par s m).Perm (evs n par s m ++ (evs n par s m).map (siZ n)) := by
  unfold wlk evs
  obtain ⟨t, rfl⟩ : ∃ t, m = 2 * t + 1 := ⟨m / 2, by omega⟩
  rw [show 2 * t + 1 + 1 = 2 * (t + 1) by omega, show 2 * (t + 1) / 2 = t + 1 by omega]
  refine (range_two (wkZ (siZ n) par s) (t + 1)).trans (.of_eq ?_)
  rw [List.map_map]
  congr 1
  refine List.map_congr_left fun j _ => ?_
  exact wk_ev j
end
/-! the walks told so far -/
abbrev Tw := List (Int × Nat)
def flT (n : Nat) (par : Int → Int) (T : Tw) : List Int := T.flatMap fun t => wlk (siZ n) par t.1 t.2
def evT (n : Nat) (par : Int → Int) (T : Tw) : List Int := T.flatMap fun t => evs n par t.1 t.2
structure Ts (n : Nat) (par : Int → Int) (T : Tw) : Prop where
  wk : ∀ t ∈ T, Wk n par t.1 t.2
  nd : (flT n par T).Nodup
theorem flatMap_two {α : Type} (A B : α → List Int) : ∀ T : List α, (T.flatMap fun t => A t ++ B t).Perm (T.flatMap A ++ T.flatMap B)
  | [] => .refl _
  | t :: T => by
    rw [List.flatMap_cons, List.flatMap_cons, List.flatMap_cons, List.append_assoc, List.append_assoc]
    refine List.Perm.append_left _ ?_
    refine ((flatMap_two A B T).append_left _).trans ?_
    rw [← List.append_assoc, ← List.append_assoc]
    exact List.perm_append_comm.append_right _
section
variable {n : Nat} {par : Int → Int} {T : Tw}
theorem Ts.split (J : Invo (2 * n) par) (S : Ts n par T) : (flT n par T).Perm (evT n par T ++ (evT n par T).map (siZ n)) := by
  unfold flT evT
  rw [List.map_flatMap]
  exact (flatMap_perm' _ _ T fun t ht => wlk_evs ((S.wk t ht).odd J)).trans (flatMap_two _ _ T)
theorem Ts.bd (J : Invo (2 * n) par) (S : Ts n par T) {x : Int} (h : x ∈ flT n par T) : 1 ≤ x ∧ x ≤ (2 * n : Nat) := by
  obtain ⟨t, ht, hx⟩ := List.mem_flatMap.mp h
  obtain ⟨i, hi, rfl⟩ := mem_wlk.mp hx
  exact (S.wk t ht).at J hi
theorem Ts.ev (J : Invo (2 * n) par) (S : Ts n par T) {x : Int} (h : x ∈ evT n par T) : x ∈ flT n par T := (S.split J).mem_iff.mpr (List.mem_append_left _ h)
theorem Ts.sd (J : Invo (2 * n) par) (S : Ts n par T) {x : Int} (h : x ∈ evT n par T) : siZ n x ∈ flT n par T := (S.split J).mem_iff.mpr (List.mem_append_right _ (List.mem_map.mpr ⟨x, h, rfl⟩))
theorem Ts.pcs_nd (J : Invo (2 * n) par) (S : Ts n par T) : ((evT n par T).map fun e => (e + 1) / 2).Nodup := by
  have nd := (S.split J).nodup_iff.mp S.nd
  obtain ⟨n1, n2, dj⟩ := List.nodup_append.mp nd
  refine nd_map_on _ n1 fun x hx y hy e => ?_
  have bx := S.bd J (S.ev J hx)
  have by' := S.bd J (S.ev J hy)
  by_cases c : x = y
  · exact c
  · have : siZ n x = y := by
      have := (siZ_in bx).1
      rw [this]
      split <;> omega
    exact absurd (this.symm) (dj y hy (siZ n x) (List.mem_map.mpr ⟨x, hx, rfl⟩))
/-- a piece is told exactly if its ends lie on the walks -/
theorem Ts.pcs (J : Invo (2 * n) par) (S : Ts n par T) {e : Int} (b : 1 ≤ e ∧ e ≤ (2 * n : Nat)) : (e + 1) / 2 ∈ (evT n par T).map (fun e => (e + 1) / 2) ↔ e ∈ flT n par T := by
  constructor
  · intro h
    obtain ⟨x, hx, q⟩ := List.mem_map.mp h
    have bx := S.bd J (S.ev J hx)
    by_cases c : x = e
    · exact c ▸ S.ev J hx
    · have : siZ n x = e := by
        have := (siZ_in bx).1
        rw [this]
        have q : (x + 1) / 2 = (e + 1) / 2 := q
        split <;> omega
      exact this ▸ S.sd J hx
  · intro h
    rcases List.mem_append.mp ((S.split J).mem_iff.mp h) with h | h
    · exact List.mem_map.mpr ⟨e, h, rfl⟩
    · obtain ⟨x, hx, rfl⟩ := List.mem_map.mp h
      exact List.mem_map.mpr ⟨x, hx, (siZ_in (S.bd J (S.ev J hx))).2.2.2.2.symm⟩
/-- one more -/
theorem Ts.add (J : Invo (2 * n) par) (S : Ts n par T) {e : Int} {m : Nat} (w : Wk n par e m) (hn : e ∉ flT n par T) : Ts n par (T ++ [(e, m)]) ∧ e ∈ flT n par (T ++ [(e, m)]) := by
  have he : e ∈ wlk (siZ n) par e m := mem_wlk.mpr ⟨0, by omega, rfl⟩
  have ef : flT n par (T ++ [(e, m)]) = flT n par T ++ wlk (siZ n) par e m := by
    unfold flT
    rw [List.flatMap_append, List.flatMap_singleton]
  refine ⟨⟨fun t ht => ?_, ?_⟩, ?_⟩
  · rcases List.mem_append.mp ht with ht | ht
    · exact S.wk t ht
    · rw [List.mem_singleton] at ht
      rw [ht]
      exact w
  · rw [ef]
    refine List.nodup_append.mpr ⟨S.nd, (w.cm J).nd, fun a ha b hb q => ?_⟩
    obtain ⟨t, ht, hx⟩ := List.mem_flatMap.mp ha
    have hb' : a ∈ wlk (siZ n) par e m := q ▸ hb
    exact hn (List.mem_flatMap.mpr ⟨t, ht, (((S.wk t ht).cm J).cl a hx e).mpr (((w.cm J).cl a hb' e).mp he)⟩)
  · rw [ef]
    exact List.mem_append_right _ he
theorem Ts.mono {t : Int × Nat} {x : Int} (h : x ∈ flT n par T) : x ∈ flT n par (T ++ [t]) := by
  unfold flT at h ⊢
  rw [List.flatMap_append]
  exact List.mem_append_left _ h
/-- from an end that is loose -/
theorem wk_loose (J : Invo (2 * n) par) {e : Int} (b : 1 ≤ e ∧ e ≤ (2 * n : Nat)) (h : par e = 0) : ∃ m, Wk n par e m := by
  obtain ⟨m, w⟩ := wy_of (siZ_invo n) J b h
  exact ⟨m, b, w.run, .inl ⟨h, w.fin⟩⟩
/-- from another end, all loose ends told -/
theorem wk_tied (J : Invo (2 * n) par) (S : Ts n par T) {e : Int} (b : 1 ≤ e ∧ e ≤ (2 * n : Nat)) (hc : ∀ x : Int, 1 ≤ x → x ≤ (2 * n : Nat) → par x = 0 → x ∈ flT n par T) (hn : e ∉ flT n par T) : ∃ m, Wk n par e m := by
  obtain ⟨m, R, fi⟩ := wk_stop (siZ_invo n) J b
  rcases fi with fi | fi
  · exfalso
    have b2 := wk_bd (siZ_invo n) J b R (Nat.le_refl m)
    have pz : par (wkZ (siZ n) par e m) = 0 := by
      rw [wk_succ] at fi
      unfold faZ at fi
      split at fi
      · have := (siZ_in b2).2.1
        omega
      · exact fi
    have hm := hc _ b2.1 b2.2 pz
    obtain ⟨t, ht, hx⟩ := List.mem_flatMap.mp hm
    have r := wk_rc R m (Nat.le_refl m)
    exact hn (List.mem_flatMap.mpr ⟨t, ht, (((S.wk t ht).cm J).cl _ hx e).mpr (r.symm (siZ_invo n) J)⟩)
  · exact ⟨m, b, R, .inr fi⟩
end
/-! strands -/
def stW (n : Nat) (par : Int → Int) (t : Int × Nat) : Strd := (decide (wkZ (siZ n) par t.1 (t.2 + 1) ≠ 0), (evs n par t.1 t.2).map nuZ)
section
variable {n : Nat} {par : Int → Int} {s : Int} {m : Nat} {T : Tw} {S : List Strd}
theorem ev_get {j : Nat} (h : j < (m + 1) / 2) : ((evs n par s m).map nuZ)[j]? = some (nuZ (wkZ (siZ n) par s (2 * j))) := by
  unfold evs
  rw [List.getElem?_map, List.getElem?_map, List.getElem?_range h]
  rfl
theorem ev_len : ((evs n par s m).map nuZ).length = (m + 1) / 2 := by
  unfold evs
  rw [List.length_map, List.length_map, List.length_range]
theorem Wk.js (J : Invo (2 * n) par) (w : Wk n par s m) (pr : PP) : pr ∈ jsO (stW n par (s, m)).1 (stW n par (s, m)).2 ↔ ∃ i, i % 2 = 1 ∧ i ≤ m ∧ wkZ (siZ n) par s (i + 1) ≠ 0 ∧ pr = (wkZ (siZ n) par s i, wkZ (siZ n) par s (i + 1)) := by
  have od := w.odd J
  obtain ⟨t, ht⟩ : ∃ t, m = 2 * t + 1 := ⟨m / 2, by omega⟩
  have ht2 : (m + 1) / 2 = t + 1 := by omega
  unfold stW jsO
  generalize hps : (evs n par s m).map nuZ = ps
  have len : ps.length = t + 1 := by rw [← hps, ev_len, ht2]
  have get : ∀ j, j < t + 1 → ps[j]? = some (nuZ (wkZ (siZ n) par s (2 * j))) := fun j hj => by rw [← hps]; exact ev_get (by omega)
  have le : ∀ j, j < t + 1 → leZ (nuZ (wkZ (siZ n) par s (2 * j))) = wkZ (siZ n) par s (2 * j + 1) := fun j hj => by rw [le_nu (w.at J (show 2 * j ≤ m by omega)), wk_ev]
  have en : ∀ j, j < t + 1 → enZ (nuZ (wkZ (siZ n) par s (2 * j))) = wkZ (siZ n) par s (2 * j) := fun j hj => en_nu (w.at J (show 2 * j ≤ m by omega)).1
  have fin : wkZ (siZ n) par s (m + 1) ≠ 0 → wkZ (siZ n) par s (m + 1) = wkZ (siZ n) par s 0 := fun h => by
    rcases w.fin with ⟨_, e⟩ | e
    · exact absurd e h
    · exact e
  have fol : ∀ j y, (folZ (decide (wkZ (siZ n) par s (m + 1) ≠ 0)) ps)[j]? = some y ↔ (j + 1 < t + 1 ∧ y = nuZ (wkZ (siZ n) par s (2 * (j + 1)))) ∨ (j = t ∧ wkZ (siZ n) par s (m + 1) ≠ 0 ∧ y = nuZ (wkZ (siZ n) par s 0)) := fun j y => by
    unfold folZ
    by_cases c : wkZ (siZ n) par s (m + 1) ≠ 0
    · rw [decide_eq_true c, if_pos rfl]
      by_cases h : j < t
      · rw [List.getElem?_append_left (by rw [List.length_drop]; omega), List.getElem?_drop, Nat.add_comm 1 j, get _ (by omega)]
        constructor
        · intro e
          exact .inl ⟨by omega, (Option.some.inj e).symm⟩
        · rintro (⟨_, rfl⟩ | ⟨e, _⟩)
          · rfl
          · omega
      · rw [List.getElem?_append_right (by rw [List.length_drop]; omega), List.length_drop, len]
        by_cases h2 : j = t
        · rw [h2, show t - (t + 1 - 1) = 0 by omega, List.getElem?_take, if_pos (by omega), get 0 (by omega)]
          constructor
          · intro e
            exact .inr ⟨rfl, c, (Option.some.inj e).symm⟩
          · rintro (⟨e, _⟩ | ⟨_, _, rfl⟩)
            · omega
            · rfl
        · rw [List.getElem?_take, if_neg (by omega)]
          constructor
          · intro e
            cases e
          · rintro (⟨e, _⟩ | ⟨e, _⟩) <;> omega
    · rw [decide_eq_false c, if_neg (by decide), List.getElem?_drop, Nat.add_comm 1 j]
      by_cases h : j < t
      · rw [get _ (by omega)]
        constructor
        · intro e
          exact .inl ⟨by omega, (Option.some.inj e).symm⟩
        · rintro (⟨_, rfl⟩ | ⟨_, e, _⟩)
          · rfl
          · exact absurd e c
      · rw [List.getElem?_eq_none (by omega)]
        constructor
        · intro e
          cases e
        · rintro (⟨e, _⟩ | ⟨_, e, _⟩)
          · omega
          · exact absurd e c
  constructor
  · intro h
    obtain ⟨⟨x, y⟩, hq, rfl⟩ := List.mem_map.mp h
    obtain ⟨j, hj⟩ := List.mem_iff_getElem?.mp hq
    obtain ⟨hx, hy⟩ := List.getElem?_zip_eq_some.mp hj
    have hx : ps[j]? = some x := hx
    have hjl : j < t + 1 := by
      have := (List.getElem?_eq_some_iff.mp hx).1
      omega
    rw [get j hjl] at hx
    have hx := (Option.some.inj hx).symm
    subst hx
    rcases (fol j y).mp hy with ⟨h1, rfl⟩ | ⟨rfl, c, rfl⟩
    · refine ⟨2 * j + 1, by omega, by omega, ?_, ?_⟩
      · have := (w.at J (show 2 * (j + 1) ≤ m by omega)).1
        rw [show 2 * j + 1 + 1 = 2 * (j + 1) by omega]
        omega
      · show (leZ (nuZ (wkZ (siZ n) par s (2 * j))), enZ (nuZ (wkZ (siZ n) par s (2 * (j + 1))))) = _
        rw [le j hjl, en (j + 1) h1]
        rfl
    · refine ⟨m, by omega, Nat.le_refl _, c, ?_⟩
      show (leZ (nuZ (wkZ (siZ n) par s (2 * j))), enZ (nuZ (wkZ (siZ n) par s 0))) = _
      rw [le j hjl, en 0 (by omega), fin c, ht]
  · rintro ⟨i, h1, h2, h3, rfl⟩
    obtain ⟨j, rfl⟩ : ∃ j, i = 2 * j + 1 := ⟨i / 2, by omega⟩
    by_cases h : j < t
    · refine List.mem_map.mpr ⟨(nuZ (wkZ (siZ n) par s (2 * j)), nuZ (wkZ (siZ n) par s (2 * (j + 1)))), List.mem_of_getElem? (i := j) (List.getElem?_zip_eq_some.mpr ⟨get j (by omega), (fol j _).mpr (.inl ⟨by omega, rfl⟩)⟩), ?_⟩
      show (leZ (nuZ (wkZ (siZ n) par s (2 * j))), enZ (nuZ (wkZ (siZ n) par s (2 * (j + 1))))) = _
      rw [le j (by omega), en (j + 1) (by omega)]
      rfl
    · have ej : j = t := by omega
      subst ej
      have c : wkZ (siZ n) par s (m + 1) ≠ 0 := by rwa [ht]
      refine List.mem_map.mpr ⟨(nuZ (wkZ (siZ n) par s (2 * j)), nuZ (wkZ (siZ n) par s 0)), List.mem_of_getElem? (i := j) (List.getElem?_zip_eq_some.mpr ⟨get j (by omega), (fol j _).mpr (.inr ⟨rfl, c, rfl⟩)⟩), ?_⟩
      show (leZ (nuZ (wkZ (siZ n) par s (2 * j))), enZ (nuZ (wkZ (siZ n) par s 0))) = _
      rw [le j (by omega), en 0 (by omega), ← fin c, ht]
theorem Ts.oks (J : Invo (2 * n) par) (W : Ts n par T) (hc : ∀ x : Int, 1 ≤ x → x ≤ (2 * n : Nat) → x ∈ flT n par T) (hS : S.Perm (T.map (stW n par))) : OkS n S := by
  refine ⟨?_, fun s hs => ?_⟩
  · have e : (pcS (T.map (stW n par))).map abz = (evT n par T).map fun e => (e + 1) / 2 := by
      unfold pcS evT
      rw [List.flatMap_map, List.map_flatMap, List.map_flatMap]
      show (T.flatMap fun t => ((evs n par t.1 t.2).map nuZ).map abz) = _
      refine congrArg List.flatten (List.map_congr_left fun t ht => ?_)
      rw [List.map_map]
      refine List.map_congr_left fun x hx => ?_
      exact abz_nu (W.bd J (W.ev J (List.mem_flatMap.mpr ⟨t, ht, hx⟩))).1
    have p1 : (pcS S).Perm (pcS (T.map (stW n par))) := hS.flatMap_right _
    refine (p1.map abz).trans ?_
    rw [e]
    refine (List.perm_ext_iff_of_nodup (W.pcs_nd J) (up_nodup 1 n)).mpr fun k => ?_
    rw [up_mem]
    constructor
    · intro h
      obtain ⟨x, hx, rfl⟩ := List.mem_map.mp h
      have := W.bd J (W.ev J hx)
      omega
    · intro h
      have := (W.pcs J (e := 2 * k) (by omega)).mpr (hc _ (by omega) (by omega))
      rwa [show (2 * k + 1) / 2 = k by omega] at this
  · obtain ⟨t, ht, rfl⟩ := List.mem_map.mp (hS.mem_iff.mp hs)
    have := (W.wk t ht).odd J
    refine List.ne_nil_of_length_pos ?_
    show 0 < ((evs n par t.1 t.2).map nuZ).length
    rw [ev_len]
    omega
theorem mem_jsS {pr : PP} : pr ∈ jsS S ↔ ∃ s ∈ S, pr ∈ jsO s.1 s.2 := List.mem_flatMap
theorem Ts.mate (J : Invo (2 * n) par) (W : Ts n par T) (hc : ∀ x : Int, 1 ≤ x → x ≤ (2 * n : Nat) → x ∈ flT n par T) (hS : S.Perm (T.map (stW n par))) (x : Int) : mate (jsS S) x = par x := by
  have O := W.oks J hc hS
  have E := O.ends
  have par_of : ∀ pr ∈ jsS S, par pr.1 = pr.2 ∧ pr.2 ≠ 0 := fun pr h => by
    obtain ⟨s, hs, hp⟩ := mem_jsS.mp h
    obtain ⟨t, ht, rfl⟩ := List.mem_map.mp (hS.mem_iff.mp hs)
    obtain ⟨i, h1, h2, h3, rfl⟩ := ((W.wk t ht).js J pr).mp hp
    obtain ⟨j, rfl⟩ : ∃ j, i = 2 * j + 1 := ⟨i / 2, by omega⟩
    exact ⟨(wk_od j).symm, h3⟩
  by_cases h : x ∈ flatP (jsS S)
  · obtain ⟨p, hp, c⟩ := mate_in h
    obtain ⟨e1, e2⟩ := par_of p hp
    rcases c with ⟨rfl, e⟩ | ⟨rfl, e⟩
    · rw [e, e1]
    · rw [e, ← e1, (J.inv p.1 (by rw [e1]; exact e2)).1]
  · rw [mate_no h]
    by_cases z : par x = 0
    · exact z.symm
    · exfalso
      obtain ⟨_, _, b1, b2⟩ := J.inv x z
      obtain ⟨t, ht, hx⟩ := List.mem_flatMap.mp (hc x b1 b2)
      have w := W.wk t ht
      obtain ⟨i, hi, rfl⟩ := mem_wlk.mp hx
      have od := w.odd J
      have inn : ∀ pr : PP, pr ∈ jsO (stW n par t).1 (stW n par t).2 → pr ∈ jsS S := fun pr hp => mem_jsS.mpr ⟨_, hS.mem_iff.mpr (List.mem_map.mpr ⟨t, ht, rfl⟩), hp⟩
      rcases (show i % 2 = 1 ∨ i % 2 = 0 by omega) with c | c
      · obtain ⟨j, rfl⟩ : ∃ j, i = 2 * j + 1 := ⟨i / 2, by omega⟩
        exact h (mem_flat.mpr ⟨_, inn _ ((w.js J _).mpr ⟨2 * j + 1, c, hi, by rw [wk_od]; exact z, rfl⟩), .inl rfl⟩)
      · by_cases i0 : i = 0
        · subst i0
          have z : par t.1 ≠ 0 := z
          have fi : wkZ (siZ n) par t.1 (t.2 + 1) = t.1 := by
            rcases w.fin with ⟨q, _⟩ | q
            · exact absurd q z
            · exact q
          refine h (mem_flat.mpr ⟨_, inn _ ((w.js J _).mpr ⟨t.2, od, Nat.le_refl _, by rw [fi]; have := w.bd.1; exact fun q => by omega, rfl⟩), .inr ?_⟩)
          exact fi
        · obtain ⟨j, rfl⟩ : ∃ j, i = 2 * j + 2 := ⟨i / 2 - 1, by omega⟩
          have := (w.at J hi).1
          exact h (mem_flat.mpr ⟨_, inn _ ((w.js J _).mpr ⟨2 * j + 1, by omega, by omega, fun q => by rw [show 2 * j + 1 + 1 = 2 * j + 2 from rfl] at q; omega, rfl⟩), .inr rfl⟩)
end
end Pu

set_option Elab.async false
set_option linter.all false
set_option maxRecDepth 100000
set_option maxHeartbeats 4000000
/-! other readings of the same strands -/
namespace Pu
open PySem
/-! equality of data with itself -/
mutual
theorem eqv_refl : ∀ d : PyData, PyData.canLay0 d = true → PyData.eqv d d = true
  | .none, _ => by rw [PyData.eqv]
  | .bool b, _ => by rw [PyData.eqv]; exact beq_self_eq_true b
  | .int i, _ => by rw [PyData.eqv]; exact beq_self_eq_true i
  | .str x, _ => by rw [PyData.eqv]; exact decide_eq_true rfl
  | .list xs, h => by
    rw [PyData.eqv]
    exact eqvAll_refl xs (by rwa [PyData.canLay0] at h)
  | .tuple xs, h => by
    rw [PyData.eqv]
    exact eqvAll_refl xs (by rwa [PyData.canLay0] at h)
  | .dict _, h => by rw [PyData.canLay0] at h; cases h
theorem eqvAll_refl : ∀ ds : List PyData, PyData.canLayAll0 ds = true → PyData.eqvAll ds ds = true
  | [], _ => by rw [PyData.eqvAll]
  | d :: ds, h => by
    rw [PyData.canLayAll0, Bool.and_eq_true] at h
    rw [PyData.eqvAll, eqv_refl d h.1, eqvAll_refl ds h.2]
    rfl
end
theorem canLayAll_of : ∀ {ds : List PyData}, (∀ d ∈ ds, PyData.canLay0 d = true) → PyData.canLayAll0 ds = true
  | [], _ => by rw [PyData.canLayAll0]
  | d :: ds, h => by
    rw [PyData.canLayAll0, h d List.mem_cons_self, canLayAll_of fun e he => h e (List.mem_cons_of_mem _ he)]
    rfl
theorem depthAll_of {k : Nat} : ∀ {ds : List PyData}, (∀ d ∈ ds, PyData.depth d ≤ k) → PyData.depthAll ds ≤ k
  | [], _ => by simp [PyData.depthAll]
  | d :: ds, h => by
    have h1 := h d List.mem_cons_self
    have h2 := depthAll_of (k := k) fun e he => h e (List.mem_cons_of_mem _ he)
    rw [PyData.depthAll]
    omega
theorem lay_st (s : Strd) : PyData.canLay0 (stD s) = true ∧ PyData.depth (stD s) ≤ 2 := by
  have h1 := zok_lay 1 (tI s.2) (zok_tI 0 s.2)
  have h2 : PyData.canLay0 (.str (if s.1 = true then ("closed" : Str) else "open")) = true ∧ PyData.depth (.str (if s.1 = true then ("closed" : Str) else "open")) ≤ 1 := by
    cases s.1 with
    | true =>
      have := sh_closed
      unfold SeqAt.shaped at this
      rw [Bool.and_eq_true] at this
      exact ⟨this.1, by simp [PyData.depth]⟩
    | false =>
      have := sh_open
      unfold SeqAt.shaped at this
      rw [Bool.and_eq_true] at this
      exact ⟨this.1, by simp [PyData.depth]⟩
  unfold stD
  rw [PyData.canLay0, PyData.depth, PyData.canLayAll0, PyData.canLayAll0, PyData.canLayAll0, h2.1, h1.1, PyData.depthAll, PyData.depthAll, PyData.depthAll]
  exact ⟨rfl, by omega⟩
theorem shaped_sts (l : List Strd) : SeqAt.shaped (.tuple (l.map stD)) = true := by
  unfold SeqAt.shaped
  rw [PyData.canLay0, PyData.depth, canLayAll_of fun d hd => ?_]
  · have := depthAll_of (k := 2) (ds := l.map stD) fun d hd => by
      obtain ⟨s, _, rfl⟩ := List.mem_map.mp hd
      exact (lay_st s).2
    rw [decide_eq_true (by omega)]
    rfl
  · obtain ⟨s, _, rfl⟩ := List.mem_map.mp hd
    exact (lay_st s).1
theorem oNe_sts (l : List Strd) : oNe (.tuple (l.map stD)) (.tuple (l.map stD)) = some (.bool false) := by
  unfold oNe
  have h := shaped_sts l
  have h2 : PyData.canLay0 (.tuple (l.map stD)) = true := by
    unfold SeqAt.shaped at h
    exact (Bool.and_eq_true_iff.mp h).1
  rw [if_pos ⟨h, h⟩, eqv_refl _ h2]
  rfl
/-! neighbors -/
def tl1 (l : List Int) : List (Int × Int) := l.zip (l.drop 1)
theorem mem_tl1 {x y : Int} : ∀ {l : List Int}, (x, y) ∈ tl1 l ↔ ∃ A B, l = A ++ x :: y :: B
  | [] => ⟨fun h => (nomatch h), fun ⟨A, B, e⟩ => by cases A <;> cases e⟩
  | [a] => ⟨fun h => (nomatch h), fun ⟨A, B, e⟩ => by
    have := congrArg List.length e
    simp at this
    omega⟩
  | a :: b :: l => by
    have e : tl1 (a :: b :: l) = (a, b) :: tl1 (b :: l) := rfl
    rw [e, List.mem_cons, mem_tl1 (l := b :: l)]
    constructor
    · rintro (h | ⟨A, B, h⟩)
      · cases h
        exact ⟨[], l, rfl⟩
      · exact ⟨a :: A, B, by rw [h]; rfl⟩
    · rintro ⟨A, B, h⟩
      cases A with
      | nil =>
        cases h
        exact .inl rfl
      | cons c A =>
        have h := List.cons.inj h
        exact .inr ⟨A, B, h.2⟩
theorem tl1_rev {f : Int → Int} {l : List Int} {x y : Int} (h : (x, y) ∈ tl1 l) : (f y, f x) ∈ tl1 (l.reverse.map f) := by
  obtain ⟨A, B, rfl⟩ := mem_tl1.mp h
  refine mem_tl1.mpr ⟨B.reverse.map f, A.reverse.map f, ?_⟩
  simp
theorem zip_snoc : ∀ (A : List Int) (z : Int) (t : List Int) (a : Int), A.length = t.length → (A ++ [z]).zip (t ++ [a]) = A.zip t ++ [(z, a)]
  | [], z, [], a, _ => rfl
  | x :: A, z, y :: t, a, h => by
    show (x, y) :: (A ++ [z]).zip (t ++ [a]) = _
    rw [zip_snoc A z t a (by simpa using h)]
    rfl
theorem zip_init : ∀ (A : List Int) (z : Int) (t : List Int), A.length = t.length → (A ++ [z]).zip t = A.zip t
  | [], z, [], _ => rfl
  | x :: A, z, y :: t, h => by
    show (x, y) :: (A ++ [z]).zip t = _
    rw [zip_init A z t (by simpa using h)]
    rfl
/-- all neighbors of a strand -/
theorem fol_mem {c : Bool} {ps : List Int} {x y : Int} : (x, y) ∈ ps.zip (folZ c ps) ↔ (x, y) ∈ tl1 ps ∨ (c = true ∧ ∃ A, ps = A ++ [x] ∧ ps.head? = some y) := by
  cases c with
  | false =>
    unfold folZ tl1
    rw [if_neg (by decide)]
    exact ⟨.inl, fun h => h.resolve_right fun z => nomatch z.1⟩
  | true =>
    unfold folZ
    rw [if_pos rfl]
    cases ps with
    | nil => exact ⟨fun h => (nomatch h), fun h => by
        rcases h with h | ⟨_, A, e, _⟩
        · cases h
        · cases A <;> cases e⟩
    | cons a t =>
      obtain ⟨A, z, e⟩ : ∃ A z, a :: t = A ++ [z] := ⟨(a :: t).dropLast, (a :: t).getLast (by simp), (List.dropLast_concat_getLast (by simp)).symm⟩
      have len : A.length = t.length := by
        have := congrArg List.length e
        simp at this
        omega
      have e1 : (a :: t).zip ((a :: t).drop 1 ++ (a :: t).take 1) = tl1 (a :: t) ++ [(z, a)] := by
        unfold tl1
        rw [show (a :: t).drop 1 = t from rfl, show (a :: t).take 1 = [a] from rfl, e, zip_snoc A z t a len, zip_init A z t len]
      rw [e1, List.mem_append, List.mem_singleton]
      constructor
      · rintro (h | h)
        · exact .inl h
        · cases h
          exact .inr ⟨rfl, A, e, rfl⟩
      · rintro (h | ⟨_, B, h, h2⟩)
        · exact .inl h
        · have h2 : some a = some y := h2
          cases h2
          rw [e] at h
          have := List.append_inj_right' h rfl
          cases this
          exact .inr rfl
theorem fol_rev {f : Int → Int} {c : Bool} {ps : List Int} {x y : Int} (h : (x, y) ∈ ps.zip (folZ c ps)) : (f y, f x) ∈ (ps.reverse.map f).zip (folZ c (ps.reverse.map f)) := by
  rcases fol_mem.mp h with h | ⟨rfl, A, e, h2⟩
  · exact fol_mem.mpr (.inl (tl1_rev h))
  · refine fol_mem.mpr (.inr ⟨rfl, ?_⟩)
    cases ps with
    | nil => cases h2
    | cons a t =>
      have h2 : some a = some y := h2
      cases h2
      refine ⟨t.reverse.map f, by simp, ?_⟩
      rw [e]
      simp
/-! once around -/
def rot1 (l : List Int) : List Int := l.drop 1 ++ l.take 1
theorem zip_rot1 (l : List Int) : ((rot1 l).zip (rot1 (rot1 l))).Perm (l.zip (rot1 l)) := by
  cases l with
  | nil => exact .refl _
  | cons a l =>
    cases l with
    | nil => exact .refl _
    | cons b m =>
      have e1 : rot1 (a :: b :: m) = b :: (m ++ [a]) := rfl
      have e2 : rot1 (b :: (m ++ [a])) = (m ++ [a]) ++ [b] := rfl
      rw [e1, e2]
      have z1 : (b :: (m ++ [a])).zip ((m ++ [a]) ++ [b]) = (b :: m).zip (m ++ [a]) ++ [(a, b)] := by
        rw [show b :: (m ++ [a]) = (b :: m) ++ [a] from rfl]
        exact zip_snoc (b :: m) a (m ++ [a]) b (by simp)
      have z2 : (a :: b :: m).zip (b :: (m ++ [a])) = (a, b) :: (b :: m).zip (m ++ [a]) := rfl
      rw [z1, z2]
      exact List.perm_append_singleton _ _
def rotk (k : Nat) (l : List Int) : List Int := l.drop k ++ l.take k
theorem rotk_succ {k : Nat} {l : List Int} (h : k < l.length) : rotk (k + 1) l = rot1 (rotk k l) := by
  unfold rotk rot1
  have e : l.drop k = l[k] :: l.drop (k + 1) := List.drop_eq_getElem_cons h
  rw [e]
  show l.drop (k + 1) ++ l.take (k + 1) = (l.drop (k + 1) ++ l.take k) ++ [l[k]]
  rw [List.take_add_one, List.getElem?_eq_getElem h, List.append_assoc]
  rfl
theorem rotk_zip {l : List Int} : ∀ {k : Nat}, k ≤ l.length → ((rotk k l).zip (rot1 (rotk k l))).Perm (l.zip (rot1 l))
  | 0, _ => by
    have : rotk 0 l = l := by
      unfold rotk
      simp
    rw [this]
  | k + 1, h => by
    rw [rotk_succ (by omega)]
    exact (zip_rot1 _).trans (rotk_zip (by omega))
theorem rotk_perm (k : Nat) (l : List Int) : (rotk k l).Perm l := by
  unfold rotk
  exact List.perm_append_comm.trans (.of_eq (List.take_append_drop k l))
/-! joints of another reading -/
def SwEq (J K : List PP) : Prop := (∀ p ∈ J, p ∈ K ∨ (p.2, p.1) ∈ K) ∧ ∀ p ∈ K, p ∈ J ∨ (p.2, p.1) ∈ J
theorem SwEq.refl (J : List PP) : SwEq J J := ⟨fun _ h => .inl h, fun _ h => .inl h⟩
theorem SwEq.trans {J K L : List PP} (a : SwEq J K) (b : SwEq K L) : SwEq J L := by
  refine ⟨fun p hp => ?_, fun p hp => ?_⟩
  · rcases a.1 p hp with h | h
    · exact b.1 p h
    · rcases b.1 _ h with h | h
      · exact .inr h
      · exact .inl h
  · rcases b.2 p hp with h | h
    · exact a.2 p h
    · rcases a.2 _ h with h | h
      · exact .inr h
      · exact .inl h
theorem SwEq.perm {J K : List PP} (h : J.Perm K) : SwEq J K := ⟨fun _ hp => .inl (h.mem_iff.mp hp), fun _ hp => .inl (h.mem_iff.mpr hp)⟩
theorem sw_rot (ps : List Int) {k : Nat} (h : k ≤ ps.length) : SwEq (jsO true (rotk k ps)) (jsO true ps) := by
  refine .perm ?_
  unfold jsO folZ
  rw [if_pos rfl, if_pos rfl]
  exact (rotk_zip h).map _
theorem le_neg {x : Int} (h : x ≠ 0) : leZ (0 - x) = enZ x ∧ enZ (0 - x) = leZ x := by
  rw [leZ_eq (show 0 - x ≠ 0 by omega), leZ_eq h]
  unfold enZ
  constructor
  · by_cases c : 0 < x
    · rw [if_neg (by omega), if_pos c]; omega
    · rw [if_pos (by omega), if_neg c]; omega
  · by_cases c : 0 < x
    · rw [if_neg (by omega), if_pos c]; omega
    · rw [if_pos (by omega), if_neg c]; omega
def negR (ps : List Int) : List Int := ps.reverse.map (0 - ·)
theorem negR_negR (ps : List Int) : negR (negR ps) = ps := by
  unfold negR
  rw [← List.map_reverse, List.reverse_reverse, List.map_map]
  conv => rhs; rw [← List.map_id ps]
  refine List.map_congr_left fun x _ => ?_
  show 0 - (0 - x) = x
  omega
theorem sw_rev1 (c : Bool) (ps : List Int) (h0 : ∀ x ∈ ps, x ≠ 0) : ∀ p ∈ jsO c ps, (p.2, p.1) ∈ jsO c (negR ps) := fun p hp => by
  obtain ⟨⟨x, y⟩, hq, rfl⟩ := List.mem_map.mp hp
  have hx : x ∈ ps := (List.of_mem_zip hq).1
  have hy : y ∈ ps := by
    have := (List.of_mem_zip hq).2
    unfold folZ at this
    split at this
    · rcases List.mem_append.mp this with h | h
      · exact List.mem_of_mem_drop h
      · exact List.mem_of_mem_take h
    · exact List.mem_of_mem_drop this
  refine List.mem_map.mpr ⟨(0 - y, 0 - x), fol_rev (f := (0 - ·)) hq, ?_⟩
  show (leZ (0 - y), enZ (0 - x)) = (enZ y, leZ x)
  rw [(le_neg (h0 y hy)).1, (le_neg (h0 x hx)).2]
theorem sw_rev (c : Bool) (ps : List Int) (h0 : ∀ x ∈ ps, x ≠ 0) : SwEq (jsO c (negR ps)) (jsO c ps) := by
  refine ⟨fun p hp => ?_, fun p hp => .inr (sw_rev1 c ps h0 p hp)⟩
  have := sw_rev1 c (negR ps) (fun x hx => by
    obtain ⟨y, hy, rfl⟩ := List.mem_map.mp hx
    have := h0 y (List.mem_reverse.mp hy)
    omega) p hp
  rw [negR_negR] at this
  exact .inr this
/-- a strand told again -/
def agZ (s : Strd) (z : Int) : Strd := (s.1, if s.1 = true then rotk (z / 2 % (s.2.length : Int)).toNat (if z % 2 = 1 then negR s.2 else s.2) else (if z % 2 = 1 then negR s.2 else s.2))
theorem abz_neg (x : Int) : abz (0 - x) = abz x := by
  unfold abz
  split <;> split <;> omega
theorem negR_abz (ps : List Int) : ((negR ps).map abz).Perm (ps.map abz) := by
  unfold negR
  rw [List.map_map]
  have : (abz ∘ fun x => 0 - x) = abz := funext abz_neg
  rw [this]
  exact (List.reverse_perm ps).map abz
theorem ag_abz (s : Strd) (z : Int) : ((agZ s z).2.map abz).Perm (s.2.map abz) := by
  have h : ((if z % 2 = 1 then negR s.2 else s.2).map abz).Perm (s.2.map abz) := by
    split
    · exact negR_abz _
    · exact .refl _
  unfold agZ
  simp only
  split
  · exact ((rotk_perm _ _).map abz).trans h
  · exact h
theorem ag_sw (s : Strd) (z : Int) (h0 : ∀ x ∈ s.2, x ≠ 0) (hne : s.2 ≠ []) : SwEq (jsO (agZ s z).1 (agZ s z).2) (jsO s.1 s.2) := by
  have hl : 0 < s.2.length := List.length_pos_iff.mpr hne
  have lr : (negR s.2).length = s.2.length := by unfold negR; rw [List.length_map, List.length_reverse]
  have h : SwEq (jsO s.1 (if z % 2 = 1 then negR s.2 else s.2)) (jsO s.1 s.2) := by
    split
    · exact sw_rev _ _ h0
    · exact .refl _
  unfold agZ
  simp only
  by_cases c : s.1 = true
  · rw [if_pos c]
    rw [c] at h ⊢
    refine SwEq.trans (sw_rot _ ?_) h
    have := Int.emod_lt_of_pos (z / 2) (show (0 : Int) < s.2.length by omega)
    split <;> omega
  · rw [if_neg c]
    exact h
/-- lists of strands told again -/
structure Again (l m : List Strd) : Prop where
  pc : ((pcS m).map abz).Perm ((pcS l).map abz)
  ne : (∀ s ∈ l, s.2 ≠ []) → ∀ s ∈ m, s.2 ≠ []
  sw : (∀ s ∈ l, s.2 ≠ [] ∧ ∀ x ∈ s.2, x ≠ 0) → SwEq (jsS m) (jsS l)
theorem SwEq.app {J J' K K' : List PP} (a : SwEq J K) (b : SwEq J' K') : SwEq (J ++ J') (K ++ K') := by
  refine ⟨fun p hp => ?_, fun p hp => ?_⟩
  · rcases List.mem_append.mp hp with hp | hp
    · exact (a.1 p hp).imp (List.mem_append_left _) (List.mem_append_left _)
    · exact (b.1 p hp).imp (List.mem_append_right _) (List.mem_append_right _)
  · rcases List.mem_append.mp hp with hp | hp
    · exact (a.2 p hp).imp (List.mem_append_left _) (List.mem_append_left _)
    · exact (b.2 p hp).imp (List.mem_append_right _) (List.mem_append_right _)
theorem Again.nil : Again [] [] := ⟨.refl _, fun _ _ h => (nomatch h), fun _ => .refl _⟩
theorem Again.more {l m : List Strd} (a : Again l m) (s : Strd) (z : Int) {m' : List Strd} (h : m'.Perm (m ++ [agZ s z])) : Again (l ++ [s]) m' := by
  have pcA : ∀ (u : List Strd) (t : Strd), pcS (u ++ [t]) = pcS u ++ t.2 := fun u t => by
    unfold pcS
    rw [List.flatMap_append, List.flatMap_singleton]
  have jsA : ∀ (u : List Strd) (t : Strd), jsS (u ++ [t]) = jsS u ++ jsO t.1 t.2 := fun u t => by
    unfold jsS
    rw [List.flatMap_append, List.flatMap_singleton]
  refine ⟨?_, fun hl t ht => ?_, fun hl => ?_⟩
  · have : (pcS m').Perm (pcS (m ++ [agZ s z])) := h.flatMap_right _
    refine (this.map abz).trans ?_
    rw [pcA, pcA, List.map_append, List.map_append]
    exact a.pc.append (ag_abz s z)
  · rcases List.mem_append.mp (h.mem_iff.mp ht) with ht | ht
    · exact a.ne (fun s hs => hl s (List.mem_append_left _ hs)) t ht
    · rw [List.mem_singleton] at ht
      have hs := hl s (List.mem_append_right _ (List.mem_singleton.mpr rfl))
      have := (ag_abz s z).length_eq
      rw [List.length_map, List.length_map] at this
      rw [ht]
      exact List.ne_nil_of_length_pos (by rw [this]; exact List.length_pos_iff.mpr hs)
  · have hs := hl s (List.mem_append_right _ (List.mem_singleton.mpr rfl))
    have : (jsS m').Perm (jsS (m ++ [agZ s z])) := h.flatMap_right _
    refine (SwEq.perm this).trans ?_
    rw [jsA, jsA]
    exact (a.sw fun s hs => hl s (List.mem_append_left _ hs)).app (ag_sw s z hs.2 hs.1)
theorem Again.ok {n : Nat} {l m : List Strd} (a : Again l m) (O : OkS n l) : OkS n m ∧ mate (jsS m) = mate (jsS l) := by
  have O2 : OkS n m := ⟨a.pc.trans O.pm, a.ne O.ne⟩
  refine ⟨O2, funext fun e => ?_⟩
  have sw := a.sw fun s hs => ⟨O.ne s hs, fun x hx => (O.bd (List.mem_flatMap.mpr ⟨s, hs, hx⟩)).1⟩
  exact mate_same O2.ends.nd O.ends.nd sw.1 sw.2 e
/-! the least end of a walk is the first -/
structure Lw (n : Nat) (f : Int → Int) (t : Int × Nat) : Prop where
  op : wkZ (siZ n) f t.1 (t.2 + 1) = 0 → t.1 ≤ wkZ (siZ n) f t.1 t.2
  cl : wkZ (siZ n) f t.1 (t.2 + 1) ≠ 0 → ∀ x ∈ wlk (siZ n) f t.1 t.2, t.1 ≤ x
/-- a strand of the normal form -/
def plS (s : Strd) : Prop := s.2 ≠ [] ∧ (s.1 = true → (∀ x ∈ s.2, abz (s.2.headD 0) ≤ abz x) ∧ 0 < s.2.headD 0) ∧ (s.1 = false → (s.2.length = 1 → 0 < s.2.headD 0) ∧ abz (s.2.headD 0) ≤ abz (s.2.getLastD 0))
theorem lw_plain {n : Nat} {f : Int → Int} (J : Invo (2 * n) f) {s : Int} {m : Nat} (w : Wk n f s m) (L : Lw n f (s, m)) : plS (stW n f (s, m)) := by
  have od := w.odd J
  obtain ⟨t, rfl⟩ : ∃ t, m = 2 * t + 1 := ⟨m / 2, by omega⟩
  have len : ((evs n f s (2 * t + 1)).map nuZ).length = t + 1 := by rw [ev_len]; omega
  have hd : ((evs n f s (2 * t + 1)).map nuZ).headD 0 = nuZ s := by
    have := ev_get (n := n) (par := f) (s := s) (m := 2 * t + 1) (j := 0) (by omega)
    rw [List.headD_eq_head?_getD, List.head?_eq_getElem?, this]
    rfl
  have la : ((evs n f s (2 * t + 1)).map nuZ).getLastD 0 = nuZ (wkZ (siZ n) f s (2 * t)) := by
    have := ev_get (n := n) (par := f) (s := s) (m := 2 * t + 1) (j := t) (by omega)
    rw [List.getLastD_eq_getLast?, List.getLast?_eq_getElem?, len, show t + 1 - 1 = t by omega, this]
    rfl
  have pos_of : s < siZ n s → 0 < nuZ s := fun h => by
    have e := (siZ_in w.bd).1
    have := w.bd.1
    unfold nuZ
    by_cases c : s % 2 = 1
    · rw [if_pos c]
      omega
    · rw [if_neg c] at e
      omega
  have ne : (siZ n s) ≠ s := (siZ_in w.bd).2.2.2.1
  unfold stW plS
  simp only
  rw [hd, la, len, abz_nu w.bd.1, abz_nu (w.at J (show 2 * t ≤ 2 * t + 1 by omega)).1]
  refine ⟨List.ne_nil_of_length_pos (by rw [len]; omega), fun c => ?_, fun c => ?_⟩
  · have c := of_decide_eq_true c
    have mn := L.cl c
    refine ⟨fun x hx => ?_, pos_of ?_⟩
    · obtain ⟨e, he, rfl⟩ := List.mem_map.mp hx
      unfold evs at he
      obtain ⟨j, hj, rfl⟩ := List.mem_map.mp he
      have hj := List.mem_range.mp hj
      rw [abz_nu (w.at J (show 2 * j ≤ 2 * t + 1 by omega)).1]
      have := mn _ (mem_wlk.mpr ⟨2 * j, by omega, rfl⟩)
      have this : s ≤ wkZ (siZ n) f s (2 * j) := this
      omega
    · have := mn _ (mem_wlk.mpr ⟨1, by omega, rfl⟩)
      have this : s ≤ siZ n s := this
      omega
  · have c : wkZ (siZ n) f s (2 * t + 1 + 1) = 0 := by
      have := of_decide_eq_false c
      exact Decidable.not_not.mp this
    have op : s ≤ wkZ (siZ n) f s (2 * t + 1) := L.op c
    rw [wk_ev] at op
    have h2 := (siZ_in (w.at J (show 2 * t ≤ 2 * t + 1 by omega))).2.2.2.2
    refine ⟨fun h1 => ?_, by omega⟩
    obtain rfl : t = 0 := by omega
    have op : s ≤ siZ n s := op
    exact pos_of (by omega)
end Pu

set_option Elab.async false
set_option linter.all false
set_option maxRecDepth 100000
set_option maxHeartbeats 4000000
/-! texts -/
namespace Pu
open PySem PySem.Spec PyProof.Rows L2
variable [TabL]
section
variable {K : PySem.W.Frag}
/-! len -/
def bLenS : List PyData → Option PyData := fun ds => match ds with
  | [.str z] => if okLen z.length = true then some (.int z.length) else none
  | _ => none
theorem s_lenS : SemL K (fun xs H Q => ∃ z, xs = [.str z] ∧ z.length ≤ sizeLine ∧ Q (.int z.length) H) false bLenS := fun S H xs ds z Q new r q k => by
  unfold bLenS at q
  split at q
  · rename_i x
    cases r with
    | cons r1 r2 =>
      cases r2
      cases r1
      by_cases h : okLen x.length = true
      · rw [if_pos h] at q
        cases q
        exact ⟨x, rfl, okLen_le h, k _ H (Same.refl H) (.int _) fun z => nomatch z⟩
      · rw [if_neg h] at q
        cases q
  · cases q
/-! z[i] -/
def oIxS : PyData → PyData → Option PyData := fun d e => match d, e with
  | .str z, .int i => if okLen z.length = true then (atI z.cps.toList i).map fun c => .str ⟨#[c]⟩ else none
  | _, _ => none
theorem s_ixS : SemB K (rIx K) false oIxS := fun S H x y d e z Q new rx ry q k => by
  unfold oIxS at q
  split at q
  · rename_i x i
    by_cases h : okLen x.length = true
    · rw [if_pos h] at q
      obtain ⟨c, e1, rfl⟩ := Option.map_eq_some_iff.mp q
      cases rx
      cases ry
      exact .inr (.inr ⟨x, i, c, rfl, rfl, okLen_le h, e1, k _ H (Same.refl H) (.str _) fun z => nomatch z⟩)
    · rw [if_neg h] at q
      cases q
  · cases q
/-! c in z, c one sign -/
def oInS (neg : Bool) : PyData → PyData → Option PyData := fun d e => match d, e with
  | .str x, .str z => (match x.cps.toList with
    | [c] => some (.bool (if neg = true then !decide (c ∈ z.cps.toList) else decide (c ∈ z.cps.toList)))
    | _ => none)
  | _, _ => none
omit [TabL] in
theorem oInS_some {neg : Bool} {d e z : PyData} (h : oInS neg d e = some z) : ∃ c y, d = .str ⟨#[c]⟩ ∧ e = .str y ∧ z = .bool (if neg = true then !decide (c ∈ y.cps.toList) else decide (c ∈ y.cps.toList)) := by
  unfold oInS at h
  split at h
  · rename_i x y
    split at h
    · rename_i c e1
      refine ⟨c, y, ?_, rfl, (Option.some.inj h).symm⟩
      obtain ⟨a⟩ := x
      congr 2
      apply Array.ext'
      exact e1
    · cases h
  · cases h
theorem s_inS : SemB K (fun x y H Q => ∃ (c : Nat) (z : Str), x = .str ⟨#[c]⟩ ∧ y = .str z ∧ Q (.bl (decide (c ∈ z.cps.toList))) H) false (oInS false) := fun S H x y d e z Q new rx ry q k => by
  obtain ⟨c, w, rfl, rfl, rfl⟩ := oInS_some q
  cases rx
  cases ry
  exact ⟨c, w, rfl, rfl, k _ H (Same.refl H) (.bl _) fun z => nomatch z⟩
theorem s_ninS : SemB K (fun x y H Q => ∃ (c : Nat) (z : Str), x = .str ⟨#[c]⟩ ∧ y = .str z ∧ Q (.bl (!decide (c ∈ z.cps.toList))) H) false (oInS true) := fun S H x y d e z Q new rx ry q k => by
  obtain ⟨c, w, rfl, rfl, rfl⟩ := oInS_some q
  cases rx
  cases ry
  exact ⟨c, w, rfl, rfl, k _ H (Same.refl H) (.bl _) fun z => nomatch z⟩
/-! int(text), str(x) -/
def bIntS : List PyData → Option PyData := fun ds => match ds with
  | [.str a] => if decide (a.length ≤ 640) = true then (PySem.intText? a).map .int else none
  | _ => none
theorem s_intS : SemL K (fun xs H Q => ∃ a n, xs = [.str a] ∧ PySem.intText? a = some n ∧ a.length ≤ 640 ∧ Q (.int n) H) false bIntS := fun S H xs ds z Q new r q k => by
  unfold bIntS at q
  split at q
  · rename_i a
    cases r with
    | cons r1 r2 =>
      cases r2
      cases r1
      by_cases h : decide (a.length ≤ 640) = true
      · rw [if_pos h] at q
        obtain ⟨n, e1, rfl⟩ := Option.map_eq_some_iff.mp q
        exact ⟨a, n, rfl, e1, of_decide_eq_true h, k _ H (Same.refl H) (.int _) fun z => nomatch z⟩
      · rw [if_neg h] at q
        cases q
  · cases q
def bStrA : List PyData → Option PyData := fun ds => match ds with
  | [.str a] => some (.str a)
  | [.int i] => if decide (i.natAbs < 1000000) = true then some (.str (toString i)) else none
  | _ => none
def rStrA : List V → Hp → VK → Prop := fun xs H Q => (∃ a, xs = [.str a] ∧ Q (.str a) H) ∨ ∃ i, xs = [.int i] ∧ i.natAbs.log2 < 1920 ∧ Q (.str (toString i)) H
theorem s_strA : SemL K rStrA false bStrA := fun S H xs ds z Q new r q k => by
  unfold bStrA at q
  split at q
  · cases q
    cases r with
    | cons r1 r2 =>
      cases r2
      cases r1
      exact .inl ⟨_, rfl, k _ H (Same.refl H) (.str _) fun z => nomatch z⟩
  · rename_i i
    cases r with
    | cons r1 r2 =>
      cases r2
      cases r1
      by_cases h : decide (i.natAbs < 1000000) = true
      · rw [if_pos h] at q
        cases q
        have h := of_decide_eq_true h
        have hl : i.natAbs.log2 < 1920 := by
          by_cases c : i.natAbs = 0
          · rw [c]
            decide
          · exact (Nat.log2_lt c).mpr (Nat.lt_trans h (Nat.lt_of_lt_of_le (show 1000000 < 2 ^ 20 by decide) (Nat.pow_le_pow_right (by decide) (by decide))))
        exact .inr ⟨i, rfl, hl, k _ H (Same.refl H) (.str _) fun z => nomatch z⟩
      · rw [if_neg h] at q
        cases q
  · cases q
end
section
variable {X : Cx} {M : Nat → Bool} {F : Fx} {E : L2.St → XK} {la lb fa fb : Bool} {a b tg : Expr} {f g : Rho → Re PyData} {pos : Pos}
theorem call_strA : CallR X (.type "str") rStrA := by
  intro pins s σ H xs us Q I rs h
  rcases h with h | h
  · exact SkE.call_str_str pins s σ H xs us Q I rs h
  · exact call_str_int pins s σ H xs us Q I rs h
theorem de_globS {x : Str} {z : Str} {pos : Pos} (hm : ∃ t, X.mg x = some (.str z t)) (hg : Gl X x := by rfl) (hd : (x == ("__debug__" : Str)) = false := by decide) : DE X M F E false false (.Name x pos) (rC (.str z)) := by
  obtain ⟨t, h⟩ := hm
  exact ⟨_, pe_glob (v := .str z) hg h ⟨t, rfl⟩ hd, fun σ H ρ er Q w => w _ H (Same.refl H) (.str z) fun z => nomatch z⟩
theorem de_ixS (ha : DE X M F E la fa a f) (hb : DE X M F E lb fb b g) (hs : PlainIx b := by intro _ _; rfl) : DE X M F E (la || lb) false (.Subscript a b pos) (r2 oIxS f g) := by
  obtain ⟨ta, pa, ha⟩ := ha
  obtain ⟨tb, pb, hb⟩ := hb
  exact ⟨_, pe_ix ix_seq pa pb hs, fun σ H ρ er Q w => two_run ha hb s_ixS er w⟩
/-! z[lo:hi] -/
def oCutS (d : PyData) (lo hi : Option Int) : Re PyData := match d with
  | .str z => if okLen z.length = true then .ok (.str (cutS z lo hi)) else .bad
  | _ => .bad
def rCutS (f : Rho → Re PyData) (lo hi : Rho → Re (Option Int)) : Rho → Re PyData := fun ρ => (f ρ).andThen fun d => (lo ρ).andThen fun l => (hi ρ).andThen fun h => oCutS d l h
theorem de_cutS {lo hi : Option Expr} {fl fh : Rho → Re (Option Int)} {p2 : Pos} (ha : DE X M F E la fa a f) (hl : DO X M F E lo fl) (hh : DO X M F E hi fh) : DE X M F E la false (.Subscript a (.Slice lo hi none p2) pos) (rCutS f fl fh) := by
  obtain ⟨ta, pa, ha⟩ := ha
  obtain ⟨tl, pl, hl⟩ := hl
  obtain ⟨th, ph, hh⟩ := hh
  refine ⟨_, pe_slice sl_str pa pl ph, fun σ H ρ er Q w => ?_⟩
  refine ha σ H ρ er _ (we_step w fun d v H1 e1 s1 r1 _ w1 => ?_)
  refine hl σ H1 ρ (er.same s1) _ (wo_step w1 fun l H2 e2 s2 w2 => ?_)
  refine hh σ H2 ρ ((er.same s1).same s2) _ (wo_step w2 fun h H3 e3 s3 w3 => ?_)
  cases r1 with
  | str zz =>
    have w3 : WE X M F E la false σ ρ H3 (if okLen zz.length = true then .ok (.str (cutS zz l h)) else .bad) Q := w3
    by_cases hz : okLen zz.length = true
    · rw [if_pos hz] at w3
      exact ⟨zz, rfl, okLen_le hz, w3 _ H3 (Same.refl _) (.str _) fun z => nomatch z⟩
    · rw [if_neg hz] at w3
      exact w3.elim
  | bl _ => exact w3.elim
  | non => exact w3.elim
  | int _ => exact w3.elim
  | tup _ _ => exact w3.elim
  | lst _ _ _ => exact w3.elim
  | scr _ _ => exact w3.elim
  | dic _ _ _ _ => exact w3.elim
  | dit _ _ _ _ => exact w3.elim
  | dif _ _ _ => exact w3.elim
  | rng _ => exact w3.elim
  | dct _ _ _ _ => exact w3.elim
/-! the signs of a text, one by one -/
def chD (c : Nat) : PyData := .str ⟨#[c]⟩
def itC (d : PyData) : Re (List PyData) := match d with | .str x => .ok (x.cps.toList.map chD) | _ => .bad
theorem walk_ch {S : Addr → Prop} {K : PySem.W.Frag} {H1 : Hp} {x : Str} : Walks K S (Its x) (x.cps.toList.map chD) H1 := fun H2 kp i => by
  refine ⟨fun d hd => ?_, fun hl => ?_⟩
  · rw [List.getElem?_map] at hd
    obtain ⟨c, hc, rfl⟩ := Option.map_eq_some_iff.mp hd
    have hi : i < x.cps.size := by
      have := getSome hc
      simpa using this
    refine ⟨hi, fun v H' y => ?_⟩
    obtain ⟨rfl, c', hc', rfl⟩ := y
    have : c' = c := by
      have h1 : x.cps.toList[i]? = x.cps[i]? := by simp
      rw [h1, hc'] at hc
      exact Option.some.inj hc
    subst this
    exact ⟨Same.refl _, .str _⟩
  · rw [List.length_map, Array.length_toList] at hl
    exact Nat.le_of_eq hl.symm
theorem di_str (h : DE X M F E la fa a f) : DI X M F E tg a (iOf itC f) := by
  obtain ⟨t, pa, h⟩ := h
  refine ⟨_, pi_str pa, fun σ H ρ er R w => ?_⟩
  refine h σ H ρ er _ (wi_step w fun d v H1 e sm r w1 => ?_)
  unfold itC at w1
  split at w1
  · cases r
    exact ⟨_, rfl, w1 _ H1 (Same.refl _) walk_ch⟩
  · exact w1.elim
/-! methods of texts with one argument -/
def r2M (m : Str → PyData → Option PyData) (f g : Rho → Re PyData) : Rho → Re PyData := fun ρ => (f ρ).andThen fun d => match d with | .str x => (g ρ).andThen fun e => liftO (m x e) | _ => .bad
theorem m1_run {ta tb : TE} {r : V → List V → Hp → VK → Prop} {m : Str → PyData → Option PyData} {fr : Bool} (ha : ∀ σ H ρ, ER X.K M F σ H ρ → ∀ Q, WE X M F E la fa σ ρ H (f ρ) Q → ta σ H Q) (hb : ∀ σ H ρ, ER X.K M F σ H ρ → ∀ Q, WE X M F E lb fb σ ρ H (g ρ) Q → tb σ H Q)
    (hm : ∀ (S : Addr → Prop) (H : Hp) (x : Str) (v : V) (e z : PyData) (Q : VK), (∀ a, H a = none → S a) → Rp X.K H S v e → m x e = some z → (∀ u H', Same H H' → Rp X.K H' S u z → (fr = true → Frs X.K S H H' u z) → Q u H') → r (.str x) [v] H Q)
    {σ : L2.St} {ρ : Rho} {H : Hp} (er : ER X.K M F σ H ρ) {Q : VK} (w : WE X M F E (la || lb) fr σ ρ H (r2M m f g ρ) Q) : tM1 r ta tb σ H Q := by
  refine ha σ H ρ er _ (we_step w fun d v H1 e1 s1 r1 _ w1 => ?_)
  cases r1 with
  | str x =>
    have w1 : WE X M F E (la || lb) fr σ ρ H1 ((g ρ).andThen fun e => liftO (m x e)) Q := w1
    refine ⟨⟨x, rfl⟩, hb σ H1 ρ (er.same s1) _ (we_step w1 fun e u H2 e2 s2 r2 _ w2 => ?_)⟩
    cases q : m x e with
    | none =>
      rw [q] at w2
      exact w2.elim
    | some z =>
      rw [q] at w2
      exact hm (RS M F σ ρ (la || lb)) H2 x u e z Q ((er.same s1).same s2).freshS (r2.wide rs_or2) q fun v' H' s' r' f' => w2 v' H' s' r' f'
  | bl _ => exact w1.elim
  | non => exact w1.elim
  | int _ => exact w1.elim
  | tup _ _ => exact w1.elim
  | lst _ _ _ => exact w1.elim
  | scr _ _ => exact w1.elim
  | dic _ _ _ _ => exact w1.elim
  | dit _ _ _ _ => exact w1.elim
  | dif _ _ _ => exact w1.elim
  | rng _ => exact w1.elim
  | dct _ _ _ _ => exact w1.elim
theorem rpA_strs {K : PySem.W.Frag} {H : Hp} {S : Addr → Prop} : ∀ l : List Str, RpA K H S (l.map V.str) (l.map PyData.str)
  | [] => .nil
  | x :: l => .cons (.str x) (rpA_strs l)
def asStrs : List PyData → Option (List Str)
  | [] => some []
  | .str x :: ds => (asStrs ds).map (x :: ·)
  | _ :: _ => none
omit [TabL] in
theorem asStrs_eq : ∀ {ds : List PyData} {ys : List Str}, asStrs ds = some ys → ds = ys.map PyData.str
  | [], ys, h => by cases h; rfl
  | .str x :: ds, ys, h => by
    obtain ⟨l, e, rfl⟩ := Option.map_eq_some_iff.mp h
    rw [asStrs_eq e]
    rfl
  | .none :: _, _, h => nomatch h
  | .bool _ :: _, _, h => nomatch h
  | .int _ :: _, _, h => nomatch h
  | .list _ :: _, _, h => nomatch h
  | .tuple _ :: _, _, h => nomatch h
  | .dict _ :: _, _, h => nomatch h
theorem rpA_strs_of {K : PySem.W.Frag} {H : Hp} {S : Addr → Prop} : ∀ {ys : List Str} {vs : List V}, RpA K H S vs (ys.map PyData.str) → vs = ys.map V.str
  | [], _, .nil => rfl
  | _ :: _, _, .cons h1 h2 => by
    cases h1
    rw [rpA_strs_of h2]
    rfl
def mSpl : Str → PyData → Option PyData := fun x e => match e with
  | .str y => if (y.length == 0) = false ∧ okLen (x.length + 2) = true then some (.list ((Txt.split x y).map .str)) else none
  | _ => none
theorem de_split {apos : Pos} (ha : DE X M F E la fa a f) (hb : DE X M F E lb fb b g) (hs : starEach [b] X.env = [(false, eval b X.env)] := by rfl) (hbase : attributeBase a "split" X.env (eval a X.env) = eval a X.env := by rfl) (hline : (apos.endLine == pos.line) = true := by rfl) :
    DE X M F E (la || lb) true (.Call (.Attribute a "split" apos) [b] [] pos) (r2M mSpl f g) := by
  obtain ⟨ta, pa, ha⟩ := ha
  obtain ⟨tb, pb, hb⟩ := hb
  refine ⟨_, pe_split pa pb hs hbase hline, fun σ H ρ er Q w => m1_run ha hb (fun S H x v e z Q new r q k => ?_) er w⟩
  unfold mSpl at q
  split at q
  · rename_i y
    by_cases h : (y.length == 0) = false ∧ okLen (x.length + 2) = true
    · rw [if_pos h] at q
      cases q
      cases r
      exact ⟨x, y, rfl, rfl, h.1, okLen_le h.2, fun p hp => k _ _ (same_new hp) (.lst upd_same (new p hp) (rpA_strs _)) fun _ => frs_lst hp (rpA_strs _)⟩
    · rw [if_neg h] at q
      cases q
  · cases q
def mJoin : Str → PyData → Option PyData := fun x e => match e with
  | .list ds => (asStrs ds).bind fun ys => if okLen ((ys.map (·.length)).sum + ys.length * x.length) = true then some (.str (Txt.join x ys)) else none
  | .tuple ds => (asStrs ds).bind fun ys => if okLen ((ys.map (·.length)).sum + ys.length * x.length) = true then some (.str (Txt.join x ys)) else none
  | _ => none
theorem de_join {apos : Pos} (ha : DE X M F E la fa a f) (hb : DE X M F E lb fb b g) (hs : starEach [b] X.env = [(false, eval b X.env)] := by rfl) (hbase : attributeBase a "join" X.env (eval a X.env) = eval a X.env := by rfl) (hline : (apos.endLine == pos.line) = true := by rfl) :
    DE X M F E (la || lb) false (.Call (.Attribute a "join" apos) [b] [] pos) (r2M mJoin f g) := by
  obtain ⟨ta, pa, ha⟩ := ha
  obtain ⟨tb, pb, hb⟩ := hb
  refine ⟨_, pe_join pa pb hs hbase hline, fun σ H ρ er Q w => m1_run ha hb (fun S H x v e z Q new r q k => ?_) er w⟩
  unfold mJoin at q
  split at q
  · obtain ⟨ys, e1, q⟩ := Option.bind_eq_some_iff.mp q
    by_cases h : okLen ((ys.map (·.length)).sum + ys.length * x.length) = true
    · rw [if_pos h] at q
      cases q
      cases r with
      | lst h1 h2 h3 =>
        rw [asStrs_eq e1] at h3
        rw [rpA_strs_of h3] at h1
        exact ⟨x, _, ys, rfl, rfl, .inl (SqL.of h1), Nat.le_trans (of_decide_eq_true h) (by decide), k _ H (Same.refl H) (.str _) fun z => nomatch z⟩
    · rw [if_neg h] at q
      cases q
  · obtain ⟨ys, e1, q⟩ := Option.bind_eq_some_iff.mp q
    by_cases h : okLen ((ys.map (·.length)).sum + ys.length * x.length) = true
    · rw [if_pos h] at q
      cases q
      cases r with
      | tup h1 h3 =>
        rw [asStrs_eq e1] at h3
        rw [rpA_strs_of h3] at h1
        exact ⟨x, _, ys, rfl, rfl, .inr h1.sq, Nat.le_trans (of_decide_eq_true h) (by decide), k _ H (Same.refl H) (.str _) fun z => nomatch z⟩
    · rw [if_neg h] at q
      cases q
  · cases q
end
end Pu

set_option Elab.async false
set_option linter.all false
set_option maxRecDepth 100000
set_option maxHeartbeats 4000000
/-! an exception out of a comprehension's element -/
namespace Pu
open PySem PySem.Spec PyProof.Rows L2
section
variable {X : Cx} {pins : List (Addr × Obj)} {σ : L2.St} {H : Hp} {s s' : Shared} {E : XK}
/-- a call's exception: a state without it, and what flies -/
theorem fly_of (I : Inv X pins σ H s) {u : Value} (c : CX X.prog X.w X.stack H s E u s') : ∃ (a : Addr) (B : Heap) (sI : Shared) (H' : Hp) (cls : Value) (d : Option Addr), u = .ref a ∧ Inv X pins σ H' sI ∧ (∀ b o, sI.heap.get? b = some o → b ∉ frs X.stack → B.get? b = some o) ∧ sI.heap.UpToSlots s'.heap ∧ HandSPX.FlyingZ B X.stack a (Zc cls d) s'.heap ∧ H' a = none ∧ s'.os = sI.os ∧ AllBare s'.gens ∧ E cls d H' ∧ sI.gens = s'.gens ∧ sI.drawn = s'.drawn ∧ ∀ b o, s.heap.get? b = some o → H b = none → b ∉ frs X.stack → B.get? b = some o := by
  obtain ⟨a, B, H', cls, d, rfl, fl, hok, ub, na, os, ag, hE⟩ := c
  obtain ⟨G, g1, g2⟩ := restrict s'.heap fun b => (B.get? b).isSome || decide (b ∈ frs X.stack)
  have st : B.StaysIn s'.heap := fl.1
  have gB : ∀ b o, B.get? b = some o → G.get? b = some o := fun b o e => by
    rw [g1 b (by simp [e])]
    exact st b o e
  have gF : ∀ b, b ∈ frs X.stack → G.get? b = s'.heap.get? b := fun b hb => g1 b (by simp [hb])
  have og : ∀ b o, G.get? b = some o → s'.heap.get? b = some o ∧ ((B.get? b).isSome = true ∨ b ∈ frs X.stack) := fun b o e => by
    cases q : ((B.get? b).isSome || decide (b ∈ frs X.stack)) with
    | false => rw [g2 b q] at e; cases e
    | true =>
      rw [g1 b q] at e
      exact ⟨e, by simpa [Bool.or_eq_true] using q⟩
  refine ⟨a, B, { s with heap := G, gens := s'.gens, drawn := s'.drawn, toks := s'.toks }, H', cls, d, rfl, ?_, fun b o e hb => ?_, Heap.UpToSlots.of_keeps fun b o e => (og b o e).1, fl, na, os, ag, hE, rfl, rfl, ub.keep⟩
  · refine I.call (ch := []) ⟨fun b o e n hb _ => gB b o (ub.keep b o e n hb), fun b o e n hb _ => ?_, fun b o e n _ => ub.free b o e n, fun b o e _ => ?_, ub.tups, ub.frzs, ub.tbls⟩ (hok.kept gB) ag (fun _ z => nomatch z)
    · obtain ⟨sl, q⟩ := ub.slot b o e hb
      exact ⟨sl, by rw [gF b hb]; exact q⟩
    · by_cases hb : b ∈ frs X.stack
      · obtain ⟨sl, q⟩ := ub.slot b o e hb
        exact ⟨_, by rw [gF b hb]; exact q⟩
      · obtain ⟨o', q⟩ := ub.there b o e hb
        exact ⟨o', gB b o' q⟩
  · obtain ⟨e', h⟩ := og b o e
    rcases h with h | h
    · obtain ⟨o', q⟩ := Option.isSome_iff_exists.mp h
      have z := st b o' q
      rw [e'] at z; cases z
      exact q
    · exact absurd h hb
end
section
variable {X Y : Cx} {W : WX} {pins : List (Addr × Obj)} {σ : L2.St} {C : Addr} {ce : Env}
/-- .. out of the block, noted by the def's frame, the block's names let go -/
theorem blk_fails (tk : Takes X W) (hs : X.stack = X.env :: X.outer) (hf : X.env.frame = some X.env.locals) (hfr : X.A.frames = some X.stack) (hcf : ce.frame = X.env.frame) (hC : ce.locals = C) (hCn : C ∉ frs X.stack)
    {a : Addr} {B : Heap} {H : Hp} {cls : Value} {d : Option Addr} {sI s' : Shared} {m : Str → Option Value} (hI : ∀ h', (∀ b, b ≠ C → h'.get? b = sI.heap.get? b) → h'.get? C = none → Inv X pins σ H { sI with heap := h' })
    (nb : ∀ b o, sI.heap.get? b = some o → b ∉ frs X.stack → B.get? b = some o) (up : sI.heap.UpToSlots s'.heap) (fl : HandSPX.FlyingZ B X.stack a (Zc cls d) s'.heap) (na : H a = none) (os : s'.os = sI.os) (ag : AllBare s'.gens) (hn : s'.heap.Ns C m) (hBC : ∃ o, B.get? C = some o) (w : W cls d σ H) :
    notedBy (model X.prog X.w) X.A ce (CompFails (model X.prog X.w) X.A X.xe ce) (.ref a) s' := by
  show wpAny _ X.A (noteFrame (.ref a) ce) _ _ s'
  rw [noteFrame_env _ hcf]
  rw [hs] at fl
  have hfr' : X.A.frames = some (X.env :: X.outer) := by rw [hfr, hs]
  refine HandSPX.looks_onZ Zc.steady hfr' hf fl fun h1 hh up1 => ?_
  obtain ⟨oC, eC⟩ := hBC
  have aC : a ≠ C := fun z => by
    rw [z] at hh
    rw [hh.2.1] at eC
    cases eC
  refine ⟨m, ?_, fun h2 m2 hn2 sb => ?_⟩
  · rw [hC]
    exact up1.ns hn
  rw [hC] at hn2 sb
  obtain ⟨k1, k2, k3, oe, vs, T, oT, ts, he, hz, hd, hv1, hnT, hTe, hT, hdT, h3⟩ := hh
  have TC : T ≠ C := fun z => by
    rw [z, eC] at hnT
    cases hnT
  obtain ⟨B', b1, b2⟩ := restrict B fun b => decide (b ≠ C)
  have bB : ∀ b o, B'.get? b = some o → b ≠ C ∧ B.get? b = some o := fun b o e => by
    by_cases z : b = C
    · rw [b2 b (by simp [z])] at e
      cases e
    · rw [b1 b (by simp [z])] at e
      exact ⟨z, e⟩
  have bN : ∀ b, B.get? b = none → B'.get? b = none := fun b e => by
    cases q : B'.get? b with
    | none => rfl
    | some o => rw [(bB b o q).2] at e; cases e
  have sbk : ∀ b, b ≠ C → h2.get? b = h1.get? b := fun b hb => sb.2 b hb
  have st2 : B'.StaysIn h2 := fun b o e => (sbk b (bB b o e).1).trans (k1 b o (bB b o e).2)
  have ff2 : h2.FunFrames B (X.env :: X.outer) := Heap.FunFrames.sameBut sb hn2 k3
  have ff : h2.FunFrames B' (X.env :: X.outer) := funFrames_none ff2 fun L hL => bN L (by
    obtain ⟨hnone, _⟩ := ff2.mem hL
    exact hnone)
  have held : HandSPX.HeldZ B' (X.env :: X.outer) a (Zc cls d) X.env.locals h2 := ⟨st2, bN a k2, ff, oe, vs, T, oT, ts, (sbk a aC).trans he, hz, hd, hv1, bN T hnT, hTe, (sbk T TC).trans hT, hdT, h3⟩
  show wpAny _ X.A (PySem.passOn _ (.ref a) ce : Sem Value) _ _ _
  unfold PySem.passOn
  refine wpAny_bind (wpAny_field ((sbk a aC).trans he) hd hv1 ?_)
  rw [if_neg (show ¬ ((Value.ref T == Value.none) = true) from by simp), hcf, hf]
  refine wpAny_bind (HandSPX.setFlight_onZ (s := { { s' with heap := h1 } with heap := h2 }) held fun h4 held4 up4 => ?_)
  refine wpAny_throw (tk _ _ ?_)
  obtain ⟨GI, i1, i2⟩ := restrict sI.heap fun b => decide (b ≠ C)
  have gi : ∀ b, b ≠ C → GI.get? b = sI.heap.get? b := fun b hb => i1 b (by simp [hb])
  have giC : GI.get? C = none := i2 C (by simp)
  have gI : ∀ b o, GI.get? b = some o → b ≠ C ∧ sI.heap.get? b = some o := fun b o e => by
    by_cases z : b = C
    · rw [z, giC] at e
      cases e
    · rw [gi b z] at e
      exact ⟨z, e⟩
  refine ⟨a, B', { sI with heap := GI }, pins, σ, H, cls, d, rfl, hI GI gi giC, fun b o e hb => ?_, fun b o e hnf => ?_, .inr (.inr (by rw [hs]; exact held4)), na, os, ag, w⟩
  · obtain ⟨z, e'⟩ := gI b o e
    rw [b1 b (by simp [z])]
    exact nb b o e' hb
  · obtain ⟨z, e'⟩ := gI b o e
    obtain ⟨sl, q⟩ := up b o e' hnf
    obtain ⟨sl1, q1⟩ := up1 b _ q hnf
    have q2 := (sbk b z).trans q1
    obtain ⟨sl2, q3⟩ := up4 b _ q2 hnf
    exact ⟨sl2, q3⟩
end
end Pu

set_option Elab.async false
set_option linter.all false
set_option maxRecDepth 100000
set_option maxHeartbeats 4000000
/-! list comprehensions whose element may let an exception out -/
namespace Pu
open PySem PySem.Spec PyProof.Rows L2
/-- what the block owes for an exception -/
def xbZ (X : Cx) (ce : Env) : Value → Shared → Prop := notedBy (model X.prog X.w) X.A ce (CompFails (model X.prog X.w) X.A X.xe ce)
abbrev blkX (X : Cx) (s : Shared) (H : Hp) (scope : Scope) (ce : Env) (fp : List Addr) : Cx := { X.blk s H scope ce fp with xe := xbZ X ce }
section
variable {X : Cx} {pins pb : List (Addr × Obj)} {σ : L2.St} {H H3 : Hp} {s s3 : Shared} {scope : Scope} {ce : Env} {fp : List Addr}
theorem inv_toX (I : Inv (X.blk s3 H3 scope ce fp) pb σ H s) : Inv (blkX X s3 H3 scope ce fp) pb σ H s := ⟨⟨I.ok.mod, I.ok.kind, I.ok.glob, I.ok.blt, I.ok.above, I.ok.inj, I.ok.has, I.ok.cab, I.ok.hd, I.ok.frames, I.ok.stk, I.ok.exf, I.ok.bs, I.ok.bsz, I.ok.noex, I.ok.exfs, I.ok.funs, I.ok.frf⟩, I.os, I.bare, I.base, I.loc, I.cell, I.free, I.freeC, I.pin, I.hok, I.len⟩
theorem inv_ofX (I : Inv (blkX X s3 H3 scope ce fp) pb σ H s) : Inv (X.blk s3 H3 scope ce fp) pb σ H s := ⟨⟨I.ok.mod, I.ok.kind, I.ok.glob, I.ok.blt, I.ok.above, I.ok.inj, I.ok.has, I.ok.cab, I.ok.hd, I.ok.frames, I.ok.stk, I.ok.exf, I.ok.bs, I.ok.bsz, I.ok.noex, I.ok.exfs, I.ok.funs, I.ok.frf⟩, I.os, I.bare, I.base, I.loc, I.cell, I.free, I.freeC, I.pin, I.hok, I.len⟩
end
section
variable {X : Cx}
theorem lcx_core {pins : List (Addr × Obj)} {s : Shared} {σ : L2.St} {H : Hp} {Q : VK} {elt tg iter : Expr} {scope : Scope} {own : List (Str × Nat)} {pos pos' : Pos} {wi : TI} {g : TG} {te : TE} {Qf : Value → Shared → Prop}
    (hc : X.calm = true) (hN : X.N.Nodup) (I : Inv X pins σ H s) (hi : PI X tg iter wi) (ok : BlkOk X.N X.env.scope scope own)
    (hg : ∀ (s : Shared) (H : Hp) (C : Addr) (cl : List (Str × Addr)) (fp : List Addr), PG (X.blk s H scope (compEnvC scope cl C X.env) fp) tg g)
    (he : ∀ (s3 : Shared) (H3 : Hp) (cl : List (Str × Addr)) (fp : List Addr), Inv X pins σ H3 s3 → (∀ b ∈ fp, FpOk X pins H3 b ∧ b < s3.heap.objs.size) → PE (blkX X s3 H3 scope (compEnvC scope cl s3.heap.objs.size X.env) fp) elt te) (hs : ∀ x, foldedSetIterable iter X.env x = pure x)
    (h : tLc wi g tYes te (own.map (·.2)) σ H Q)
    (hRR : ∀ D C ce s' m H', Inv X pins σ H' s' → Q (.ref D) H' → s'.heap.Ns C m → FpOk X pins H' C → ce.locals = C → compEnds (model X.prog X.w) X.A X.xe none Qf (.ref D) ce (.ok .next) s') :
    wpAny (model X.prog X.w) X.A (comprehension (.ListComp elt [⟨tg, iter, [], 0⟩] scope pos) scope X.env pos' (newList []) false (eval iter X.env) none) Qf X.xe s := by
  have hfree : ∀ y ∈ scope.names, y.2 = .free → ∃ c, X.env.cells.lookup y.1 = some c := fun y hy e => by
    rcases ok.free y hy e with k | k
    · exact I.ok.has _ (.inl k)
    · exact I.ok.has _ (.inr k)
  refine comprehension_at (use := none) rfl hs (closure_ok hfree) ok.kind (fun y hy e => by rw [ok.uniq y hy, e])
    (thn (hi.run pins s σ H _ I h) fun xv s1 hx => thn hx fun itv s2 h2 => ?_)
  obtain ⟨it, fp, tn, J, H2, e, I2, T, st2, f2, q⟩ := h2
  subst e
  refine wpAny_newObj_type (newEnv_comp ?_) (by show 0 ≤ sizeLine; decide)
  generalize hD : s2.heap.objs.size = D
  have hDn : H2 D = none := I2.hok.fresh (Nat.le_of_eq hD)
  obtain ⟨W, ⟨m0, w0⟩, turn⟩ := q D hDn
  generalize hs3 : ({ s2 with heap := s2.heap.push { cls := .type "list", data := .seq ([] : List Value).toArray } } : Shared) = s3
  have I3 : Inv X pins σ (upd H2 D (.lst [])) s3 := by
    rw [← hs3]
    refine I2.laid (t' := s2.toks) (fun b o e => Heap.get?_push_of_some _ e) (Nat.le_of_eq hD) ⟨Nat.zero_le _, [], 0, .nil, ?_⟩
    rw [← hD]
    exact Heap.get?_push_size _ rfl
  have h3 : s3.heap = s2.heap.push { cls := .type "list", data := .seq ([] : List Value).toArray } := by rw [← hs3]
  have sz : ∀ b ∈ fp, b < s2.heap.objs.size := fun b hb => by
    obtain ⟨o, e, _⟩ := T.obj _ _ st2 b hb
    exact Heap.lt_size e
  have f3 : ∀ b ∈ fp, FpOk X pins (upd H2 D (.lst [])) b ∧ b < s3.heap.objs.size := fun b hb => by
    have hlt := sz b hb
    refine ⟨⟨?_, (f2 b hb).2⟩, by rw [h3, Heap.size_push]; exact Nat.lt_succ_of_lt hlt⟩
    rw [upd_ne (by rw [← hD]; exact Nat.ne_of_lt hlt)]
    exact (f2 b hb).1
  have st3 : tn 0 s3.heap := T.keep _ _ _ st2 fun b _ o e => by rw [h3]; exact Heap.get?_push_of_some _ e
  have I4 := block_start I3 ok hN f3
  have pg := hg s3 (upd H2 D (.lst [])) s3.heap.objs.size (cellsFrom (s3.heap.objs.size + 1) scope.names (cloFrom X.env.cells scope.names [])) fp
  have pe := he s3 (upd H2 D (.lst [])) (cellsFrom (s3.heap.objs.size + 1) scope.names (cloFrom X.env.cells scope.names [])) fp I3 f3
  show codeAny _ _ (.compStart (.ListComp elt [⟨tg, iter, [], 0⟩] scope pos) 0 (.ref it) (.ref D) (compEnvC scope (cellsFrom (s3.heap.objs.size + 1) scope.names (cloFrom X.env.cells scope.names [])) s3.heap.objs.size X.env)) (compEnds (model X.prog X.w) X.A X.xe none Qf (.ref D) (compEnvC scope (cellsFrom (s3.heap.objs.size + 1) scope.names (cloFrom X.env.cells scope.names [])) s3.heap.objs.size X.env)) { s3 with heap := pushCells (s3.heap.push { cls := .type "dict", data := .dict #[] }) scope.names }
  have nfp : ∀ b ∈ fp, (upd H2 D (.lst [])) b = none := fun b hb => (f3 b hb).1.1
  generalize hce : compEnvC scope (cellsFrom (s3.heap.objs.size + 1) scope.names (cloFrom X.env.cells scope.names [])) s3.heap.objs.size X.env = ce at I4 pg pe ⊢
  have cL : ce.locals = s3.heap.objs.size := by subst hce; rfl
  generalize hH3 : upd H2 D (.lst []) = H3 at I3 I4 pg pe w0 nfp f3
  generalize hs4 : ({ s3 with heap := pushCells (s3.heap.push { cls := .type "dict", data := .dict #[] }) scope.names } : Shared) = s4 at I4 ⊢
  have st4 : tn 0 s4.heap := T.keep _ _ _ st3 fun b _ o e => by rw [← hs4]; exact pushCells_keeps _ _ _ _ (Heap.get?_push_of_some _ e)
  have stat : ∀ {σ' : L2.St} {H' : Hp} {s' : Shared}, Inv (X.blk s3 H3 scope ce fp) [] σ' H' s' → (∀ b ∈ fp, H' b = none) → ∀ b ∈ fp, FpOk (X.blk s3 H3 scope ce fp) [] H' b := fun {σ' H' s'} I' hn b hb =>
    ⟨hn b hb, (I'.ok.exf b hb).1, I'.ok.exfs b hb, .inl hb, fun x c e => (I'.ok.exf b hb).2 x c e, fun p hp => absurd (show p ∈ ([] : List (Addr × Obj)) ++ [] from hp) (by simp)⟩
  have loop : codeAny (model X.prog X.w) X.A (.compLoop (.ListComp elt [⟨tg, iter, [], 0⟩] scope pos) 0 (.ref it) (.ref D) ce) (compEnds (model X.prog X.w) X.A X.xe none Qf (.ref D) ce) s4 := by
    refine compLoop_any (fun n s' => ∃ i H', Inv (X.blk s3 H3 scope ce fp) [] (wipe σ (own.map (·.2))) H' s' ∧ tn i s'.heap ∧ (∀ b ∈ fp, H' b = none) ∧ W i n H') ?_ m0 ⟨0, H3, I4, st4, nfp, w0⟩
    rintro n s5 ⟨i, H5, I5, st5, n5, w5⟩
    rcases turn i n H5 w5 with ⟨stop, qq⟩ | ⟨go, Nx, hNx, step⟩
    · have td := T.done (X.blk s3 H3 scope ce fp) rfl rfl rfl hc i [] s5 _ H5 (fun _ _ => False) I5 (stat I5 n5) st5 stop
      refine thnF td fun r s6 ⟨hr, I6⟩ => ?_
      subst hr
      have I7 : Inv X pins σ H5 s6 := I3.call' (ch := fp) I6.os I6.base I6.hok I6.bare fun b hb => ⟨(f3 b hb).1.2.2.2.1, (f3 b hb).1.2.1, (f3 b hb).1.2.2.2.2.1, (f3 b hb).1.2.2.2.2.2⟩
      have nC : H5 s3.heap.objs.size = none := by
        have z : H5 ce.locals = none := I6.free
        rw [cL] at z
        exact z
      obtain ⟨m, hn, _⟩ := I6.loc
      have hn : s6.heap.Ns ce.locals m := hn
      rw [cL] at hn
      exact hRR D s3.heap.objs.size ce s6 m H5 I7 qq hn (I3.fpOk (Nat.le_refl _) nC) cL
    · have ti := T.item (X.blk s3 H3 scope ce fp) rfl rfl rfl hc i [] s5 _ H5 (fun _ _ => False) I5 (stat I5 n5) st5 go
      refine thnF ti fun r s6 ⟨u, hr, h6⟩ => ?_
      subst hr
      refine thnF h6 fun _ s7 ⟨x, H7, I7, r7, y7, st7, n7⟩ => ?_
      have I7' := I7.pinned (stat I7 n7) (T.obj _ _ st7)
      refine thnF (pg.run _ s7 _ H7 x u _ I7' r7 (step x H7 y7)) fun _ s8 ⟨σ8, H8, I8, hw8, q8⟩ => ?_
      refine wpAny_tests_nil ?_
      have fin : ∀ {s' : Shared} {H' : Hp}, Inv (X.blk s3 H3 scope ce fp) ([] ++ pinsAt fp s7.heap) σ8 H' s' → Nx H' → ∃ m, m < n ∧ ∃ i H', Inv (X.blk s3 H3 scope ce fp) [] (wipe σ (own.map (·.2))) H' s' ∧ tn i s'.heap ∧ (∀ b ∈ fp, H' b = none) ∧ W i m H' := fun {s' H'} I' nx => by
        obtain ⟨m', hm, w'⟩ := hNx H' nx
        have pin' : ∀ b ∈ fp, ∀ o, s7.heap.get? b = some o → s'.heap.get? b = some o ∧ H' b = none := fun b hb o e =>
          let z := I'.pin (b, o) (List.mem_append_right _ (List.mem_append_right _ (mem_pinsAt hb e)))
          ⟨z.1, z.2.1⟩
        have hl : (wipe σ (own.map (·.2))).length = σ8.length := by rw [← hw8, wipe_length]
        refine ⟨m', hm, i + 1, H', (I'.unpinned (pins := [])).weak hl (fun j v e => ?_), T.keep _ _ _ st7 fun b hb o e => (pin' b hb o e).1, fun b hb => ?_, w'⟩
        · rw [← hw8] at e
          exact (wipe_some e).1
        · obtain ⟨o, e, _⟩ := T.obj _ _ st7 b hb
          exact (pin' b hb o e).2
      have q8 : te σ8 H8 fun y H4 => ∃ acc, H4 D = some (.lst acc) ∧ acc.length < sizeLine ∧ Nx (upd H4 D (.lst (acc ++ [y]))) := q8
      show (if true = true then _ else _)
      rw [if_pos rfl]
      refine wpAny_mono (pe.run _ s8 σ8 H8 _ (inv_toX I8) q8) (fun z s10 hz => ?_) fun u s' hx => hx
      obtain ⟨yv, H10, I10, r10, acc, hD10, hz10, nx⟩ := hz
      exact app_ok (X := X.blk s3 H3 scope ce fp) (inv_ofX I10) hD10 hz10 r10 fun s11 I11 => fin I11 nx
  exact codeAny_compStart_list loop (T.self X.A 0 _ _ _ st4 loop)
end
end Pu

set_option Elab.async false
set_option linter.all false
set_option maxRecDepth 100000
set_option maxHeartbeats 4000000
/-! list comprehensions whose element may raise, by data -/
namespace Pu
open PySem PySem.Spec PyProof.Rows L2
variable [TabL]
def consX (x : PyData) : Re (List PyData) → Re (List PyData)
  | .ok xs => .ok (x :: xs)
  | .ex c => .ex c
  | .bad => .bad
def preX (acc : List PyData) : Re (List PyData) → Re (List PyData)
  | .ok xs => .ok (acc ++ xs)
  | .ex c => .ex c
  | .bad => .bad
theorem preX_nil : ∀ r, preX [] r = r
  | .ok _ => rfl
  | .ex _ => rfl
  | .bad => rfl
theorem preX_cons (acc : List PyData) (x : PyData) : ∀ r, preX acc (consX x r) = preX (acc ++ [x]) r
  | .ok xs => by
    show Re.ok (acc ++ x :: xs) = Re.ok (acc ++ [x] ++ xs)
    rw [List.append_assoc]
    rfl
  | .ex _ => rfl
  | .bad => rfl
def lcGoX (g : PyData → Rho → Option Rho) (f : Rho → Re PyData) (ρ : Rho) : List PyData → Re (List PyData)
  | [] => .ok []
  | d :: ds => match g d ρ with
    | none => .bad
    | some ρ1 => match f ρ1 with
      | .ok x => consX x (lcGoX g f ρ ds)
      | .ex c => .ex c
      | .bad => .bad
def lstX : Re (List PyData) → Re PyData
  | .ok xs => .ok (.list xs)
  | .ex c => .ex c
  | .bad => .bad
def rLcX (its : Rho → Re (List PyData)) (vs : List Nat) (g : PyData → Rho → Option Rho) (f : Rho → Re PyData) : Rho → Re PyData := fun ρ => (its ρ).andThen fun ds => if okLen ds.length = true then lstX (lcGoX g f (wipeR ρ vs) ds) else .bad
omit [TabL] in
theorem yes_go {σ : L2.St} {H : Hp} {A B : Hp → Prop} (h : A H) : tYes σ H fun b H3 => if b = true then A H3 else B H3 := by
  show (if true = true then A H else B H)
  rw [if_pos rfl]
  exact h
section
variable {X : Cx} {M : Nat → Bool} {F : Fx} {E : L2.St → XK} {σ σ1 : L2.St} {ρ ρ1 : Rho} {H H' H1 : Hp} {f : Rho → Re PyData}
theorem lcx_run (hE : ∀ σ σ' : L2.St, E σ = E σ') {ts vs : List Nat} {wi : TI} {its : Rho → Re (List PyData)} {gg : PyData → Rho → Option Rho} {lk fr : Bool} (hi : ∀ σ H ρ, ER X.K M F σ H ρ → ∀ R, WI X M F E σ ρ H (its ρ) R → wi σ H R)
    (hv : ∀ i ∈ vs, M i = false) (hts : ∀ i ∈ ts, i ∈ vs) (er : ER X.K M F σ H ρ) {Q : VK} (w : WE X M F E lk true σ ρ H (rLcX its vs gg f ρ) Q) : tLc wi (canG X M ts gg) tYes (canE X M E lk fr f) vs σ H Q := by
  refine hi σ H ρ er _ ?_
  unfold rLcX at w
  cases q : its ρ with
  | ex c =>
    rw [q] at w
    exact w
  | bad =>
    rw [q] at w
    exact w
  | ok ds =>
    rw [q] at w
    have w : WE X M F E lk true σ ρ H (if okLen ds.length = true then lstX (lcGoX gg f (wipeR ρ vs) ds) else .bad) Q := w
    by_cases hz : okLen ds.length = true
    · rw [if_pos hz] at w
      generalize q2 : lcGoX gg f (wipeR ρ vs) ds = tot at w
      refine fun J H1 sm wk Dd hD => ?_
      have er1 := er.same sm
      refine ⟨fun i m H2 => m = ds.length - i ∧ i ≤ ds.length ∧ Same H1 H2 ∧ ∃ acc accd rst, H2 Dd = some (.lst acc) ∧ RpA X.K H2 (fun a => RS M F σ ρ lk a ∧ a ≠ Dd) acc accd ∧ acc.length ≤ i ∧ lcGoX gg f (wipeR ρ vs) (ds.drop i) = rst ∧ tot = preX accd rst,
        ⟨ds.length, by simp, Nat.zero_le _, same_new hD, [], [], tot, upd_same, .nil, Nat.le_refl _, q2, (preX_nil _).symm⟩, ?_⟩
      rintro i m H2 ⟨rfl, hi', sm2, acc, accd, rst, e1, r1, l1, g1, t1⟩
      have kp : Kp (fun a => RS M F σ ρ false a ∧ Nn H1 a) H1 H2 := kp_same sm2
      by_cases hlt : i < ds.length
      · obtain ⟨go, yl⟩ := (wk H2 kp i).1 _ (List.getElem?_eq_getElem hlt)
        refine .inr ⟨go, fun H3 => ds.length - (i + 1) = ds.length - (i + 1) ∧ i + 1 ≤ ds.length ∧ Same H1 H3 ∧ ∃ acc accd rst, H3 Dd = some (.lst acc) ∧ RpA X.K H3 (fun a => RS M F σ ρ lk a ∧ a ≠ Dd) acc accd ∧ acc.length ≤ i + 1 ∧ lcGoX gg f (wipeR ρ vs) (ds.drop (i + 1)) = rst ∧ tot = preX accd rst, fun H3 x => ⟨ds.length - (i + 1), by omega, x⟩, fun x H3 y => ?_⟩
        obtain ⟨s3, rx⟩ := yl x H3 y
        rw [drop_get (List.getElem?_eq_getElem hlt)] at g1
        have g1 : (match gg ds[i] (wipeR ρ vs) with | none => .bad | some ρ1 => match f ρ1 with | .ok x => consX x (lcGoX gg f (wipeR ρ vs) (ds.drop (i + 1))) | .ex c => .ex c | .bad => .bad) = rst := g1
        cases q3 : gg ds[i] (wipeR ρ vs) with
        | none =>
          rw [q3] at g1
          have g1 : Re.bad = rst := g1
          rw [t1, ← g1] at w
          exact w.elim
        | some ρ1 =>
          rw [q3] at g1
          have g1 : (match f ρ1 with | .ok x => consX x (lcGoX gg f (wipeR ρ vs) (ds.drop (i + 1))) | .ex c => .ex c | .bad => .bad) = rst := g1
          obtain ⟨erw, rsw⟩ := er1.wipe (vs := vs) hv
          have s13 : Same H1 H3 := sm2.trans s3
          have e3 : H3 Dd = some (.lst acc) := s3 _ _ e1
          have erb := erw.blk hD s13 e3
          have rx' : Rp X.K H3 (RS M (inBlk F Dd) (wipe σ vs) (wipeR ρ vs) false) x ds[i] := rx.wide fun a z => by
            have := rsw false
            refine ⟨⟨z.1.1, fun zz => ?_⟩, ?_⟩
            · rw [zz] at z
              exact z.2.not hD
            · have z1 : RS M F (wipe σ vs) (wipeR ρ vs) false a := by
                rw [this]
                exact z.1
              exact z1.2
          refine ⟨inBlk F Dd, wipeR ρ vs, ds[i], ρ1, erb, rx', q3, fun σ4 er4 ev4 wp4 ow4 => ⟨?_, ?_⟩⟩
          · rw [wp4 vs hts]
            exact (show wipe (wipe σ vs) vs = wipe σ vs from by
              have : ∀ (l : List Nat) (τ : L2.St), (∀ i ∈ l, i < τ.length → τ[i]? = some none) → wipe τ l = τ := by
                intro l
                induction l with
                | nil => intro τ _; rfl
                | cons v l ih =>
                  intro τ h
                  show (wipe τ l).set v none = τ
                  rw [ih τ fun i hi => h i (List.mem_cons_of_mem _ hi)]
                  by_cases hv : v < τ.length
                  · have := h v List.mem_cons_self hv
                    obtain ⟨h1, h2⟩ := List.getElem?_eq_some_iff.mp this
                    rw [← h2, List.set_getElem_self]
                  · rw [List.set_eq_of_length_le (by omega)]
              refine this vs _ fun i hi hl => ?_
              have mem : ∀ (l : List Nat) (i : Nat), i ∈ l → i < (wipe σ l).length → (wipe σ l)[i]? = some none := by
                intro l
                induction l with
                | nil => intro i h; cases h
                | cons v l ih =>
                  intro i h hl
                  show ((wipe σ l).set v none)[i]? = some none
                  have hl' : i < (wipe σ l).length := by
                    have hl2 : i < ((wipe σ l).set v none).length := hl
                    rwa [List.length_set] at hl2
                  by_cases e : v = i
                  · subst e
                    rw [List.getElem?_set_self hl']
                  · rw [List.getElem?_set_ne e]
                    exact ih i ((List.mem_cons.mp h).resolve_left fun z => e z.symm) hl'
              exact mem vs i hi hl)
          · refine yes_go ?_
            refine ⟨inBlk F Dd, ρ1, er4, ?_⟩
            cases q5 : f ρ1 with
            | ex c =>
              rw [q5] at g1
              have g1 : Re.ex c = rst := g1
              rw [t1, ← g1] at w
              exact fun C H6 mc s6 => by
                rw [hE σ4 σ]
                exact w C H6 mc (sm.trans (s13.trans s6))
            | bad =>
              rw [q5] at g1
              have g1 : Re.bad = rst := g1
              rw [t1, ← g1] at w
              exact w.elim
            | ok xd =>
              rw [q5] at g1
              have g1 : consX xd (lcGoX gg f (wipeR ρ vs) (ds.drop (i + 1))) = rst := g1
              refine fun v H6 s6 r6 _ => ?_
              have e6 : H6 Dd = some (.lst acc) := s6 _ _ e3
              have acl : acc.length < sizeLine := by
                have := of_decide_eq_true hz
                exact Nat.lt_of_lt_of_le (show acc.length < 10001 by omega) (by decide)
              refine ⟨acc, e6, acl, rfl, hlt, (s13.trans s6).put hD e6 plain_lst, acc ++ [v], accd ++ [xd], _, upd_same, ?_, ?_, rfl, ?_⟩
              · have kpD : Kp (fun a => RS M F σ ρ lk a ∧ a ≠ Dd) H6 (upd H6 Dd (.lst (acc ++ [v]))) := by
                  refine ⟨fun a u qa xa _ => ?_⟩
                  rw [upd_ne]
                  · exact qa
                  · intro za
                    subst za
                    rcases xa with xa | xa
                    · exact xa.2 rfl
                    · rw [e6] at qa
                      cases qa
                      exact xa trivial
                have rA : RpA X.K H6 (fun a => RS M F σ ρ lk a ∧ a ≠ Dd) acc accd := r1.same (s3.trans s6)
                have rV : Rp X.K H6 (fun a => RS M F σ ρ lk a ∧ a ≠ Dd) v xd := r6.wide fun a za => by
                  refine ⟨⟨za.1.1, fun zl => fun o => ?_⟩, za.1.2⟩
                  have rw0 := rsw false
                  -- an own address ahead is own in the block
                  obtain ⟨hh0, hs0, uu, hu⟩ := er1.own o
                  have nb : ¬ OwnA M (wipe σ vs) (wipeR ρ vs) a → False := fun nn => by
                    have : RS M F (wipe σ vs) (wipeR ρ vs) false a := ⟨hs0, fun _ => nn⟩
                    rw [rw0] at this
                    exact this.2 rfl o
                  refine za.2 zl ?_
                  by_cases ob : OwnA M (wipe σ vs) (wipeR ρ vs) a
                  · exact ow4 a ob
                  · exact (nb ob).elim
                exact (rA.append (.cons rV .nil)).keep kpD fun _ _ x _ _ => x
              · rw [List.length_append]
                show acc.length + 1 ≤ i + 1
                omega
              · rw [t1, ← g1, preX_cons]
      · have ei : i = ds.length := by omega
        subst ei
        rw [List.drop_length] at g1
        have g1 : Re.ok ([] : List PyData) = rst := g1
        have t1 : tot = .ok accd := by
          rw [t1, ← g1]
          show Re.ok (accd ++ []) = _
          rw [List.append_nil]
        rw [t1] at w
        refine .inl ⟨(wk H2 kp _).2 rfl, w (.ref Dd) H2 (sm.trans sm2) (.lst e1 ?_ (r1.wide fun a x => x.1)) fun _ => ⟨Dd, rfl, sm.free hD, .lst e1 r1⟩⟩
        exact er1.freshS _ hD
    · rw [if_neg hz] at w
      exact w.elim
end
end Pu

set_option Elab.async false
set_option linter.all false
set_option maxRecDepth 100000
set_option maxHeartbeats 4000000
/-! list comprehensions whose element may raise: the rule -/
namespace Pu
open PySem PySem.Spec PyProof.Rows L2
section
variable {X : Cx}
/-- the def's wish passes the block -/
theorem blk_pass {E0 : XK} (tk : Takes X (fun cls d _ H => E0 cls d H)) (hs : X.stack = X.env :: X.outer) (hf : X.env.frame = some X.env.locals) {pins : List (Addr × Obj)} {σ : L2.St} {H3 : Hp} {s3 : Shared} {scope : Scope} {cl : List (Str × Addr)} {fp : List Addr} (I3 : Inv X pins σ H3 s3) (f3 : ∀ b ∈ fp, FpOk X pins H3 b ∧ b < s3.heap.objs.size) (σ' : L2.St) :
    PassesAt (L2.CX X.prog X.w) (blkX X s3 H3 scope (compEnvC scope cl s3.heap.objs.size X.env) fp) σ' E0 := by
  intro pb Hb s u s' Ib c
  obtain ⟨a, B, sI, H', cls, d, rfl, Iq, nb, up, fl, na, os, ag, w, _, _, _⟩ := fly_of Ib c
  have I6 := inv_ofX Iq
  have I7 : Inv X pins σ H' sI := I3.call' (ch := fp) I6.os I6.base I6.hok I6.bare fun b hb => ⟨(f3 b hb).1.2.2.2.1, (f3 b hb).1.2.1, (f3 b hb).1.2.2.2.2.1, (f3 b hb).1.2.2.2.2.2⟩
  have nC : H' s3.heap.objs.size = none := I6.free
  obtain ⟨m, hn, _⟩ := I6.loc
  have hn : sI.heap.Ns s3.heap.objs.size m := hn
  have hCn : s3.heap.objs.size ∉ frs X.stack := fun hm => by
    obtain ⟨_, o, ho, _⟩ := I3.stack.mem hm
    exact Nat.lt_irrefl _ (Heap.lt_size ho)
  obtain ⟨f0, f1, f2, fa, f4, f5⟩ := I3.fpOk (Nat.le_refl _) nC
  refine blk_fails (X := X) (ce := compEnvC scope cl s3.heap.objs.size X.env) (W := fun cls d _ H => E0 cls d H) (pins := pins) (σ := σ) (C := s3.heap.objs.size) (sI := sI) tk hs hf I3.ok.frames rfl rfl hCn (fun h' hk hz => ?_) nb up fl na os ag (up.ns hn) ?_ w
  · exact I7.turned (t' := sI.toks) (fun b o hb e => (hk b hb).trans e) f0 f1 fa f4 f5
  · obtain ⟨o, es, ep, ho, _⟩ := hn
    exact ⟨o, nb _ o ho hCn⟩
theorem pe_lcx {E0 : XK} (tk : Takes X (fun cls d _ H => E0 cls d H)) (hst : X.stack = X.env :: X.outer) (hf : X.env.frame = some X.env.locals) {elt tg iter : Expr} {scope : Scope} {own : List (Str × Nat)} {pos : Pos} {wi : TI} {g : TG} {te : TE} (hc : X.calm = true) (hN : X.N.Nodup) (hi : PI X tg iter wi) (ok : BlkOk X.N X.env.scope scope own)
    (hg : ∀ (s : Shared) (H : Hp) (C : Addr) (cl : List (Str × Addr)) (fp : List Addr), PG (X.blk s H scope (compEnvC scope cl C X.env) fp) tg g)
    (he : ∀ (s3 : Shared) (H3 : Hp) (cl : List (Str × Addr)) (fp : List Addr), (∀ σ', PassesAt (L2.CX X.prog X.w) (blkX X s3 H3 scope (compEnvC scope cl s3.heap.objs.size X.env) fp) σ' E0) → PE (blkX X s3 H3 scope (compEnvC scope cl s3.heap.objs.size X.env) fp) elt te) (hs : ∀ x, foldedSetIterable iter X.env x = pure x := by intro _; rfl) :
    PE X (.ListComp elt [⟨tg, iter, [], 0⟩] scope pos) (tLc wi g tYes te (own.map (·.2))) := by
  refine ⟨fun pins s σ H Q I h => ?_⟩
  rw [eval_ListComp]
  refine lcx_core hc hN I hi ok hg (fun s3 H3 cl fp I3 f3 => he s3 H3 cl fp (blk_pass tk hst hf I3 f3)) hs h fun D C ce s' m H' I' q hn f hC => ⟨m, by rw [hC]; exact hn, fun h'' sb => ?_⟩
  rw [hC] at sb
  obtain ⟨f0, f1, f2, f3, f4, f5⟩ := f
  exact ⟨.ref D, H', I'.turned (t' := s'.toks) (fun b o hb e => (sb.2 b hb).trans e) f0 f1 f3 f4 f5, rfl, q⟩
end
section
variable [TabL] {X : Cx} {M : Nat → Bool} {F : Fx} {E : L2.St → XK} {f : Rho → Re PyData} {elt tg iter : Expr} {scope : Scope} {own : List (Str × Nat)} {pos : Pos} {its : Rho → Re (List PyData)} {ts vs : List Nat} {gg : PyData → Rho → Option Rho} {lk fr : Bool} {k : Nat}
theorem de_lcX (G : Gd X E k) (hE : ∀ σ σ' : L2.St, E σ = E σ') (hc : X.calm = true) (hN : X.N.Nodup) (hi : DI X M F E tg iter its) (ok : BlkOk X.N X.env.scope scope own) (hv : ∀ i ∈ vs, M i = false)
    (hg : ∀ (s : Shared) (H : Hp) (C : Addr) (cl : List (Str × Addr)) (fp : List Addr) (F : Fx), DG (X.blk s H scope (compEnvC scope cl C X.env) fp) M F tg ts gg)
    (he : ∀ (s : Shared) (H : Hp) (cl : List (Str × Addr)) (fp : List Addr) (F : Fx), (∀ σ', PassesAt (L2.CX X.prog X.w) (blkX X s H scope (compEnvC scope cl s.heap.objs.size X.env) fp) σ' (E σ')) → DE (blkX X s H scope (compEnvC scope cl s.heap.objs.size X.env) fp) M F E lk fr elt f)
    (hvs : own.map (·.2) = vs := by rfl) (hts : ∀ i ∈ ts, i ∈ vs := by decide) (hs : ∀ x, foldedSetIterable iter X.env x = pure x := by intro _; rfl) :
    DE X M F E lk true (.ListComp elt [⟨tg, iter, [], 0⟩] scope pos) (rLcX its vs gg f) := by
  subst hvs
  obtain ⟨wi, pw, hi⟩ := hi
  obtain ⟨σ0⟩ : Nonempty L2.St := ⟨[]⟩
  have tk : Takes X (fun cls d _ H => E σ0 cls d H) := fun u s' x => G.tk u s' (by
    have e : (fun cls d (_ : L2.St) H => E σ0 cls d H) = (fun cls d σ H => E σ cls d H) := by
      funext cls d σ H
      rw [hE σ0 σ]
    rwa [e] at x)
  exact ⟨_, pe_lcx (E0 := E σ0) (g := canG X M ts gg) (te := canE X M E lk fr f) tk G.stk G.frm hc hN pw ok (fun s H C cl fp => canG_ok (hg s H C cl fp)) (fun s H cl fp p => canE_ok fun F => he s H cl fp F fun σ' => (hE σ0 σ') ▸ p σ') hs, fun σ H ρ er Q w => lcx_run hE hi hv hts er w⟩
end
end Pu

set_option Elab.async false
set_option linter.all false
set_option maxRecDepth 100000
set_option maxHeartbeats 4000000
/-! facts of texts: plain texts, parts of a text -/
namespace Pu
open PySem PySem.Spec PyProof.Rows L2
/-- all signs of a text are below 128 -/
def Pl (t : Str) : Prop := ∀ c ∈ TL.tl t, c < 128
theorem shp_pl {t : Str} (h : Pl t) : SeqAt.shaped (.str t) = true := by
  have h1 : (PyData.str t).canLay0 = true := by
    simp only [PyData.canLay0, PyData.strOk, Array.all_eq_true, decide_eq_true_eq]
    intro i hi
    have : t.cps[i] ∈ TL.tl t := by
      show t.cps[i] ∈ t.cps.toList
      simp
    have := h _ this
    omega
  show ((PyData.str t).canLay0 && decide ((PyData.str t).depth ≤ 64)) = true
  rw [h1]
  rfl
theorem spl_mem (S : List Nat) (P : Nat → Prop) (k : Nat) (acc l : List Nat) (ha : ∀ c ∈ acc, P c) (hl : ∀ c ∈ l, P c) : ∀ p ∈ TL.spl S k acc l, ∀ c ∈ p, P c := by
  induction l generalizing k acc with
  | nil =>
    rw [TL.spl_nil]
    intro p hp
    rw [List.mem_singleton.mp hp]
    exact ha
  | cons c r ih =>
    cases k with
    | succ k =>
      show ∀ p ∈ TL.spl S k acc r, _
      exact ih k acc ha fun d hd => hl d (.tail _ hd)
    | zero =>
      by_cases q : TL.pre S (c :: r) = true
      · rw [TL.spl_hit q]
        intro p hp
        rcases List.mem_cons.mp hp with rfl | hp
        · exact ha
        · exact ih _ [] (by simp) (fun d hd => hl d (.tail _ hd)) p hp
      · rw [TL.spl_miss (by simpa using q)]
        refine ih 0 _ (fun d hd => ?_) fun d hd => hl d (.tail _ hd)
        rcases List.mem_append.mp hd with hd | hd
        · exact ha d hd
        · rw [List.mem_singleton.mp hd]
          exact hl c (.head _)
theorem spl_len (S : List Nat) (k : Nat) (acc l : List Nat) : (∀ p ∈ TL.spl S k acc l, p.length ≤ acc.length + l.length) ∧ (TL.spl S k acc l).length ≤ l.length + 1 ∧ TL.spl S k acc l ≠ [] := by
  induction l generalizing k acc with
  | nil =>
    rw [TL.spl_nil]
    refine ⟨fun p hp => ?_, Nat.le_refl _, by simp⟩
    rw [List.mem_singleton.mp hp]
    simp
  | cons c r ih =>
    cases k with
    | succ k =>
      show (∀ p ∈ TL.spl S k acc r, _) ∧ (TL.spl S k acc r).length ≤ _ ∧ TL.spl S k acc r ≠ []
      obtain ⟨h1, h2, h3⟩ := ih k acc
      refine ⟨fun p hp => ?_, by rw [List.length_cons]; omega, h3⟩
      have := h1 p hp
      rw [List.length_cons]
      omega
    | zero =>
      by_cases q : TL.pre S (c :: r) = true
      · rw [TL.spl_hit q]
        obtain ⟨h1, h2, h3⟩ := ih (S.length - 1) []
        refine ⟨fun p hp => ?_, by rw [List.length_cons, List.length_cons]; omega, by simp⟩
        rcases List.mem_cons.mp hp with rfl | hp
        · omega
        · have := h1 p hp
          rw [List.length_cons]
          simp at this
          omega
      · rw [TL.spl_miss (by simpa using q)]
        obtain ⟨h1, h2, h3⟩ := ih 0 (acc ++ [c])
        refine ⟨fun p hp => ?_, by rw [List.length_cons]; omega, h3⟩
        have := h1 p hp
        rw [List.length_append, List.length_singleton] at this
        rw [List.length_cons]
        omega
/-- the parts of a split text -/
theorem split_parts {x y : Str} (hy : TL.tl y ≠ []) (hk : y.cps.all (· < 256) = true) : (∀ p ∈ Txt.split x y, (∀ c ∈ TL.tl p, c ∈ TL.tl x) ∧ p.cps.size ≤ x.cps.size) ∧ (Txt.split x y).length ≤ x.cps.size + 1 ∧ Txt.split x y ≠ [] := by
  have e := TL.split_spl x y hy (TL.kind_ok hk)
  have sz : ∀ p : Str, p.cps.size = (TL.tl p).length := fun p => TL.len_tl p
  obtain ⟨h1, h2, h3⟩ := spl_len (TL.tl y) 0 [] (TL.tl x)
  have h4 := spl_mem (TL.tl y) (fun c => c ∈ TL.tl x) 0 [] (TL.tl x) (by simp) fun c h => h
  rw [← e] at h1 h2 h3 h4
  refine ⟨fun p hp => ⟨h4 _ (List.mem_map_of_mem hp), ?_⟩, ?_, fun z => h3 (by rw [z]; rfl)⟩
  · have := h1 _ (List.mem_map_of_mem hp)
    rw [sz, sz]
    simpa using this
  · rw [List.length_map] at h2
    rw [sz]
    exact h2
theorem Pl.sub {p t : Str} (h : Pl t) (hs : ∀ c ∈ TL.tl p, c ∈ TL.tl t) : Pl p := fun c hc => h c (hs c hc)
end Pu

set_option Elab.async false
set_option linter.all false
set_option maxRecDepth 100000
set_option maxHeartbeats 4000000
/-! data of plain texts and numbers; a loop that may answer early -/
namespace Pu
open PySem PySem.Spec PyProof.Rows L2
/-- numbers, truths, none, plain texts, in tuples and lists, k deep -/
def tok : Nat → PyData → Bool
  | _, .int _ => true
  | _, .bool _ => true
  | _, .none => true
  | _, .str t => t.cps.toList.all fun c => decide (c < 128)
  | k + 1, .tuple xs => xs.all fun x => tok k x
  | k + 1, .list xs => xs.all fun x => tok k x
  | _, _ => false
theorem tok_lay : ∀ (k : Nat) (d : PyData), tok k d = true → PyData.canLay0 d = true ∧ PyData.depth d ≤ k + 1
  | k, .int i, _ => ⟨rfl, by simp [PyData.depth]⟩
  | k, .bool i, _ => ⟨rfl, by simp [PyData.depth]⟩
  | k, .none, _ => ⟨rfl, by simp [PyData.depth]⟩
  | k, .str t, h => by
    have hp : Pl t := fun c hc => by
      have h : (t.cps.toList.all fun c => decide (c < 128)) = true := by cases k <;> exact h
      exact of_decide_eq_true (List.all_eq_true.mp h c hc)
    have := shp_pl hp
    have q : ((PyData.str t).canLay0 && decide ((PyData.str t).depth ≤ 64)) = true := this
    rw [Bool.and_eq_true] at q
    exact ⟨q.1, by simp [PyData.depth]⟩
  | 0, .tuple xs, h => by simp [tok] at h
  | 0, .list xs, h => by simp [tok] at h
  | 0, .dict _, h => by simp [tok] at h
  | k + 1, .dict _, h => by simp [tok] at h
  | k + 1, .tuple xs, h => by
    have q : ∀ x ∈ xs, tok k x = true := by simpa [tok] using h
    have ih : ∀ ys : List PyData, (∀ x ∈ ys, tok k x = true) → PyData.canLayAll0 ys = true ∧ PyData.depthAll ys ≤ k + 1 := by
      intro ys
      induction ys with
      | nil => intro _; exact ⟨by simp [PyData.canLayAll0], by simp [PyData.depthAll]⟩
      | cons y ys ih =>
        intro hy
        obtain ⟨a1, a2⟩ := tok_lay k y (hy y List.mem_cons_self)
        obtain ⟨b1, b2⟩ := ih fun x hx => hy x (List.mem_cons_of_mem _ hx)
        refine ⟨by simp [PyData.canLayAll0, a1, b1], ?_⟩
        rw [PyData.depthAll]
        omega
    obtain ⟨c1, c2⟩ := ih xs q
    exact ⟨by rw [PyData.canLay0]; exact c1, by rw [PyData.depth]; omega⟩
  | k + 1, .list xs, h => by
    have q : ∀ x ∈ xs, tok k x = true := by simpa [tok] using h
    have ih : ∀ ys : List PyData, (∀ x ∈ ys, tok k x = true) → PyData.canLayAll0 ys = true ∧ PyData.depthAll ys ≤ k + 1 := by
      intro ys
      induction ys with
      | nil => intro _; exact ⟨by simp [PyData.canLayAll0], by simp [PyData.depthAll]⟩
      | cons y ys ih =>
        intro hy
        obtain ⟨a1, a2⟩ := tok_lay k y (hy y List.mem_cons_self)
        obtain ⟨b1, b2⟩ := ih fun x hx => hy x (List.mem_cons_of_mem _ hx)
        refine ⟨by simp [PyData.canLayAll0, a1, b1], ?_⟩
        rw [PyData.depthAll]
        omega
    obtain ⟨c1, c2⟩ := ih xs q
    exact ⟨by rw [PyData.canLay0]; exact c1, by rw [PyData.depth]; omega⟩
theorem tok_shaped {k : Nat} {d : PyData} (h : tok k d = true) (hk : k ≤ 63) : SeqAt.shaped d = true := by
  obtain ⟨h1, h2⟩ := tok_lay k d h
  show (d.canLay0 && decide (d.depth ≤ 64)) = true
  rw [h1, decide_eq_true (by omega)]
  rfl
theorem tok_pl {k : Nat} {t : Str} (h : Pl t) : tok k (.str t) = true := by
  have : (t.cps.toList.all fun c => decide (c < 128)) = true := List.all_eq_true.mpr fun c hc => decide_eq_true (h c hc)
  cases k <;> exact this
theorem tok_int {k : Nat} {i : Int} : tok k (.int i) = true := by cases k <;> rfl
theorem tok_none {k : Nat} : tok k .none = true := by cases k <;> rfl
theorem tok_tup {k : Nat} {xs : List PyData} (h : ∀ x ∈ xs, tok k x = true) : tok (k + 1) (.tuple xs) = true := by
  show (xs.all fun x => tok k x) = true
  exact List.all_eq_true.mpr h
theorem tok_lst {k : Nat} {xs : List PyData} (h : ∀ x ∈ xs, tok k x = true) : tok (k + 1) (.list xs) = true := by
  show (xs.all fun x => tok k x) = true
  exact List.all_eq_true.mpr h
theorem oEq_own {k : Nat} {d : PyData} (h : tok k d = true) (hk : k ≤ 63) : oEq d d = some (.bool true) := by
  have s := tok_shaped h hk
  unfold oEq
  rw [if_pos ⟨s, s⟩, eqv_refl d (tok_lay k d h).1]
theorem oNe_own {k : Nat} {d : PyData} (h : tok k d = true) (hk : k ≤ 63) : oNe d d = some (.bool false) := by
  have s := tok_shaped h hk
  unfold oNe
  rw [if_pos ⟨s, s⟩, eqv_refl d (tok_lay k d h).1]
  rfl
theorem oNe_pl {a b : Str} (ha : Pl a) (hb : Pl b) : oNe (.str a) (.str b) = some (.bool (a != b)) := oNe_s (shp_pl ha) (shp_pl hb)
theorem oEq_pl {a b : Str} (ha : Pl a) (hb : Pl b) : oEq (.str a) (.str b) = some (.bool (a == b)) := oEq_s (shp_pl ha) (shp_pl hb)
/-- a list is not the empty one -/
theorem oNe_nil {k : Nat} {ds : List PyData} (h : tok k (.list ds) = true) (hk : k ≤ 63) : oNe (.list ds) (.list []) = some (.bool !ds.isEmpty) := by
  have s := tok_shaped h hk
  unfold oNe
  rw [if_pos ⟨s, rfl⟩]
  cases ds with
  | nil =>
    rw [eqv_refl _ rfl]
    rfl
  | cons a ds =>
    refine congrArg (fun b => some (PyData.bool b)) ?_
    have : PyData.eqv (.list (a :: ds)) (.list []) = false := by
      simp [PyData.eqv, PyData.eqvAll]
    rw [this]
    rfl
theorem loop_rtr {g : PyData → Rho → Option Rho} {b : Rho → Sr} {d r : PyData} {ds : List PyData} {ρ ρ1 : Rho} (h : g d ρ = some ρ1) (h2 : b ρ1 = .rt r) : sLoop g b (d :: ds) ρ = .rt r := by
  unfold sLoop
  rw [h]
  show (match b ρ1 with
      | .nx ρ2 => sLoop g b ds ρ2
      | .ct ρ2 => sLoop g b ds ρ2
      | .bk ρ2 => .nx ρ2
      | .rt d => .rt d
      | .ex c ρ2 => .ex c ρ2
      | .bad => .bad) = _
  rw [h2]
/-- a loop that answers r at the first element that is not ok -/
theorem loop_opt {α : Type} {g : PyData → Rho → Option Rho} {body : Rho → Sr} {e : α → PyData} (I : List α → Rho → Prop) (ok : α → Bool) (r : PyData) (N : Nat) : ∀ (as done : List α) (ρ : Rho), done.length + as.length ≤ N → I done ρ →
    (∀ done a ρ, a ∈ as → done.length < N → I done ρ → ∃ ρ1, g (e a) ρ = some ρ1 ∧ (ok a = true → ∃ ρ2, body ρ1 = .nx ρ2 ∧ I (done ++ [a]) ρ2) ∧ (ok a = false → body ρ1 = .rt r)) →
    (as.all ok = true → ∃ ρ', sLoop g body (as.map e) ρ = .nx ρ' ∧ I (done ++ as) ρ') ∧ (as.all ok = false → sLoop g body (as.map e) ρ = .rt r)
  | [], done, ρ, _, h, _ => ⟨fun _ => ⟨ρ, rfl, by rw [List.append_nil]; exact h⟩, fun z => nomatch z⟩
  | a :: as, done, ρ, hN, h, st => by
    rw [List.length_cons] at hN
    obtain ⟨ρ1, e1, h1, h2⟩ := st done a ρ (.head _) (by omega) h
    cases q : ok a with
    | false =>
      have := h2 q
      refine ⟨fun z => ?_, fun _ => loop_rtr e1 this⟩
      rw [List.all_cons, q] at z
      cases z
    | true =>
      obtain ⟨ρ2, e2, i2⟩ := h1 q
      have ih := loop_opt I ok r N as (done ++ [a]) ρ2 (by rw [List.length_append, List.length_singleton]; omega) i2 fun d b ρ hb => st d b ρ (.tail _ hb)
      rw [List.all_cons, q, Bool.true_and]
      have ap : done ++ [a] ++ as = done ++ a :: as := by simp
      rw [ap] at ih
      refine ⟨fun z => ?_, fun z => ?_⟩
      · obtain ⟨ρ', e3, h3⟩ := ih.1 z
        exact ⟨ρ', (loop_nx e1 e2).trans e3, h3⟩
      · exact (loop_nx e1 e2).trans (ih.2 z)
end Pu

set_option Elab.async false
set_option linter.all false
set_option maxRecDepth 100000
set_option maxHeartbeats 4000000
/-! rules that ask for a token given out before: list comprehensions over text.replace(..).split(..) -/
namespace Pu
open PySem PySem.Spec PyProof.Rows L2
section
variable {X : Cx}
theorem lct_core {pins : List (Addr × Obj)} {s : Shared} {σ : L2.St} {H : Hp} {Q : VK} {elt tg iter : Expr} {scope : Scope} {own : List (Str × Nat)} {pos pos' : Pos} {wi : TI} {g : TG} {te : TE} {ifs : List Expr} {tt : TT} {use : Option (Value → Sem Unit)} {Qf : Value → Shared → Prop}
    (hc : X.calm = true) (hN : X.N.Nodup) (I : Inv X pins σ H s) (h0 : 1 ≤ s.toks) (hi : PIT X tg iter wi) (ok : BlkOk X.N X.env.scope scope own)
    (hg : ∀ (s : Shared) (H : Hp) (C : Addr) (cl : List (Str × Addr)) (fp : List Addr), PG (X.blk s H scope (compEnvC scope cl C X.env) fp) tg g)
    (ht : ∀ (z : Shared) (H : Hp) (C : Addr) (cl : List (Str × Addr)) (fp : List Addr), PTs (X.blk z H scope (compEnvC scope cl C X.env) fp) ifs tt)
    (he : ∀ (z : Shared) (H : Hp) (C : Addr) (cl : List (Str × Addr)) (fp : List Addr), PE (X.blk z H scope (compEnvC scope cl C X.env) fp) elt te) (hs : ∀ x, foldedSetIterable iter X.env x = pure x)
    (h : tLc wi g tt te (own.map (·.2)) σ H Q)
    (hRR : ∀ D C (ce : Env) s' m H', Inv X pins σ H' s' → Q (.ref D) H' → s'.heap.Ns C m → FpOk X pins H' C → ce.locals = C → compEnds (model X.prog X.w) X.A X.xe use Qf (.ref D) ce (.ok .next) s') :
    wpAny (model X.prog X.w) X.A (comprehension (.ListComp elt [⟨tg, iter, ifs, 0⟩] scope pos) scope X.env pos' (newList []) false (eval iter X.env) use) Qf X.xe s := by
  have hfree : ∀ y ∈ scope.names, y.2 = .free → ∃ c, X.env.cells.lookup y.1 = some c := fun y hy e => by
    rcases ok.free y hy e with k | k
    · exact I.ok.has _ (.inl k)
    · exact I.ok.has _ (.inr k)
  refine comprehension_at (use := use) rfl hs (closure_ok hfree) ok.kind (fun y hy e => by rw [ok.uniq y hy, e])
    (thn (hi pins s σ H _ h0 I h) fun xv s1 hx => thn hx fun itv s2 h2 => ?_)
  obtain ⟨it, fp, tn, J, H2, e, I2, T, st2, f2, q⟩ := h2
  subst e
  refine wpAny_newObj_type (newEnv_comp ?_) (by show 0 ≤ sizeLine; decide)
  generalize hD : s2.heap.objs.size = D
  have hDn : H2 D = none := I2.hok.fresh (Nat.le_of_eq hD)
  obtain ⟨W, ⟨m0, w0⟩, turn⟩ := q D hDn
  generalize hs3 : ({ s2 with heap := s2.heap.push { cls := .type "list", data := .seq ([] : List Value).toArray } } : Shared) = s3
  have I3 : Inv X pins σ (upd H2 D (.lst [])) s3 := by
    rw [← hs3]
    refine I2.laid (t' := s2.toks) (fun b o e => Heap.get?_push_of_some _ e) (Nat.le_of_eq hD) ⟨Nat.zero_le _, [], 0, .nil, ?_⟩
    rw [← hD]
    exact Heap.get?_push_size _ rfl
  have h3 : s3.heap = s2.heap.push { cls := .type "list", data := .seq ([] : List Value).toArray } := by rw [← hs3]
  have sz : ∀ b ∈ fp, b < s2.heap.objs.size := fun b hb => by
    obtain ⟨o, e, _⟩ := T.obj _ _ st2 b hb
    exact Heap.lt_size e
  have f3 : ∀ b ∈ fp, FpOk X pins (upd H2 D (.lst [])) b ∧ b < s3.heap.objs.size := fun b hb => by
    have hlt := sz b hb
    refine ⟨⟨?_, (f2 b hb).2⟩, by rw [h3, Heap.size_push]; exact Nat.lt_succ_of_lt hlt⟩
    rw [upd_ne (by rw [← hD]; exact Nat.ne_of_lt hlt)]
    exact (f2 b hb).1
  have st3 : tn 0 s3.heap := T.keep _ _ _ st2 fun b _ o e => by rw [h3]; exact Heap.get?_push_of_some _ e
  have I4 := block_start I3 ok hN f3
  have pg := hg s3 (upd H2 D (.lst [])) s3.heap.objs.size (cellsFrom (s3.heap.objs.size + 1) scope.names (cloFrom X.env.cells scope.names [])) fp
  have pt := ht s3 (upd H2 D (.lst [])) s3.heap.objs.size (cellsFrom (s3.heap.objs.size + 1) scope.names (cloFrom X.env.cells scope.names [])) fp
  have pe := he s3 (upd H2 D (.lst [])) s3.heap.objs.size (cellsFrom (s3.heap.objs.size + 1) scope.names (cloFrom X.env.cells scope.names [])) fp
  show codeAny _ _ (.compStart (.ListComp elt [⟨tg, iter, ifs, 0⟩] scope pos) 0 (.ref it) (.ref D) (compEnvC scope (cellsFrom (s3.heap.objs.size + 1) scope.names (cloFrom X.env.cells scope.names [])) s3.heap.objs.size X.env)) (compEnds (model X.prog X.w) X.A X.xe use Qf (.ref D) (compEnvC scope (cellsFrom (s3.heap.objs.size + 1) scope.names (cloFrom X.env.cells scope.names [])) s3.heap.objs.size X.env)) { s3 with heap := pushCells (s3.heap.push { cls := .type "dict", data := .dict #[] }) scope.names }
  have nfp : ∀ b ∈ fp, (upd H2 D (.lst [])) b = none := fun b hb => (f3 b hb).1.1
  generalize hce : compEnvC scope (cellsFrom (s3.heap.objs.size + 1) scope.names (cloFrom X.env.cells scope.names [])) s3.heap.objs.size X.env = ce at I4 pg pt pe ⊢
  have cL : ce.locals = s3.heap.objs.size := by subst hce; rfl
  generalize hH3 : upd H2 D (.lst []) = H3 at I3 I4 pg pt pe w0 nfp f3
  generalize hs4 : ({ s3 with heap := pushCells (s3.heap.push { cls := .type "dict", data := .dict #[] }) scope.names } : Shared) = s4 at I4 ⊢
  have st4 : tn 0 s4.heap := T.keep _ _ _ st3 fun b _ o e => by rw [← hs4]; exact pushCells_keeps _ _ _ _ (Heap.get?_push_of_some _ e)
  have stat : ∀ {σ' : L2.St} {H' : Hp} {s' : Shared}, Inv (X.blk s3 H3 scope ce fp) [] σ' H' s' → (∀ b ∈ fp, H' b = none) → ∀ b ∈ fp, FpOk (X.blk s3 H3 scope ce fp) [] H' b := fun {σ' H' s'} I' hn b hb =>
    ⟨hn b hb, (I'.ok.exf b hb).1, I'.ok.exfs b hb, .inl hb, fun x c e => (I'.ok.exf b hb).2 x c e, fun p hp => absurd (show p ∈ ([] : List (Addr × Obj)) ++ [] from hp) (by simp)⟩
  have loop : codeAny (model X.prog X.w) X.A (.compLoop (.ListComp elt [⟨tg, iter, ifs, 0⟩] scope pos) 0 (.ref it) (.ref D) ce) (compEnds (model X.prog X.w) X.A X.xe use Qf (.ref D) ce) s4 := by
    refine compLoop_any (fun n s' => ∃ i H', Inv (X.blk s3 H3 scope ce fp) [] (wipe σ (own.map (·.2))) H' s' ∧ tn i s'.heap ∧ (∀ b ∈ fp, H' b = none) ∧ W i n H') ?_ m0 ⟨0, H3, I4, st4, nfp, w0⟩
    rintro n s5 ⟨i, H5, I5, st5, n5, w5⟩
    rcases turn i n H5 w5 with ⟨stop, qq⟩ | ⟨go, Nx, hNx, step⟩
    · have td := T.done (X.blk s3 H3 scope ce fp) rfl rfl rfl hc i [] s5 _ H5 (fun _ _ => False) I5 (stat I5 n5) st5 stop
      refine thnF td fun r s6 ⟨hr, I6⟩ => ?_
      subst hr
      have I7 : Inv X pins σ H5 s6 := I3.call' (ch := fp) I6.os I6.base I6.hok I6.bare fun b hb => ⟨(f3 b hb).1.2.2.2.1, (f3 b hb).1.2.1, (f3 b hb).1.2.2.2.2.1, (f3 b hb).1.2.2.2.2.2⟩
      have nC : H5 s3.heap.objs.size = none := by
        have z : H5 ce.locals = none := I6.free
        rw [cL] at z
        exact z
      obtain ⟨m, hn, _⟩ := I6.loc
      have hn : s6.heap.Ns ce.locals m := hn
      rw [cL] at hn
      exact hRR D s3.heap.objs.size ce s6 m H5 I7 qq hn (I3.fpOk (Nat.le_refl _) nC) cL
    · have ti := T.item (X.blk s3 H3 scope ce fp) rfl rfl rfl hc i [] s5 _ H5 (fun _ _ => False) I5 (stat I5 n5) st5 go
      refine thnF ti fun r s6 ⟨u, hr, h6⟩ => ?_
      subst hr
      refine thnF h6 fun _ s7 ⟨x, H7, I7, r7, y7, st7, n7⟩ => ?_
      have I7' := I7.pinned (stat I7 n7) (T.obj _ _ st7)
      refine thnF (pg.run _ s7 _ H7 x u _ I7' r7 (step x H7 y7)) fun _ s8 ⟨σ8, H8, I8, hw8, q8⟩ => ?_
      refine thnF (pt.run _ s8 σ8 H8 _ I8 q8) fun bt s9 zz => ?_
      obtain ⟨H9, I9, q9⟩ := zz
      have fin : ∀ {s' : Shared} {H' : Hp}, Inv (X.blk s3 H3 scope ce fp) ([] ++ pinsAt fp s7.heap) σ8 H' s' → Nx H' → ∃ m, m < n ∧ ∃ i H', Inv (X.blk s3 H3 scope ce fp) [] (wipe σ (own.map (·.2))) H' s' ∧ tn i s'.heap ∧ (∀ b ∈ fp, H' b = none) ∧ W i m H' := fun {s' H'} I' nx => by
        obtain ⟨m', hm, w'⟩ := hNx H' nx
        have pin' : ∀ b ∈ fp, ∀ o, s7.heap.get? b = some o → s'.heap.get? b = some o ∧ H' b = none := fun b hb o e =>
          let z := I'.pin (b, o) (List.mem_append_right _ (List.mem_append_right _ (mem_pinsAt hb e)))
          ⟨z.1, z.2.1⟩
        have hl : (wipe σ (own.map (·.2))).length = σ8.length := by rw [← hw8, wipe_length]
        refine ⟨m', hm, i + 1, H', (I'.unpinned (pins := [])).weak hl (fun j v e => ?_), T.keep _ _ _ st7 fun b hb o e => (pin' b hb o e).1, fun b hb => ?_, w'⟩
        · rw [← hw8] at e
          exact (wipe_some e).1
        · obtain ⟨o, e, _⟩ := T.obj _ _ st7 b hb
          exact (pin' b hb o e).2
      by_cases hb : bt = true
      · subst hb
        rw [if_pos rfl] at q9
        show (if true = true then _ else _)
        rw [if_pos rfl]
        refine thnF (pe.run _ s9 σ8 H9 _ I9 q9) fun z s10 zz => ?_
        obtain ⟨yv, H10, I10, r10, acc, hD10, hz10, nx⟩ := zz
        exact app_ok (X := X.blk s3 H3 scope ce fp) I10 hD10 hz10 r10 fun s11 I11 => fin I11 nx
      · have eb : bt = false := by
          cases bt with
          | true => exact (hb rfl).elim
          | false => rfl
        subst eb
        rw [if_neg Bool.false_ne_true] at q9
        show (if false = true then _ else _)
        rw [if_neg Bool.false_ne_true]
        exact fin I9 q9
  exact codeAny_compStart_list loop (T.self X.A 0 _ _ _ st4 loop)
/-- as a value -/
theorem pet_lc {elt tg iter : Expr} {ifs : List Expr} {scope : Scope} {own : List (Str × Nat)} {pos : Pos} {wi : TI} {g : TG} {tt : TT} {te : TE} (hc : X.calm = true) (hN : X.N.Nodup) (hi : PIT X tg iter wi) (ok : BlkOk X.N X.env.scope scope own)
    (hg : ∀ (z : Shared) (H : Hp) (C : Addr) (cl : List (Str × Addr)) (fp : List Addr), PG (X.blk z H scope (compEnvC scope cl C X.env) fp) tg g)
    (ht : ∀ (z : Shared) (H : Hp) (C : Addr) (cl : List (Str × Addr)) (fp : List Addr), PTs (X.blk z H scope (compEnvC scope cl C X.env) fp) ifs tt)
    (he : ∀ (z : Shared) (H : Hp) (C : Addr) (cl : List (Str × Addr)) (fp : List Addr), PE (X.blk z H scope (compEnvC scope cl C X.env) fp) elt te) (hs : ∀ x, foldedSetIterable iter X.env x = pure x := by intro _; rfl) :
    PET X (.ListComp elt [⟨tg, iter, ifs, 0⟩] scope pos) (tLc wi g tt te (own.map (·.2))) := by
  intro pins s σ H Q h0 I h
  rw [eval_ListComp]
  refine lct_core hc hN I h0 hi ok hg ht he hs h fun D C ce s' m H' I' q hn f hC => ⟨m, by rw [hC]; exact hn, fun h2 sb => ?_⟩
  rw [hC] at sb
  obtain ⟨f0, f1, f2, f3, f4, f5⟩ := f
  exact ⟨.ref D, H', I'.turned (t' := s'.toks) (fun b o hb e => (sb.2 b hb).trans e) f0 f1 f3 f4 f5, rfl, q⟩
/-- name = [..], the name a local -/
theorem pst_setLc {i : Nat} {y : Str} {py : Pos} {elt tg iter : Expr} {ifs : List Expr} {scope : Scope} {own : List (Str × Nat)} {pos spos : Pos} {wi : TI} {g : TG} {tt : TT} {te : TE} (hc : X.calm = true) (hN : X.N.Nodup) (hy : X.N[i]? = some y) (hyl : X.env.scope.names.lookup y = some .local)
    (hsw : swapsWith (.ListComp elt [⟨tg, iter, ifs, 0⟩] scope pos) (some (.Name y py)) spos.line X.env = pure true) (hi : PIT X tg iter wi) (ok : BlkOk X.N X.env.scope scope own)
    (hg : ∀ (z : Shared) (H : Hp) (C : Addr) (cl : List (Str × Addr)) (fp : List Addr), PG (X.blk z H scope (compEnvC scope cl C X.env) fp) tg g)
    (ht : ∀ (z : Shared) (H : Hp) (C : Addr) (cl : List (Str × Addr)) (fp : List Addr), PTs (X.blk z H scope (compEnvC scope cl C X.env) fp) ifs tt)
    (he : ∀ (z : Shared) (H : Hp) (C : Addr) (cl : List (Str × Addr)) (fp : List Addr), PE (X.blk z H scope (compEnvC scope cl C X.env) fp) elt te) (hs : ∀ x, foldedSetIterable iter X.env x = pure x := by intro _; rfl) :
    PST X (.Assign [.Name y py] (.ListComp elt [⟨tg, iter, ifs, 0⟩] scope pos) spos) (tAsg (tLc wi g tt te (own.map (·.2))) (gName i)) := by
  intro pins s σ H D h0 I h
  rw [exec_Assign_Name_used _ _ _ _ hsw]
  refine wpAny_bind (wpAny_standAt (wpAny_bind ?_))
  show wpAny _ X.A (do let _ ← comprehension (.ListComp elt [⟨tg, iter, ifs, 0⟩] scope pos) scope X.env (firstIterPos [⟨tg, iter, ifs, 0⟩] pos) (newList []) false (eval iter X.env) (some (assign (.Name y py) X.env)); _) _ _ s
  have h1 : tLc wi g tt te (own.map (·.2)) σ H (fun x H1 => gName i x σ H1 D.nx) := h
  refine wpAny_bind (thn (lct_core (Qf := fun _ z => SP X pins D .next z) hc hN I h0 hi ok hg ht he hs h1 fun L C ce s' m H' I' q hn f hC => ?_) fun _ z hq => wpAny_pure (wpAny_pure hq))
  show wpAny _ _ (assign (.Name y py) X.env (.ref L)) _ _ _
  refine wpAny_assign_Name (store_ok2 (v := V.ref L) I' hN hy (.inl hyl) rfl (fun s2 I2 aa => ?_) (.inr hyl))
  obtain ⟨a, sb, ha⟩ := aa
  obtain ⟨f0, f1, f2, f3, f4, f5⟩ := f
  have haC : C ≠ a := by
    rcases ha with z | z
    · rw [z]
      exact f1
    · exact fun e => f4 y a z e.symm
  refine ⟨m, by rw [hC]; exact hn.sameBut sb haC, fun h3 sb3 => ?_⟩
  rw [hC] at sb3
  exact ⟨_, H', I2.turned (t' := s2.toks) (fun b o hb e => (sb3.2 b hb).trans e) f0 f1 f3 f4 f5, q⟩
/-- text.replace(..).split(..) -/
theorem pet_m1 {o e : Expr} {to te : TE} {id : String} {name : Str} {apos pos : Pos} {r : V → List V → Hp → VK → Prop} (slot : Slot "str" name id) (ty : typeOf (.builtin id) = pure (.type "method_descriptor")) (rule : MtR X id r) (ho : PET X o to) (he : PE X e te)
    (hs : starEach [e] X.env = [(false, eval e X.env)] := by rfl) (hbase : attributeBase o name X.env (eval o X.env) = eval o X.env := by rfl) (hline : (apos.endLine == pos.line) = true := by rfl) :
    PET X (.Call (.Attribute o name apos) [e] [] pos) (tM1 r to te) := by
  intro pins s σ H Q h0 I h
  refine PySem.Call_method1 hbase hs hline (thn (ho pins s σ H _ h0 I h) fun v s1 zz => ?_)
  obtain ⟨x, H1, I1, r1, ⟨a, rfl⟩, q1⟩ := zz
  obtain ⟨t, e2⟩ := _root_.id r1
  subst e2
  refine ⟨"str", _, F.plainAttrs_str, slot, ty, typeIs_str _ _ _, (fun _ z => nomatch z), Calls.callWith_builtin rfl (Calls.evalArgs_plain (Calls.spliced_cons ?_))⟩
  refine thn (he.run pins s1 σ H1 _ I1 q1) fun u s2 zz => ?_
  obtain ⟨y, H2, I2, r2, q2⟩ := zz
  exact Calls.spliced_nil (rule pins s2 σ H2 _ [y] _ [u] Q I2 r1 (.cons r2 .nil) q2)
end
end Pu

set_option Elab.async false
set_option linter.all false
set_option maxRecDepth 100000
set_option maxHeartbeats 4000000
/-! rules that ask for a token given out before, by data -/
namespace Pu
open PySem PySem.Spec PyProof.Rows L2
variable [TabL]
def DET (X : Cx) (M : Nat → Bool) (F : Fx) (E : L2.St → XK) (lk fr : Bool) (e : Expr) (f : Rho → Re PyData) : Prop :=
  ∃ t : TE, PET X e t ∧ ∀ σ H ρ, ER X.K M F σ H ρ → ∀ Q, WE X M F E lk fr σ ρ H (f ρ) Q → t σ H Q
def DIT (X : Cx) (M : Nat → Bool) (F : Fx) (E : L2.St → XK) (tg it : Expr) (f : Rho → Re (List PyData)) : Prop := ∃ wi : TI, PIT X tg it wi ∧ ∀ σ H ρ, ER X.K M F σ H ρ → ∀ R, WI X M F E σ ρ H (f ρ) R → wi σ H R
def DSt (X : Cx) (M : Nat → Bool) (F : Fx) (E : L2.St → XK) (st : Stmt) (s : Rho → Sr) : Prop := ∃ t : TS, PST X st t ∧ ∀ σ H ρ, ER X.K M F σ H ρ → ∀ D, WS X M F E σ H ρ (s ρ) D → t D σ H
def DSst (X : Cx) (M : Nat → Bool) (F : Fx) (E : L2.St → XK) (st : List Stmt) (s : Rho → Sr) : Prop := ∃ t : TS, PSsT X st t ∧ ∀ σ H ρ, ER X.K M F σ H ρ → ∀ D, WS X M F E σ H ρ (s ρ) D → t D σ H
section
variable {X : Cx} {M : Nat → Bool} {F : Fx} {E : L2.St → XK} {la fa lb fb lk fr : Bool} {a b : Expr} {f g : Rho → Re PyData} {pos : Pos} {st : Stmt} {rest : List Stmt} {s u : Rho → Sr}
theorem det_of (h : DE X M F E la fa a f) : DET X M F E la fa a f := by
  obtain ⟨t, p, h⟩ := h
  exact ⟨t, CwR.PET.of p, h⟩
theorem dst_of (h : DS X M F E st s) : DSt X M F E st s := by
  obtain ⟨t, p, h⟩ := h
  exact ⟨t, PST.of p, h⟩
theorem dsst_of (h : DSs X M F E rest s) : DSst X M F E rest s := by
  obtain ⟨t, p, h⟩ := h
  exact ⟨t, PSsT.of p, h⟩
theorem dsst_cons (h : DSt X M F E st s) (k : DSst X M F E rest u) : DSst X M F E (st :: rest) (sSeq s u) := by
  obtain ⟨t, p, h⟩ := h
  obtain ⟨t2, p2, k⟩ := k
  refine ⟨_, psst_cons p p2, fun σ H ρ er D w => h σ H ρ er _ ?_⟩
  unfold sSeq at w
  cases q : s ρ with
  | nx ρ2 =>
    rw [q] at w
    exact fun σ2 H2 er2 ev => k σ2 H2 ρ2 er2 D (ws_evo ev w)
  | rt d =>
    rw [q] at w
    exact w
  | bk ρ2 =>
    rw [q] at w
    exact w
  | ct ρ2 =>
    rw [q] at w
    exact w
  | ex c ρ2 =>
    rw [q] at w
    exact w
  | bad =>
    rw [q] at w
    exact w
theorem dsst_one (h : DSt X M F E st s) : DSst X M F E [st] s := by
  obtain ⟨t, p, h⟩ := h
  exact ⟨_, CwR.psst_one p, h⟩
theorem dst_if {c : Expr} {x y : List Stmt} {p : Rho → Re Bool} (hc : DT X M F E c p) (hx : DSst X M F E x s) (hy : DSst X M F E y u) : DSt X M F E (.If c x y pos) (sIf p s u) := by
  obtain ⟨t, pc, hc⟩ := hc
  obtain ⟨t1, p1, h1⟩ := hx
  obtain ⟨t2, p2, h2⟩ := hy
  refine ⟨_, CwR.pst_if pc p1 p2, fun σ H ρ er D w => hc σ H ρ er _ (ws_stepT er w fun d H1 e sm w1 => ?_)⟩
  cases d with
  | true => exact h1 σ H1 ρ (er.same sm) D w1
  | false => exact h2 σ H1 ρ (er.same sm) D w1
theorem dst_ret (h : DET X M F E la fa a f) : DSt X M F E (.Return (some a) pos) (sRet f) := by
  obtain ⟨t, p, h⟩ := h
  refine ⟨tRet t, fun pins z σ H D h0 I w => ?_, fun σ H ρ er D w => ?_⟩
  · refine wpAny_Return_some (thn (p pins z σ H _ h0 I w) fun v s1 zz => ?_)
    obtain ⟨x, H1, I1, r1, q1⟩ := zz
    exact ⟨x, σ, H1, I1, r1, q1⟩
  · exact h σ H ρ er _ (ws_step er w fun d v H1 e sm r _ w1 => w1 v H1 (er.same sm).old (r.wide fun a x => x.1))
/-! text.replace(y, z), of written texts -/
def oRep (y z : Str) (d : PyData) : Option PyData := match d with
  | .str x => if okLen (x.length + (x.length + 1) * z.length) = true then some (.str (Txt.replace x y z)) else none
  | _ => none
theorem rep_run {y z : Str} {t : TE} (h : ∀ σ H ρ, ER X.K M F σ H ρ → ∀ Q, WE X M F E la fa σ ρ H (f ρ) Q → t σ H Q) {σ : L2.St} {H : Hp} {ρ : Rho} (er : ER X.K M F σ H ρ) {Q : VK} (w : WE X M F E la false σ ρ H (r1 (oRep y z) f ρ) Q) : CwR.tReplC t y z σ H Q := by
  refine h σ H ρ er _ (we_step w fun d v H1 e1 s1 r1 _ w1 => ?_)
  cases q : oRep y z d with
  | none =>
    rw [q] at w1
    exact w1.elim
  | some z1 =>
    rw [q] at w1
    cases r1 with
    | str x =>
      unfold oRep at q
      dsimp only at q
      split at q
      · rename_i c
        injection q with q
        subst q
        exact ⟨x, rfl, Nat.le_trans (of_decide_eq_true c) (by decide), w1 _ H1 (Same.refl _) (.str _) fun z => nomatch z⟩
      · cases q
    | bl _ => cases q
    | non => cases q
    | int _ => cases q
    | tup _ _ => cases q
    | lst _ _ _ => cases q
    | scr _ _ => cases q
    | dic _ _ _ _ => cases q
    | dit _ _ _ _ => cases q
    | dif _ _ _ => cases q
    | rng _ => cases q
    | dct _ _ _ _ => cases q
theorem det_rep {y z : Str} {j k : Nat} {c0 c1 apos : Pos} (ha : DE X M F E la fa a f) (hyz : (y == z) = false := by decide)
    (hst : starEach [.Constant (.str y) j c0, .Constant (.str z) k c1] X.env = [(false, eval (.Constant (.str y) j c0) X.env), (false, eval (.Constant (.str z) k c1) X.env)] := by rfl)
    (hbase : attributeBase a "replace" X.env (eval a X.env) = eval a X.env := by rfl) (hline : (apos.endLine == pos.line) = true := by rfl) :
    DET X M F E la false (.Call (.Attribute a "replace" apos) [.Constant (.str y) j c0, .Constant (.str z) k c1] [] pos) (r1 (oRep y z) f) := by
  obtain ⟨t, p, h⟩ := ha
  exact ⟨_, CwR.pet_replC p hyz hst hbase hline, fun σ H ρ er Q w => rep_run h er w⟩
theorem det_repT {y z : Str} {j k : Nat} {c0 c1 apos : Pos} (ha : DET X M F E la fa a f) (hyz : (y == z) = false := by decide)
    (hst : starEach [.Constant (.str y) j c0, .Constant (.str z) k c1] X.env = [(false, eval (.Constant (.str y) j c0) X.env), (false, eval (.Constant (.str z) k c1) X.env)] := by rfl)
    (hbase : attributeBase a "replace" X.env (eval a X.env) = eval a X.env := by rfl) (hline : (apos.endLine == pos.line) = true := by rfl) :
    DET X M F E la false (.Call (.Attribute a "replace" apos) [.Constant (.str y) j c0, .Constant (.str z) k c1] [] pos) (r1 (oRep y z) f) := by
  obtain ⟨t, p, h⟩ := ha
  exact ⟨_, CwR.pet_replT p hyz hst hbase hline, fun σ H ρ er Q w => rep_run h er w⟩
theorem det_split {apos : Pos} (ha : DET X M F E la fa a f) (hb : DE X M F E lb fb b g) (hs : starEach [b] X.env = [(false, eval b X.env)] := by rfl) (hbase : attributeBase a "split" X.env (eval a X.env) = eval a X.env := by rfl) (hline : (apos.endLine == pos.line) = true := by rfl) :
    DET X M F E (la || lb) true (.Call (.Attribute a "split" apos) [b] [] pos) (r2M mSpl f g) := by
  obtain ⟨ta, pa, ha⟩ := ha
  obtain ⟨tb, pb, hb⟩ := hb
  refine ⟨_, pet_m1 PySem.F.slot_str_split PySem.F.type_str_split mt_split pa pb hs hbase hline, fun σ H ρ er Q w => m1_run ha hb (fun S H x v e z Q new r q k => ?_) er w⟩
  unfold mSpl at q
  split at q
  · rename_i y
    by_cases h : (y.length == 0) = false ∧ okLen (x.length + 2) = true
    · rw [if_pos h] at q
      cases q
      cases r
      exact ⟨x, y, rfl, rfl, h.1, okLen_le h.2, fun p hp => k _ _ (same_new hp) (.lst upd_same (new p hp) (rpA_strs _)) fun _ => frs_lst hp (rpA_strs _)⟩
    · rw [if_neg h] at q
      cases q
  · cases q
theorem dit_list {tg : Expr} (h : DET X M F E false fa a f) : DIT X M F E tg a (iOf itL f) := by
  obtain ⟨t, pa, h⟩ := h
  refine ⟨_, pit_list pa, fun σ H ρ er R w => ?_⟩
  refine h σ H ρ er _ (wi_step w fun d v H1 e sm r w1 => ?_)
  cases r with
  | lst e2 hS ha => exact ⟨_, rfl, ⟨_, SqL.of e2⟩, w1 _ H1 (Same.refl _) (walk_l e2 hS ha)⟩
  | bl _ => exact w1.elim
  | non => exact w1.elim
  | int _ => exact w1.elim
  | str _ => exact w1.elim
  | tup _ _ => exact w1.elim
  | scr _ _ => exact w1.elim
  | dic _ _ _ _ => exact w1.elim
  | dit _ _ _ _ => exact w1.elim
  | dif _ _ _ => exact w1.elim
  | rng _ => exact w1.elim
  | dct _ _ _ _ => exact w1.elim
section
variable {elt tg iter : Expr} {ifs : List Expr} {scope : Scope} {own : List (Str × Nat)} {ts : List Nat} (vs : List Nat) {its : Rho → Re (List PyData)} {gg : PyData → Rho → Option Rho} {tt : Rho → Re Bool}
theorem det_lc (hc : X.calm = true) (hN : X.N.Nodup) (hi : DIT X M F E tg iter its) (ok : BlkOk X.N X.env.scope scope own) (hv : ∀ i ∈ vs, M i = false)
    (hg : ∀ (s : Shared) (H : Hp) (C : Addr) (cl : List (Str × Addr)) (fp : List Addr) (F : Fx), DG (X.blk s H scope (compEnvC scope cl C X.env) fp) M F tg ts gg)
    (ht : ∀ (s : Shared) (H : Hp) (C : Addr) (cl : List (Str × Addr)) (fp : List Addr), DTs (X.blk s H scope (compEnvC scope cl C X.env) fp) M E0s ifs tt)
    (he : ∀ (s : Shared) (H : Hp) (C : Addr) (cl : List (Str × Addr)) (fp : List Addr) (F : Fx), DE (X.blk s H scope (compEnvC scope cl C X.env) fp) M F E0s lk fr elt f)
    (hvs : own.map (·.2) = vs := by rfl) (hts : ∀ i ∈ ts, i ∈ vs := by decide) (hs : ∀ x, foldedSetIterable iter X.env x = pure x := by intro _; rfl) :
    DET X M F E lk true (.ListComp elt [⟨tg, iter, ifs, 0⟩] scope pos) (rLc its vs gg tt f) := by
  subst hvs
  obtain ⟨wi, pw, hi⟩ := hi
  exact ⟨_, pet_lc (g := canG X M ts gg) (tt := canT X M E0s tt) (te := canE X M E0s lk fr f) hc hN pw ok (fun s H C cl fp => canG_ok (hg s H C cl fp)) (fun s H C cl fp => ht s H C cl fp) (fun s H C cl fp => canE_ok (he s H C cl fp)) hs, fun σ H ρ er Q w => lc_run hi hv hts er w⟩
theorem dst_setLc {i : Nat} {y : Str} {py spos : Pos} (m : M i = false) (hc : X.calm = true) (hN : X.N.Nodup) (hi : DIT X M F E tg iter its) (ok : BlkOk X.N X.env.scope scope own) (hv : ∀ i ∈ vs, M i = false)
    (hg : ∀ (s : Shared) (H : Hp) (C : Addr) (cl : List (Str × Addr)) (fp : List Addr) (F : Fx), DG (X.blk s H scope (compEnvC scope cl C X.env) fp) M F tg ts gg)
    (ht : ∀ (s : Shared) (H : Hp) (C : Addr) (cl : List (Str × Addr)) (fp : List Addr), DTs (X.blk s H scope (compEnvC scope cl C X.env) fp) M E0s ifs tt)
    (he : ∀ (s : Shared) (H : Hp) (C : Addr) (cl : List (Str × Addr)) (fp : List Addr) (F : Fx), DE (X.blk s H scope (compEnvC scope cl C X.env) fp) M F E0s lk fr elt f)
    (hsw : swapsWith (.ListComp elt [⟨tg, iter, ifs, 0⟩] scope pos) (some (.Name y py)) spos.line X.env = pure true)
    (hy : X.N[i]? = some y := by rfl) (hyl : X.env.scope.names.lookup y = some .local := by rfl)
    (hvs : own.map (·.2) = vs := by rfl) (hts : ∀ i ∈ ts, i ∈ vs := by decide) (hs : ∀ x, foldedSetIterable iter X.env x = pure x := by intro _; rfl) :
    DSt X M F E (.Assign [.Name y py] (.ListComp elt [⟨tg, iter, ifs, 0⟩] scope pos) spos) (sSet i lk (rLc its vs gg tt f)) := by
  subst hvs
  obtain ⟨wi, pw, hi⟩ := hi
  refine ⟨_, pst_setLc (g := canG X M ts gg) (tt := canT X M E0s tt) (te := canE X M E0s lk fr f) hc hN hy hyl hsw pw ok (fun s H C cl fp => canG_ok (hg s H C cl fp)) (fun s H C cl fp => ht s H C cl fp) (fun s H C cl fp => canE_ok (he s H C cl fp)) hs, fun σ H ρ er D w => ?_⟩
  refine lc_run (lk := lk) (fr := fr) (X := X) hi hv hts er ?_
  refine ws_step er w fun d v H1 e sm r _ w1 => ?_
  by_cases hd : lk = true → imm d = true
  · rw [if_pos hd] at w1
    exact w1 _ H1 ((er.same sm).set m (rp_lk r hd)) fun a u q n _ => ⟨q, fun o => n ((own_set m).mp o)⟩
  · rw [if_neg hd] at w1
    exact w1.elim
end
end
section
variable {P : Program} {w : World} {K : PySem.W.Frag} {mg : Str → Option Value} {base : Heap} {x qual : Str} {params : Arguments} {body : List Stmt} {scope : Scope} {dvs : List V} {kws : List (Str × V)} {fA : Addr} {fd : FuncData}
omit [TabL] in
theorem funD_okT {CX : CXT} {N ps : List Str} {k : Nat} {sp : Sp} (F : FunD K x qual params body scope dvs kws fA fd) (S : FnScope N ps scope) (hnc : ∀ y ∈ scope.names, y.2 ≠ .cell) (hps : 1 ≤ ps.length) (len : ∀ vs H Q E, sp vs H Q E → vs.length = ps.length)
    (hbody : ∀ (cdv : Value) (A : Around) (outer : List Env) (s : Shared) (H : Hp) (vs : List V) (Q : VK) (E : XK), Room k (A.deeper (envOfC qual scope s.heap.objs.size fA cdv)) → sp vs H Q E →
      ∃ t, PSsT (cxOf CX P w K mg base N qual scope fA cdv A outer s H E) body t ∧ t { nx := fun _ H' => Q .non H', rt := Q } (L2.start N vs) H) : FnOk P w K mg base CX (k + 1) fA fd ps sp := by
  obtain ⟨oc, od, dV, kV, doc, pm, an, cdv, ct, osl, rfl, lk, hcd, _, _⟩ := F.ex
  exact fn_ofT lk hcd S hnc hps len fun A outer s H vs Q E hr hsp => hbody cdv A outer s H vs Q E hr hsp
theorem def_okT {N ps : List Str} {k : Nat} (Fd : FunD K x qual params body scope dvs kws fA fd) (S : FnScope N ps scope) (hnc : ∀ y ∈ scope.names, y.2 ≠ .cell) (hps : 1 ≤ ps.length) (M : Nat → Bool) (hM : ∀ i, i < ps.length → M i = false) (s : Rho → Sr)
    (hb : ∀ (cdv : Value) (A : Around) (outer : List Env) (sh : Shared) (H : Hp) (Ex : XK), Gd (cxOf (L2.CX P w) P w K mg base N qual scope fA cdv A outer sh H Ex) (fun _ => Ex) k →
      ∀ F : Fx, DSst (cxOf (L2.CX P w) P w K mg base N qual scope fA cdv A outer sh H Ex) M F (fun _ => Ex) body s) :
    FnOk P w K mg base (L2.CX P w) (k + 1) fA fd ps (spD mg (runF ps.length N.length s) K) := by
  refine funD_okT Fd S hnc hps (fun vs H Q E h => ?_) fun cdv A outer sh H vs Q Ex hr h => ?_
  · obtain ⟨ds, Sx, r, _, h⟩ := h
    unfold runF at h
    by_cases hl : ds.length = ps.length
    · rw [r.length, hl]
    · rw [if_neg hl] at h
      exact h.elim
  · obtain ⟨ds, Sx, r, ⟨new, tb⟩, h⟩ := h
    unfold runF at h
    by_cases hl : ds.length = ps.length
    · rw [if_pos hl] at h
      have tk : Takes (cxOf (L2.CX P w) P w K mg base N qual scope fA cdv A outer sh H Ex) (fun cls d σ H => Ex cls d H) := takes_of rfl rfl rfl rfl
      have gd : Gd (cxOf (L2.CX P w) P w K mg base N qual scope fA cdv A outer sh H Ex) (fun _ => Ex) k := ⟨hr, fun σ => passAt tk σ, tk, passes_of rfl, rfl, rfl⟩
      obtain ⟨t, pt, ht⟩ := hb cdv A outer sh H Ex gd ⟨H, Sx⟩
      refine ⟨t, pt, ?_⟩
      have hNl : ps.length ≤ N.length := by
        have := congrArg List.length S.pre
        rw [List.length_take] at this
        omega
      have r0 : ∀ i d, (ds.map some ++ List.replicate (N.length - ps.length) none : Rho)[i]? = some (some d) → i < ps.length ∧ ds[i]? = some d := fun i d q => by
        by_cases hi : i < ps.length
        · rw [List.getElem?_append_left (by rw [List.length_map, hl]; exact hi), List.getElem?_map] at q
          refine ⟨hi, ?_⟩
          cases e : ds[i]? with
          | none =>
            rw [e] at q
            cases q
          | some d' =>
            rw [e] at q
            cases q
            rfl
        · rw [List.getElem?_append_right (by rw [List.length_map, hl]; omega), List.getElem?_replicate] at q
          split at q <;> cases q
      have nown : ∀ a, ¬ OwnA M (L2.start N vs) (ds.map some ++ List.replicate (N.length - ps.length) none) a := fun a o => by
        obtain ⟨i, d, m, q, _⟩ := o
        rw [hM i (r0 i d q).1] at m
        cases m
      have er : ER K M ⟨H, Sx⟩ (L2.start N vs) H (ds.map some ++ List.replicate (N.length - ps.length) none) := by
        refine ⟨?_, Same.refl _, new, tb, fun i d q m => ?_, fun i d q m => ?_, fun i j d e p mi mj q1 q2 s1 s2 => ?_⟩
        · unfold L2.start
          rw [List.length_append, List.length_append, List.length_map, List.length_map, List.length_replicate, List.length_replicate, r.length, hl]
        · obtain ⟨hi, e⟩ := r0 i d q
          obtain ⟨v, hv, rv⟩ := r.get' e
          exact ⟨v, start_get hv, rv.wide fun a x => ⟨x, fun _ => nown a⟩⟩
        · rw [hM i (r0 i d q).1] at m
          cases m
        · rw [hM i (r0 i d q1).1] at mi
          cases mi
      refine ht _ H _ er _ ?_
      cases q : s (ds.map some ++ List.replicate (N.length - ps.length) none) with
      | nx ρ' =>
        rw [q] at h
        exact fun σ' H' er' _ => h .non H' er'.old .non
      | rt d =>
        rw [q] at h
        exact h
      | ex c ρ' =>
        rw [q] at h
        exact fun C σ' H' m er' _ => h C H' m er'.old
      | bk ρ' =>
        rw [q] at h
        exact h.elim
      | ct ρ' =>
        rw [q] at h
        exact h.elim
      | bad =>
        rw [q] at h
        exact h.elim
    · rw [if_neg hl] at h
      exact h.elim
theorem has_ofT {x : Str} {st : Stmt} {N ps : List Str} {k : Nat} (h : FnAt K mg x st) (S : FnScope N ps (defScope st)) (M : Nat → Bool) (hM : ∀ i, i < ps.length → M i = false) (s : Rho → Sr)
    (hbn : ∀ (kV doc pm : Value) (an : Option Addr) (cdv ct : Value) (us : List Value), us.length = ps.length → bindArgs (PySem.W.fnOf x x (defArgs st) (defBody st) (defScope st) .none kV doc pm an cdv ct) ⟨us, []⟩ = pure (ps.zip us))
    (hb : ∀ (fA : Addr) (cdv : Value) (A : Around) (outer : List Env) (sh : Shared) (H : Hp) (Ex : XK), Gd (cxOf (L2.CX P w) P w K mg base N x (defScope st) fA cdv A outer sh H Ex) (fun _ => Ex) k →
      ∀ F : Fx, DSst (cxOf (L2.CX P w) P w K mg base N x (defScope st) fA cdv A outer sh H Ex) M F (fun _ => Ex) (defBody st) s)
    (hnc : ∀ y ∈ (defScope st).names, y.2 ≠ .cell := by decide +kernel) (hps : 1 ≤ ps.length := by decide) :
    Has P w K mg base (k + 1) x ps (runF ps.length N.length s) := by
  obtain ⟨fA, fd, Fd, hg⟩ := h
  exact ⟨fA, fd, def_okT Fd S hnc hps M hM s fun cdv A outer sh H Ex G F => hb fA cdv A outer sh H Ex G F, hg, Fd.kp, Fd.bindsN hbn⟩
end
end Pu

set_option Elab.async false
set_option linter.all false
set_option maxRecDepth 100000
set_option maxHeartbeats 4000000
/-! f-strings of texts and numbers, by data -/
namespace Pu
open PySem PySem.Spec PyProof.Rows L2
variable [TabL]
def oFmt (d : PyData) : Option PyData := match d with
  | .str y => if okLen y.length = true then some (.str y) else none
  | .int i => if decide (i.natAbs < 1000000) = true then some (.str (toString i)) else none
  | _ => none
def jGo : List (Rho → Re PyData) → Str → Rho → Re PyData
  | [], acc, _ => .ok (.str acc)
  | f :: fs, acc, ρ => (f ρ).andThen fun d => match d with
    | .str y => if okLen (acc ++ y).length = true then jGo fs (acc ++ y) ρ else .bad
    | _ => .bad
def rJoin (fs : List (Rho → Re PyData)) : Rho → Re PyData := jGo fs Str.empty
section
variable {X : Cx} {M : Nat → Bool} {F : Fx} {E : L2.St → XK} {la fa lb fb lk fr : Bool} {a b : Expr} {f g : Rho → Re PyData} {pos : Pos}
theorem de_fmt (ha : DE X M F E la fa a f) : DE X M F E la false (.FormattedValue a (-1) none pos) (r1 oFmt f) := by
  obtain ⟨t, p, h⟩ := ha
  refine ⟨_, pe_fmt p, fun σ H ρ er Q w => h σ H ρ er _ (we_step w fun d v H1 e1 s1 r1 _ w1 => ?_)⟩
  cases q : oFmt d with
  | none =>
    rw [q] at w1
    exact w1.elim
  | some z1 =>
    rw [q] at w1
    cases r1 with
    | str x =>
      unfold oFmt at q
      dsimp only at q
      split at q
      · rename_i c
        injection q with q
        subst q
        exact .inl ⟨x, rfl, Nat.le_trans (of_decide_eq_true c) (by decide), w1 _ H1 (Same.refl _) (.str _) fun z => nomatch z⟩
      · cases q
    | int i =>
      unfold oFmt at q
      dsimp only at q
      split at q
      · rename_i c
        injection q with q
        subst q
        have c2 := of_decide_eq_true c
        have hl : i.natAbs.log2 < 1920 := by
          by_cases z : i.natAbs = 0
          · rw [z]
            decide
          · exact (Nat.log2_lt z).mpr (Nat.lt_trans c2 (Nat.lt_of_lt_of_le (show 1000000 < 2 ^ 20 by decide) (Nat.pow_le_pow_right (by decide) (by decide))))
        exact .inr ⟨i, rfl, hl, w1 _ H1 (Same.refl _) (.str _) fun z => nomatch z⟩
      · cases q
    | bl _ => cases q
    | non => cases q
    | tup _ _ => cases q
    | lst _ _ _ => cases q
    | scr _ _ => cases q
    | dic _ _ _ _ => cases q
    | dit _ _ _ _ => cases q
    | dif _ _ _ => cases q
    | rng _ => cases q
    | dct _ _ _ _ => cases q
def DJ (X : Cx) (M : Nat → Bool) (F : Fx) (E : L2.St → XK) (es : List Expr) (fs : List (Rho → Re PyData)) : Prop :=
  ∃ ts : List TE, PJ X es ts ∧ ∀ σ H ρ, ER X.K M F σ H ρ → ∀ acc Q, WE X M F E true false σ ρ H (jGo fs acc ρ) Q → tJs ts acc σ H fun out H1 => Q (.str out) H1
theorem dj_nil : DJ X M F E [] [] := ⟨[], .nil, fun σ H ρ er acc Q w => w _ H (Same.refl _) (.str _) fun z => nomatch z⟩
theorem dj_cons {es : List Expr} {fs : List (Rho → Re PyData)} (ha : DE X M F E la fa a f) (h : DJ X M F E es fs) : DJ X M F E (a :: es) (f :: fs) := by
  obtain ⟨t, p, ha⟩ := ha
  obtain ⟨ts, ps, h⟩ := h
  refine ⟨t :: ts, .cons p ps, fun σ H ρ er acc Q w => ?_⟩
  show t σ H fun x H1 => ∃ y : Str, x = .str y ∧ (acc ++ y).length ≤ sizeLine ∧ tJs ts (acc ++ y) σ H1 _
  refine ha σ H ρ er _ (we_step w fun d v H1 e1 s1 r1 _ w1 => ?_)
  cases r1 with
  | str y =>
    have w1 : WE X M F E true false σ ρ H1 (if okLen (acc ++ y).length = true then jGo fs (acc ++ y) ρ else .bad) Q := w1
    by_cases c : okLen (acc ++ y).length = true
    · rw [if_pos c] at w1
      exact ⟨y, rfl, Nat.le_trans (of_decide_eq_true c) (by decide), h σ H1 ρ (er.same s1) _ Q w1⟩
    · rw [if_neg c] at w1
      exact w1.elim
  | bl _ => exact w1.elim
  | int _ => exact w1.elim
  | non => exact w1.elim
  | tup _ _ => exact w1.elim
  | lst _ _ _ => exact w1.elim
  | scr _ _ => exact w1.elim
  | dic _ _ _ _ => exact w1.elim
  | dit _ _ _ _ => exact w1.elim
  | dif _ _ _ => exact w1.elim
  | rng _ => exact w1.elim
  | dct _ _ _ _ => exact w1.elim
theorem de_joined {e2 : Expr} {es : List Expr} {fs : List (Rho → Re PyData)} (h : DJ X M F E (a :: e2 :: es) fs) : DE X M F E true false (.JoinedStr (a :: e2 :: es) pos) (rJoin fs) := by
  obtain ⟨ts, ps, h⟩ := h
  exact ⟨_, pe_joined ps, fun σ H ρ er Q w => h σ H ρ er _ Q w⟩
end
/-! in the mirrors -/
theorem oFmt_int {i : Int} (h : i.natAbs < 1000000) : oFmt (.int i) = some (.str (toString i)) := if_pos (decide_eq_true h)
theorem oFmt_str {x : Str} (h : x.length ≤ 10000) : oFmt (.str x) = some (.str x) := if_pos (decide_eq_true h)
theorem jGo_nil {acc : Str} {ρ : Rho} : jGo [] acc ρ = .ok (.str acc) := (rfl)
theorem jGo_go {f : Rho → Re PyData} {fs : List (Rho → Re PyData)} {acc y : Str} {ρ : Rho} (h : f ρ = .ok (.str y)) (hl : okLen (acc ++ y).length = true) : jGo (f :: fs) acc ρ = jGo fs (acc ++ y) ρ := by
  show (f ρ).andThen _ = _
  rw [h]
  exact if_pos hl
theorem oRep_str {y z x : Str} (h : okLen (x.length + (x.length + 1) * z.length) = true) : oRep y z (.str x) = some (.str (Txt.replace x y z)) := if_pos h
/-! text * number -/
def oMulS (d e : PyData) : Option PyData := match d, e with
  | .str x, .int n => if decide (0 ≤ n ∧ n ≤ 10000) = true ∧ okLen (x.length * n.toNat) = true then some (.str (Txt.mul x n)) else none
  | _, _ => none
def rMulS : R2 := fun x y H Q => ∃ a n, x = .str a ∧ y = .int n ∧ MulOk a n ∧ Q (.str (Txt.mul a n)) H
theorem op_mulS {X : Cx} : OpR X (binaryOp .Mult) rMulS := by
  intro pins s σ H x y v u Q I rx ry h
  obtain ⟨a, n, rfl, rfl, ok, q⟩ := h
  obtain ⟨t1, e1⟩ := rx
  obtain ⟨t2, e2⟩ := ry
  subst e1
  subst e2
  exact SB.mul ok fun t' k => ⟨.str (Txt.mul a n), H, I.tok k, ⟨t', rfl⟩, q⟩
theorem mulOk_of {x : Str} {n : Int} (h0 : 0 ≤ n) (h1 : n ≤ 10000) (h : x.length * n.toNat ≤ 10000) : MulOk x n := by
  refine ⟨by simp; omega, fun a b => ?_, fun a b => ?_⟩
  · have hx : x.length ≤ 10000 := by
      have h2 : 1 ≤ n.toNat := by omega
      exact Nat.le_trans (Nat.le_mul_of_pos_right _ h2) h
    intro c
    have h3 : (2 ^ 63 - 1) / (10000 : Int) ≤ (2 ^ 63 - 1) / n := by
      refine Int.le_ediv_of_mul_le (by omega) ?_
      have : ((2 ^ 63 - 1) / (10000 : Int)) * n ≤ ((2 ^ 63 - 1) / (10000 : Int)) * 10000 := Int.mul_le_mul_of_nonneg_left h1 (by decide)
      exact Int.le_trans this (by decide)
    have h4 : (10001 : Int) ≤ (2 ^ 63 - 1) / (10000 : Int) := by decide
    omega
  · unfold Builtin.Str.tooLong
    refine decide_eq_false ?_
    have : (10000 : Nat) ≤ sizeLine := by decide
    omega
theorem s_mulS {K : PySem.W.Frag} : SemB K rMulS false oMulS := fun S H x y d e z Q new rx ry q k => by
  unfold oMulS at q
  split at q
  · rename_i a n
    by_cases c : decide (0 ≤ n ∧ n ≤ 10000) = true ∧ okLen (a.length * n.toNat) = true
    · rw [if_pos c] at q
      cases q
      cases rx
      cases ry
      obtain ⟨c1, c2⟩ := c
      have c3 := of_decide_eq_true c1
      exact ⟨a, n, rfl, rfl, mulOk_of c3.1 c3.2 (of_decide_eq_true c2), k _ H (Same.refl H) (.str _) fun z => nomatch z⟩
    · rw [if_neg c] at q
      cases q
  · cases q
end Pu

set_option Elab.async false
set_option linter.all false
set_option maxRecDepth 100000
set_option maxHeartbeats 4000000
/-! f"{x:+d}" of small numbers -/
namespace Pu
open PySem PySem.Spec PyProof.Rows L2
/-- the numbers from -40 to 40 -/
def small40 : List Int := (List.range 81).map fun (k : Nat) => (k : Int) - 40
/-- a number with its sign -/
def plusS (a : Int) : Str := if a < 0 then (toString a : Str) else "+" ++ (toString a : Str)
open PySem.Builtin in
theorem plus_meets (a : Int) (t u : Tok) (h : a ∈ small40) : Meets («int.__format__» ⟨[.int a t, .str "+d" u], []⟩) (fun _ R s => ∀ t' k, R (.ok (.ret (.str (plusS a) t'))) { s with toks := k }) := by
  have hl : a.natAbs.log2 < 1920 := by
    have : ∀ a ∈ small40, a.natAbs.log2 < 1920 := by decide +kernel
    exact this a h
  apply PySem.W.KPc.meets_of
  intro _ _ _ _ _ _ hq
  unfold Builtin.«int.__format__»
  refine wpAny_bind (wpAny_of_eq (a := (_, _)) rfl ?_)
  refine wpAny_bind (wpAny_of_eq (a := _) rfl ?_)
  kxf_if
  refine wpAny_bind (wpAny_typeNameOf (T := "str") (typeIs_str _ _ _) (by decide) fun _ => ?_)
  refine wpAny_bind (wpAny_of_eq (a := some _) rfl ?_)
  kxf_if
  kxf_if
  refine wpAny_bind (wpAny_typeNameOfCut_int ?_)
  (repeat kxf_if)
  simp only [Option.isSome_none, Bool.false_eq_true, if_false]
  generalize hT : Option.getD _ _ = T
  have hT : T = 100 := hT.symm.trans (by decide +kernel)
  generalize hF : PySem.Builtin.Float.FormatSpec.mk _ _ _ _ _ _ _ _ _ = F
  have h1 : F.precision = none := by rw [← hF]
  have h2 : F.noNeg0 = false := by rw [← hF]
  have h3 : F.width.getD 0 = 0 := by
    rw [← hF]
    rfl
  have h4 : F.alt = false := by rw [← hF]
  subst hT
  show wpAny _ _ (if _ then _ else _) _ _ _
  rw [if_neg (by simp [h1])]
  show wpAny _ _ (if _ then _ else _) _ _ _
  rw [if_neg (by simp [h2])]
  show wpAny _ _ (if _ then _ else _) _ _ _
  rw [if_neg (by decide)]
  show wpAny _ _ (do let r ← Builtin.overDigitLimit? a; _) _ _ _
  refine wpAny_bind (wpAny_of_eq (PySem.overDigitLimit_small hl) ?_)
  show wpAny _ _ (if _ then _ else _) _ _ _
  rw [if_neg (by simp [h3])]
  refine PySem.W.KXf.ret_text (T := plusS a) ?_ ?_ hq
  · subst hF
    clear hq hl h1 h2 h3 h4
    revert a
    decide +kernel
  · subst hF
    clear hq hl h1 h2 h3 h4
    revert a
    decide +kernel
section
variable {X : Cx} {e : Expr} {te : TE} {p0 p1 p2 p3 : Pos} {j : Nat}
def tPlus (te : TE) : TE := fun σ H Q => te σ H fun x H1 => ∃ i : Int, x = .int i ∧ i ∈ small40 ∧ Q (.str (plusS i)) H1
theorem pe_plus (he : PE X e te) : PE X (.JoinedStr [.FormattedValue e (-1) (some (.JoinedStr [.Constant (.str "+d") j p2] p1)) p0] p3) (tPlus te) := by
  refine pe_joined1 ⟨fun pins s σ H Q I h => ?_⟩
  refine wpAny_FormattedValue_spec (thn (he.run pins s σ H _ I h) fun v s1 zz => ?_)
  obtain ⟨x, H1, I1, r1, i, rfl, hi, q⟩ := zz
  obtain ⟨t, rfl⟩ := r1
  have sp : PE X (.JoinedStr [.Constant (.str "+d") j p2] p1) (L2.tC (V.str "+d")) := pe_joined1 pe_str
  refine thn (sp.run pins s1 σ H1 (fun y H2 => y = .str "+d" ∧ Q (.str (plusS i)) H2) I1 ⟨rfl, q⟩) fun r s2 zz => ?_
  obtain ⟨y, H2, I2, r2, e2, q2⟩ := zz
  subst e2
  obtain ⟨t2, rfl⟩ := r2
  refine ⟨"+d", t2, rfl, ?_⟩
  refine PySem.W.KXf.field_int (y := plusS i) (spec' := "+d") rfl (by decide +kernel) (by decide +kernel) (fun u => plus_meets i t u hi) fun t3 k => ?_
  exact ⟨.str (plusS i), H2, I2.tok k, ⟨t3, rfl⟩, q2⟩
end
def oPlus (d : PyData) : Option PyData := match d with
  | .int i => if decide (i ∈ small40) = true then some (.str (plusS i)) else none
  | _ => none
variable [TabL]
theorem de_plus {X : Cx} {M : Nat → Bool} {F : Fx} {E : L2.St → XK} {la fa : Bool} {a : Expr} {f : Rho → Re PyData} {p0 p1 p2 p3 : Pos} {j : Nat} (ha : DE X M F E la fa a f) :
    DE X M F E la false (.JoinedStr [.FormattedValue a (-1) (some (.JoinedStr [.Constant (.str "+d") j p2] p1)) p0] p3) (r1 oPlus f) := by
  obtain ⟨t, p, h⟩ := ha
  refine ⟨_, pe_plus p, fun σ H ρ er Q w => h σ H ρ er _ (we_step w fun d v H1 e1 s1 r1 _ w1 => ?_)⟩
  cases q : oPlus d with
  | none =>
    rw [q] at w1
    exact w1.elim
  | some z1 =>
    rw [q] at w1
    cases r1 with
    | int i =>
      unfold oPlus at q
      dsimp only at q
      split at q
      · rename_i c
        injection q with q
        subst q
        exact ⟨i, rfl, of_decide_eq_true c, w1 _ H1 (Same.refl _) (.str _) fun z => nomatch z⟩
      · cases q
    | str _ => cases q
    | bl _ => cases q
    | non => cases q
    | tup _ _ => cases q
    | lst _ _ _ => cases q
    | scr _ _ => cases q
    | dic _ _ _ _ => cases q
    | dit _ _ _ _ => cases q
    | dif _ _ _ => cases q
    | rng _ => cases q
    | dct _ _ _ _ => cases q
theorem oPlus_ok {i : Int} (h : -40 ≤ i ∧ i ≤ 40) : oPlus (.int i) = some (.str (plusS i)) := by
  refine if_pos (decide_eq_true ?_)
  unfold small40
  refine List.mem_map.mpr ⟨(i + 40).toNat, List.mem_range.mpr (by omega), by omega⟩
end Pu

set_option Elab.async false
set_option linter.all false
set_option maxRecDepth 100000
set_option maxHeartbeats 4000000
namespace Gn
open PySem PySem.Spec PyProof.Rows L2 Pu
noncomputable section
/-! ### the mirror -/
def N__law_cell : List Str := ["script", "k"]
def s__law_cell : Rho → Sr := (sSeq (sIf (asB (r2 oLt (rVar 1) (rB bLen (aCons (rVar 0) aNil)))) (sRet (r2 oIx (rVar 0) (rVar 1))) sNil)
    (sRet (rC (.int 0))))
def m__law_cell : List PyData → Re PyData := runF 2 2 s__law_cell
def N__law_digits : List Str := ["cell", "sizes", "row", "size"]
def s__law_digits : Rho → Sr := (sSeq (sSetO 2 false (rLst aNil))
    (sSeq (sFor (iOf itS (rVar 1)) (gSlot 3) (sSeq (sApp 2 false (r2 oMod (rB bInt (aCons (rVar 0) aNil)) (rVar 3)))
    (sSet 0 false (r2 oDiv (rVar 0) (rVar 3)))))
    (sRet (rVar 2))))
def m__law_digits : List PyData → Re PyData := runF 2 4 s__law_digits
def N__law_blank : List Str := ["rest"]
def s__law_blank : Rho → Sr := (sRet (r2 oIx (rLst (aCons (rC (.str "")) (aCons (rC (.str " ")) (aCons (rC (.str "\n")) (aCons (rC (.str "  ")) (aCons (rC (.str " \n")) (aCons (rC (.str "")) aNil))))))) (r2 oMod (rB bInt (aCons (rVar 0) aNil)) (rC (.int 6)))))
def m__law_blank : List PyData → Re PyData := runF 1 1 s__law_blank
def N__law_loose : List Str := ["words", "rest", "text", "k"]
def _law_loose_s0 : Rho → Sr := (sSet 2 false (r2 oAdd (r2 oAdd (rVar 2) (r2 oIx (rLst (aCons (rC (.str " ")) (aCons (rC (.str "\n")) aNil))) (r2 oMod (rB bInt (aCons (rVar 1) aNil)) (rC (.int 2))))) (rCall m__law_blank (aCons (r2 oDiv (rVar 1) (rC (.int 2))) aNil))))
def _law_loose_s1 : Rho → Sr := (sSeq (sIf (asB (r2 oGt (rVar 3) (rC (.int 0)))) _law_loose_s0 sNil) (sSeq (sSet 2 false (r2 oAdd (rVar 2) (r2 oIx (rVar 0) (rVar 3)))) (sSet 1 false (r2 oAdd (r2 oAdd (r2 oDiv (rVar 1) (rC (.int 7))) (r2 oMul (rC (.int 1000)) (rVar 3))) (rC (.int 13))))))
def _law_loose_s2 : Rho → Sr := (sFor (iR1 (aCons (rB bLen (aCons (rVar 0) aNil)) aNil)) (gSlot 3) _law_loose_s1)
def s__law_loose : Rho → Sr := (sSeq (sSet 2 false (rCall m__law_blank (aCons (rVar 1) aNil))) (sSeq _law_loose_s2 (sRet (r2 oAdd (rVar 2) (rCall m__law_blank (aCons (rVar 1) aNil))))))
def m__law_loose : List PyData → Re PyData := runF 2 4 s__law_loose
def N__law_rich : List Str := ["cell", "low", "high"]
def s__law_rich : Rho → Sr := (sSeq (sIf (asB (r2 oGe (rVar 0) (r2 oPow (rC (.int 10)) (rC (.int 18))))) (sRet (rVar 0)) sNil)
    (sSeq (sSet 1 false (r2 oMod (rB bInt (aCons (r2 oAdd (r2 oMul (rVar 0) (rC (.int 48271))) (rC (.int 11))) aNil)) (rC (.int 2147483647))))
    (sSeq (sSet 2 false (r2 oMod (rB bInt (aCons (r2 oAdd (r2 oAdd (r2 oMul (rVar 1) (rC (.int 69621))) (r2 oDiv (rVar 0) (rC (.int 7)))) (rC (.int 5))) aNil)) (rC (.int 2147483629))))
    (sRet (r2 oAdd (r2 oMul (rVar 1) (rC (.int 2147483629))) (rVar 2))))))
def m__law_rich : List PyData → Re PyData := runF 1 3 s__law_rich
def N__law_row : List Str := ["cell", "n", "left", "rest", "row", "k"]
def s__law_row : Rho → Sr := (sSeq (sSetO 2 false (rLc (iR1 (aCons (rVar 1) aNil)) [5] (gSlot 5) yesR (r2 oAdd (rVar 5) (rC (.int 1)))))
    (sSeq (sSet 3 false (rCall m__law_rich (aCons (rVar 0) aNil)))
    (sSeq (sSetO 4 false (rLst aNil))
    (sSeq (sFor (iR1 (aCons (rVar 1) aNil)) (gSlot 5) (sSeq (sAppPop 4 2 (r2 oMod (rB bInt (aCons (rVar 3) aNil)) (r2 oSub (rVar 1) (rVar 5))))
    (sSet 3 false (r2 oDiv (rVar 3) (r2 oSub (rVar 1) (rVar 5))))))
    (sRet (rB bTuple (aCons (rVar 4) aNil)))))))
def m__law_row : List PyData → Re PyData := runF 2 6 s__law_row
def N__law_signed : List Str := ["cell", "n", "signs", "row", "number"]
def s__law_signed : Rho → Sr := (sSeq (sSet 2 false (rCall m__law_rich (aCons (r2 oAdd (r2 oDiv (rVar 0) (rC (.int 3))) (rC (.int 5))) aNil)))
    (sSeq (sIf (asB (r2 oEq (r2 oMod (rB bInt (aCons (rVar 0) aNil)) (rC (.int 3))) (rC (.int 0)))) (sSet 2 false (rC (.int 0))) sNil)
    (sSeq (sSetO 3 false (rLst aNil))
    (sSeq (sFor (iOf itS (rCall m__law_row (aCons (r2 oDiv (rVar 0) (rC (.int 3))) (aCons (rVar 1) aNil)))) (gSlot 4) (sSeq (sApp 3 false (r2 oIx (rLst (aCons (rVar 4) (aCons (r1 oNeg (rVar 4)) aNil))) (r2 oMod (rB bInt (aCons (rVar 2) aNil)) (rC (.int 2)))))
    (sSet 2 false (r2 oDiv (rVar 2) (rC (.int 2))))))
    (sRet (rB bTuple (aCons (rVar 3) aNil)))))))
def m__law_signed : List PyData → Re PyData := runF 2 5 s__law_signed
def N__law_written : List Str := ["number"]
def s__law_written : Rho → Sr := (sSeq (sIf (asB (r2 oGt (rVar 0) (rC (.int 0)))) (sRet (r2 oAdd (rC (.str "+")) (rB bStrA (aCons (rVar 0) aNil)))) sNil)
    (sRet (rB bStrA (aCons (rVar 0) aNil))))
def m__law_written : List PyData → Re PyData := runF 1 1 s__law_written
def N_sorted_row : List Str := ["n"]
def s_sorted_row : Rho → Sr := (sRet (rTupRg (rC (.int 1)) (r2 oAdd (rVar 0) (rC (.int 1)))))
def m_sorted_row : List PyData → Re PyData := runF 1 1 s_sorted_row
def N_check_row : List Str := ["row"]
def s_check_row : Rho → Sr := (sSeq (sIf (tOrR (asB (r2 oGt (rB bLen (aCons (rVar 0) aNil)) (rC (.int 40)))) (asB (r2 oNe (rB bTuple (aCons (rB bSorted (aCons (rVar 0) aNil)) aNil)) (rCall m_sorted_row (aCons (rB bLen (aCons (rVar 0) aNil)) aNil))))) (sErr "InvalidRow") sNil)
    (sRet (rVar 0)))
def m_check_row : List PyData → Re PyData := runF 1 1 s_check_row
def N_number_of : List Str := ["digits", "character"]
def number_of_s0 : Rho → Sr := (sIf (tOrR (tNotR (rChT (rC (.int 1)) (cLinkT oLe (rB bLenS (aCons (rVar 0) aNil)) (cLastT oLe (rC (.int 300)))))) (tNotR (asB (rB bAll (aCons (rLc (iOf itC (rVar 0)) [1] (gSlot 1) yesR (r2 (oInS false) (rVar 1) (rC (.str "0123456789")))) aNil))))) (sErr "InvalidText") sNil)
def number_of_s1 : Rho → Sr := (sIf (tAndR (asB (r2 oEq (r2 oIxS (rVar 0) (rC (.int 0))) (rC (.str "0")))) (asB (r2 oNe (rVar 0) (rC (.str "0"))))) (sErr "InvalidText") sNil)
def s_number_of : Rho → Sr := (sSeq number_of_s0 (sSeq number_of_s1 (sRet (rB bIntS (aCons (rVar 0) aNil)))))
def m_number_of : List PyData → Re PyData := runF 1 2 s_number_of
def N_words_of : List Str := ["text", "word"]
def s_words_of : Rho → Sr := (sRet (rLc (iOf itL (r2M mSpl (r1 (oRep "\n" " ") (rVar 0)) (rC (.str " ")))) [1] (gSlot 1) (asB (r2 oNe (rVar 1) (rC (.str "")))) (rVar 1)))
def m_words_of : List PyData → Re PyData := runF 1 2 s_words_of
def N_read_row : List Str := ["text", "row", "word"]
def s_read_row : Rho → Sr := (sSeq (sSet 1 false (rB bTuple (aCons (rLcX (iOf itS (rCall m_words_of (aCons (rVar 0) aNil))) [2] (gSlot 2) (rCall m_number_of (aCons (rVar 2) aNil))) aNil)))
    (sTry "InvalidRow" (sRet (rCall m_check_row (aCons (rVar 1) aNil))) sBad))
def m_read_row : List PyData → Re PyData := runF 1 3 s_read_row
def N_unsigned : List Str := ["row", "piece"]
def s_unsigned : Rho → Sr := (sRet (rB bTuple (aCons (rLc (iOf itS (rVar 0)) [1] (gSlot 1) yesR (rB bAbs (aCons (rVar 1) aNil))) aNil)))
def m_unsigned : List PyData → Re PyData := runF 1 2 s_unsigned
def N_check_signed : List Str := ["row"]
def s_check_signed : Rho → Sr := (sSeq (sIf (tOrR (asB (r2 oGt (rB bLen (aCons (rVar 0) aNil)) (rC (.int 40)))) (asB (r2 oNe (rB bTuple (aCons (rB bSorted (aCons (rCall m_unsigned (aCons (rVar 0) aNil)) aNil)) aNil)) (rCall m_sorted_row (aCons (rB bLen (aCons (rVar 0) aNil)) aNil))))) (sErr "InvalidRow") sNil)
    (sRet (rVar 0)))
def m_check_signed : List PyData → Re PyData := runF 1 1 s_check_signed
def N_signed_number_of : List Str := ["word"]
def s_signed_number_of : Rho → Sr := (sSeq (sIf (asB (r2 oEq (r2 oIxS (rVar 0) (rC (.int 0))) (rC (.str "-")))) (sRet (r1 oNeg (rCall m_number_of (aCons (rCutS (rVar 0) (asI (rC (.int 1))) noI) aNil)))) sNil)
    (sRet (rCall m_number_of (aCons (rIf (asB (r2 oEq (r2 oIxS (rVar 0) (rC (.int 0))) (rC (.str "+")))) (rCutS (rVar 0) (asI (rC (.int 1))) noI) (rVar 0)) aNil))))
def m_signed_number_of : List PyData → Re PyData := runF 1 1 s_signed_number_of
def N_read_signed : List Str := ["text", "row", "word"]
def s_read_signed : Rho → Sr := (sSeq (sSet 1 false (rB bTuple (aCons (rLcX (iOf itS (rCall m_words_of (aCons (rVar 0) aNil))) [2] (gSlot 2) (rCall m_signed_number_of (aCons (rVar 2) aNil))) aNil)))
    (sTry "InvalidRow" (sRet (rCall m_check_signed (aCons (rVar 1) aNil))) sBad))
def m_read_signed : List PyData → Re PyData := runF 1 3 s_read_signed
def N_write_row : List Str := ["row", "piece"]
def s_write_row : Rho → Sr := (sRet (r2M mJoin (rC (.str " ")) (rLc (iOf itS (rCall m_check_row (aCons (rVar 0) aNil))) [1] (gSlot 1) yesR (rB bStrA (aCons (rVar 1) aNil)))))
def m_write_row : List PyData → Re PyData := runF 1 2 s_write_row
def N_written_signed : List Str := ["numbers", "number"]
def s_written_signed : Rho → Sr := (sRet (r2M mJoin (rC (.str " ")) (rLc (iOf itS (rVar 0)) [1] (gSlot 1) yesR (r1 oPlus (rVar 1)))))
def m_written_signed : List PyData → Re PyData := runF 1 2 s_written_signed
def N_write_signed : List Str := ["row"]
def s_write_signed : Rho → Sr := (sRet (rCall m_written_signed (aCons (rCall m_check_signed (aCons (rVar 0) aNil)) aNil)))
def m_write_signed : List PyData → Re PyData := runF 1 1 s_write_signed
def N_law : List Str := ["script", "d", "row", "signed", "plain_words", "words", "rest", "told", "k", "other", "number"]
def law_s0 : Rho → Sr := (sSet 1 false (rCall m__law_digits (aCons (rCall m__law_rich (aCons (rCall m__law_cell (aCons (rVar 0) (aCons (rC (.int 0)) aNil))) aNil)) (aCons (rLst (aCons (rC (.int 41)) (aCons (rC (.int 41)) aNil))) aNil))))
def law_s1 : Rho → Sr := (sIf (tOrR (asB (r2 oNe (rCall m_write_row (aCons (rVar 2) aNil)) (r2M mJoin (rC (.str " ")) (rVar 4)))) (asB (r2 oNe (rCall m_write_signed (aCons (rVar 3) aNil)) (r2M mJoin (rC (.str " ")) (rVar 5))))) (sRet (rC (.bool false))) sNil)
def law_s2 : Rho → Sr := (sIf (tOrR (asB (r2 oNe (rCall m_read_row (aCons (rCall m_write_row (aCons (rVar 2) aNil)) aNil)) (rVar 2))) (asB (r2 oNe (rCall m_read_signed (aCons (rCall m_write_signed (aCons (rVar 3) aNil)) aNil)) (rVar 3)))) (sRet (rC (.bool false))) sNil)
def law_s3 : Rho → Sr := (sIf (tAndR (asB (r2 oEq (r2 oIxS (r2 oIx (rVar 5) (rVar 8)) (rC (.int 0))) (rC (.str "+")))) (asB (r2 oEq (r2 oMod (rB bInt (aCons (r2 oDiv (rVar 6) (r2 oAdd (rC (.int 1)) (rVar 8))) aNil)) (rC (.int 2))) (rC (.int 0))))) (sPut 5 true (rCutS (r2 oIx (rVar 5) (rVar 8)) (asI (rC (.int 1))) noI) (rVar 8)) sNil)
def law_s4 : Rho → Sr := law_s3
def law_s5 : Rho → Sr := (sFor (iR1 (aCons (rB bLen (aCons (rVar 5) aNil)) aNil)) (gSlot 8) law_s4)
def law_s6 : Rho → Sr := (sShare (sSeq (sSet 9 false (rCall m_read_signed (aCons (rCall m__law_loose (aCons (rVar 5) (aCons (r2 oDiv (rVar 6) (rC (.int 3))) aNil))) aNil))) (sRet (rAnd (rIsi "tuple" (rVar 7)) (rAnd (r2 oEq (rVar 7) (rVar 2)) (rAnd (rIsi "tuple" (rVar 9)) (r2 oEq (rVar 9) (rVar 3))))))))
def s_law : Rho → Sr := (sSeq law_s0 (sSeq (sSet 2 false (rCall m__law_row (aCons (rCall m__law_cell (aCons (rVar 0) (aCons (rC (.int 1)) aNil))) (aCons (r2 oIx (rVar 1) (rC (.int 0))) aNil)))) (sSeq (sSet 3 false (rCall m__law_signed (aCons (rCall m__law_cell (aCons (rVar 0) (aCons (rC (.int 2)) aNil))) (aCons (r2 oIx (rVar 1) (rC (.int 1))) aNil)))) (sSeq (sSet 4 false (rLc (iOf itS (rVar 2)) [10] (gSlot 10) yesR (rB bStrA (aCons (rVar 10) aNil)))) (sSeq (sSetO 5 false (rLc (iOf itS (rVar 3)) [10] (gSlot 10) yesR (rCall m__law_written (aCons (rVar 10) aNil)))) (sSeq law_s1 (sSeq law_s2 (sSeq (sSet 6 false (rCall m__law_rich (aCons (rCall m__law_cell (aCons (rVar 0) (aCons (rC (.int 3)) aNil))) aNil))) (sSeq (sSet 7 false (rCall m_read_row (aCons (rCall m__law_loose (aCons (rVar 4) (aCons (rVar 6) aNil))) aNil))) (sSeq law_s5 law_s6))))))))))
def m_law : List PyData → Re PyData := runF 1 11 s_law
end
end Gn

set_option Elab.async false
set_option linter.all false
set_option maxRecDepth 100000
set_option maxHeartbeats 4000000
namespace Gn
open PySem PySem.Spec PyProof.Rows L2 Pu
/-! ### the text -/
def top (i : Nat) : Stmt := PySem.Challenge.pw_turnedrows_k48_rows_written_and_read.main.body.getD i (.Pass ⟨0, 0, 0, 0⟩)
abbrev st__law_cell : Stmt := top 23
abbrev st__law_digits : Stmt := top 24
abbrev st__law_blank : Stmt := top 29
abbrev st__law_loose : Stmt := top 30
abbrev st__law_rich : Stmt := top 25
abbrev st__law_row : Stmt := top 26
abbrev st__law_signed : Stmt := top 27
abbrev st__law_written : Stmt := top 28
abbrev st_sorted_row : Stmt := top 6
abbrev st_check_row : Stmt := top 7
abbrev st_number_of : Stmt := top 18
abbrev st_words_of : Stmt := top 17
abbrev st_read_row : Stmt := top 20
abbrev st_unsigned : Stmt := top 9
abbrev st_check_signed : Stmt := top 10
abbrev st_signed_number_of : Stmt := top 19
abbrev st_read_signed : Stmt := top 21
abbrev st_write_row : Stmt := top 15
abbrev st_written_signed : Stmt := top 14
abbrev st_write_signed : Stmt := top 16
abbrev st_law : Stmt := top 31
/-! ### what the head tells -/
structure Ct (K : PySem.W.Frag) (mg : Str → Option Value) : Prop where
  f__law_cell : FnAt K mg "_law_cell" st__law_cell
  f__law_digits : FnAt K mg "_law_digits" st__law_digits
  f__law_blank : FnAt K mg "_law_blank" st__law_blank
  f__law_loose : FnAt K mg "_law_loose" st__law_loose
  f__law_rich : FnAt K mg "_law_rich" st__law_rich
  f__law_row : FnAt K mg "_law_row" st__law_row
  f__law_signed : FnAt K mg "_law_signed" st__law_signed
  f__law_written : FnAt K mg "_law_written" st__law_written
  f_sorted_row : FnAt K mg "sorted_row" st_sorted_row
  f_check_row : FnAt K mg "check_row" st_check_row
  f_number_of : FnAt K mg "number_of" st_number_of
  f_words_of : FnAt K mg "words_of" st_words_of
  f_read_row : FnAt K mg "read_row" st_read_row
  f_unsigned : FnAt K mg "unsigned" st_unsigned
  f_check_signed : FnAt K mg "check_signed" st_check_signed
  f_signed_number_of : FnAt K mg "signed_number_of" st_signed_number_of
  f_read_signed : FnAt K mg "read_signed" st_read_signed
  f_write_row : FnAt K mg "write_row" st_write_row
  f_written_signed : FnAt K mg "written_signed" st_written_signed
  f_write_signed : FnAt K mg "write_signed" st_write_signed
  f_law : FnAt K mg "law" st_law
  b_abs : mg "abs" = none
  b_all : mg "all" = none
  b_int : mg "int" = none
  b_isinstance : mg "isinstance" = none
  b_len : mg "len" = none
  b_range : mg "range" = none
  b_sorted : mg "sorted" = none
  b_str : mg "str" = none
  b_tuple : mg "tuple" = none
  i_MOST_DIGITS : ∃ t, mg "MOST_DIGITS" = some (.int 300 t)
  i_MOST_PIECES : ∃ t, mg "MOST_PIECES" = some (.int 40 t)
  z_DIGITS : ∃ t, mg "DIGITS" = some (.str "0123456789" t)
  e_InvalidRow : ErrC K mg "InvalidRow" (He.ga K "InvalidRow")
  e_InvalidText : ErrC K mg "InvalidText" (He.ga K "InvalidText")
/-! ### each def is its mirror -/
section
variable {P : Program} {w : World} {K : PySem.W.Frag} {mg : Str → Option Value} {base : Heap}
theorem nd__law_cell : N__law_cell.Nodup := by decide +kernel
def M__law_cell : Nat → Bool := fun i => false
theorem sc__law_cell : FnScope N__law_cell ["script", "k"] (defScope st__law_cell) := ⟨rfl, rfl, rfl, nd__law_cell, rfl, by decide +kernel, by decide +kernel⟩
theorem bo__law_cell (c : Ct K mg) (k : Nat) (fA : Addr) (cdv : Value) (A : Around) (outer : List Env) (sh : Shared) (H : Hp) (Ex : XK) (G : Gd (cxOf (L2.CX P w) P w K mg base N__law_cell "_law_cell" (defScope st__law_cell) fA cdv A outer sh H Ex) (fun _ => Ex) (k + 0)) (F : Fx) :
    DSs (cxOf (L2.CX P w) P w K mg base N__law_cell "_law_cell" (defScope st__law_cell) fA cdv A outer sh H Ex) M__law_cell F (fun _ => Ex) (defBody st__law_cell) s__law_cell :=
    (dss_cons (ds_if (dt_cmp op_lt s_lt (de_var 1) (db call_len_seq s_len c.b_len boot_len (da_cons (de_var 0) da_nil)) (by first | exact nomark _ | rfl)) (dss_one (ds_ret (de_ix (de_var 0) (de_var 1)))) dss_nil)
    (dss_one (ds_ret de_int)))
theorem has__law_cell (c : Ct K mg) (k : Nat) : Has P w K mg base (k + 1) "_law_cell" ["script", "k"] m__law_cell := has_of c.f__law_cell sc__law_cell M__law_cell (by decide) s__law_cell (fun _ _ _ _ _ _ us hl => match us, hl with | [_, _], _ => rfl) (bo__law_cell c k)
theorem nd__law_digits : N__law_digits.Nodup := by decide +kernel
def M__law_digits : Nat → Bool := fun i => i == 2
theorem sc__law_digits : FnScope N__law_digits ["cell", "sizes"] (defScope st__law_digits) := ⟨rfl, rfl, rfl, nd__law_digits, rfl, by decide +kernel, by decide +kernel⟩
theorem bo__law_digits (c : Ct K mg) (k : Nat) (fA : Addr) (cdv : Value) (A : Around) (outer : List Env) (sh : Shared) (H : Hp) (Ex : XK) (G : Gd (cxOf (L2.CX P w) P w K mg base N__law_digits "_law_digits" (defScope st__law_digits) fA cdv A outer sh H Ex) (fun _ => Ex) (k + 0)) (F : Fx) :
    DSs (cxOf (L2.CX P w) P w K mg base N__law_digits "_law_digits" (defScope st__law_digits) fA cdv A outer sh H Ex) M__law_digits F (fun _ => Ex) (defBody st__law_digits) s__law_digits :=
    (dss_cons (ds_setO (i := 2) rfl nd__law_digits (de_lst da_nil))
    (dss_cons (ds_for G.own rfl (di_seq (de_var 1)) (dg_name 3 rfl nd__law_digits) (dss_cons (ds_app (i := 2) rfl (de_op op_mod s_mod (dt call_int1 s_int c.b_int boot_int (da_cons (de_var 0) da_nil)) (de_var 3)))
    (dss_one (ds_set (i := 0) rfl nd__law_digits (de_op op_fdivW s_div (de_var 0) (de_var 3))))))
    (dss_one (ds_ret (de_var 2)))))
theorem has__law_digits (c : Ct K mg) (k : Nat) : Has P w K mg base (k + 1) "_law_digits" ["cell", "sizes"] m__law_digits := has_of c.f__law_digits sc__law_digits M__law_digits (by decide) s__law_digits (fun _ _ _ _ _ _ us hl => match us, hl with | [_, _], _ => rfl) (bo__law_digits c k)
theorem nd__law_blank : N__law_blank.Nodup := by decide +kernel
def M__law_blank : Nat → Bool := fun i => false
theorem sc__law_blank : FnScope N__law_blank ["rest"] (defScope st__law_blank) := ⟨rfl, rfl, rfl, nd__law_blank, rfl, by decide +kernel, by decide +kernel⟩
theorem bo__law_blank (c : Ct K mg) (k : Nat) (fA : Addr) (cdv : Value) (A : Around) (outer : List Env) (sh : Shared) (H : Hp) (Ex : XK) (G : Gd (cxOf (L2.CX P w) P w K mg base N__law_blank "_law_blank" (defScope st__law_blank) fA cdv A outer sh H Ex) (fun _ => Ex) (k + 0)) (F : Fx) :
    DSs (cxOf (L2.CX P w) P w K mg base N__law_blank "_law_blank" (defScope st__law_blank) fA cdv A outer sh H Ex) M__law_blank F (fun _ => Ex) (defBody st__law_blank) s__law_blank :=
    (dss_one (ds_ret (de_ix (de_lst (da_cons de_str (da_cons de_str (da_cons de_str (da_cons de_str (da_cons de_str (da_cons de_str da_nil))))))) (de_op op_mod s_mod (dt call_int1 s_int c.b_int boot_int (da_cons (de_var 0) da_nil)) de_int))))
theorem has__law_blank (c : Ct K mg) (k : Nat) : Has P w K mg base (k + 1) "_law_blank" ["rest"] m__law_blank := has_of c.f__law_blank sc__law_blank M__law_blank (by decide) s__law_blank (fun _ _ _ _ _ _ us hl => match us, hl with | [_], _ => rfl) (bo__law_blank c k)
theorem nd__law_loose : N__law_loose.Nodup := by decide +kernel
def M__law_loose : Nat → Bool := fun i => false
theorem sc__law_loose : FnScope N__law_loose ["words", "rest"] (defScope st__law_loose) := ⟨rfl, rfl, rfl, nd__law_loose, rfl, by decide +kernel, by decide +kernel⟩
theorem bo__law_loose (c : Ct K mg) (k : Nat) (fA : Addr) (cdv : Value) (A : Around) (outer : List Env) (sh : Shared) (H : Hp) (Ex : XK) (G : Gd (cxOf (L2.CX P w) P w K mg base N__law_loose "_law_loose" (defScope st__law_loose) fA cdv A outer sh H Ex) (fun _ => Ex) (k + 1)) (F : Fx) :
    DSs (cxOf (L2.CX P w) P w K mg base N__law_loose "_law_loose" (defScope st__law_loose) fA cdv A outer sh H Ex) M__law_loose F (fun _ => Ex) (defBody st__law_loose) s__law_loose :=
    (dss_cons (ds_set (i := 2) rfl nd__law_loose (de_fn (has__law_blank c (k + 0)) G.room G.pass (da_cons (de_var 1) da_nil)))
    (dss_cons (ds_for G.own rfl (di_rg1 (by rfl) c.b_range (da_cons (db call_len_seq s_len c.b_len boot_len (da_cons (de_var 0) da_nil)) da_nil)) (dg_name 3 rfl nd__law_loose) (dss_cons (ds_if (dt_cmp op_gt s_gt (de_var 3) de_int (by first | exact nomark _ | rfl)) (dss_one (ds_set (i := 2) rfl nd__law_loose (de_op op_addA s_add (de_op op_addA s_add (de_var 2) (de_ix (de_lst (da_cons de_str (da_cons de_str da_nil))) (de_op op_mod s_mod (dt call_int1 s_int c.b_int boot_int (da_cons (de_var 1) da_nil)) de_int))) (de_fn (has__law_blank c (k + 0)) G.room G.pass (da_cons (de_op op_fdivW s_div (de_var 1) de_int) da_nil))))) dss_nil)
    (dss_cons (ds_set (i := 2) rfl nd__law_loose (de_op op_addA s_add (de_var 2) (de_ix (de_var 0) (de_var 3))))
    (dss_one (ds_set (i := 1) rfl nd__law_loose (de_op op_addA s_add (de_op op_addA s_add (de_op op_fdivW s_div (de_var 1) de_int) (de_op op_mulA s_mul de_int (de_var 3))) de_int))))))
    (dss_one (ds_ret (de_op op_addA s_add (de_var 2) (de_fn (has__law_blank c (k + 0)) G.room G.pass (da_cons (de_var 1) da_nil)))))))
theorem has__law_loose (c : Ct K mg) (k : Nat) : Has P w K mg base (k + 2) "_law_loose" ["words", "rest"] m__law_loose := has_of c.f__law_loose sc__law_loose M__law_loose (by decide) s__law_loose (fun _ _ _ _ _ _ us hl => match us, hl with | [_, _], _ => rfl) (bo__law_loose c k)
theorem nd__law_rich : N__law_rich.Nodup := by decide +kernel
def M__law_rich : Nat → Bool := fun i => false
theorem sc__law_rich : FnScope N__law_rich ["cell"] (defScope st__law_rich) := ⟨rfl, rfl, rfl, nd__law_rich, rfl, by decide +kernel, by decide +kernel⟩
theorem bo__law_rich (c : Ct K mg) (k : Nat) (fA : Addr) (cdv : Value) (A : Around) (outer : List Env) (sh : Shared) (H : Hp) (Ex : XK) (G : Gd (cxOf (L2.CX P w) P w K mg base N__law_rich "_law_rich" (defScope st__law_rich) fA cdv A outer sh H Ex) (fun _ => Ex) (k + 0)) (F : Fx) :
    DSs (cxOf (L2.CX P w) P w K mg base N__law_rich "_law_rich" (defScope st__law_rich) fA cdv A outer sh H Ex) M__law_rich F (fun _ => Ex) (defBody st__law_rich) s__law_rich :=
    (dss_cons (ds_if (dt_cmp op_ge s_ge (de_var 0) (de_op op_pow s_pow de_int de_int) (by first | exact nomark _ | rfl)) (dss_one (ds_ret (de_var 0))) dss_nil)
    (dss_cons (ds_set (i := 1) rfl nd__law_rich (de_op op_mod s_mod (dt call_int1 s_int c.b_int boot_int (da_cons (de_op op_addA s_add (de_op op_mulA s_mul (de_var 0) de_int) de_int) da_nil)) de_int))
    (dss_cons (ds_set (i := 2) rfl nd__law_rich (de_op op_mod s_mod (dt call_int1 s_int c.b_int boot_int (da_cons (de_op op_addA s_add (de_op op_addA s_add (de_op op_mulA s_mul (de_var 1) de_int) (de_op op_fdivW s_div (de_var 0) de_int)) de_int) da_nil)) de_int))
    (dss_one (ds_ret (de_op op_addA s_add (de_op op_mulA s_mul (de_var 1) de_int) (de_var 2)))))))
theorem has__law_rich (c : Ct K mg) (k : Nat) : Has P w K mg base (k + 1) "_law_rich" ["cell"] m__law_rich := has_of c.f__law_rich sc__law_rich M__law_rich (by decide) s__law_rich (fun _ _ _ _ _ _ us hl => match us, hl with | [_], _ => rfl) (bo__law_rich c k)
theorem nd__law_row : N__law_row.Nodup := by decide +kernel
def M__law_row : Nat → Bool := fun i => i == 2 || i == 4
theorem sc__law_row : FnScope N__law_row ["cell", "n"] (defScope st__law_row) := ⟨rfl, rfl, rfl, nd__law_row, rfl, by decide +kernel, by decide +kernel⟩
theorem bo__law_row (c : Ct K mg) (k : Nat) (fA : Addr) (cdv : Value) (A : Around) (outer : List Env) (sh : Shared) (H : Hp) (Ex : XK) (G : Gd (cxOf (L2.CX P w) P w K mg base N__law_row "_law_row" (defScope st__law_row) fA cdv A outer sh H Ex) (fun _ => Ex) (k + 1)) (F : Fx) :
    DSs (cxOf (L2.CX P w) P w K mg base N__law_row "_law_row" (defScope st__law_row) fA cdv A outer sh H Ex) M__law_row F (fun _ => Ex) (defBody st__law_row) s__law_row :=
    (dss_cons (ds_setOLc (i := 2) (own := [("k", 5)]) [5] rfl rfl nd__law_row (di_rg1 (by rfl) c.b_range (da_cons (de_var 1) da_nil)) (blkOk_by (own := [("k", 5)]) (N := N__law_row) (sc := defScope st__law_row) (by decide +kernel)) (by decide) (fun _ _ _ _ _ _ => (dg_name 5 rfl nd__law_row)) (fun _ _ _ _ _ => dts_nil) (fun _ _ _ _ _ _ => (de_op op_addA s_add (de_var 5) de_int)) (sw_true rfl rfl rfl (by decide +kernel)))
    (dss_cons (ds_set (i := 3) rfl nd__law_row (de_fn (has__law_rich c (k + 0)) G.room G.pass (da_cons (de_var 0) da_nil)))
    (dss_cons (ds_setO (i := 4) rfl nd__law_row (de_lst da_nil))
    (dss_cons (ds_for G.own rfl (di_rg1 (by rfl) c.b_range (da_cons (de_var 1) da_nil)) (dg_name 5 rfl nd__law_row) (dss_cons (ds_appPop (i := 4) (j := 2) rfl rfl (de_op op_mod s_mod (dt call_int1 s_int c.b_int boot_int (da_cons (de_var 3) da_nil)) (de_op op_sub s_sub (de_var 1) (de_var 5))))
    (dss_one (ds_set (i := 3) rfl nd__law_row (de_op op_fdivW s_div (de_var 3) (de_op op_sub s_sub (de_var 1) (de_var 5)))))))
    (dss_one (ds_ret (dt call_tuple_ofF s_tuple c.b_tuple boot_tuple (da_cons (de_var 4) da_nil))))))))
theorem has__law_row (c : Ct K mg) (k : Nat) : Has P w K mg base (k + 2) "_law_row" ["cell", "n"] m__law_row := has_of c.f__law_row sc__law_row M__law_row (by decide) s__law_row (fun _ _ _ _ _ _ us hl => match us, hl with | [_, _], _ => rfl) (bo__law_row c k)
theorem nd__law_signed : N__law_signed.Nodup := by decide +kernel
def M__law_signed : Nat → Bool := fun i => i == 3
theorem sc__law_signed : FnScope N__law_signed ["cell", "n"] (defScope st__law_signed) := ⟨rfl, rfl, rfl, nd__law_signed, rfl, by decide +kernel, by decide +kernel⟩
theorem bo__law_signed (c : Ct K mg) (k : Nat) (fA : Addr) (cdv : Value) (A : Around) (outer : List Env) (sh : Shared) (H : Hp) (Ex : XK) (G : Gd (cxOf (L2.CX P w) P w K mg base N__law_signed "_law_signed" (defScope st__law_signed) fA cdv A outer sh H Ex) (fun _ => Ex) (k + 2)) (F : Fx) :
    DSs (cxOf (L2.CX P w) P w K mg base N__law_signed "_law_signed" (defScope st__law_signed) fA cdv A outer sh H Ex) M__law_signed F (fun _ => Ex) (defBody st__law_signed) s__law_signed :=
    (dss_cons (ds_set (i := 2) rfl nd__law_signed (de_fn (has__law_rich c (k + 1)) G.room G.pass (da_cons (de_op op_addA s_add (de_op op_fdivW s_div (de_var 0) de_int) de_int) da_nil)))
    (dss_cons (ds_if (dt_cmp (op_eqD (by exact ru G.room)) s_eq (de_op op_mod s_mod (dt call_int1 s_int c.b_int boot_int (da_cons (de_var 0) da_nil)) de_int) de_int (by first | exact nomark _ | rfl)) (dss_one (ds_set (i := 2) rfl nd__law_signed de_int)) dss_nil)
    (dss_cons (ds_setO (i := 3) rfl nd__law_signed (de_lst da_nil))
    (dss_cons (ds_for G.own rfl (di_seq (de_fn (has__law_row c (k + 0)) G.room G.pass (da_cons (de_op op_fdivW s_div (de_var 0) de_int) (da_cons (de_var 1) da_nil)))) (dg_name 4 rfl nd__law_signed) (dss_cons (ds_app (i := 3) rfl (de_ix (de_lst (da_cons (de_var 4) (da_cons (de_un un_neg s_neg (de_var 4)) da_nil))) (de_op op_mod s_mod (dt call_int1 s_int c.b_int boot_int (da_cons (de_var 2) da_nil)) de_int)))
    (dss_one (ds_set (i := 2) rfl nd__law_signed (de_op op_fdivW s_div (de_var 2) de_int)))))
    (dss_one (ds_ret (dt call_tuple_ofF s_tuple c.b_tuple boot_tuple (da_cons (de_var 3) da_nil))))))))
theorem has__law_signed (c : Ct K mg) (k : Nat) : Has P w K mg base (k + 3) "_law_signed" ["cell", "n"] m__law_signed := has_of c.f__law_signed sc__law_signed M__law_signed (by decide) s__law_signed (fun _ _ _ _ _ _ us hl => match us, hl with | [_, _], _ => rfl) (bo__law_signed c k)
theorem nd__law_written : N__law_written.Nodup := by decide +kernel
def M__law_written : Nat → Bool := fun i => false
theorem sc__law_written : FnScope N__law_written ["number"] (defScope st__law_written) := ⟨rfl, rfl, rfl, nd__law_written, rfl, by decide +kernel, by decide +kernel⟩
theorem bo__law_written (c : Ct K mg) (k : Nat) (fA : Addr) (cdv : Value) (A : Around) (outer : List Env) (sh : Shared) (H : Hp) (Ex : XK) (G : Gd (cxOf (L2.CX P w) P w K mg base N__law_written "_law_written" (defScope st__law_written) fA cdv A outer sh H Ex) (fun _ => Ex) (k + 0)) (F : Fx) :
    DSs (cxOf (L2.CX P w) P w K mg base N__law_written "_law_written" (defScope st__law_written) fA cdv A outer sh H Ex) M__law_written F (fun _ => Ex) (defBody st__law_written) s__law_written :=
    (dss_cons (ds_if (dt_cmp op_gt s_gt (de_var 0) de_int (by first | exact nomark _ | rfl)) (dss_one (ds_ret (de_op op_addA s_add de_str (dt call_strA s_strA c.b_str boot_str (da_cons (de_var 0) da_nil))))) dss_nil)
    (dss_one (ds_ret (dt call_strA s_strA c.b_str boot_str (da_cons (de_var 0) da_nil)))))
theorem has__law_written (c : Ct K mg) (k : Nat) : Has P w K mg base (k + 1) "_law_written" ["number"] m__law_written := has_of c.f__law_written sc__law_written M__law_written (by decide) s__law_written (fun _ _ _ _ _ _ us hl => match us, hl with | [_], _ => rfl) (bo__law_written c k)
theorem nd_sorted_row : N_sorted_row.Nodup := by decide +kernel
def M_sorted_row : Nat → Bool := fun i => false
theorem sc_sorted_row : FnScope N_sorted_row ["n"] (defScope st_sorted_row) := ⟨rfl, rfl, rfl, nd_sorted_row, rfl, by decide +kernel, by decide +kernel⟩
theorem bo_sorted_row (c : Ct K mg) (k : Nat) (fA : Addr) (cdv : Value) (A : Around) (outer : List Env) (sh : Shared) (H : Hp) (Ex : XK) (G : Gd (cxOf (L2.CX P w) P w K mg base N_sorted_row "sorted_row" (defScope st_sorted_row) fA cdv A outer sh H Ex) (fun _ => Ex) (k + 0)) (F : Fx) :
    DSs (cxOf (L2.CX P w) P w K mg base N_sorted_row "sorted_row" (defScope st_sorted_row) fA cdv A outer sh H Ex) M_sorted_row F (fun _ => Ex) (defBody st_sorted_row) s_sorted_row :=
    (dss_one (ds_ret (de_tupRg (by rfl) (by rfl) c.b_tuple (by rfl) c.b_range de_int (de_op op_addA s_add (de_var 0) de_int))))
theorem has_sorted_row (c : Ct K mg) (k : Nat) : Has P w K mg base (k + 1) "sorted_row" ["n"] m_sorted_row := has_of c.f_sorted_row sc_sorted_row M_sorted_row (by decide) s_sorted_row (fun _ _ _ _ _ _ us hl => match us, hl with | [_], _ => rfl) (bo_sorted_row c k)
theorem nd_check_row : N_check_row.Nodup := by decide +kernel
def M_check_row : Nat → Bool := fun i => false
theorem sc_check_row : FnScope N_check_row ["row"] (defScope st_check_row) := ⟨rfl, rfl, rfl, nd_check_row, rfl, by decide +kernel, by decide +kernel⟩
theorem bo_check_row (c : Ct K mg) (k : Nat) (fA : Addr) (cdv : Value) (A : Around) (outer : List Env) (sh : Shared) (H : Hp) (Ex : XK) (G : Gd (cxOf (L2.CX P w) P w K mg base N_check_row "check_row" (defScope st_check_row) fA cdv A outer sh H Ex) (fun _ => Ex) (k + 1)) (F : Fx) :
    DSs (cxOf (L2.CX P w) P w K mg base N_check_row "check_row" (defScope st_check_row) fA cdv A outer sh H Ex) M_check_row F (fun _ => Ex) (defBody st_check_row) s_check_row :=
    (dss_cons (ds_if (DW.pt (dw_or (dt_cmp op_gt s_gt (db call_len_seq s_len c.b_len boot_len (da_cons (de_var 0) da_nil)) (de_globE c.i_MOST_PIECES) (by first | exact nomark _ | rfl)) (dw_or1 (dt_cmp (op_neD (by exact ru G.room)) s_ne (dt call_tuple_ofF s_tuple c.b_tuple boot_tuple (da_cons (db cr_srt s_sorted c.b_sorted boot_sorted (da_cons (de_var 0) da_nil)) da_nil)) (de_fn (has_sorted_row c (k + 0)) G.room G.pass (da_cons (db call_len_seq s_len c.b_len boot_len (da_cons (de_var 0) da_nil)) da_nil)) (by first | exact nomark _ | rfl))))) (dss_one (ds_raise G rfl c.e_InvalidRow rfl)) dss_nil)
    (dss_one (ds_ret (de_var 0))))
theorem has_check_row (c : Ct K mg) (k : Nat) : Has P w K mg base (k + 2) "check_row" ["row"] m_check_row := has_of c.f_check_row sc_check_row M_check_row (by decide) s_check_row (fun _ _ _ _ _ _ us hl => match us, hl with | [_], _ => rfl) (bo_check_row c k)
theorem nd_number_of : N_number_of.Nodup := by decide +kernel
def M_number_of : Nat → Bool := fun i => false
theorem sc_number_of : FnScope N_number_of ["digits"] (defScope st_number_of) := ⟨rfl, rfl, rfl, nd_number_of, rfl, by decide +kernel, by decide +kernel⟩
theorem bo_number_of (c : Ct K mg) (k : Nat) (fA : Addr) (cdv : Value) (A : Around) (outer : List Env) (sh : Shared) (H : Hp) (Ex : XK) (G : Gd (cxOf (L2.CX P w) P w K mg base N_number_of "number_of" (defScope st_number_of) fA cdv A outer sh H Ex) (fun _ => Ex) (k + 0)) (F : Fx) :
    DSs (cxOf (L2.CX P w) P w K mg base N_number_of "number_of" (defScope st_number_of) fA cdv A outer sh H Ex) M_number_of F (fun _ => Ex) (defBody st_number_of) s_number_of :=
    (dss_cons (ds_if (DW.pt (dw_or (dt_not (dt_chain de_int (dch_linkT op_le s_le (db call_len_str s_lenS c.b_len boot_len (da_cons (de_var 0) da_nil)) (dch_lastT op_le s_le (de_globE c.i_MOST_DIGITS))))) (dw_or1 (dt_not (dt_val (db (cr_all rfl) s_all c.b_all boot_all (da_cons (de_lc (own := [("character", 1)]) [1] rfl nd_number_of (di_str (de_var 0)) (blkOk_by (own := [("character", 1)]) (N := N_number_of) (sc := defScope st_number_of) (by decide +kernel)) (by decide) (fun _ _ _ _ _ _ => (dg_name 1 rfl nd_number_of)) (fun _ _ _ _ _ => dts_nil) (fun _ _ _ _ _ _ => (de_cmp op_in_sign s_inS (de_var 1) (de_globS c.z_DIGITS) (by first | exact nomark _ | rfl)))) da_nil))))))) (dss_one (ds_raise G rfl c.e_InvalidText rfl)) dss_nil)
    (dss_cons (ds_if (DW.pt (dw_and (dt_cmp (op_eqD (by exact ru G.room)) s_eq (de_ixS (de_var 0) de_int) de_str (by first | exact nomark _ | rfl)) (dw_and1 (dt_cmp (op_neD (by exact ru G.room)) s_ne (de_var 0) de_str (by first | exact nomark _ | rfl))))) (dss_one (ds_raise G rfl c.e_InvalidText rfl)) dss_nil)
    (dss_one (ds_ret (dt call_int_str s_intS c.b_int boot_int (da_cons (de_var 0) da_nil))))))
theorem has_number_of (c : Ct K mg) (k : Nat) : Has P w K mg base (k + 1) "number_of" ["digits"] m_number_of := has_of c.f_number_of sc_number_of M_number_of (by decide) s_number_of (fun _ _ _ _ _ _ us hl => match us, hl with | [_], _ => rfl) (bo_number_of c k)
theorem nd_words_of : N_words_of.Nodup := by decide +kernel
def M_words_of : Nat → Bool := fun i => false
theorem sc_words_of : FnScope N_words_of ["text"] (defScope st_words_of) := ⟨rfl, rfl, rfl, nd_words_of, rfl, by decide +kernel, by decide +kernel⟩
theorem bo_words_of (c : Ct K mg) (k : Nat) (fA : Addr) (cdv : Value) (A : Around) (outer : List Env) (sh : Shared) (H : Hp) (Ex : XK) (G : Gd (cxOf (L2.CX P w) P w K mg base N_words_of "words_of" (defScope st_words_of) fA cdv A outer sh H Ex) (fun _ => Ex) (k + 0)) (F : Fx) :
    DSst (cxOf (L2.CX P w) P w K mg base N_words_of "words_of" (defScope st_words_of) fA cdv A outer sh H Ex) M_words_of F (fun _ => Ex) (defBody st_words_of) s_words_of :=
    (dsst_one (dst_ret (det_lc (own := [("word", 1)]) [1] rfl nd_words_of (dit_list (det_split (det_rep (de_var 0)) de_str)) (blkOk_by (own := [("word", 1)]) (N := N_words_of) (sc := defScope st_words_of) (by decide +kernel)) (by decide) (fun _ _ _ _ _ _ => (dg_name 1 rfl nd_words_of)) (fun _ _ _ _ _ => (dts_one fun _ => (dt_cmp (op_neD (by exact ru G.room)) s_ne (de_var 1) de_str (by first | exact nomark _ | rfl)))) (fun _ _ _ _ _ _ => (de_var 1)))))
theorem has_words_of (c : Ct K mg) (k : Nat) : Has P w K mg base (k + 1) "words_of" ["text"] m_words_of := has_ofT c.f_words_of sc_words_of M_words_of (by decide) s_words_of (fun _ _ _ _ _ _ us hl => match us, hl with | [_], _ => rfl) (bo_words_of c k)
theorem nd_read_row : N_read_row.Nodup := by decide +kernel
def M_read_row : Nat → Bool := fun i => false
theorem sc_read_row : FnScope N_read_row ["text"] (defScope st_read_row) := ⟨rfl, rfl, rfl, nd_read_row, rfl, by decide +kernel, by decide +kernel⟩
theorem bo_read_row (c : Ct K mg) (k : Nat) (fA : Addr) (cdv : Value) (A : Around) (outer : List Env) (sh : Shared) (H : Hp) (Ex : XK) (G : Gd (cxOf (L2.CX P w) P w K mg base N_read_row "read_row" (defScope st_read_row) fA cdv A outer sh H Ex) (fun _ => Ex) (k + 2)) (F : Fx) :
    DSs (cxOf (L2.CX P w) P w K mg base N_read_row "read_row" (defScope st_read_row) fA cdv A outer sh H Ex) M_read_row F (fun _ => Ex) (defBody st_read_row) s_read_row :=
    (dss_cons (ds_set (i := 1) rfl nd_read_row (dt call_tuple_ofF s_tuple c.b_tuple boot_tuple (da_cons (de_lcX (own := [("word", 2)]) G (fun _ _ => rfl) rfl nd_read_row (di_seq (de_fn (has_words_of c (k + 1)) G.room G.pass (da_cons (de_var 0) da_nil))) (blkOk_by (own := [("word", 2)]) (N := N_read_row) (sc := defScope st_read_row) (by decide +kernel)) (by decide) (fun _ _ _ _ _ _ => (dg_name 2 rfl nd_read_row)) (fun _ _ _ _ _ p => (de_fn (has_number_of c (k + 1)) (by exact G.room) p (da_cons (de_var 2) da_nil)))) da_nil)))
    (dss_one (ds_try G c.e_InvalidRow ⟨rfl, by decide⟩ (fun W pn xe G F => (dss_one (ds_ret (de_fn (has_check_row c (k + 0)) G.room G.pass (da_cons (de_var 1) da_nil))))) (fun a oe pn F => (dss_one ds_bad)))))
theorem has_read_row (c : Ct K mg) (k : Nat) : Has P w K mg base (k + 3) "read_row" ["text"] m_read_row := has_of c.f_read_row sc_read_row M_read_row (by decide) s_read_row (fun _ _ _ _ _ _ us hl => match us, hl with | [_], _ => rfl) (bo_read_row c k)
theorem nd_unsigned : N_unsigned.Nodup := by decide +kernel
def M_unsigned : Nat → Bool := fun i => false
theorem sc_unsigned : FnScope N_unsigned ["row"] (defScope st_unsigned) := ⟨rfl, rfl, rfl, nd_unsigned, rfl, by decide +kernel, by decide +kernel⟩
theorem bo_unsigned (c : Ct K mg) (k : Nat) (fA : Addr) (cdv : Value) (A : Around) (outer : List Env) (sh : Shared) (H : Hp) (Ex : XK) (G : Gd (cxOf (L2.CX P w) P w K mg base N_unsigned "unsigned" (defScope st_unsigned) fA cdv A outer sh H Ex) (fun _ => Ex) (k + 0)) (F : Fx) :
    DSs (cxOf (L2.CX P w) P w K mg base N_unsigned "unsigned" (defScope st_unsigned) fA cdv A outer sh H Ex) M_unsigned F (fun _ => Ex) (defBody st_unsigned) s_unsigned :=
    (dss_one (ds_ret (dt call_tuple_ofF s_tuple c.b_tuple boot_tuple (da_cons (de_lc (own := [("piece", 1)]) [1] rfl nd_unsigned (di_seq (de_var 0)) (blkOk_by (own := [("piece", 1)]) (N := N_unsigned) (sc := defScope st_unsigned) (by decide +kernel)) (by decide) (fun _ _ _ _ _ _ => (dg_name 1 rfl nd_unsigned)) (fun _ _ _ _ _ => dts_nil) (fun _ _ _ _ _ _ => (db call_abs s_abs c.b_abs boot_abs (da_cons (de_var 1) da_nil)))) da_nil))))
theorem has_unsigned (c : Ct K mg) (k : Nat) : Has P w K mg base (k + 1) "unsigned" ["row"] m_unsigned := has_of c.f_unsigned sc_unsigned M_unsigned (by decide) s_unsigned (fun _ _ _ _ _ _ us hl => match us, hl with | [_], _ => rfl) (bo_unsigned c k)
theorem nd_check_signed : N_check_signed.Nodup := by decide +kernel
def M_check_signed : Nat → Bool := fun i => false
theorem sc_check_signed : FnScope N_check_signed ["row"] (defScope st_check_signed) := ⟨rfl, rfl, rfl, nd_check_signed, rfl, by decide +kernel, by decide +kernel⟩
theorem bo_check_signed (c : Ct K mg) (k : Nat) (fA : Addr) (cdv : Value) (A : Around) (outer : List Env) (sh : Shared) (H : Hp) (Ex : XK) (G : Gd (cxOf (L2.CX P w) P w K mg base N_check_signed "check_signed" (defScope st_check_signed) fA cdv A outer sh H Ex) (fun _ => Ex) (k + 1)) (F : Fx) :
    DSs (cxOf (L2.CX P w) P w K mg base N_check_signed "check_signed" (defScope st_check_signed) fA cdv A outer sh H Ex) M_check_signed F (fun _ => Ex) (defBody st_check_signed) s_check_signed :=
    (dss_cons (ds_if (DW.pt (dw_or (dt_cmp op_gt s_gt (db call_len_seq s_len c.b_len boot_len (da_cons (de_var 0) da_nil)) (de_globE c.i_MOST_PIECES) (by first | exact nomark _ | rfl)) (dw_or1 (dt_cmp (op_neD (by exact ru G.room)) s_ne (dt call_tuple_ofF s_tuple c.b_tuple boot_tuple (da_cons (db cr_srt s_sorted c.b_sorted boot_sorted (da_cons (de_fn (has_unsigned c (k + 0)) G.room G.pass (da_cons (de_var 0) da_nil)) da_nil)) da_nil)) (de_fn (has_sorted_row c (k + 0)) G.room G.pass (da_cons (db call_len_seq s_len c.b_len boot_len (da_cons (de_var 0) da_nil)) da_nil)) (by first | exact nomark _ | rfl))))) (dss_one (ds_raise G rfl c.e_InvalidRow rfl)) dss_nil)
    (dss_one (ds_ret (de_var 0))))
theorem has_check_signed (c : Ct K mg) (k : Nat) : Has P w K mg base (k + 2) "check_signed" ["row"] m_check_signed := has_of c.f_check_signed sc_check_signed M_check_signed (by decide) s_check_signed (fun _ _ _ _ _ _ us hl => match us, hl with | [_], _ => rfl) (bo_check_signed c k)
theorem nd_signed_number_of : N_signed_number_of.Nodup := by decide +kernel
def M_signed_number_of : Nat → Bool := fun i => false
theorem sc_signed_number_of : FnScope N_signed_number_of ["word"] (defScope st_signed_number_of) := ⟨rfl, rfl, rfl, nd_signed_number_of, rfl, by decide +kernel, by decide +kernel⟩
theorem bo_signed_number_of (c : Ct K mg) (k : Nat) (fA : Addr) (cdv : Value) (A : Around) (outer : List Env) (sh : Shared) (H : Hp) (Ex : XK) (G : Gd (cxOf (L2.CX P w) P w K mg base N_signed_number_of "signed_number_of" (defScope st_signed_number_of) fA cdv A outer sh H Ex) (fun _ => Ex) (k + 1)) (F : Fx) :
    DSs (cxOf (L2.CX P w) P w K mg base N_signed_number_of "signed_number_of" (defScope st_signed_number_of) fA cdv A outer sh H Ex) M_signed_number_of F (fun _ => Ex) (defBody st_signed_number_of) s_signed_number_of :=
    (dss_cons (ds_if (dt_cmp (op_eqD (by exact ru G.room)) s_eq (de_ixS (de_var 0) de_int) de_str (by first | exact nomark _ | rfl)) (dss_one (ds_ret (de_un un_neg s_neg (de_fn (has_number_of c (k + 0)) G.room G.pass (da_cons (de_cutS (de_var 0) (do_some de_int) do_none) da_nil))))) dss_nil)
    (dss_one (ds_ret (de_fn (has_number_of c (k + 0)) G.room G.pass (da_cons (de_ifExp (dt_cmp (op_eqD (by exact ru G.room)) s_eq (de_ixS (de_var 0) de_int) de_str (by first | exact nomark _ | rfl)) (de_cutS (de_var 0) (do_some de_int) do_none) (de_var 0)) da_nil)))))
theorem has_signed_number_of (c : Ct K mg) (k : Nat) : Has P w K mg base (k + 2) "signed_number_of" ["word"] m_signed_number_of := has_of c.f_signed_number_of sc_signed_number_of M_signed_number_of (by decide) s_signed_number_of (fun _ _ _ _ _ _ us hl => match us, hl with | [_], _ => rfl) (bo_signed_number_of c k)
theorem nd_read_signed : N_read_signed.Nodup := by decide +kernel
def M_read_signed : Nat → Bool := fun i => false
theorem sc_read_signed : FnScope N_read_signed ["text"] (defScope st_read_signed) := ⟨rfl, rfl, rfl, nd_read_signed, rfl, by decide +kernel, by decide +kernel⟩
theorem bo_read_signed (c : Ct K mg) (k : Nat) (fA : Addr) (cdv : Value) (A : Around) (outer : List Env) (sh : Shared) (H : Hp) (Ex : XK) (G : Gd (cxOf (L2.CX P w) P w K mg base N_read_signed "read_signed" (defScope st_read_signed) fA cdv A outer sh H Ex) (fun _ => Ex) (k + 2)) (F : Fx) :
    DSs (cxOf (L2.CX P w) P w K mg base N_read_signed "read_signed" (defScope st_read_signed) fA cdv A outer sh H Ex) M_read_signed F (fun _ => Ex) (defBody st_read_signed) s_read_signed :=
    (dss_cons (ds_set (i := 1) rfl nd_read_signed (dt call_tuple_ofF s_tuple c.b_tuple boot_tuple (da_cons (de_lcX (own := [("word", 2)]) G (fun _ _ => rfl) rfl nd_read_signed (di_seq (de_fn (has_words_of c (k + 1)) G.room G.pass (da_cons (de_var 0) da_nil))) (blkOk_by (own := [("word", 2)]) (N := N_read_signed) (sc := defScope st_read_signed) (by decide +kernel)) (by decide) (fun _ _ _ _ _ _ => (dg_name 2 rfl nd_read_signed)) (fun _ _ _ _ _ p => (de_fn (has_signed_number_of c (k + 0)) (by exact G.room) p (da_cons (de_var 2) da_nil)))) da_nil)))
    (dss_one (ds_try G c.e_InvalidRow ⟨rfl, by decide⟩ (fun W pn xe G F => (dss_one (ds_ret (de_fn (has_check_signed c (k + 0)) G.room G.pass (da_cons (de_var 1) da_nil))))) (fun a oe pn F => (dss_one ds_bad)))))
theorem has_read_signed (c : Ct K mg) (k : Nat) : Has P w K mg base (k + 3) "read_signed" ["text"] m_read_signed := has_of c.f_read_signed sc_read_signed M_read_signed (by decide) s_read_signed (fun _ _ _ _ _ _ us hl => match us, hl with | [_], _ => rfl) (bo_read_signed c k)
theorem nd_write_row : N_write_row.Nodup := by decide +kernel
def M_write_row : Nat → Bool := fun i => false
theorem sc_write_row : FnScope N_write_row ["row"] (defScope st_write_row) := ⟨rfl, rfl, rfl, nd_write_row, rfl, by decide +kernel, by decide +kernel⟩
theorem bo_write_row (c : Ct K mg) (k : Nat) (fA : Addr) (cdv : Value) (A : Around) (outer : List Env) (sh : Shared) (H : Hp) (Ex : XK) (G : Gd (cxOf (L2.CX P w) P w K mg base N_write_row "write_row" (defScope st_write_row) fA cdv A outer sh H Ex) (fun _ => Ex) (k + 2)) (F : Fx) :
    DSs (cxOf (L2.CX P w) P w K mg base N_write_row "write_row" (defScope st_write_row) fA cdv A outer sh H Ex) M_write_row F (fun _ => Ex) (defBody st_write_row) s_write_row :=
    (dss_one (ds_ret (de_join de_str (de_lc (own := [("piece", 1)]) [1] rfl nd_write_row (di_seq (de_fn (has_check_row c (k + 0)) G.room G.pass (da_cons (de_var 0) da_nil))) (blkOk_by (own := [("piece", 1)]) (N := N_write_row) (sc := defScope st_write_row) (by decide +kernel)) (by decide) (fun _ _ _ _ _ _ => (dg_name 1 rfl nd_write_row)) (fun _ _ _ _ _ => dts_nil) (fun _ _ _ _ _ _ => (dt call_strA s_strA c.b_str boot_str (da_cons (de_var 1) da_nil)))))))
theorem has_write_row (c : Ct K mg) (k : Nat) : Has P w K mg base (k + 3) "write_row" ["row"] m_write_row := has_of c.f_write_row sc_write_row M_write_row (by decide) s_write_row (fun _ _ _ _ _ _ us hl => match us, hl with | [_], _ => rfl) (bo_write_row c k)
theorem nd_written_signed : N_written_signed.Nodup := by decide +kernel
def M_written_signed : Nat → Bool := fun i => false
theorem sc_written_signed : FnScope N_written_signed ["numbers"] (defScope st_written_signed) := ⟨rfl, rfl, rfl, nd_written_signed, rfl, by decide +kernel, by decide +kernel⟩
theorem bo_written_signed (c : Ct K mg) (k : Nat) (fA : Addr) (cdv : Value) (A : Around) (outer : List Env) (sh : Shared) (H : Hp) (Ex : XK) (G : Gd (cxOf (L2.CX P w) P w K mg base N_written_signed "written_signed" (defScope st_written_signed) fA cdv A outer sh H Ex) (fun _ => Ex) (k + 0)) (F : Fx) :
    DSs (cxOf (L2.CX P w) P w K mg base N_written_signed "written_signed" (defScope st_written_signed) fA cdv A outer sh H Ex) M_written_signed F (fun _ => Ex) (defBody st_written_signed) s_written_signed :=
    (dss_one (ds_ret (de_join de_str (de_lc (own := [("number", 1)]) [1] rfl nd_written_signed (di_seq (de_var 0)) (blkOk_by (own := [("number", 1)]) (N := N_written_signed) (sc := defScope st_written_signed) (by decide +kernel)) (by decide) (fun _ _ _ _ _ _ => (dg_name 1 rfl nd_written_signed)) (fun _ _ _ _ _ => dts_nil) (fun _ _ _ _ _ _ => (de_plus (de_var 1)))))))
theorem has_written_signed (c : Ct K mg) (k : Nat) : Has P w K mg base (k + 1) "written_signed" ["numbers"] m_written_signed := has_of c.f_written_signed sc_written_signed M_written_signed (by decide) s_written_signed (fun _ _ _ _ _ _ us hl => match us, hl with | [_], _ => rfl) (bo_written_signed c k)
theorem nd_write_signed : N_write_signed.Nodup := by decide +kernel
def M_write_signed : Nat → Bool := fun i => false
theorem sc_write_signed : FnScope N_write_signed ["row"] (defScope st_write_signed) := ⟨rfl, rfl, rfl, nd_write_signed, rfl, by decide +kernel, by decide +kernel⟩
theorem bo_write_signed (c : Ct K mg) (k : Nat) (fA : Addr) (cdv : Value) (A : Around) (outer : List Env) (sh : Shared) (H : Hp) (Ex : XK) (G : Gd (cxOf (L2.CX P w) P w K mg base N_write_signed "write_signed" (defScope st_write_signed) fA cdv A outer sh H Ex) (fun _ => Ex) (k + 2)) (F : Fx) :
    DSs (cxOf (L2.CX P w) P w K mg base N_write_signed "write_signed" (defScope st_write_signed) fA cdv A outer sh H Ex) M_write_signed F (fun _ => Ex) (defBody st_write_signed) s_write_signed :=
    (dss_one (ds_ret (de_fn (has_written_signed c (k + 1)) G.room G.pass (da_cons (de_fn (has_check_signed c (k + 0)) G.room G.pass (da_cons (de_var 0) da_nil)) da_nil))))
theorem has_write_signed (c : Ct K mg) (k : Nat) : Has P w K mg base (k + 3) "write_signed" ["row"] m_write_signed := has_of c.f_write_signed sc_write_signed M_write_signed (by decide) s_write_signed (fun _ _ _ _ _ _ us hl => match us, hl with | [_], _ => rfl) (bo_write_signed c k)
theorem nd_law : N_law.Nodup := by decide +kernel
def M_law : Nat → Bool := fun i => i == 5
theorem sc_law : FnScope N_law ["script"] (defScope st_law) := ⟨rfl, rfl, rfl, nd_law, rfl, by decide +kernel, by decide +kernel⟩
theorem bo_law (c : Ct K mg) (k : Nat) (fA : Addr) (cdv : Value) (A : Around) (outer : List Env) (sh : Shared) (H : Hp) (Ex : XK) (G : Gd (cxOf (L2.CX P w) P w K mg base N_law "law" (defScope st_law) fA cdv A outer sh H Ex) (fun _ => Ex) (k + 3)) (F : Fx) :
    DSs (cxOf (L2.CX P w) P w K mg base N_law "law" (defScope st_law) fA cdv A outer sh H Ex) M_law F (fun _ => Ex) (defBody st_law) s_law :=
    (dss_cons (ds_set (i := 1) rfl nd_law (de_fn (has__law_digits c (k + 2)) G.room G.pass (da_cons (de_fn (has__law_rich c (k + 2)) G.room G.pass (da_cons (de_fn (has__law_cell c (k + 2)) G.room G.pass (da_cons (de_var 0) (da_cons de_int da_nil))) da_nil)) (da_cons (de_lst (da_cons de_int (da_cons de_int da_nil))) da_nil))))
    (dss_cons (ds_set (i := 2) rfl nd_law (de_fn (has__law_row c (k + 1)) G.room G.pass (da_cons (de_fn (has__law_cell c (k + 2)) G.room G.pass (da_cons (de_var 0) (da_cons de_int da_nil))) (da_cons (de_ix (de_var 1) de_int) da_nil))))
    (dss_cons (ds_set (i := 3) rfl nd_law (de_fn (has__law_signed c (k + 0)) G.room G.pass (da_cons (de_fn (has__law_cell c (k + 2)) G.room G.pass (da_cons (de_var 0) (da_cons de_int da_nil))) (da_cons (de_ix (de_var 1) de_int) da_nil))))
    (dss_cons (ds_setLc (i := 4) (own := [("number", 10)]) [10] rfl rfl nd_law (di_seq (de_var 2)) (blkOk_by (own := [("number", 10)]) (N := N_law) (sc := defScope st_law) (by decide +kernel)) (by decide) (fun _ _ _ _ _ _ => (dg_name 10 rfl nd_law)) (fun _ _ _ _ _ => dts_nil) (fun _ _ _ _ _ _ => (dt call_strA s_strA c.b_str boot_str (da_cons (de_var 10) da_nil))) (sw_true rfl rfl rfl (by decide +kernel)))
    (dss_cons (ds_setOLc (i := 5) (own := [("number", 10)]) [10] rfl rfl nd_law (di_seq (de_var 3)) (blkOk_by (own := [("number", 10)]) (N := N_law) (sc := defScope st_law) (by decide +kernel)) (by decide) (fun _ _ _ _ _ _ => (dg_name 10 rfl nd_law)) (fun _ _ _ _ _ => dts_nil) (fun _ _ _ _ _ _ => (de_fn (has__law_written c (k + 2)) (by exact G.room) passF (da_cons (de_var 10) da_nil))) (sw_true rfl rfl rfl (by decide +kernel)))
    (dss_cons (ds_if (DW.pt (dw_or (dt_cmp (op_neD (by exact ru G.room)) s_ne (de_fn (has_write_row c (k + 0)) G.room G.pass (da_cons (de_var 2) da_nil)) (de_join de_str (de_var 4)) (by first | exact nomark _ | rfl)) (dw_or1 (dt_cmp (op_neD (by exact ru G.room)) s_ne (de_fn (has_write_signed c (k + 0)) G.room G.pass (da_cons (de_var 3) da_nil)) (de_join de_str (de_var 5)) (by first | exact nomark _ | rfl))))) (dss_one (ds_ret de_bl)) dss_nil)
    (dss_cons (ds_if (DW.pt (dw_or (dt_cmp (op_neD (by exact ru G.room)) s_ne (de_fn (has_read_row c (k + 0)) G.room G.pass (da_cons (de_fn (has_write_row c (k + 0)) G.room G.pass (da_cons (de_var 2) da_nil)) da_nil)) (de_var 2) (by first | exact nomark _ | rfl)) (dw_or1 (dt_cmp (op_neD (by exact ru G.room)) s_ne (de_fn (has_read_signed c (k + 0)) G.room G.pass (da_cons (de_fn (has_write_signed c (k + 0)) G.room G.pass (da_cons (de_var 3) da_nil)) da_nil)) (de_var 3) (by first | exact nomark _ | rfl))))) (dss_one (ds_ret de_bl)) dss_nil)
    (dss_cons (ds_set (i := 6) rfl nd_law (de_fn (has__law_rich c (k + 2)) G.room G.pass (da_cons (de_fn (has__law_cell c (k + 2)) G.room G.pass (da_cons (de_var 0) (da_cons de_int da_nil))) da_nil)))
    (dss_cons (ds_set (i := 7) rfl nd_law (de_fn (has_read_row c (k + 0)) G.room G.pass (da_cons (de_fn (has__law_loose c (k + 1)) G.room G.pass (da_cons (de_var 4) (da_cons (de_var 6) da_nil))) da_nil)))
    (dss_cons (ds_for G.own rfl (di_rg1 (by rfl) c.b_range (da_cons (db call_len_seq s_len c.b_len boot_len (da_cons (de_var 5) da_nil)) da_nil)) (dg_name 8 rfl nd_law) (dss_one (ds_if (DW.pt (dw_and (dt_cmp (op_eqD (by exact ru G.room)) s_eq (de_ixS (de_ix (de_var 5) (de_var 8)) de_int) de_str (by first | exact nomark _ | rfl)) (dw_and1 (dt_cmp (op_eqD (by exact ru G.room)) s_eq (de_op op_mod s_mod (dt call_int1 s_int c.b_int boot_int (da_cons (de_op op_fdivW s_div (de_var 6) (de_op op_addA s_add de_int (de_var 8))) da_nil)) de_int) de_int (by first | exact nomark _ | rfl))))) (dss_one (ds_put (i := 5) rfl (de_cutS (de_ix (de_var 5) (de_var 8)) (do_some de_int) do_none) (de_var 8))) dss_nil)))
    (dss_share 5 (dss_cons (ds_set (i := 9) rfl nd_law (de_fn (has_read_signed c (k + 0)) G.room G.pass (da_cons (de_fn (has__law_loose c (k + 1)) G.room G.pass (da_cons (de_var 5) (da_cons (de_op op_fdivW s_div (de_var 6) de_int) da_nil))) da_nil)))
    (dss_one (ds_ret (de_and (de_isi (p2 := ⟨0, 0, 0, 0⟩) (T := "tuple") rfl c.b_isinstance rfl c.b_tuple boot_tuple (de_var 7)) (de_and (de_cmp (op_eqD (by exact ru G.room)) s_eq (de_var 7) (de_var 2) (by first | exact nomark _ | rfl)) (de_and (de_isi (p2 := ⟨0, 0, 0, 0⟩) (T := "tuple") rfl c.b_isinstance rfl c.b_tuple boot_tuple (de_var 9)) (de_one (de_cmp (op_eqD (by exact ru G.room)) s_eq (de_var 9) (de_var 3) (by first | exact nomark _ | rfl))))))))))))))))))))
theorem has_law (c : Ct K mg) (k : Nat) : Has P w K mg base (k + 4) "law" ["script"] m_law := has_of c.f_law sc_law M_law (by decide) s_law (fun _ _ _ _ _ _ us hl => match us, hl with | [_], _ => rfl) (bo_law c k)
end
end Gn

set_option Elab.async false
set_option linter.all false
set_option maxRecDepth 100000
set_option maxHeartbeats 0
namespace Gn
open PySem PySem.Spec PyProof.Rows L2 Pu
def fns : List He.DefD := [⟨("_law_cell", none), "_law_cell", "_law_cell", defArgs st__law_cell, defBody st__law_cell, defScope st__law_cell, [], []⟩, ⟨("_law_digits", none), "_law_digits", "_law_digits", defArgs st__law_digits, defBody st__law_digits, defScope st__law_digits, [], []⟩, ⟨("_law_blank", none), "_law_blank", "_law_blank", defArgs st__law_blank, defBody st__law_blank, defScope st__law_blank, [], []⟩, ⟨("_law_loose", none), "_law_loose", "_law_loose", defArgs st__law_loose, defBody st__law_loose, defScope st__law_loose, [], []⟩, ⟨("_law_rich", none), "_law_rich", "_law_rich", defArgs st__law_rich, defBody st__law_rich, defScope st__law_rich, [], []⟩, ⟨("_law_row", none), "_law_row", "_law_row", defArgs st__law_row, defBody st__law_row, defScope st__law_row, [], []⟩, ⟨("_law_signed", none), "_law_signed", "_law_signed", defArgs st__law_signed, defBody st__law_signed, defScope st__law_signed, [], []⟩, ⟨("_law_written", none), "_law_written", "_law_written", defArgs st__law_written, defBody st__law_written, defScope st__law_written, [], []⟩, ⟨("sorted_row", none), "sorted_row", "sorted_row", defArgs st_sorted_row, defBody st_sorted_row, defScope st_sorted_row, [], []⟩, ⟨("check_row", none), "check_row", "check_row", defArgs st_check_row, defBody st_check_row, defScope st_check_row, [], []⟩, ⟨("number_of", none), "number_of", "number_of", defArgs st_number_of, defBody st_number_of, defScope st_number_of, [], []⟩, ⟨("words_of", none), "words_of", "words_of", defArgs st_words_of, defBody st_words_of, defScope st_words_of, [], []⟩, ⟨("read_row", none), "read_row", "read_row", defArgs st_read_row, defBody st_read_row, defScope st_read_row, [], []⟩, ⟨("unsigned", none), "unsigned", "unsigned", defArgs st_unsigned, defBody st_unsigned, defScope st_unsigned, [], []⟩, ⟨("check_signed", none), "check_signed", "check_signed", defArgs st_check_signed, defBody st_check_signed, defScope st_check_signed, [], []⟩, ⟨("signed_number_of", none), "signed_number_of", "signed_number_of", defArgs st_signed_number_of, defBody st_signed_number_of, defScope st_signed_number_of, [], []⟩, ⟨("read_signed", none), "read_signed", "read_signed", defArgs st_read_signed, defBody st_read_signed, defScope st_read_signed, [], []⟩, ⟨("write_row", none), "write_row", "write_row", defArgs st_write_row, defBody st_write_row, defScope st_write_row, [], []⟩, ⟨("written_signed", none), "written_signed", "written_signed", defArgs st_written_signed, defBody st_written_signed, defScope st_written_signed, [], []⟩, ⟨("write_signed", none), "write_signed", "write_signed", defArgs st_write_signed, defBody st_write_signed, defScope st_write_signed, [], []⟩, ⟨("law", none), "law", "law", defArgs st_law, defBody st_law, defScope st_law, [], []⟩]
def fas : List He.Fa := [.glo "_law_cell", .glo "_law_digits", .glo "_law_blank", .glo "_law_loose", .glo "_law_rich", .glo "_law_row", .glo "_law_signed", .glo "_law_written", .glo "sorted_row", .glo "check_row", .glo "number_of", .glo "words_of", .glo "read_row", .glo "unsigned", .glo "check_signed", .glo "signed_number_of", .glo "read_signed", .glo "write_row", .glo "written_signed", .glo "write_signed", .glo "law", .free "abs", .free "all", .free "int", .free "isinstance", .free "len", .free "range", .free "sorted", .free "str", .free "tuple", .int "MOST_DIGITS" 300, .int "MOST_PIECES" 40, .str "DIGITS" "0123456789", .glo "InvalidRow", .exc "InvalidRow", .exm "InvalidRow" "InvalidRow" true, .glo "InvalidText", .exc "InvalidText", .exm "InvalidText" "InvalidText" true]
def fxs : List Fx2 := []
theorem ct_of {K : PySem.W.Frag} {mg : Str → Option Value} {h : Heap} (X : K.In h) (G : h.Ns mainGlobals mg) (c : SaysP fas fxs fns K) : Ct K mg where
  f__law_cell := fnAt_of X G c 0 0
  f__law_digits := fnAt_of X G c 1 1
  f__law_blank := fnAt_of X G c 2 2
  f__law_loose := fnAt_of X G c 3 3
  f__law_rich := fnAt_of X G c 4 4
  f__law_row := fnAt_of X G c 5 5
  f__law_signed := fnAt_of X G c 6 6
  f__law_written := fnAt_of X G c 7 7
  f_sorted_row := fnAt_of X G c 8 8
  f_check_row := fnAt_of X G c 9 9
  f_number_of := fnAt_of X G c 10 10
  f_words_of := fnAt_of X G c 11 11
  f_read_row := fnAt_of X G c 12 12
  f_unsigned := fnAt_of X G c 13 13
  f_check_signed := fnAt_of X G c 14 14
  f_signed_number_of := fnAt_of X G c 15 15
  f_read_signed := fnAt_of X G c 16 16
  f_write_row := fnAt_of X G c 17 17
  f_written_signed := fnAt_of X G c 18 18
  f_write_signed := fnAt_of X G c 19 19
  f_law := fnAt_of X G c 20 20
  b_abs := He.free_ok X G (c.d.fact 21 (f := .free "abs"))
  b_all := He.free_ok X G (c.d.fact 22 (f := .free "all"))
  b_int := He.free_ok X G (c.d.fact 23 (f := .free "int"))
  b_isinstance := He.free_ok X G (c.d.fact 24 (f := .free "isinstance"))
  b_len := He.free_ok X G (c.d.fact 25 (f := .free "len"))
  b_range := He.free_ok X G (c.d.fact 26 (f := .free "range"))
  b_sorted := He.free_ok X G (c.d.fact 27 (f := .free "sorted"))
  b_str := He.free_ok X G (c.d.fact 28 (f := .free "str"))
  b_tuple := He.free_ok X G (c.d.fact 29 (f := .free "tuple"))
  i_MOST_DIGITS := He.int_ok X G (c.d.fact 30 (f := .int "MOST_DIGITS" 300))
  i_MOST_PIECES := He.int_ok X G (c.d.fact 31 (f := .int "MOST_PIECES" 40))
  z_DIGITS := He.str_ok X G (c.d.fact 32 (f := .str "DIGITS" "0123456789"))
  e_InvalidRow := errC_of X G (c.d.fact 33 (f := .glo "InvalidRow")) (c.d.fact 34 (f := .exc "InvalidRow")) (c.d.fact 35 (f := .exm "InvalidRow" "InvalidRow" true))
  e_InvalidText := errC_of X G (c.d.fact 36 (f := .glo "InvalidText")) (c.d.fact 37 (f := .exc "InvalidText")) (c.d.fact 38 (f := .exm "InvalidText" "InvalidText" true))
abbrev R : PySem.W.OpenRow := PySem.W.OpenLaw.row PySem.Challenge.rw_turnedrows_k48_rows_written_and_read
abbrev hk : PySem.W.Hook := hookP 4 fas fxs fns
def ob (s : PySem.W.SharedT) : He.AlD := obsPG 4 fas fxs fns (HandSHeadRun.getT s)
theorem ob_eq (s : PySem.W.SharedT) : ob s = hk.obs s.abs := obsPG_eq (HandSHeadRun.getT_eq s)
def loose : List Str := "TurnedrowsError" :: "InvalidRow" :: "InvalidText" :: "sorted_row" :: "check_row" :: "unsigned" :: "check_signed" :: "written_signed" :: "write_row" :: "write_signed" :: "words_of" :: "number_of" :: "signed_number_of" :: "read_row" :: "read_signed" :: "_law_cell" :: "_law_digits" :: "_law_rich" :: "_law_row" :: "_law_signed" :: "_law_written" :: "_law_blank" :: "_law_loose" :: "MOST_PIECES" :: "MOST_DIGITS" :: "DIGITS" :: "__name__" :: []
theorem run (w : World) : HandSHeadRun.RunEq R (PySem.W.view R.prog [31]) hk ob 4000 loose w := by
  intro os
  kernel_rfl
end Gn

set_option Elab.async false
set_option linter.all false
set_option maxRecDepth 100000
set_option maxHeartbeats 2000000
namespace Gn
open PySem PySem.Spec PyProof.Rows L2 Pu
/-! ### the law's own helpers -/
def cellZ (ns : List Int) (k : Nat) : Int := (ns[k]?).getD 0
theorem m_cell (ns : List Int) (k : Nat) : m__law_cell [scrD ns, .int (k : Int)] = .ok (.int (cellZ ns k)) := by
  unfold m__law_cell
  rw [run2]
  unfold s__law_cell
  by_cases h : k < ns.length
  · have e : atZ ns (k : Int) = some ns[k] := by rw [atZ_nat h, List.getElem?_eq_getElem h]
    simp [e, h, cellZ]
  · simp [h, cellZ]
def richZ (c : Int) : Int := if 1000000000000000000 ≤ c then c else (c * 48271 + 11) % 2147483647 * 2147483629 + ((c * 48271 + 11) % 2147483647 * 69621 + c / 7 + 5) % 2147483629
theorem m_rich (c : Int) : m__law_rich [.int c] = .ok (.int (richZ c)) := by
  unfold m__law_rich
  rw [run1]
  unfold s__law_rich
  have e1 : oPow (.int 10) (.int 18) = some (.int 1000000000000000000) := rfl
  have e2 : ∀ i : Int, oMul (.int i) (.int 48271) = some (.int (i * 48271)) := fun i => oMul_r (by decide)
  have e3 : ∀ i : Int, oMul (.int i) (.int 69621) = some (.int (i * 69621)) := fun i => oMul_r (by decide)
  have e4 : ∀ i : Int, oMul (.int i) (.int 2147483629) = some (.int (i * 2147483629)) := fun i => oMul_r (by decide)
  have e5 : ∀ i : Int, oDiv (.int i) (.int 7) = some (.int (i / 7)) := fun i => oDiv_p (by decide) (by decide)
  have e6 : ∀ i : Int, oMod (.int i) (.int 2147483647) = some (.int (i % 2147483647)) := fun i => oMod_p (by decide)
  have e7 : ∀ i : Int, oMod (.int i) (.int 2147483629) = some (.int (i % 2147483629)) := fun i => oMod_p (by decide)
  unfold richZ
  by_cases h : 1000000000000000000 ≤ c
  · simp [e1, h]
  · simp [e1, e2, e3, e4, e5, e6, e7, h]
/-- the digits of c -/
def digZ : Int → List Int → List Int
  | _, [] => []
  | c, z :: zs => c % z :: digZ (c / z) zs
theorem digZ_length : ∀ (zs : List Int) (c : Int), (digZ c zs).length = zs.length
  | [], _ => rfl
  | z :: zs, c => by
    unfold digZ
    rw [List.length_cons, List.length_cons, digZ_length zs]
theorem m_digits (c : Int) (zs : List Int) (hz : ∀ z ∈ zs, 0 < z ∧ z < 1000) (hl : zs.length ≤ 100) : m__law_digits [.int c, lI zs] = .ok (lI (digZ c zs)) := by
  unfold m__law_digits
  rw [run2]
  unfold s__law_digits
  have key : ∀ (zs : List Int) (c : Int) (x : PyData) (acc : List Int) (kk : Option PyData), (∀ z ∈ zs, 0 < z ∧ z < 1000) → acc.length + zs.length ≤ 100 →
      ∃ c' kk', sLoop (gSlot 3) (sSeq (sApp 2 false (r2 oMod (rB bInt (aCons (rVar 0) aNil)) (rVar 3))) (sSet 0 false (r2 oDiv (rVar 0) (rVar 3)))) (zs.map PyData.int) [some (.int c), some x, some (lI acc), kk] = .nx [some (.int c'), some x, some (lI (acc ++ digZ c zs)), kk'] := by
    intro zs
    induction zs with
    | nil =>
      intro c x acc kk _ _
      exact ⟨c, kk, by simp [sLoop, digZ]⟩
    | cons z zs ih =>
      intro c x acc kk h hl
      obtain ⟨h1, h2⟩ := h z List.mem_cons_self
      rw [List.length_cons] at hl
      obtain ⟨c', kk', e⟩ := ih (c / z) x (acc ++ [c % z]) (some (.int z)) (fun z' hz' => h z' (List.mem_cons_of_mem _ hz')) (by rw [List.length_append]; simp; omega)
      refine ⟨c', kk', ?_⟩
      have e1 : oMod (.int c) (.int z) = some (.int (c % z)) := oMod_p h1
      have e2 : oDiv (.int c) (.int z) = some (.int (c / z)) := oDiv_p h1 (by omega)
      rw [List.map_cons]
      unfold sLoop
      simp [gSlot, e1, e2, appR_i (show acc.length < 10000 by omega)]
      rw [e]
      simp [digZ]
  obtain ⟨c', kk', e⟩ := key zs c (lI zs) [] none hz (by simpa using hl)
  have e0 : mkL [] = .ok (lI []) := mkL_i (ns := []) (by simp)
  simp [e0, e]
/-- a row of n pieces that the law makes -/
theorem m_row (c : Int) (n : Nat) (hn : n ≤ 1000) : ∃ r : List Int, m__law_row [.int c, .int (n : Int)] = .ok (tI r) ∧ r.Perm (upI 1 n) := by
  unfold m__law_row
  rw [run2]
  unfold s__law_row
  have e : rLc (iR1 (aCons (rVar 1) aNil)) [5] (gSlot 5) yesR (r2 oAdd (rVar 5) (rC (.int 1))) [some (.int c), some (.int (n : Int)), none, none, none, none] = .ok (lI ((upI 0 n).map (· + 1))) := by
    refine lc_i (ns := upI 0 n) ?_ (by rw [upI_length]; omega) fun k _ => ?_
    · simp
      exact rg1_n (by omega)
    · simp
  have e2 : (upI 0 n).map (· + 1) = upI 1 n := by
    unfold upI
    rw [List.map_map]
    refine List.map_congr_left fun k _ => ?_
    simp
    omega
  rw [e2] at e
  obtain ⟨ρ', e3, hI⟩ := loop_inv (g := gSlot 5) (body := sSeq (sAppPop 4 2 (r2 oMod (rB bInt (aCons (rVar 3) aNil)) (r2 oSub (rVar 1) (rVar 5)))) (sSet 3 false (r2 oDiv (rVar 3) (r2 oSub (rVar 1) (rVar 5)))))
    (fun k ρ => ∃ l r x kk, ρ = [some (.int c), some (.int (n : Int)), some (lI l), some (.int x), some (lI r), kk] ∧ (r ++ l).Perm (upI 1 n) ∧ r.length = k ∧ l.length + k = n)
    ((upI 0 n).map PyData.int) 0 [some (.int c), some (.int (n : Int)), some (lI (upI 1 n)), some (.int (richZ c)), some (lI []), none] ⟨upI 1 n, [], richZ c, none, rfl, .refl _, rfl, by rw [upI_length]; rfl⟩ (by
      rintro k d ρ hd ⟨l, r, x, kk, rfl, hp, hr, hl⟩
      rw [Nat.zero_add] at hr hl ⊢
      rw [List.getElem?_map] at hd
      obtain ⟨y, hy, rfl⟩ := Option.map_eq_some_iff.mp hd
      have hk : k < n := by
        have := getSome hy
        rwa [upI_length] at this
      have hy2 : y = k := by
        unfold upI at hy
        rw [List.getElem?_map, List.getElem?_range hk] at hy
        have q : (0 : Int) + (k : Int) = y := Option.some.inj hy
        omega
      subst hy2
      refine ⟨_, rfl, ?_⟩
      have hpos : (0 : Int) < n - k := by omega
      have em : oMod (.int x) (.int ((n : Int) - k)) = some (.int (x % (n - k))) := oMod_p hpos
      have ed : oDiv (.int x) (.int ((n : Int) - k)) = some (.int (x / (n - k))) := oDiv_p hpos (by omega)
      have h0 := Int.emod_nonneg x (show (n : Int) - k ≠ 0 by omega)
      have h1 := Int.emod_lt_of_pos x hpos
      have hlen : (x % ((n : Int) - k)).toNat < l.length := by omega
      refine ⟨[some (.int c), some (.int (n : Int)), some (lI (l.eraseIdx (x % ((n : Int) - k)).toNat)), some (.int (x / (n - k))), some (lI (r ++ [l[(x % ((n : Int) - k)).toNat]])), some (.int k)], ?_, ?_⟩
      · rw [ap_sSeq, appPop_i (i := 4) (j := 2) (ns := r) (ms := l) (z := x % (n - k)) (x := l[(x % ((n : Int) - k)).toNat]) (by decide) (by simp) (by simp) (by simp [em]) h0 (by omega) (List.getElem?_eq_getElem hlen) (by omega) (by omega)]
        simp [ed]
      · refine ⟨_, _, _, _, rfl, ?_, by rw [List.length_append, hr]; rfl, by rw [List.length_eraseIdx, if_pos hlen]; omega⟩
        refine List.Perm.trans ?_ hp
        rw [List.append_assoc]
        refine List.Perm.append_left r ?_
        exact erase_perm l _ hlen)
  obtain ⟨l, r, x, kk, rfl, hp, hr, hl⟩ := hI
  rw [List.length_map, upI_length, Nat.zero_add] at hr hl
  have l0 : l = [] := List.length_eq_zero_iff.mp (by omega)
  subst l0
  rw [List.append_nil] at hp
  refine ⟨r, ?_, hp⟩
  refine go (ρ' := [some (.int c), some (.int (n : Int)), some (lI (upI 1 n)), none, none, none]) (by simp [e]) ?_
  refine go (ρ' := [some (.int c), some (.int (n : Int)), some (lI (upI 1 n)), some (.int (richZ c)), none, none]) (by simp [m_rich]) ?_
  refine go (ρ' := [some (.int c), some (.int (n : Int)), some (lI (upI 1 n)), some (.int (richZ c)), some (lI []), none]) (by simp) ?_
  refine go (ρ' := [some (.int c), some (.int (n : Int)), some (lI []), some (.int x), some (lI r), kk]) ?_ (by simp)
  simp [rg1_n (show n < 2 ^ 62 by omega)]
  simpa using e3
theorem up_sorted (a : Int) (n : Nat) : (upI a n).Pairwise (· ≤ ·) := by
  unfold upI
  refine List.pairwise_map.mpr ?_
  exact List.pairwise_lt_range.imp fun h => by omega
theorem m_sorted_n (n : Nat) (h : n ≤ 1000) : m_sorted_row [.int (n : Int)] = .ok (tI (upI 1 n)) := by
  unfold m_sorted_row
  rw [run1]
  unfold s_sorted_row
  have e : tupRg (.int 1) (.int ((n : Int) + 1)) = some (tI (upI 1 n)) := by
    rw [tupRg_i]
    · rw [show ((n : Int) + 1 - 1).toNat = n by omega]
    · unfold rgOk
      simp
      omega
  simp [e]
theorem mod_b (c : Int) {z : Int} (h : 0 < z) : 0 ≤ c % z ∧ c % z < z := ⟨Int.emod_nonneg c (by omega), Int.emod_lt_of_pos c h⟩
/-! ### plain rows -/
/-- a plain row -/
def isRow (r : List Int) : Prop := r.length ≤ 40 ∧ srtZ r = upI 1 r.length
instance (r : List Int) : Decidable (isRow r) := by
  unfold isRow
  infer_instance
theorem row_perm {r : List Int} {n : Nat} (h : r.Perm (upI 1 n)) (hn : n ≤ 40) : isRow r ∧ r.length = n := by
  have hl : r.length = n := by rw [h.length_eq, upI_length]
  refine ⟨⟨by omega, ?_⟩, hl⟩
  rw [hl]
  exact (srtZ_uniq h.symm (up_sorted 1 n)).symm
theorem isRow_perm {r : List Int} (h : isRow r) : r.Perm (upI 1 r.length) := by
  rw [← h.2]
  exact (srtZ_perm r).symm
theorem m_check (r : List Int) (h : r.length ≤ 1000) : m_check_row [tI r] = if isRow r then .ok (tI r) else .ex "InvalidRow" := by
  unfold m_check_row
  rw [run1]
  unfold s_check_row isRow
  by_cases h1 : r.length ≤ 40
  · have h1' : ¬ (40 : Int) < r.length := by omega
    by_cases h2 : srtZ r = upI 1 r.length
    · simp [m_sorted_n r.length h, h1, h1', h2]
    · simp [m_sorted_n r.length h, h1, h1', h2]
  · have h1' : (40 : Int) < r.length := by omega
    simp [h1, h1']
/-! ### signed rows -/
def absZ (i : Int) : Int := if i < 0 then -i else i
def isSgn (r : List Int) : Prop := r.length ≤ 40 ∧ srtZ (r.map absZ) = upI 1 r.length
instance (r : List Int) : Decidable (isSgn r) := by
  unfold isSgn
  infer_instance
theorem sgn_perm {r : List Int} {n : Nat} (h : (r.map absZ).Perm (upI 1 n)) : r.length = n ∧ srtZ (r.map absZ) = upI 1 n := by
  have hl : r.length = n := by rw [← List.length_map (f := absZ), h.length_eq, upI_length]
  exact ⟨hl, (srtZ_uniq h.symm (up_sorted 1 n)).symm⟩
theorem isSgn_of {r : List Int} {n : Nat} (h : (r.map absZ).Perm (upI 1 n)) (hn : n ≤ 40) : isSgn r := by
  obtain ⟨h1, h2⟩ := sgn_perm h
  exact ⟨by omega, by rw [h1]; exact h2⟩
theorem m_uns (r : List Int) (h : r.length ≤ 1000) : m_unsigned [tI r] = .ok (tI (r.map absZ)) := by
  unfold m_unsigned
  rw [run1]
  unfold s_unsigned
  have e : rLc (iOf itS (rVar 0)) [1] (gSlot 1) yesR (rB bAbs (aCons (rVar 1) aNil)) [some (tI r), none] = .ok (lI (r.map absZ)) :=
    lc_i (ns := r) (by simp) (by omega) fun k _ => by simp [absZ]
  simp [e]
theorem m_cs (r : List Int) (h : r.length ≤ 1000) : m_check_signed [tI r] = if isSgn r then .ok (tI r) else .ex "InvalidRow" := by
  unfold m_check_signed
  rw [run1]
  unfold s_check_signed isSgn
  by_cases h1 : r.length ≤ 40
  · have h1' : ¬ (40 : Int) < r.length := by omega
    by_cases h2 : srtZ (r.map absZ) = upI 1 r.length
    · simp [m_uns r h, m_sorted_n r.length h, h1, h1', h2]
    · simp [m_uns r h, m_sorted_n r.length h, h1, h1', h2]
  · have h1' : (40 : Int) < r.length := by omega
    simp [h1, h1']
theorem m_sgn (c : Int) (n : Nat) (hn : n ≤ 1000) : ∃ r : List Int, m__law_signed [.int c, .int (n : Int)] = .ok (tI r) ∧ (r.map absZ).Perm (upI 1 n) := by
  obtain ⟨q, eq, pq⟩ := m_row (c / 3) n hn
  have hlq : q.length = n := by rw [pq.length_eq, upI_length]
  have pos : ∀ x ∈ q, 0 < x := fun x hx => by
    have := pq.mem_iff.mp hx
    unfold upI at this
    obtain ⟨k, _, rfl⟩ := List.mem_map.mp this
    omega
  unfold m__law_signed
  rw [run2]
  unfold s__law_signed
  have e3 : ∀ i : Int, oDiv (.int i) (.int 3) = some (.int (i / 3)) := fun i => oDiv_p (by decide) (by decide)
  have e2 : ∀ i : Int, oDiv (.int i) (.int 2) = some (.int (i / 2)) := fun i => oDiv_p (by decide) (by decide)
  have f3 : ∀ i : Int, oMod (.int i) (.int 3) = some (.int (i % 3)) := fun i => oMod_p (by decide)
  have f2 : ∀ i : Int, oMod (.int i) (.int 2) = some (.int (i % 2)) := fun i => oMod_p (by decide)
  obtain ⟨s0, hs0⟩ : ∃ s0 : Int, (sIf (asB (r2 oEq (r2 oMod (rB bInt (aCons (rVar 0) aNil)) (rC (.int 3))) (rC (.int 0)))) (sSet 2 false (rC (.int 0))) sNil) [some (.int c), some (.int (n : Int)), some (.int (richZ (c / 3 + 5))), none, none] = .nx [some (.int c), some (.int (n : Int)), some (.int s0), none, none] := by
    by_cases h : c % 3 = 0
    · exact ⟨0, by simp [f3, h]⟩
    · exact ⟨richZ (c / 3 + 5), by simp [f3, h]⟩
  obtain ⟨ρ', e4, hI⟩ := loop_inv (g := gSlot 4) (body := sSeq (sApp 3 false (r2 oIx (rLst (aCons (rVar 4) (aCons (r1 oNeg (rVar 4)) aNil))) (r2 oMod (rB bInt (aCons (rVar 2) aNil)) (rC (.int 2))))) (sSet 2 false (r2 oDiv (rVar 2) (rC (.int 2)))))
    (fun k ρ => ∃ (r : List Int) (x : Int) (kk : Option PyData), ρ = [some (.int c), some (.int (n : Int)), some (.int x), some (lI r), kk] ∧ r.map absZ = q.take k)
    (q.map PyData.int) 0 [some (.int c), some (.int (n : Int)), some (.int s0), some (lI []), none] ⟨[], s0, none, rfl, rfl⟩ (by
      rintro k d ρ hd ⟨r, x, kk, rfl, hr⟩
      rw [Nat.zero_add] at hr ⊢
      rw [List.getElem?_map] at hd
      obtain ⟨y, hy, rfl⟩ := Option.map_eq_some_iff.mp hd
      have hk := getSome hy
      have hlr : r.length = k := by
        have := congrArg List.length hr
        rw [List.length_map, List.length_take] at this
        omega
      have ypos : 0 < y := pos y (List.mem_of_getElem? hy)
      have b := mod_b x (z := 2) (by decide)
      obtain ⟨z, ez, ez2⟩ := atZ_p (ns := [y, -y]) b.1 (by simp; omega)
      have hz : z ∈ [y, -y] := List.mem_of_getElem? ez2
      have az : absZ z = y := by
        simp at hz
        unfold absZ
        rcases hz with rfl | rfl
        · rw [if_neg (by omega)]
        · rw [if_pos (by omega)]
          omega
      refine ⟨_, rfl, [some (.int c), some (.int (n : Int)), some (.int (x / 2)), some (lI (r ++ [z])), some (.int y)], ?_, r ++ [z], x / 2, some (.int y), rfl, ?_⟩
      · simp [f2, ez, e2, appR_i (show r.length < 10000 by omega)]
      · rw [List.map_append, hr, List.take_add_one, hy]
        simp [az])
  obtain ⟨r, x, kk, rfl, hr⟩ := hI
  rw [List.length_map, Nat.zero_add, List.take_length] at hr
  refine ⟨r, ?_, by rw [hr]; exact pq⟩
  refine go (ρ' := [some (.int c), some (.int (n : Int)), some (.int (richZ (c / 3 + 5))), none, none]) (by simp [e3, m_rich]) ?_
  refine go hs0 ?_
  refine go (ρ' := [some (.int c), some (.int (n : Int)), some (.int s0), some (lI []), none]) (by simp) ?_
  refine go (ρ' := [some (.int c), some (.int (n : Int)), some (.int x), some (lI r), kk]) ?_ (by simp)
  simp [e3, eq]
  simpa using e4
open PySem.NumText
theorem digs_cps : ("0123456789" : Str).cps.toList = [48, 49, 50, 51, 52, 53, 54, 55, 56, 57] := by decide
theorem mem_digs (c : Nat) : c ∈ ("0123456789" : Str).cps.toList ↔ 48 ≤ c ∧ c ≤ 57 := by
  rw [digs_cps]
  simp
  omega
theorem all_digs (x : Str) (hl : x.cps.toList.length ≤ 600) : asB (rB bAll (aCons (rLc (iOf itC (rVar 0)) [1] (gSlot 1) yesR (r2 (oInS false) (rVar 1) (rC (.str "0123456789")))) aNil)) [some (.str x), none] = .ok (x.cps.toList.all fun c => decide (48 ≤ c ∧ c ≤ 57)) := by
  have l1 : rLc (iOf itC (rVar 0)) [1] (gSlot 1) yesR (r2 (oInS false) (rVar 1) (rC (.str "0123456789"))) [some (.str x), none] = .ok (.list (x.cps.toList.map fun c => .bool (decide (48 ≤ c ∧ c ≤ 57)))) := by
    refine lc_gen (as := x.cps.toList) (e := chD) (h := fun c => .bool (decide (48 ≤ c ∧ c ≤ 57))) (ρ1 := fun c => [some (.str x), some (chD c)]) ?_ (by omega) (fun c _ => rfl) fun c _ => ?_
    · rw [ap_iOf, ap_var]
      rfl
    · have oi : oInS false (chD c) (.str "0123456789") = some (.bool (decide (48 ≤ c ∧ c ≤ 57))) := by
        show some (PyData.bool (decide (c ∈ ("0123456789" : Str).cps.toList))) = _
        rw [decide_eq_decide.mpr (mem_digs c)]
      generalize decide (48 ≤ c ∧ c ≤ 57) = D at oi ⊢
      simp [oi]
  have e2 : (x.cps.toList.map fun c => PyData.bool (decide (48 ≤ c ∧ c ≤ 57))) = (x.cps.toList.map fun c => decide (48 ≤ c ∧ c ≤ 57)).map PyData.bool := by
    rw [List.map_map]
    rfl
  rw [ap_asB, ap_B, ap_cons, l1, re_ok, ap_nil, re_ok, re_ok, e2, bAll_b, List.all_map]
  rfl

/-- the text of a number -/
def numOk (x : Str) : Bool := decide (1 ≤ x.cps.size ∧ x.cps.size ≤ 300) && ((x.cps.toList.all fun c => decide (48 ≤ c ∧ c ≤ 57)) && !(decide (x.cps.toList.head? = some 48) && decide (x ≠ "0")))
theorem m_num (x : Str) (hx : SeqAt.shaped (.str x) = true) (hl : x.cps.size ≤ 600) : m_number_of [.str x] = if numOk x = true then .ok (.int ((digitsVal x.cps.toList : Nat) : Int)) else .ex "InvalidText" := by
  have ad := all_digs x (by rw [Array.length_toList]; exact hl)
  have xl : x.length = x.cps.size := rfl
  have bl : bLenS [.str x] = some (.int (x.cps.size : Int)) := by
    show (if okLen x.length = true then some (PyData.int x.length) else none) = _
    rw [if_pos (show okLen x.length = true from decide_eq_true (by omega)), xl]
  unfold m_number_of
  rw [run1]
  unfold s_number_of number_of_s0 number_of_s1 numOk
  generalize hA : (asB (rB bAll (aCons (rLc (iOf itC (rVar 0)) [1] (gSlot 1) yesR (r2 (oInS false) (rVar 1) (rC (.str "0123456789")))) aNil))) = AA at ad ⊢
  by_cases c1 : 1 ≤ x.cps.size ∧ x.cps.size ≤ 300
  · rw [decide_eq_true c1, Bool.true_and]
    have i1 : (1 : Int) ≤ (x.cps.size : Int) := by omega
    have i2 : (x.cps.size : Int) ≤ 300 := by omega
    cases c2 : (x.cps.toList.all fun c => decide (48 ≤ c ∧ c ≤ 57)) with
    | false =>
      rw [c2] at ad
      rw [Bool.false_and, if_neg (by decide)]
      simp [bl, i1, i2, ad]
    | true =>
      rw [c2] at ad
      rw [Bool.true_and]
      refine go (ρ' := [some (.str x), none]) (by simp [bl, i1, i2, ad]) ?_
      obtain ⟨c, cs, ec⟩ : ∃ c cs, x.cps.toList = c :: cs := by
        match e : x.cps.toList with
        | [] =>
          have : x.cps.size = 0 := by
            rw [← Array.length_toList, e]
            rfl
          omega
        | c :: cs => exact ⟨c, cs, rfl⟩
      have ix : oIxS (.str x) (.int 0) = some (chD c) := by
        show (if okLen x.length = true then (atI x.cps.toList 0).map (fun c => PyData.str ⟨#[c]⟩) else none) = _
        rw [if_pos (show okLen x.length = true from decide_eq_true (by omega)), ec]
        have : atI (c :: cs) 0 = some c := by
          unfold atI ixN
          rw [if_pos (by decide), if_pos (by simp)]
          rfl
        rw [this]
        rfl
      have e0 : oEq (chD c) (.str "0") = some (.bool (decide (c = 48))) := by
        have cb : 48 ≤ c ∧ c ≤ 57 := of_decide_eq_true (List.all_eq_true.mp c2 c (by rw [ec]; exact .head _))
        have sc : SeqAt.shaped (chD c) = true := by
          have : c = 48 ∨ c = 49 ∨ c = 50 ∨ c = 51 ∨ c = 52 ∨ c = 53 ∨ c = 54 ∨ c = 55 ∨ c = 56 ∨ c = 57 := by omega
          rcases this with rfl | rfl | rfl | rfl | rfl | rfl | rfl | rfl | rfl | rfl <;> decide +kernel
        refine (oEq_s (a := ⟨#[c]⟩) sc (shp _)).trans ?_
        refine congrArg (fun b => some (PyData.bool b)) ?_
        by_cases q : c = 48
        · rw [q]
          decide
        · rw [decide_eq_false q]
          refine beq_false_of_ne fun z => q ?_
          have := congrArg (fun s : Str => s.cps.toList.head?) z
          have : some c = some 48 := this
          injection this
      have e1 : oNe (.str x) (.str "0") = some (.bool (decide (x ≠ "0"))) := by
        rw [oNe_s hx (shp _)]
        refine congrArg (fun b => some (PyData.bool b)) ?_
        by_cases q : x = "0"
        · rw [q]
          decide
        · rw [decide_eq_true q]
          exact bne_iff_ne.mpr q
      have nu : bIntS [.str x] = some (.int ((digitsVal x.cps.toList : Nat) : Int)) := by
        show (if decide (x.length ≤ 640) = true then (PySem.intText? x).map PyData.int else none) = _
        rw [if_pos (decide_eq_true (by omega)), intText_digits (fun d hd => by
          have := List.all_eq_true.mp c2 d hd
          exact of_decide_eq_true this) (by rw [ec]; exact List.cons_ne_nil _ _) (by omega)]
        rfl
      have hd : decide (x.cps.toList.head? = some 48) = decide (c = 48) := by
        rw [ec]
        refine decide_eq_decide.mpr ?_
        simp
      rw [hd]
      generalize digitsVal x.cps.toList = N at nu ⊢
      generalize chD c = CH at ix e0
      by_cases q1 : c = 48
      · by_cases q2 : x = "0"
        · rw [decide_eq_true q1, decide_eq_false (fun z => z q2)]
          rw [decide_eq_false (fun z => z q2)] at e1
          simp [ix, e0, q1, e1, nu]
        · rw [decide_eq_true q1, decide_eq_true q2]
          rw [decide_eq_true q2] at e1
          simp [ix, e0, q1, e1]
      · rw [decide_eq_false q1]
        simp [ix, e0, q1, nu]
  · rw [decide_eq_false c1, Bool.false_and, if_neg (by decide)]
    by_cases i1 : (1 : Int) ≤ (x.cps.size : Int)
    · have i2 : ¬ (x.cps.size : Int) ≤ 300 := by omega
      simp [bl, i1, i2]
    · simp [bl, i1]
/-- the signs of a number -/
def numS (n : Nat) : Str := Str.ofString (toString ((n : Nat) : Int))
theorem numS_tl (n : Nat) : TL.tl (numS n) = TL.numL n := TL.tl_num n
theorem numS_digs (n : Nat) : ∀ c ∈ TL.tl (numS n), 48 ≤ c ∧ c ≤ 57 := by
  rw [numS_tl]
  exact fun c hc => TL.numL_digits n c hc
theorem numL_head : ∀ (n : Nat), 0 < n → (TL.numL n).head? ≠ some 48 := by
  intro n
  induction n using Nat.strongRecOn with
  | _ n ih =>
    intro h0
    by_cases h : n < 10
    · rw [TL.numL_lt h]
      show some (48 + n) ≠ some 48
      intro z
      injection z with z
      omega
    · rw [TL.numL_step (by omega)]
      have := ih (n / 10) (by omega) (by omega)
      rw [List.head?_append]
      cases q : (TL.numL (n / 10)).head? with
      | none =>
        have := TL.numL_ne (n / 10)
        cases e : TL.numL (n / 10) with
        | nil => exact absurd e this
        | cons a l => rw [e] at q; cases q
      | some a =>
        rw [q] at this
        exact this
theorem numS_ok {n : Nat} (h : n < 1000000) : numOk (numS n) = true := by
  have t := numS_tl n
  have sz : (numS n).cps.size = (TL.numL n).length := by
    rw [← t]
    exact TL.len_tl (numS n)
  have l6 := TL.numL_len (n := n) (k := 6) (by decide) h
  have ne : 1 ≤ (TL.numL n).length := List.length_pos_iff.mpr (TL.numL_ne n)
  unfold numOk
  rw [Bool.and_eq_true, Bool.and_eq_true]
  refine ⟨decide_eq_true (by omega), List.all_eq_true.mpr fun c hc => decide_eq_true (numS_digs n c hc), ?_⟩
  by_cases z : n = 0
  · subst z
    decide +kernel
  · have hd : (numS n).cps.toList.head? ≠ some 48 := by
      show (TL.tl (numS n)).head? ≠ some 48
      rw [t]
      exact numL_head n (by omega)
    rw [decide_eq_false hd]
    rfl
theorem numS_D (n : Nat) : NumText.digitsVal (TL.tl (numS n)) = n := by
  rw [numS_tl, TL.numL_val]
/-! ### words -/
theorem tl_ext {a b : Str} (h : TL.tl a = TL.tl b) : a = b := by
  cases a with
  | mk x =>
    cases b with
    | mk y =>
      have : x.toList = y.toList := h
      rw [Array.toList_inj.mp this]
theorem tl_len (a : Str) : (TL.tl a).length = a.cps.size := (TL.len_tl a).symm
theorem rep1 (a b : Nat) (x : Str) : TL.tl (Txt.replace x ⟨#[a]⟩ ⟨#[b]⟩) = (TL.tl x).map fun c => if c = a then b else c := by
  have e := StrLaws.replace_list (x := x) (y := ⟨#[a]⟩) (z := ⟨#[b]⟩) (Nat.le_refl 1)
  show (Txt.replace x ⟨#[a]⟩ ⟨#[b]⟩).cps.toList = _
  rw [e]
  show StrLaws.replL [a] [b] x.cps.toList = x.cps.toList.map _
  generalize x.cps.toList = l
  induction l with
  | nil => exact StrLaws.replL_nil
  | cons c r ih =>
    by_cases q : c = a
    · rw [StrLaws.replL_hit (by simp) (by rw [q]; rfl)]
      show b :: StrLaws.replL [a] [b] r = _
      rw [ih, List.map_cons, if_pos q]
    · rw [StrLaws.replL_miss (fun z => q (by
        have : [c] = [a] := z
        injection this)), ih, List.map_cons, if_neg q]
theorem rep_pl {a b : Nat} {x : Str} (hx : Pl x) (hb : b < 128) : Pl (Txt.replace x ⟨#[a]⟩ ⟨#[b]⟩) := fun c hc => by
  rw [rep1] at hc
  obtain ⟨d, hd, rfl⟩ := List.mem_map.mp hc
  split
  · exact hb
  · exact hx d hd
theorem rep_size {a b : Nat} {x : Str} : (Txt.replace x ⟨#[a]⟩ ⟨#[b]⟩).cps.size = x.cps.size := by
  have h1 : (Txt.replace x ⟨#[a]⟩ ⟨#[b]⟩).cps.size = (TL.tl (Txt.replace x ⟨#[a]⟩ ⟨#[b]⟩)).length := TL.len_tl _
  have h2 : x.cps.size = (TL.tl x).length := TL.len_tl _
  rw [h1, rep1, List.length_map, h2]
theorem oRep_ok {a b : Nat} {x : Str} (h : x.cps.size ≤ 4000) : oRep ⟨#[a]⟩ ⟨#[b]⟩ (.str x) = some (.str (Txt.replace x ⟨#[a]⟩ ⟨#[b]⟩)) := by
  refine oRep_str (decide_eq_true ?_)
  show x.cps.size + (x.cps.size + 1) * 1 ≤ 10000
  omega

/-- the pieces between spaces that are not empty -/
def Fw (l : List Nat) : List (List Nat) := (TL.spl [32] 0 [] l).filter fun p => p != []
def dull (c : Nat) : Nat := if c = 10 then 32 else c
/-- a space or a new line -/
def blk (c : Nat) : Prop := c = 32 ∨ c = 10
theorem dull_blk {c : Nat} (h : blk c) : dull c = 32 := by
  rcases h with rfl | rfl <;> rfl
theorem dull_not {c : Nat} (h : ¬ blk c) : dull c = c ∧ c ≠ 32 := by
  refine ⟨if_neg fun z => h (.inr z), fun z => h (.inl z)⟩
theorem Fw_nil : Fw [] = [] := by
  unfold Fw
  rw [TL.spl_nil]
  rfl
theorem Fw_32 (r : List Nat) : Fw (32 :: r) = Fw r := by
  unfold Fw
  rw [TL.spl_hit (show TL.pre [32] (32 :: r) = true from rfl)]
  rfl
theorem Fw_blanks : ∀ (b r : List Nat), (∀ c ∈ b, c = 32) → Fw (b ++ r) = Fw r
  | [], r, _ => rfl
  | c :: b, r, h => by
    rw [List.cons_append, h c (.head _), Fw_32]
    exact Fw_blanks b r fun d hd => h d (.tail _ hd)
theorem Fw_word {w r : List Nat} (hw : w ≠ []) (h : 32 ∉ w) (hr : r = [] ∨ ∃ r', r = 32 :: r') : Fw (w ++ r) = w :: Fw r := by
  rcases hr with rfl | ⟨r', rfl⟩
  · rw [List.append_nil, Fw_nil]
    unfold Fw
    rw [TL.spl_last1 h, List.nil_append, List.filter_cons, if_pos (bne_iff_ne.mpr hw)]
    rfl
  · rw [Fw_32]
    unfold Fw
    have := TL.spl_part1 (s := 32) (S := []) (p := w) (rest := r') (acc := []) h
    have e : w ++ 32 :: r' = w ++ ([32] ++ r') := rfl
    rw [e, this, List.nil_append, List.filter_cons, if_pos (bne_iff_ne.mpr hw)]
/-- the words of a text -/
def wdS (t : Str) : List Str := (Txt.split (Txt.replace t "\n" " ") " ").filter fun w => w != ""
theorem wdS_tl (t : Str) : (wdS t).map TL.tl = Fw ((TL.tl t).map dull) := by
  have e := TL.split_spl (Txt.replace t "\n" " ") " " (by decide) (TL.kind_ok (by decide +kernel))
  have r1 : TL.tl (Txt.replace t "\n" " ") = (TL.tl t).map dull := rep1 10 32 t
  have e1 : (wdS t).map TL.tl = ((Txt.split (Txt.replace t "\n" " ") " ").map TL.tl).filter fun p => p != [] := by
    unfold wdS
    rw [List.filter_map]
    congr 1
    refine List.filter_congr fun w _ => ?_
    show (w != "") = (TL.tl w != [])
    by_cases q : w = ""
    · rw [q]
      decide
    · rw [bne_iff_ne.mpr q]
      refine (bne_iff_ne.mpr fun z => q ?_).symm
      exact tl_ext z
  rw [e1, e, r1]
  rfl
theorem map_tl_inj : ∀ {a b : List Str}, a.map TL.tl = b.map TL.tl → a = b
  | [], [], _ => rfl
  | [], _ :: _, h => nomatch h
  | _ :: _, [], h => nomatch h
  | x :: a, y :: b, h => by
    injection h with h1 h2
    rw [tl_ext h1, map_tl_inj h2]
theorem m_words (t : Str) (pt : Pl t) (hz : t.cps.size ≤ 2000) : m_words_of [.str t] = .ok (.list ((wdS t).map PyData.str)) := by
  have p1 : Pl (Txt.replace t "\n" " ") := rep_pl (a := 10) (b := 32) pt (by decide)
  have z1 : (Txt.replace t "\n" " ").cps.size = t.cps.size := rep_size (a := 10) (b := 32)
  have o1 : oRep "\n" " " (.str t) = some (.str (Txt.replace t "\n" " ")) := oRep_ok (a := 10) (b := 32) (by omega)
  unfold m_words_of
  rw [run1]
  unfold s_words_of wdS
  generalize Txt.replace t "\n" " " = X at *
  obtain ⟨h1, h2, h3⟩ := split_parts (x := X) (y := " ") (by decide) (by decide +kernel)
  have key : rLc (iOf itL (r2M mSpl (r1 (oRep "\n" " ") (rVar 0)) (rC (.str " ")))) [1] (gSlot 1) (asB (r2 oNe (rVar 1) (rC (.str "")))) (rVar 1) [some (.str t), none] = .ok (.list (((Txt.split X " ").filter fun (w : Str) => w != "").map PyData.str)) := by
    refine lc_genF (as := Txt.split X " ") (e := PyData.str) (P := fun (w : Str) => w != "") (h := PyData.str) (ρ1 := fun w => [some (.str t), some (.str w)]) ?_ (by omega) (fun w _ => rfl) (fun w hw => ?_) fun w hw _ => ?_
    · have sp : mSpl X (.str " ") = some (.list ((Txt.split X " ").map PyData.str)) := by
        refine if_pos ⟨by decide, decide_eq_true ?_⟩
        show X.cps.size + 2 ≤ 10000
        omega
      rw [ap_iOf]
      have ev : (r2M mSpl (r1 (oRep "\n" " ") (rVar 0)) (rC (.str " "))) [some (.str t), none] = .ok (.list ((Txt.split X " ").map PyData.str)) := by
        have e1 : (r1 (oRep "\n" " ") (rVar 0)) [some (.str t), none] = .ok (.str X) := by
          simp [o1]
        show ((r1 (oRep "\n" " ") (rVar 0)) [some (.str t), none]).andThen _ = _
        rw [e1, re_ok]
        show (Re.ok (PyData.str " ")).andThen _ = _
        rw [re_ok, sp]
        rfl
      rw [ev]
      rfl
    · have pw := p1.sub (h1 w hw).1
      have ne := oNe_pl (a := w) (b := "") pw (fun c hc => nomatch hc)
      generalize (w != "") = B at ne ⊢
      simp [ne]
    · simp
  exact (congrArg (fun r => outR (r.st [some (.str t), none] fun d => .rt d)) key).trans rfl
theorem wdS_pl {t : Str} (pt : Pl t) (hz : t.cps.size ≤ 2000) : (∀ w ∈ wdS t, Pl w ∧ w.cps.size ≤ t.cps.size) ∧ (wdS t).length ≤ 2001 := by
  have p1 : Pl (Txt.replace t "\n" " ") := rep_pl (a := 10) (b := 32) pt (by decide)
  have z1 : (Txt.replace t "\n" " ").cps.size = t.cps.size := rep_size (a := 10) (b := 32)
  obtain ⟨h1, h2, h3⟩ := split_parts (x := Txt.replace t "\n" " ") (y := " ") (by decide) (by decide +kernel)
  refine ⟨fun w hw => ?_, ?_⟩
  · have := h1 w (List.mem_filter.mp hw).1
    exact ⟨p1.sub this.1, by omega⟩
  · exact Nat.le_trans (List.length_filter_le _ _) (by omega)
theorem lcx_go {α : Type} {g : PyData → Rho → Option Rho} {f : Rho → Re PyData} {τ : Rho} {e : α → PyData} {ρ1 : α → Rho} {h : α → PyData} {ok : α → Bool} {c : Str} : ∀ as : List α, (∀ k ∈ as, g (e k) τ = some (ρ1 k)) → (∀ k ∈ as, f (ρ1 k) = if ok k = true then .ok (h k) else .ex c) → lcGoX g f τ (as.map e) = if as.all ok = true then .ok (as.map h) else .ex c
  | [], _, _ => rfl
  | a :: as, hg, hf => by
    have ih := lcx_go (e := e) (ρ1 := ρ1) (h := h) (ok := ok) (c := c) as (fun k hk => hg k (.tail _ hk)) fun k hk => hf k (.tail _ hk)
    rw [List.map_cons]
    unfold lcGoX
    rw [hg a (.head _)]
    show (match f (ρ1 a) with | .ok x => consX x (lcGoX g f τ (as.map e)) | .ex c => .ex c | .bad => .bad) = _
    rw [hf a (.head _), ih, List.all_cons]
    cases ha : ok a with
    | false => rfl
    | true =>
      rw [if_pos rfl, Bool.true_and]
      cases hs : as.all ok with
      | false => rfl
      | true => rfl
theorem lcx_gen {α : Type} {ρ : Rho} {its : Rho → Re (List PyData)} {vs : List Nat} {g : PyData → Rho → Option Rho} {f : Rho → Re PyData} {as : List α} {e : α → PyData} {ρ1 : α → Rho} {h : α → PyData} {ok : α → Bool} {c : Str} (hi : its ρ = .ok (as.map e)) (hl : as.length ≤ 10000) (hg : ∀ k ∈ as, g (e k) (wipeR ρ vs) = some (ρ1 k)) (hf : ∀ k ∈ as, f (ρ1 k) = if ok k = true then .ok (h k) else .ex c) :
    rLcX its vs g f ρ = if as.all ok = true then .ok (.list (as.map h)) else .ex c := by
  unfold rLcX
  rw [hi, re_ok, if_pos (by rw [List.length_map]; exact decide_eq_true hl), lcx_go as hg hf]
  cases as.all ok <;> rfl
theorem ch_pl {c : Nat} (h : c < 128) : Pl (⟨#[c]⟩ : Str) := fun z hz => by
  have : z = c := by simpa [TL.tl] using hz
  omega
theorem ch_eq {c d : Nat} : ((⟨#[c]⟩ : Str) == ⟨#[d]⟩) = decide (c = d) := by
  by_cases q : c = d
  · rw [q, decide_eq_true rfl]
    exact beq_self_eq_true _
  · rw [decide_eq_false q]
    refine beq_false_of_ne fun z => q ?_
    have := congrArg (fun s : Str => s.cps.toList.head?) z
    have : some c = some d := this
    injection this
theorem oAdd_str {a b : Str} (h : a.cps.size + b.cps.size ≤ 10000) : oAdd (.str a) (.str b) = some (.str (a ++ b)) := by
  show (if okLen (a.length + b.length) = true then some (PyData.str (a ++ b)) else none) = _
  rw [if_pos (show okLen (a.length + b.length) = true from decide_eq_true h)]
theorem size_app (a b : Str) : (a ++ b).cps.size = a.cps.size + b.cps.size := by
  have : (a ++ b).length = (TL.tl (a ++ b)).length := TL.len_tl _
  have h1 : (a ++ b).cps.size = (TL.tl (a ++ b)).length := this
  have h2 : a.cps.size = (TL.tl a).length := TL.len_tl _
  have h3 : b.cps.size = (TL.tl b).length := TL.len_tl _
  rw [h1, h2, h3, TL.tl_append, List.length_append]
theorem pl_cut {t : Str} (h : Pl t) (lo hi : Option Int) : Pl (cutS t lo hi) ∧ (cutS t lo hi).cps.size ≤ t.cps.size := by
  have e : TL.tl (cutS t lo hi) = (t.cps.toList.drop (HT.sIx t.length 0 lo)).take (HT.sIx t.length t.length hi - HT.sIx t.length 0 lo) := rfl
  refine ⟨fun c hc => ?_, ?_⟩
  · rw [e] at hc
    exact h c (List.mem_of_mem_drop (List.mem_of_mem_take hc))
  · have l : (cutS t lo hi).cps.size = (TL.tl (cutS t lo hi)).length := TL.len_tl _
    rw [l, e, List.length_take, List.length_drop, Array.length_toList]
    omega
theorem pl_app {a b : Str} (ha : Pl a) (hb : Pl b) : Pl (a ++ b) := fun c hc => by
  rw [TL.tl_append] at hc
  rcases List.mem_append.mp hc with h | h
  · exact ha c h
  · exact hb c h
theorem cutS_ok {t : Str} (h : t.cps.size ≤ 10000) (lo hi : Option Int) : oCutS (.str t) lo hi = .ok (.str (cutS t lo hi)) := by
  show (if okLen t.length = true then Re.ok (PyData.str (cutS t lo hi)) else .bad) = _
  rw [if_pos (show okLen t.length = true from decide_eq_true h)]
theorem ap_rCutS {ρ : Rho} (f : Rho → Re PyData) (lo hi : Rho → Re (Option Int)) : rCutS f lo hi ρ = (f ρ).andThen fun d => (lo ρ).andThen fun l => (hi ρ).andThen fun h => oCutS d l h := rfl
theorem cut_to {t : Str} {n : Nat} (h : n ≤ t.cps.size) : TL.tl (cutS t none (some (n : Int))) = (TL.tl t).take n := by
  show (t.cps.toList.drop 0).take (HT.sIx t.length t.length (some (n : Int)) - 0) = t.cps.toList.take n
  rw [HT.sIx_nat, List.drop_zero, Nat.sub_zero]
  have : min n t.length = n := Nat.min_eq_left h
  rw [this]
theorem cut_from {t : Str} {n : Nat} : TL.tl (cutS t (some (n : Int)) none) = (TL.tl t).drop n := by
  show (t.cps.toList.drop (HT.sIx t.length 0 (some (n : Int)))).take (t.length - HT.sIx t.length 0 (some (n : Int))) = t.cps.toList.drop n
  rw [HT.sIx_nat]
  have l : t.length = t.cps.toList.length := by rw [Array.length_toList]; rfl
  rw [l]
  by_cases q : n ≤ t.cps.toList.length
  · rw [Nat.min_eq_left q]
    exact List.take_of_length_le (by rw [List.length_drop]; omega)
  · rw [Nat.min_eq_right (by omega), List.drop_length, List.take_nil, List.drop_eq_nil_of_le (by omega)]
/-! ### numbers read -/
theorem numS_pl (n : Nat) : Pl (numS n) := fun c hc => by
  have := numS_digs n c hc
  omega
theorem numS_sz {n : Nat} (h : n ≤ 40) : (numS n).cps.size ≤ 2 ∧ 1 ≤ (numS n).cps.size := by
  have : ∀ n ∈ List.range 41, (numS n).cps.size ≤ 2 ∧ 1 ≤ (numS n).cps.size := by decide +kernel
  exact this n (List.mem_range.mpr (by omega))
theorem num_rd {n : Nat} (h : n ≤ 40) : m_number_of [.str (numS n)] = .ok (.int (n : Int)) := by
  have z := numS_sz h
  rw [m_num (numS n) (shp_pl (numS_pl n)) (by omega), numS_ok (by omega), if_pos rfl]
  have := numS_D n
  have e : NumText.digitsVal (numS n).cps.toList = n := this
  rw [e]
theorem plus_tl {i : Int} (h : -40 ≤ i ∧ i ≤ 40) (h0 : i ≠ 0) : TL.tl (plusS i) = (if i < 0 then 45 else 43) :: TL.tl (numS i.natAbs) := by
  have : ∀ i ∈ small40, i ≠ 0 → TL.tl (plusS i) = (if i < 0 then 45 else 43) :: TL.tl (numS i.natAbs) := by decide +kernel
  refine this i ?_ h0
  unfold small40
  exact List.mem_map.mpr ⟨(i + 40).toNat, List.mem_range.mpr (by omega), by omega⟩
theorem num_cons {n : Nat} (h : n ≤ 40) : ∃ c cs, TL.tl (numS n) = c :: cs ∧ 48 ≤ c ∧ c ≤ 57 := by
  have z := numS_sz h
  have l := tl_len (numS n)
  match e : TL.tl (numS n) with
  | [] =>
    rw [e] at l
    have : ([] : List Nat).length = 0 := rfl
    omega
  | c :: cs => exact ⟨c, cs, rfl, numS_digs n c (by rw [e]; exact .head _)⟩
/-- a word of a signed number -/
def SW (w : Str) (i : Int) : Prop := w = plusS i ∨ (0 < i ∧ w = numS i.natAbs)
theorem SW.tl {w : Str} {i : Int} (h : SW w i) (hi : -40 ≤ i ∧ i ≤ 40) (h0 : i ≠ 0) : ∃ c cs, TL.tl w = c :: cs ∧ Pl w ∧ w.cps.size ≤ 3 ∧ ¬ blk c ∧ (∀ d ∈ c :: cs, ¬ blk d) := by
  have z := numS_sz (n := i.natAbs) (by omega)
  have nb : ∀ d ∈ TL.tl (numS i.natAbs), ¬ blk d := fun d hd => by
    have := numS_digs _ d hd
    unfold blk
    omega
  rcases h with h | ⟨hp, h⟩
  · subst h
    have e := plus_tl hi h0
    have l := tl_len (plusS i)
    have l2 := tl_len (numS i.natAbs)
    refine ⟨_, _, e, fun c hc => ?_, by rw [e, List.length_cons] at l; omega, ?_, fun d hd => ?_⟩
    · rw [e] at hc
      rcases List.mem_cons.mp hc with rfl | hc
      · split <;> decide
      · exact numS_pl _ c hc
    · unfold blk
      split <;> decide
    · rcases List.mem_cons.mp hd with rfl | hd
      · unfold blk
        split <;> decide
      · exact nb d hd
  · subst h
    obtain ⟨c, cs, e, h1, h2⟩ := num_cons (n := i.natAbs) (by omega)
    refine ⟨c, cs, e, numS_pl _, by omega, by unfold blk; omega, fun d hd => nb d (by rw [e]; exact hd)⟩
theorem ix0 {w : Str} {c : Nat} {cs : List Nat} (e : TL.tl w = c :: cs) (hl : w.cps.size ≤ 600) : oIxS (.str w) (.int 0) = some (chD c) := by
  show (if okLen w.length = true then (atI w.cps.toList 0).map (fun c => PyData.str ⟨#[c]⟩) else none) = _
  have e : w.cps.toList = c :: cs := e
  rw [if_pos (show okLen w.length = true from decide_eq_true (show w.cps.size ≤ 10000 by omega)), e]
  have : atI (c :: cs) 0 = some c := by
    unfold atI ixN
    rw [if_pos (by decide), if_pos (by simp)]
    rfl
  rw [this]
  rfl
theorem sgn_rd {w : Str} {i : Int} (h : SW w i) (hi : -40 ≤ i ∧ i ≤ 40) (h0 : i ≠ 0) : m_signed_number_of [.str w] = .ok (.int i) := by
  obtain ⟨c, cs, e, pw, sz, _, _⟩ := h.tl hi h0
  have ix := ix0 e (by omega)
  have pc : c < 128 := pw c (by rw [e]; exact .head _)
  have q1 : oEq (chD c) (.str "-") = some (.bool (decide (c = 45))) := by
    have := oEq_pl (a := ⟨#[c]⟩) (b := ⟨#[45]⟩) (ch_pl pc) (ch_pl (by decide))
    rw [ch_eq] at this
    exact this
  have q2 : oEq (chD c) (.str "+") = some (.bool (decide (c = 43))) := by
    have := oEq_pl (a := ⟨#[c]⟩) (b := ⟨#[43]⟩) (ch_pl pc) (ch_pl (by decide))
    rw [ch_eq] at this
    exact this
  have cu := cutS_ok (t := w) (by omega) (some 1) none
  have ct : TL.tl (cutS w (some 1) none) = cs := by
    have := cut_from (t := w) (n := 1)
    rw [e] at this
    exact this
  have rd := num_rd (n := i.natAbs) (by omega)
  unfold m_signed_number_of
  rw [run1]
  unfold s_signed_number_of
  rcases h with h | ⟨hp, h⟩
  · have e2 := plus_tl hi h0
    rw [← h, e] at e2
    injection e2 with e3 e4
    have cn : cutS w (some 1) none = numS i.natAbs := tl_ext (by rw [ct, e4])
    rw [cn] at cu
    by_cases hn : i < 0
    · rw [if_pos hn] at e3
      rw [e3] at ix q1 q2
      rw [decide_eq_true rfl] at q1
      have ne : oNeg (.int (i.natAbs : Int)) = some (.int i) := by
        show some (PyData.int (-(i.natAbs : Int))) = _
        rw [show -(i.natAbs : Int) = i by omega]
      generalize chD 45 = CH at *
      simp [ix, q1, ap_rCutS, cu, rd, ne, -oNeg_i]
    · rw [if_neg hn] at e3
      rw [e3] at ix q1 q2
      rw [decide_eq_false (by decide)] at q1
      rw [decide_eq_true rfl] at q2
      have ia : (i.natAbs : Int) = i := by omega
      rw [ia] at rd
      generalize chD 43 = CH at *
      simp [ix, q1, q2, ap_rCutS, cu, rd]
  · obtain ⟨c2, cs2, e2, h1, h2⟩ := num_cons (n := i.natAbs) (by omega)
    rw [← h, e] at e2
    injection e2 with e3 e4
    rw [decide_eq_false (by omega)] at q1
    rw [decide_eq_false (by omega)] at q2
    have ia : (i.natAbs : Int) = i := by omega
    rw [ia, ← h] at rd
    generalize chD c = CH at *
    simp [ix, q1, q2, rd]
/-! ### rows read and written -/
theorem row_small {r : List Int} (h : isRow r) : ∀ i ∈ r, 1 ≤ i ∧ i ≤ 40 := fun i hi => by
  have := (isRow_perm h).mem_iff.mp hi
  unfold upI at this
  obtain ⟨j, hj, e⟩ := List.mem_map.mp this
  have := List.mem_range.mp hj
  have := h.1
  omega
theorem sgn_small {r : List Int} (h : isSgn r) : ∀ i ∈ r, (-40 ≤ i ∧ i ≤ 40) ∧ i ≠ 0 := fun i hi => by
  have pm : (srtZ (r.map absZ)).Perm (r.map absZ) := srtZ_perm _
  rw [h.2] at pm
  have := pm.mem_iff.mpr (List.mem_map_of_mem (f := absZ) hi)
  unfold upI at this
  obtain ⟨j, hj, e⟩ := List.mem_map.mp this
  have := List.mem_range.mp hj
  have := h.1
  unfold absZ at e
  split at e <;> omega
def numI (i : Int) : Str := numS i.natAbs
theorem m_rrow {r : List Int} (hr : isRow r) {t : Str} (pt : Pl t) (hz : t.cps.size ≤ 2000) (hw : wdS t = r.map numI) : m_read_row [.str t] = .ok (tI r) := by
  have mw := m_words t pt hz
  rw [hw] at mw
  have hl := hr.1
  have l1 : rLcX (iOf itS (rCall m_words_of (aCons (rVar 0) aNil))) [2] (gSlot 2) (rCall m_number_of (aCons (rVar 2) aNil)) [some (.str t), none, none] = .ok (lI r) := by
    refine (lcx_gen (as := r) (e := fun i => .str (numI i)) (h := PyData.int) (ok := fun _ => true) (c := "X") (ρ1 := fun i => [some (.str t), none, some (.str (numI i))]) ?_ (by omega) (fun x _ => rfl) fun i hi => ?_).trans ?_
    · rw [List.map_map] at mw
      simp [mw]
    · have hs := row_small hr i hi
      have rd := num_rd (n := i.natAbs) (by omega)
      have ia : (i.natAbs : Int) = i := by omega
      rw [ia] at rd
      have rd : m_number_of [.str (numI i)] = .ok (.int i) := rd
      simp [rd]
    · rw [if_pos (by simp)]
      rfl
  have ck := m_check r (by omega)
  rw [if_pos hr] at ck
  unfold m_read_row
  rw [run1]
  unfold s_read_row
  generalize rLcX (iOf itS (rCall m_words_of (aCons (rVar 0) aNil))) [2] (gSlot 2) (rCall m_number_of (aCons (rVar 2) aNil)) = LL at l1 ⊢
  refine go (ρ' := [some (.str t), some (tI r), none]) (by simp [l1]) ?_
  unfold sTry
  simp [ck]
theorem m_rsgn {r : List Int} (hr : isSgn r) {ws : List Str} (hl2 : ws.length = r.length) (hw : ∀ k (h1 : k < ws.length) (h2 : k < r.length), SW ws[k] r[k]) {t : Str} (pt : Pl t) (hz : t.cps.size ≤ 2000) (hws : wdS t = ws) : m_read_signed [.str t] = .ok (tI r) := by
  have mw := m_words t pt hz
  rw [hws] at mw
  have hl := hr.1
  have l1 : rLcX (iOf itS (rCall m_words_of (aCons (rVar 0) aNil))) [2] (gSlot 2) (rCall m_signed_number_of (aCons (rVar 2) aNil)) [some (.str t), none, none] = .ok (lI r) := by
    have zip1 : (ws.zip r).map (·.1) = ws := List.map_fst_zip (by omega)
    have zip2 : (ws.zip r).map (·.2) = r := List.map_snd_zip (by omega)
    refine (lcx_gen (as := ws.zip r) (e := fun p => .str p.1) (h := fun p => .int p.2) (ok := fun _ => true) (c := "X") (ρ1 := fun p => [some (.str t), none, some (.str p.1)]) ?_ (by rw [List.length_zip]; omega) (fun x _ => rfl) fun p hp => ?_).trans ?_
    · have e : (ws.zip r).map (fun p => PyData.str p.1) = ws.map PyData.str := by
        have := congrArg (List.map PyData.str) zip1
        rwa [List.map_map] at this
      rw [e]
      simp [mw]
    · obtain ⟨k, hk, e⟩ := List.mem_iff_getElem.mp hp
      rw [List.length_zip] at hk
      rw [List.getElem_zip] at e
      have h := hw k (by omega) (by omega)
      have sm := sgn_small hr (r[k]) (List.getElem_mem (by omega))
      have rd := sgn_rd h sm.1 sm.2
      rw [← e]
      simp [rd]
    · rw [if_pos (by simp)]
      have e : (ws.zip r).map (fun p => PyData.int p.2) = r.map PyData.int := by
        have := congrArg (List.map PyData.int) zip2
        rwa [List.map_map] at this
      rw [e]
      rfl
  have ck := m_cs r (by omega)
  rw [if_pos hr] at ck
  unfold m_read_signed
  rw [run1]
  unfold s_read_signed
  generalize rLcX (iOf itS (rCall m_words_of (aCons (rVar 0) aNil))) [2] (gSlot 2) (rCall m_signed_number_of (aCons (rVar 2) aNil)) = LL at l1 ⊢
  refine go (ρ' := [some (.str t), some (tI r), none]) (by simp [l1]) ?_
  unfold sTry
  simp [ck]
/-! the written forms -/
theorem asStrs_map (ys : List Str) : asStrs (ys.map PyData.str) = some ys := by
  induction ys with
  | nil => rfl
  | cons y ys ih =>
    show (asStrs (ys.map PyData.str)).map (y :: ·) = _
    rw [ih]
    rfl
theorem join_size {y : Str} {ps : List Str} {B : Nat} (h : ∀ p ∈ ps, p.cps.size ≤ B) : (Txt.join y ps).cps.size ≤ ps.length * B + ps.length * y.cps.size := by
  have h1 := StrLaws.join_length_le y ps
  rw [TL.join_eq]
  have h2 : (ps.map fun x => x.length).sum ≤ ps.length * B := by
    clear h1
    induction ps with
    | nil => simp
    | cons p ps ih =>
      have a := ih fun q hq => h q (.tail _ hq)
      have b := h p (.head _)
      have b : p.length ≤ B := b
      rw [List.map_cons, List.sum_cons, List.length_cons, Nat.succ_mul]
      omega
  have h1 : (y.join ps).cps.size ≤ (ps.map fun x => x.length).sum + ps.length * y.cps.size := h1
  omega
theorem join_ok {y : Str} {ps : List Str} {B : Nat} (h : ∀ p ∈ ps, p.cps.size ≤ B) (hB : ps.length * B + ps.length * y.cps.size ≤ 10000) : mJoin y (.list (ps.map PyData.str)) = some (.str (Txt.join y ps)) := by
  show (asStrs (ps.map PyData.str)).bind (fun ys => if okLen ((ys.map (·.length)).sum + ys.length * y.length) = true then some (PyData.str (Txt.join y ys)) else none) = _
  rw [asStrs_map]
  show (if okLen ((ps.map (·.length)).sum + ps.length * y.length) = true then some (PyData.str (Txt.join y ps)) else none) = _
  have h2 : (ps.map fun x => x.length).sum ≤ ps.length * B := by
    clear hB
    induction ps with
    | nil => simp
    | cons p ps ih =>
      have a := ih fun q hq => h q (.tail _ hq)
      have b : p.length ≤ B := h p (.head _)
      rw [List.map_cons, List.sum_cons, List.length_cons, Nat.succ_mul]
      omega
  have : ps.length * y.length = ps.length * y.cps.size := rfl
  rw [if_pos (show okLen _ = true from decide_eq_true (by omega))]
theorem joinL_mem (S : List Nat) (P : Nat → Prop) (hS : ∀ c ∈ S, P c) : ∀ ps : List (List Nat), (∀ p ∈ ps, ∀ c ∈ p, P c) → ∀ c ∈ TL.joinL S ps, P c
  | [], _ => by simp [TL.joinL]
  | [p], h => fun c hc => h p (.head _) c hc
  | p :: q :: r, h => fun c hc => by
    have hc : c ∈ p ++ (S ++ TL.joinL S (q :: r)) := hc
    rcases List.mem_append.mp hc with hc | hc
    · exact h p (.head _) c hc
    · rcases List.mem_append.mp hc with hc | hc
      · exact hS c hc
      · exact joinL_mem S P hS (q :: r) (fun p hp => h p (.tail _ hp)) c hc
theorem join_mem {y : Str} {ps : List Str} {P : Nat → Prop} (hS : ∀ c ∈ TL.tl y, P c) (hp : ∀ p ∈ ps, ∀ c ∈ TL.tl p, P c) : ∀ c ∈ TL.tl (Txt.join y ps), P c := by
  rw [TL.join_eq, TL.tl_join]
  refine joinL_mem _ P hS _ fun p h => ?_
  obtain ⟨z, hz, rfl⟩ := List.mem_map.mp h
  exact hp z hz
/-- words that may stand between spaces -/
def okWd (w : Str) : Prop := TL.tl w ≠ [] ∧ ∀ c ∈ TL.tl w, ¬ blk c
theorem dull_word {l : List Nat} (h : ∀ c ∈ l, ¬ blk c) : l.map dull = l ∧ 32 ∉ l := by
  refine ⟨(List.map_congr_left fun c hc => (dull_not (h c hc)).1).trans (List.map_id' l), fun z => h 32 z (.inl rfl)⟩
theorem join_words {ws : List Str} (h : ∀ w ∈ ws, okWd w) : wdS (Txt.join " " ws) = ws := by
  refine map_tl_inj ?_
  rw [wdS_tl, TL.join_eq, TL.tl_join]
  have e1 : TL.tl (" " : Str) = [32] := by decide
  rw [e1]
  have e2 : (TL.joinL [32] (ws.map TL.tl)).map dull = TL.joinL [32] (ws.map TL.tl) := by
    have key : ∀ L : List (List Nat), (∀ p ∈ L, ∀ c ∈ p, ¬ blk c) → (TL.joinL [32] L).map dull = TL.joinL [32] L := by
      intro L hL
      refine (List.map_congr_left fun c hc => ?_).trans (List.map_id' _)
      have := joinL_mem [32] (fun c => dull c = c) (by decide) L (fun p hp c hc => (dull_not (hL p hp c hc)).1) c hc
      exact this
    refine key _ fun p hp c hc => ?_
    obtain ⟨w, hw, rfl⟩ := List.mem_map.mp hp
    exact (h w hw).2 c hc
  rw [e2]
  unfold Fw
  match ws, h with
  | [], _ =>
    show ((TL.spl [32] 0 [] []).filter _) = []
    rw [TL.spl_nil]
    rfl
  | w :: ws, h =>
    rw [TL.spl_join (s := 32) (S := []) (by simp) (fun p hp => by
      obtain ⟨v, hv, rfl⟩ := List.mem_map.mp hp
      exact (dull_word (h v hv).2).2)]
    refine List.filter_eq_self.mpr fun p hp => ?_
    obtain ⟨v, hv, rfl⟩ := List.mem_map.mp hp
    exact bne_iff_ne.mpr (h v hv).1
/-! ### texts with drawn blanks -/
/-- a text of blanks -/
def okBl (b : Str) : Prop := (∀ c ∈ TL.tl b, blk c) ∧ Pl b ∧ b.cps.size ≤ 2
theorem okBl_dull {b : Str} (h : okBl b) : ∀ c ∈ (TL.tl b).map dull, c = 32 := fun c hc => by
  obtain ⟨d, hd, rfl⟩ := List.mem_map.mp hc
  exact dull_blk (h.1 d hd)
theorem bl_cases (e : Int) (h : 0 ≤ e ∧ e < 6) : ∃ b : Str, oIx (.list [.str "", .str " ", .str "\n", .str "  ", .str " \n", .str ""]) (.int e) = some (.str b) ∧ okBl b := by
  have : e = 0 ∨ e = 1 ∨ e = 2 ∨ e = 3 ∨ e = 4 ∨ e = 5 := by omega
  rcases this with rfl | rfl | rfl | rfl | rfl | rfl
  · exact ⟨"", rfl, by unfold okBl blk Pl; decide⟩
  · exact ⟨" ", rfl, by unfold okBl blk Pl; decide⟩
  · exact ⟨"\n", rfl, by unfold okBl blk Pl; decide⟩
  · exact ⟨"  ", rfl, by unfold okBl blk Pl; decide⟩
  · exact ⟨" \n", rfl, by unfold okBl blk Pl; decide⟩
  · exact ⟨"", rfl, by unfold okBl blk Pl; decide⟩
theorem m_blank (r : Int) : ∃ b : Str, m__law_blank [.int r] = .ok (.str b) ∧ okBl b := by
  have em : oMod (.int r) (.int 6) = some (.int (r % 6)) := oMod_p (by decide)
  obtain ⟨b, hb, ok⟩ := bl_cases (r % 6) ⟨Int.emod_nonneg _ (by decide), Int.emod_lt_of_pos _ (by decide)⟩
  refine ⟨b, ?_, ok⟩
  unfold m__law_blank
  rw [run1]
  unfold s__law_blank
  have mk : mkL [.str ("" : Str), .str " ", .str "\n", .str "  ", .str " \n", .str ""] = .ok (.list [.str "", .str " ", .str "\n", .str "  ", .str " \n", .str ""]) := rfl
  generalize PyData.list [.str ("" : Str), .str " ", .str "\n", .str "  ", .str " \n", .str ""] = LL at mk hb
  simp [em, mk, hb]
theorem sep_cases (r : Int) : ∃ b : Str, oIx (.list [.str " ", .str "\n"]) (.int (r % 2)) = some (.str b) ∧ okBl b ∧ TL.tl b ≠ [] := by
  have : r % 2 = 0 ∨ r % 2 = 1 := by omega
  rcases this with e | e <;> rw [e]
  · exact ⟨" ", rfl, by unfold okBl blk Pl; decide, by decide⟩
  · exact ⟨"\n", rfl, by unfold okBl blk Pl; decide, by decide⟩
/-- a text that says the words done so far -/
structure Says (ws : List Str) (t : Str) : Prop where
  pl : Pl t
  sz : t.cps.size ≤ 10 * ws.length + 2
  fst : ws = [] → ∀ r, Fw ((TL.tl t).map dull ++ r) = Fw r
  all : ∀ r, (r = [] ∨ ∃ r', r = 32 :: r') → Fw ((TL.tl t).map dull ++ r) = ws.map TL.tl ++ Fw r
theorem says_nil {b : Str} (h : okBl b) : Says [] b := ⟨h.2.1, by have := h.2.2; simp; omega, fun _ r => Fw_blanks _ r (okBl_dull h), fun r _ => Fw_blanks _ r (okBl_dull h)⟩
theorem pl_map {a b : Str} : (TL.tl (a ++ b)).map dull = (TL.tl a).map dull ++ (TL.tl b).map dull := by
  rw [TL.tl_append, List.map_append]
theorem says_first {t w : Str} (h : Says [] t) (hw : okWd w) (pw : Pl w) (sw : w.cps.size ≤ 3) : Says [w] (t ++ w) := by
  obtain ⟨dw, n32⟩ := dull_word hw.2
  refine ⟨pl_app h.pl pw, ?_, (fun z => nomatch z), fun r hr => ?_⟩
  · have := h.sz
    rw [size_app]
    simp at this ⊢
    omega
  · rw [pl_map, dw, List.append_assoc, h.fst rfl, Fw_word hw.1 n32 hr]
    rfl
theorem says_more {ws : List Str} {t w s b : Str} (h : Says ws t) (hw : okWd w) (pw : Pl w) (sw : w.cps.size ≤ 3) (hs : okBl s) (hs2 : TL.tl s ≠ []) (hb : okBl b) : Says (ws ++ [w]) (t ++ s ++ b ++ w) := by
  obtain ⟨dw, n32⟩ := dull_word hw.2
  refine ⟨pl_app (pl_app (pl_app h.pl hs.2.1) hb.2.1) pw, ?_, fun z => absurd z (by simp), fun r hr => ?_⟩
  · have := h.sz
    have := hs.2.2
    have := hb.2.2
    rw [size_app, size_app, size_app, List.length_append]
    simp
    omega
  · rw [pl_map, pl_map, pl_map, dw, List.append_assoc, List.append_assoc, List.append_assoc]
    have ds := okBl_dull hs
    have db := okBl_dull hb
    obtain ⟨c, cs, e⟩ : ∃ c cs, (TL.tl s).map dull = c :: cs := by
      cases q : (TL.tl s).map dull with
      | nil => exact absurd (List.map_eq_nil_iff.mp q) hs2
      | cons c cs => exact ⟨c, cs, rfl⟩
    have c32 : c = 32 := ds c (by rw [e]; exact .head _)
    have hr2 : (TL.tl s).map dull ++ ((TL.tl b).map dull ++ (TL.tl w ++ r)) = 32 :: (cs ++ ((TL.tl b).map dull ++ (TL.tl w ++ r))) := by
      rw [e, c32]
      rfl
    rw [h.all _ (.inr ⟨_, hr2⟩), Fw_blanks _ _ ds, Fw_blanks _ _ db, Fw_word hw.1 n32 hr, List.map_append, List.append_assoc]
    rfl
theorem says_end {ws : List Str} {t b : Str} (h : Says ws t) (hb : okBl b) : wdS (t ++ b) = ws := by
  refine map_tl_inj ?_
  rw [wdS_tl, pl_map]
  have db := okBl_dull hb
  have hr : (TL.tl b).map dull = [] ∨ ∃ r', (TL.tl b).map dull = 32 :: r' := by
    cases q : (TL.tl b).map dull with
    | nil => exact .inl rfl
    | cons c cs => exact .inr ⟨cs, by rw [db c (by rw [q]; exact .head _)]⟩
  rw [h.all _ hr]
  have := Fw_blanks ((TL.tl b).map dull) [] db
  rw [List.append_nil] at this
  rw [this, Fw_nil, List.append_nil]
theorem m_loose {ws : List Str} (hl : ws.length ≤ 40) (hw : ∀ w ∈ ws, okWd w ∧ Pl w ∧ w.cps.size ≤ 3) (r : Int) : ∃ t : Str, m__law_loose [.list (ws.map PyData.str), .int r] = .ok (.str t) ∧ Pl t ∧ t.cps.size ≤ 2000 ∧ wdS t = ws := by
  obtain ⟨b0, e0, k0⟩ := m_blank r
  have d2 : ∀ i : Int, oDiv (.int i) (.int 2) = some (.int (i / 2)) := fun i => oDiv_p (by decide) (by decide)
  have d7 : ∀ i : Int, oDiv (.int i) (.int 7) = some (.int (i / 7)) := fun i => oDiv_p (by decide) (by decide)
  have m1 : ∀ i : Int, oMul (.int 1000) (.int i) = some (.int (1000 * i)) := fun i => oMul_l (by decide)
  have md : ∀ i : Int, oMod (.int i) (.int 2) = some (.int (i % 2)) := fun i => oMod_p (by decide)
  obtain ⟨ρ', e4, hI⟩ := loop_inv (g := gSlot 3) (body := _law_loose_s1)
    (fun j ρ => ∃ (t : Str) (x : Int) (x3 : Option PyData), ρ = [some (.list (ws.map PyData.str)), some (.int x), some (.str t), x3] ∧ Says (ws.take j) t)
    ((upI 0 ws.length).map PyData.int) 0 [some (.list (ws.map PyData.str)), some (.int r), some (.str b0), none] ⟨b0, r, none, rfl, says_nil k0⟩ (by
      rintro j d ρ hd ⟨t, x, x3, rfl, hs⟩
      rw [Nat.zero_add] at hs ⊢
      rw [List.getElem?_map] at hd
      obtain ⟨y, hy, rfl⟩ := Option.map_eq_some_iff.mp hd
      obtain ⟨rfl, hj⟩ := up_get hy
      rw [Int.zero_add]
      refine ⟨_, rfl, ?_⟩
      have gw : ws[j]? = some ws[j] := List.getElem?_eq_getElem hj
      obtain ⟨w1, w2, w3⟩ := hw ws[j] (List.getElem_mem hj)
      have ix : oIx (.list (ws.map PyData.str)) (.int (j : Int)) = some (.str ws[j]) := by
        rw [oIx_dl, atD_nat (by rw [List.length_map]; exact hj), List.getElem?_map, gw]
        rfl
      have tk : ws.take (j + 1) = ws.take j ++ [ws[j]] := by rw [List.take_succ, gw]; rfl
      generalize ws[j] = w at *
      have sz := hs.sz
      rw [List.length_take] at sz
      have st3 : ∀ (t : Str), t.cps.size ≤ 9000 → (sSeq (sSet 2 false (r2 oAdd (rVar 2) (r2 oIx (rVar 0) (rVar 3)))) (sSet 1 false (r2 oAdd (r2 oAdd (r2 oDiv (rVar 1) (rC (.int 7))) (r2 oMul (rC (.int 1000)) (rVar 3))) (rC (.int 13))))) [some (.list (ws.map PyData.str)), some (.int x), some (.str t), some (.int (j : Int))] = .nx [some (.list (ws.map PyData.str)), some (.int (x / 7 + 1000 * (j : Int) + 13)), some (.str (t ++ w)), some (.int (j : Int))] := fun t ht => by
        have ad := oAdd_str (a := t) (b := w) (by omega)
        generalize PyData.list (ws.map PyData.str) = WW at ix ⊢
        simp [ix, ad, d7, m1]
      by_cases j0 : j = 0
      · subst j0
        refine ⟨[some (.list (ws.map PyData.str)), some (.int (x / 7 + 1000 * ((0 : Nat) : Int) + 13)), some (.str (t ++ w)), some (.int ((0 : Nat) : Int))], ?_, _, _, _, rfl, ?_⟩
        · show _law_loose_s1 [some (.list (ws.map PyData.str)), some (.int x), some (.str t), some (.int ((0 : Nat) : Int))] = _
          unfold _law_loose_s1
          refine seq_nx (ρ' := [some (.list (ws.map PyData.str)), some (.int x), some (.str t), some (.int ((0 : Nat) : Int))]) ?_ (st3 t (by omega))
          generalize PyData.list (ws.map PyData.str) = WW
          simp
        · rw [tk]
          have : ws.take 0 = [] := rfl
          rw [this] at hs ⊢
          exact says_first hs w1 w2 w3
      · obtain ⟨s, es, k1, k2⟩ := sep_cases x
        obtain ⟨b, eb, kb⟩ := m_blank (x / 2)
        refine ⟨[some (.list (ws.map PyData.str)), some (.int (x / 7 + 1000 * (j : Int) + 13)), some (.str (t ++ s ++ b ++ w)), some (.int (j : Int))], ?_, _, _, _, rfl, ?_⟩
        · show _law_loose_s1 [some (.list (ws.map PyData.str)), some (.int x), some (.str t), some (.int (j : Int))] = _
          have z1 := k1.2.2
          have z2 := kb.2.2
          have a1 := oAdd_str (a := t) (b := s) (by omega)
          have a2 := oAdd_str (a := t ++ s) (b := b) (by rw [size_app]; omega)
          have z3 : (t ++ s ++ b).cps.size ≤ 9000 := by
            rw [size_app, size_app]
            omega
          unfold _law_loose_s1
          refine seq_nx (ρ' := [some (.list (ws.map PyData.str)), some (.int x), some (.str (t ++ s ++ b)), some (.int (j : Int))]) ?_ (st3 _ z3)
          unfold _law_loose_s0
          have mk : mkL [.str (" " : Str), .str "\n"] = .ok (.list [.str " ", .str "\n"]) := rfl
          have jp : (0 : Int) < (j : Int) := by omega
          generalize PyData.list (ws.map PyData.str) = WW
          generalize PyData.list [.str (" " : Str), .str "\n"] = SS at mk es
          simp [jp, md, mk, es, a1, d2, eb, a2]
          omega
        · rw [tk]
          exact says_more hs w1 w2 w3 k1 k2 kb)
  obtain ⟨t, x, x3, rfl, hs⟩ := hI
  rw [List.length_map, upI_length, Nat.zero_add, List.take_length] at hs
  obtain ⟨b, eb, kb⟩ := m_blank x
  have sz := hs.sz
  have zb := kb.2.2
  refine ⟨t ++ b, ?_, pl_app hs.pl kb.2.1, by rw [size_app]; omega, says_end hs kb⟩
  unfold m__law_loose
  rw [run2]
  unfold s__law_loose
  have bl : bLen [.list (ws.map PyData.str)] = some (.int (ws.length : Int)) := by
    show some (PyData.int (((ws.map PyData.str).length : Nat) : Int)) = _
    rw [List.length_map]
  have ad := oAdd_str (a := t) (b := b) (by omega)
  refine go (ρ' := [some (.list (ws.map PyData.str)), some (.int r), some (.str b0), none]) (by simp [e0]) ?_
  refine go (ρ' := [some (.list (ws.map PyData.str)), some (.int x), some (.str t), x3]) ?_ ?_
  · unfold _law_loose_s2
    have er : (iR1 (aCons (rB bLen (aCons (rVar 0) aNil)) aNil)) [some (.list (ws.map PyData.str)), some (.int r), some (.str b0), none] = .ok ((upI 0 ws.length).map PyData.int) := by
      generalize PyData.list (ws.map PyData.str) = WW at bl ⊢
      simp [bl]
      exact rg1_n (by omega)
    rw [ap_sFor, er, stL_ok]
    exact e4
  · generalize PyData.list (ws.map PyData.str) = WW
    simp [eb, ad]
/-! ### the law -/
theorem shareR {s : Rho → Sr} {ρ : Rho} {d : PyData} (h : s ρ = .rt d) : sShare s ρ = .rt d := by
  unfold sShare
  rw [h]
theorem put_d {ρ : Rho} {k : Nat} {f g : Rho → Re PyData} {ds : List PyData} {x : PyData} {z : Nat} (hk : ρ[k]? = some (some (.list ds))) (hf : f ρ = .ok x) (hg : g ρ = .ok (.int (z : Int))) (h1 : z < ds.length) (hi : imm x = true) : sPut k true f g ρ = .nx (ρ.set k (some (.list (ds.set z x)))) := by
  unfold sPut
  rw [hf, st_ok, show getL ρ k = some ds by unfold getL; rw [hk]]
  show (g ρ).st ρ _ = _
  rw [hg, st_ok]
  have e : ixN ds.length (z : Int) = some z := by
    unfold ixN
    rw [if_pos (by omega), if_pos (by omega), Int.toNat_natCast]
  show (match ixN ds.length (z : Int) with
      | some k' => if (true = true → imm x = true) then Sr.nx (ρ.set k (some (.list (ds.set k' x)))) else .bad
      | none => .bad) = _
  rw [e]
  exact if_pos fun _ => hi
theorem str_num {i : Int} (h : 0 ≤ i ∧ i ≤ 40) : bStrA [.int i] = some (.str (numI i)) := by
  show (if decide (i.natAbs < 1000000) = true then some (PyData.str (toString i)) else none) = _
  rw [if_pos (decide_eq_true (by omega))]
  have : (i.natAbs : Int) = i := by omega
  unfold numI numS
  rw [this]
theorem m_written {i : Int} (h : -40 ≤ i ∧ i ≤ 40) (h0 : i ≠ 0) : m__law_written [.int i] = .ok (.str (plusS i)) := by
  have bs : bStrA [.int i] = some (.str (toString i)) := if_pos (decide_eq_true (by omega))
  unfold m__law_written
  rw [run1]
  unfold s__law_written
  by_cases hp : 0 < i
  · have e : plusS i = "+" ++ (toString i : Str) := if_neg (by omega)
    have zz : ("+" ++ (toString i : Str)).cps.size = ("+" : Str).cps.size + (toString i : Str).cps.size := size_app _ _
    have sz : (toString i : Str).cps.size ≤ 2 := by
      have := numS_sz (n := i.natAbs) (by omega)
      have ia : (i.natAbs : Int) = i := by omega
      unfold numS at this
      rw [ia] at this
      exact this.1
    have ad := oAdd_str (a := "+") (b := (toString i : Str)) (by
      have : ("+" : Str).cps.size = 1 := by decide
      omega)
    rw [e]
    generalize (toString i : Str) = S at bs ad ⊢
    simp [hp, bs, ad]
  · have e : plusS i = (toString i : Str) := if_pos (by omega)
    rw [e]
    generalize (toString i : Str) = S at bs ⊢
    simp [hp, bs]
theorem numI_ok {i : Int} (h : 1 ≤ i ∧ i ≤ 40) : okWd (numI i) ∧ Pl (numI i) ∧ (numI i).cps.size ≤ 3 := by
  obtain ⟨c, cs, e, p, z, _, nb⟩ := SW.tl (w := numI i) (i := i) (.inr ⟨by omega, rfl⟩) ⟨by omega, by omega⟩ (by omega)
  exact ⟨⟨by rw [e]; simp, by rw [e]; exact nb⟩, p, z⟩
theorem sw_ok {w : Str} {i : Int} (h : SW w i) (hi : -40 ≤ i ∧ i ≤ 40) (h0 : i ≠ 0) : okWd w ∧ Pl w ∧ w.cps.size ≤ 3 := by
  obtain ⟨c, cs, e, p, z, _, nb⟩ := h.tl hi h0
  exact ⟨⟨by rw [e]; simp, by rw [e]; exact nb⟩, p, z⟩
theorem m_wrow {r : List Int} (hr : isRow r) : m_write_row [tI r] = .ok (.str (Txt.join " " (r.map numI))) := by
  have hl := hr.1
  have ck := m_check r (by omega)
  rw [if_pos hr] at ck
  have l1 : rLc (iOf itS (rCall m_check_row (aCons (rVar 0) aNil))) [1] (gSlot 1) yesR (rB bStrA (aCons (rVar 1) aNil)) [some (tI r), none] = .ok (.list ((r.map numI).map PyData.str)) := by
    rw [List.map_map]
    refine lc_gen (as := r) (e := PyData.int) (h := fun i => .str (numI i)) (ρ1 := fun i => [some (tI r), some (.int i)]) ?_ (by omega) (fun _ _ => rfl) fun i hi => ?_
    · simp [ck]
    · have hs := row_small hr i hi
      have := str_num (i := i) (by omega)
      generalize tI r = T
      simp [this]
  have jn := join_ok (y := " ") (ps := r.map numI) (B := 3) (fun p hp => by
    obtain ⟨i, hi, rfl⟩ := List.mem_map.mp hp
    exact (numI_ok (row_small hr i hi)).2.2) (by
    show (r.map numI).length * 3 + (r.map numI).length * 1 ≤ 10000
    rw [List.length_map]
    omega)
  unfold m_write_row
  rw [run1]
  unfold s_write_row
  have ev : r2M mJoin (rC (.str " ")) (rLc (iOf itS (rCall m_check_row (aCons (rVar 0) aNil))) [1] (gSlot 1) yesR (rB bStrA (aCons (rVar 1) aNil))) [some (tI r), none] = .ok (.str (Txt.join " " (r.map numI))) := by
    show ((rLc (iOf itS (rCall m_check_row (aCons (rVar 0) aNil))) [1] (gSlot 1) yesR (rB bStrA (aCons (rVar 1) aNil))) [some (tI r), none]).andThen (fun e => liftO (mJoin " " e)) = _
    rw [l1, re_ok, jn]
    rfl
  exact (congrArg (fun q => outR (q.st [some (tI r), none] fun d => .rt d)) ev).trans rfl
theorem m_wsgn {r : List Int} (hr : isSgn r) : m_write_signed [tI r] = .ok (.str (Txt.join " " (r.map plusS))) := by
  have hl := hr.1
  have ck := m_cs r (by omega)
  rw [if_pos hr] at ck
  have l1 : rLc (iOf itS (rVar 0)) [1] (gSlot 1) yesR (r1 oPlus (rVar 1)) [some (tI r), none] = .ok (.list ((r.map plusS).map PyData.str)) := by
    rw [List.map_map]
    refine lc_gen (as := r) (e := PyData.int) (h := fun i => .str (plusS i)) (ρ1 := fun i => [some (tI r), some (.int i)]) ?_ (by omega) (fun _ _ => rfl) fun i hi => ?_
    · simp
    · have hs := sgn_small hr i hi
      have := oPlus_ok hs.1
      generalize tI r = T
      simp [this]
  have jn := join_ok (y := " ") (ps := r.map plusS) (B := 3) (fun p hp => by
    obtain ⟨i, hi, rfl⟩ := List.mem_map.mp hp
    have := sgn_small hr i hi
    exact (sw_ok (.inl rfl) this.1 this.2).2.2) (by
    show (r.map plusS).length * 3 + (r.map plusS).length * 1 ≤ 10000
    rw [List.length_map]
    omega)
  have mw : m_written_signed [tI r] = .ok (.str (Txt.join " " (r.map plusS))) := by
    unfold m_written_signed
    rw [run1]
    unfold s_written_signed
    have ev : r2M mJoin (rC (.str " ")) (rLc (iOf itS (rVar 0)) [1] (gSlot 1) yesR (r1 oPlus (rVar 1))) [some (tI r), none] = .ok (.str (Txt.join " " (r.map plusS))) := by
      show ((rLc (iOf itS (rVar 0)) [1] (gSlot 1) yesR (r1 oPlus (rVar 1))) [some (tI r), none]).andThen (fun e => liftO (mJoin " " e)) = _
      rw [l1, re_ok, jn]
      rfl
    exact (congrArg (fun q => outR (q.st [some (tI r), none] fun d => .rt d)) ev).trans rfl
  unfold m_write_signed
  rw [run1]
  unfold s_write_signed
  simp [ck, mw]
/-- one turn of the law's loop -/
theorem plus_step {s : List Int} (hs : isSgn s) {ws : List Str} (hl : ws.length = s.length) (hw : ∀ k (h1 : k < ws.length) (h2 : k < s.length), SW ws[k] s[k]) (j : Nat) (hj : j < ws.length) (x0 x1 x2 x3 x4 x7 x9 x10 : Option PyData) (z : Int) :
    ∃ ws' : List Str, ws'.length = s.length ∧ (∀ k (h1 : k < ws'.length) (h2 : k < s.length), SW ws'[k] s[k]) ∧
      law_s4 [x0, x1, x2, x3, x4, some (.list (ws.map PyData.str)), some (.int z), x7, some (.int (j : Int)), x9, x10] = .nx [x0, x1, x2, x3, x4, some (.list (ws'.map PyData.str)), some (.int z), x7, some (.int (j : Int)), x9, x10] := by
  have hz := hs.1
  have sm := sgn_small hs s[j] (List.getElem_mem (by omega))
  have h := hw j hj (by omega)
  obtain ⟨c, cs, e, pw, sz, nb, _⟩ := h.tl sm.1 sm.2
  have i0 := ix0 e (by omega)
  have ix : oIx (.list (ws.map PyData.str)) (.int (j : Int)) = some (.str ws[j]) := by
    rw [oIx_dl, atD_nat (by rw [List.length_map]; exact hj), List.getElem?_map, List.getElem?_eq_getElem hj]
    rfl
  have pc : c < 128 := pw c (by rw [e]; exact .head _)
  have q2 : oEq (chD c) (.str "+") = some (.bool (decide (c = 43))) := by
    have := oEq_pl (a := ⟨#[c]⟩) (b := ⟨#[43]⟩) (ch_pl pc) (ch_pl (by decide))
    rw [ch_eq] at this
    exact this
  have dv : oDiv (.int z) (.int (1 + (j : Int))) = some (.int (z / (1 + (j : Int)))) := oDiv_p (by omega) (by omega)
  have md : ∀ i : Int, oMod (.int i) (.int 2) = some (.int (i % 2)) := fun i => oMod_p (by decide)
  unfold law_s4 law_s3
  by_cases hc : c = 43
  · subst hc
    rw [decide_eq_true rfl] at q2
    by_cases h2 : z / (1 + (j : Int)) % 2 = 0
    · have cu := cutS_ok (t := ws[j]) (by omega) (some 1) none
      have hp : 0 < s[j] ∧ cutS ws[j] (some 1) none = numS s[j].natAbs := by
        rcases h with h | ⟨hp, h⟩
        · have e2 := plus_tl sm.1 sm.2
          rw [← h, e] at e2
          injection e2 with e3 e4
          have np : ¬ s[j] < 0 := fun q => by
            rw [if_pos q] at e3
            omega
          refine ⟨by omega, tl_ext ?_⟩
          have := cut_from (t := ws[j]) (n := 1)
          rw [e] at this
          rw [← e4]
          exact this
        · obtain ⟨c2, cs2, e2, h1, h3⟩ := num_cons (n := s[j].natAbs) (by omega)
          rw [← h, e] at e2
          injection e2 with e3 e4
          omega
      rw [hp.2] at cu
      refine ⟨ws.set j (numS s[j].natAbs), by rw [List.length_set]; exact hl, fun k h1 h2 => ?_, ?_⟩
      · rw [List.getElem_set]
        split
        · rename_i q
          subst q
          exact .inr ⟨hp.1, rfl⟩
        · exact hw k (by rwa [List.length_set] at h1) h2
      · have ti : (tAndR (asB (r2 oEq (r2 oIxS (r2 oIx (rVar 5) (rVar 8)) (rC (.int 0))) (rC (.str "+")))) (asB (r2 oEq (r2 oMod (rB bInt (aCons (r2 oDiv (rVar 6) (r2 oAdd (rC (.int 1)) (rVar 8))) aNil)) (rC (.int 2))) (rC (.int 0))))) [x0, x1, x2, x3, x4, some (.list (ws.map PyData.str)), some (.int z), x7, some (.int (j : Int)), x9, x10] = .ok true := by
          generalize PyData.list (ws.map PyData.str) = WW at ix ⊢
          generalize chD 43 = CH at i0 q2
          simp [ix, i0, q2, dv, md, h2]
        rw [ap_sIf, ti, stT_ok, if_pos rfl]
        rw [put_d (k := 5) (ds := ws.map PyData.str) (x := .str (numS s[j].natAbs)) (z := j) rfl (by
          have := ap_rCutS (ρ := [x0, x1, x2, x3, x4, some (.list (ws.map PyData.str)), some (.int z), x7, some (.int (j : Int)), x9, x10]) (r2 oIx (rVar 5) (rVar 8)) (asI (rC (.int 1))) noI
          rw [this]
          generalize PyData.list (ws.map PyData.str) = WW at ix ⊢
          simp [ix, cu]) (by simp) (by rw [List.length_map]; exact hj) rfl, List.map_set]
        rfl
    · refine ⟨ws, hl, hw, ?_⟩
      generalize PyData.list (ws.map PyData.str) = WW at ix ⊢
      generalize chD 43 = CH at i0 q2
      simp [ix, i0, q2, dv, md, h2]
  · rw [decide_eq_false hc] at q2
    refine ⟨ws, hl, hw, ?_⟩
    generalize PyData.list (ws.map PyData.str) = WW at ix ⊢
    generalize chD c = CH at i0 q2
    simp [ix, i0, q2]
theorem law_true (ns : List Int) (_h : ns.length ≤ 63) : m_law [scrD ns] = .ok (.bool true) := by
  have c0 := m_cell ns 0
  have c1 := m_cell ns 1
  have c2 := m_cell ns 2
  have c3 := m_cell ns 3
  generalize cellZ ns 0 = z0 at c0
  generalize cellZ ns 1 = z1 at c1
  generalize cellZ ns 2 = z2 at c2
  generalize cellZ ns 3 = z3 at c3
  have c0 : m__law_cell [scrD ns, .int 0] = .ok (.int z0) := c0
  have c1 : m__law_cell [scrD ns, .int 1] = .ok (.int z1) := c1
  have c2 : m__law_cell [scrD ns, .int 2] = .ok (.int z2) := c2
  have c3 : m__law_cell [scrD ns, .int 3] = .ok (.int z3) := c3
  have rc := m_rich z0
  have rc3 := m_rich z3
  have dg := m_digits (richZ z0) [41, 41] (by decide) (by decide)
  obtain ⟨d0, d1, dd, b0, b1⟩ : ∃ d0 d1 : Nat, digZ (richZ z0) [41, 41] = [(d0 : Int), (d1 : Int)] ∧ d0 < 41 ∧ d1 < 41 := by
    have em : ∀ x : Int, ∃ n : Nat, x % 41 = (n : Int) ∧ n < 41 := fun x => ⟨(x % 41).toNat, by omega, by omega⟩
    obtain ⟨n1, q1, l1⟩ := em (richZ z0)
    obtain ⟨n2, q2, l2⟩ := em (richZ z0 / 41)
    refine ⟨n1, n2, ?_, l1, l2⟩
    show [richZ z0 % 41, richZ z0 / 41 % 41] = _
    rw [q1, q2]
  rw [dd] at dg
  clear dd
  have mk2 : mkL [.int 41, .int 41] = .ok (lI [41, 41]) := rfl
  generalize richZ z3 = R at rc3
  generalize richZ z0 = R0 at rc dg
  obtain ⟨r, e1, p1⟩ := m_row z1 d0 (by omega)
  obtain ⟨s, e2, p2⟩ := m_sgn z2 d1 (by omega)
  have hr : isRow r := (row_perm p1 (by omega)).1
  have hs : isSgn s := isSgn_of p2 (by omega)
  have i0 : atZ [(d0 : Int), (d1 : Int)] 0 = some (d0 : Int) := rfl
  have i1 : atZ [(d0 : Int), (d1 : Int)] 1 = some (d1 : Int) := rfl
  have lr := hr.1
  have lsn := hs.1
  -- the words
  have okr : ∀ w ∈ r.map numI, okWd w ∧ Pl w ∧ w.cps.size ≤ 3 := fun w hw => by
    obtain ⟨i, hi, rfl⟩ := List.mem_map.mp hw
    exact numI_ok (row_small hr i hi)
  have oks : ∀ w ∈ s.map plusS, okWd w ∧ Pl w ∧ w.cps.size ≤ 3 := fun w hw => by
    obtain ⟨i, hi, rfl⟩ := List.mem_map.mp hw
    have := sgn_small hs i hi
    exact sw_ok (.inl rfl) this.1 this.2
  have pj : ∀ ws : List Str, ws.length ≤ 40 → (∀ w ∈ ws, okWd w ∧ Pl w ∧ w.cps.size ≤ 3) → Pl (Txt.join " " ws) ∧ (Txt.join " " ws).cps.size ≤ 2000 := fun ws hl hw => by
    refine ⟨join_mem (P := fun c => c < 128) (by decide) fun p hp => (hw p hp).2.1, ?_⟩
    have := join_size (y := " ") (ps := ws) (B := 3) fun p hp => (hw p hp).2.2
    have e : (" " : Str).cps.size = 1 := by decide
    rw [e] at this
    omega
  obtain ⟨pr, zr⟩ := pj (r.map numI) (by rw [List.length_map]; exact lr) okr
  obtain ⟨ps, zs⟩ := pj (s.map plusS) (by rw [List.length_map]; exact lsn) oks
  have wr := m_wrow hr
  have wsn := m_wsgn hs
  have rr := m_rrow hr pr zr (join_words fun w hw => (okr w hw).1)
  have swp : ∀ k (h1 : k < (s.map plusS).length) (h2 : k < s.length), SW (s.map plusS)[k] s[k] := fun k h1 h2 => by
    rw [List.getElem_map]
    exact .inl rfl
  have rs := m_rsgn hs (by rw [List.length_map]) swp ps zs (join_words fun w hw => (oks w hw).1)
  have j1 := join_ok (y := " ") (ps := r.map numI) (B := 3) (fun p hp => (okr p hp).2.2) (by
    show (r.map numI).length * 3 + (r.map numI).length * 1 ≤ 10000
    rw [List.length_map]
    omega)
  have j2 := join_ok (y := " ") (ps := s.map plusS) (B := 3) (fun p hp => (oks p hp).2.2) (by
    show (s.map plusS).length * 3 + (s.map plusS).length * 1 ≤ 10000
    rw [List.length_map]
    omega)
  have n1 := oNe_own (tok_pl (k := 1) pr) (by decide)
  have n2 := oNe_own (tok_pl (k := 1) ps) (by decide)
  generalize Txt.join " " (r.map numI) = T1 at *
  generalize Txt.join " " (s.map plusS) = T2 at *
  obtain ⟨t1, lo1, g1, g2, g3⟩ := m_loose (ws := r.map numI) (by rw [List.length_map]; exact lr) okr R
  have rd1 := m_rrow hr g1 g2 g3
  have l4 : ∀ x4 x5 x6 x7 x8 x9 x10, rLc (iOf itS (rVar 2)) [10] (gSlot 10) yesR (rB bStrA (aCons (rVar 10) aNil)) [some (scrD ns), some (lI [(d0 : Int), (d1 : Int)]), some (tI r), some (tI s), x4, x5, x6, x7, x8, x9, x10] = .ok (.list ((r.map numI).map PyData.str)) := fun x4 x5 x6 x7 x8 x9 x10 => by
    rw [List.map_map]
    refine lc_gen (as := r) (e := PyData.int) (h := fun i => .str (numI i)) (ρ1 := fun i => [some (scrD ns), some (lI [(d0 : Int), (d1 : Int)]), some (tI r), some (tI s), x4, x5, x6, x7, x8, x9, some (.int i)]) (by simp) (by omega) (fun _ _ => rfl) fun i hi => ?_
    have hs := row_small hr i hi
    have := str_num (i := i) (by omega)
    simp [this]
  have l5 : ∀ x4 x5 x6 x7 x8 x9 x10, rLc (iOf itS (rVar 3)) [10] (gSlot 10) yesR (rCall m__law_written (aCons (rVar 10) aNil)) [some (scrD ns), some (lI [(d0 : Int), (d1 : Int)]), some (tI r), some (tI s), x4, x5, x6, x7, x8, x9, x10] = .ok (.list ((s.map plusS).map PyData.str)) := fun x4 x5 x6 x7 x8 x9 x10 => by
    rw [List.map_map]
    refine lc_gen (as := s) (e := PyData.int) (h := fun i => .str (plusS i)) (ρ1 := fun i => [some (scrD ns), some (lI [(d0 : Int), (d1 : Int)]), some (tI r), some (tI s), x4, x5, x6, x7, x8, x9, some (.int i)]) (by simp) (by omega) (fun _ _ => rfl) fun i hi => ?_
    have sm := sgn_small hs i hi
    have := m_written sm.1 sm.2
    simp [this]
  -- the loop
  obtain ⟨ρ', e4, hI⟩ := loop_inv (g := gSlot 8) (body := law_s4)
    (fun j ρ => ∃ (ws : List Str) (x8 : Option PyData), ρ = [some (scrD ns), some (lI [(d0 : Int), (d1 : Int)]), some (tI r), some (tI s), some (.list ((r.map numI).map PyData.str)), some (.list (ws.map PyData.str)), some (.int R), some (tI r), x8, none, none] ∧ ws.length = s.length ∧ (∀ k (h1 : k < ws.length) (h2 : k < s.length), SW ws[k] s[k]))
    ((upI 0 s.length).map PyData.int) 0 [some (scrD ns), some (lI [(d0 : Int), (d1 : Int)]), some (tI r), some (tI s), some (.list ((r.map numI).map PyData.str)), some (.list ((s.map plusS).map PyData.str)), some (.int R), some (tI r), none, none, none] ⟨s.map plusS, none, rfl, by rw [List.length_map], swp⟩ (by
      rintro j d ρ hd ⟨ws, x8, rfl, hl, hw⟩
      rw [List.getElem?_map] at hd
      obtain ⟨y, hy, rfl⟩ := Option.map_eq_some_iff.mp hd
      obtain ⟨rfl, hj⟩ := up_get hy
      rw [Int.zero_add]
      refine ⟨_, rfl, ?_⟩
      obtain ⟨ws', q1, q2, q3⟩ := plus_step hs hl hw j (by omega) (some (scrD ns)) (some (lI [(d0 : Int), (d1 : Int)])) (some (tI r)) (some (tI s)) (some (.list ((r.map numI).map PyData.str))) (some (tI r)) none none R
      exact ⟨_, q3, ws', _, rfl, q1, q2⟩)
  obtain ⟨ws, x8, rfl, hl, hw⟩ := hI
  have okw : ∀ w ∈ ws, okWd w ∧ Pl w ∧ w.cps.size ≤ 3 := fun w h => by
    obtain ⟨k, hk, rfl⟩ := List.mem_iff_getElem.mp h
    have sm := sgn_small hs s[k] (List.getElem_mem (by omega))
    exact sw_ok (hw k hk (by omega)) sm.1 sm.2
  obtain ⟨t2, lo2, f1, f2, f3⟩ := m_loose (ws := ws) (by omega) okw (R / 3)
  have rd2 := m_rsgn hs hl hw f1 f2 f3
  have d3 : oDiv (.int R) (.int 3) = some (.int (R / 3)) := oDiv_p (by decide) (by decide)
  have qr : oEq (tI r) (tI r) = some (.bool true) := by simp
  have qs : oEq (tI s) (tI s) = some (.bool true) := by simp
  have nr : oNe (tI r) (tI r) = some (.bool false) := by simp
  have nsn : oNe (tI s) (tI s) = some (.bool false) := by simp
  have ir : isD (tI r) "tuple" = some true := isi_tt _
  have isn : isD (tI s) "tuple" = some true := isi_tt _
  unfold m_law
  rw [run1]
  unfold s_law
  refine go (ρ' := [some (scrD ns), some (lI [(d0 : Int), (d1 : Int)]), none, none, none, none, none, none, none, none, none]) ?_ ?_
  · unfold law_s0
    simp [c0, rc, mk2, dg]
  refine go (ρ' := [some (scrD ns), some (lI [(d0 : Int), (d1 : Int)]), some (tI r), none, none, none, none, none, none, none, none]) (by simp [c1, i0, e1]) ?_
  refine go (ρ' := [some (scrD ns), some (lI [(d0 : Int), (d1 : Int)]), some (tI r), some (tI s), none, none, none, none, none, none, none]) (by simp [c2, i1, e2]) ?_
  refine go (ρ' := [some (scrD ns), some (lI [(d0 : Int), (d1 : Int)]), some (tI r), some (tI s), some (.list ((r.map numI).map PyData.str)), none, none, none, none, none, none]) ?_ ?_
  · rw [ap_sSet, l4]
    rfl
  refine go (ρ' := [some (scrD ns), some (lI [(d0 : Int), (d1 : Int)]), some (tI r), some (tI s), some (.list ((r.map numI).map PyData.str)), some (.list ((s.map plusS).map PyData.str)), none, none, none, none, none]) ?_ ?_
  · rw [ap_sSetO, l5]
    rfl
  refine go (ρ' := [some (scrD ns), some (lI [(d0 : Int), (d1 : Int)]), some (tI r), some (tI s), some (.list ((r.map numI).map PyData.str)), some (.list ((s.map plusS).map PyData.str)), none, none, none, none, none]) ?_ ?_
  · unfold law_s1
    have a1 : ∀ ρ : Rho, ρ[4]? = some (some (.list ((r.map numI).map PyData.str))) → r2M mJoin (rC (.str " ")) (rVar 4) ρ = .ok (.str T1) := fun ρ hρ => by
      show ((rVar 4) ρ).andThen (fun e => liftO (mJoin " " e)) = _
      rw [ap_var, hρ]
      show liftO (mJoin " " _) = _
      rw [j1]
      rfl
    have a2 : ∀ ρ : Rho, ρ[5]? = some (some (.list ((s.map plusS).map PyData.str))) → r2M mJoin (rC (.str " ")) (rVar 5) ρ = .ok (.str T2) := fun ρ hρ => by
      show ((rVar 5) ρ).andThen (fun e => liftO (mJoin " " e)) = _
      rw [ap_var, hρ]
      show liftO (mJoin " " _) = _
      rw [j2]
      rfl
    have a1 := a1 [some (scrD ns), some (lI [(d0 : Int), (d1 : Int)]), some (tI r), some (tI s), some (.list ((r.map numI).map PyData.str)), some (.list ((s.map plusS).map PyData.str)), none, none, none, none, none] rfl
    have a2 := a2 [some (scrD ns), some (lI [(d0 : Int), (d1 : Int)]), some (tI r), some (tI s), some (.list ((r.map numI).map PyData.str)), some (.list ((s.map plusS).map PyData.str)), none, none, none, none, none] rfl
    generalize r2M mJoin (rC (.str " ")) (rVar 4) = J1 at a1 ⊢
    generalize r2M mJoin (rC (.str " ")) (rVar 5) = J2 at a2 ⊢
    generalize PyData.list ((r.map numI).map PyData.str) = W1 at *
    generalize PyData.list ((s.map plusS).map PyData.str) = W2 at *
    simp [wr, wsn, a1, a2, n1, n2]
  refine go (ρ' := [some (scrD ns), some (lI [(d0 : Int), (d1 : Int)]), some (tI r), some (tI s), some (.list ((r.map numI).map PyData.str)), some (.list ((s.map plusS).map PyData.str)), none, none, none, none, none]) ?_ ?_
  · unfold law_s2
    generalize PyData.list ((r.map numI).map PyData.str) = W1 at *
    generalize PyData.list ((s.map plusS).map PyData.str) = W2 at *
    generalize tI r = TR at *
    generalize tI s = TS at *
    simp [wr, wsn, rr, rs, nr, nsn]
  refine go (ρ' := [some (scrD ns), some (lI [(d0 : Int), (d1 : Int)]), some (tI r), some (tI s), some (.list ((r.map numI).map PyData.str)), some (.list ((s.map plusS).map PyData.str)), some (.int R), none, none, none, none]) ?_ ?_
  · generalize PyData.list ((r.map numI).map PyData.str) = W1 at *
    generalize PyData.list ((s.map plusS).map PyData.str) = W2 at *
    simp [c3, rc3]
  refine go (ρ' := [some (scrD ns), some (lI [(d0 : Int), (d1 : Int)]), some (tI r), some (tI s), some (.list ((r.map numI).map PyData.str)), some (.list ((s.map plusS).map PyData.str)), some (.int R), some (tI r), none, none, none]) ?_ ?_
  · generalize PyData.list ((r.map numI).map PyData.str) = W1 at *
    generalize PyData.list ((s.map plusS).map PyData.str) = W2 at *
    simp [lo1, rd1]
  refine go (ρ' := [some (scrD ns), some (lI [(d0 : Int), (d1 : Int)]), some (tI r), some (tI s), some (.list ((r.map numI).map PyData.str)), some (.list (ws.map PyData.str)), some (.int R), some (tI r), x8, none, none]) ?_ ?_
  · unfold law_s5
    have bl : bLen [.list ((s.map plusS).map PyData.str)] = some (.int (s.length : Int)) := by
      show some (PyData.int ((((s.map plusS).map PyData.str).length : Nat) : Int)) = _
      rw [List.length_map, List.length_map]
    have er : (iR1 (aCons (rB bLen (aCons (rVar 5) aNil)) aNil)) [some (scrD ns), some (lI [(d0 : Int), (d1 : Int)]), some (tI r), some (tI s), some (.list ((r.map numI).map PyData.str)), some (.list ((s.map plusS).map PyData.str)), some (.int R), some (tI r), none, none, none] = .ok ((upI 0 s.length).map PyData.int) := by
      generalize PyData.list ((r.map numI).map PyData.str) = W1
      generalize PyData.list ((s.map plusS).map PyData.str) = W2 at bl ⊢
      simp [bl]
      exact rg1_n (by omega)
    rw [ap_sFor, er, stL_ok]
    exact e4
  clear e4
  show outR (law_s6 _) = _
  unfold law_s6
  refine (congrArg outR (shareR (d := .bool true) ?_)).trans rfl
  refine seq_nx (ρ' := [some (scrD ns), some (lI [(d0 : Int), (d1 : Int)]), some (tI r), some (tI s), some (.list ((r.map numI).map PyData.str)), some (.list (ws.map PyData.str)), some (.int R), some (tI r), x8, some (tI s), none]) ?_ ?_
  · generalize PyData.list ((r.map numI).map PyData.str) = W1 at *
    generalize PyData.list (ws.map PyData.str) = W2 at *
    simp [d3, lo2, rd2]
  · generalize PyData.list ((r.map numI).map PyData.str) = W1 at *
    generalize PyData.list (ws.map PyData.str) = W2 at *
    generalize tI r = TR at *
    generalize tI s = TS at *
    simp [ap_isi, ir, isn, qr, qs]
end Gn

set_option Elab.async false
set_option linter.all false
set_option maxRecDepth 100000
set_option maxHeartbeats 0
open PySem PySem.W PySem.Calls PyProof.Rows
theorem PySem.Challenge.cw_turnedrows_k48_rows_written_and_read_holds : PySem.Challenge.rw_turnedrows_k48_rows_written_and_read.Holds := by
  w_on; o_law
  refine HandSHeadRun.head_any (r := OpenLaw.row PySem.Challenge.rw_turnedrows_k48_rows_written_and_read) (q := view (OpenLaw.row PySem.Challenge.rw_turnedrows_k48_rows_written_and_read).prog [31]) (H := Gn.hk) (ob := Gn.ob) (M := 4000) (loose := Gn.loose) (d := HandSHeadRun.topDef (OpenLaw.row PySem.Challenge.rw_turnedrows_k48_rows_written_and_read).prog 31) (kwd := []) Gn.ob_eq (by kernel_rfl)
    (fun s => by kernel_rfl) Gn.run (by kernel_rfl) (by kernel_rfl) (by kernel_rfl) (by rfl) (by first | assumption | decide +kernel) (by decide +kernel)
    ⟨rfl, rfl, rfl, rfl, rfl, by decide +kernel⟩ ?hw ?hc
  case hw => w_witness2
  case hc =>
    refine Pu.walkT (l := PySem.Challenge.rw_turnedrows_k48_rows_written_and_read) (n := 63) (k := 4) (x := "script") (f := Gn.m_law) rfl (by decide) (by kernel_rfl) ⟨rfl, by decide, by decide⟩ Gn.law_true ?F
    intro w mg fa h Y G hmg0
    obtain ⟨K, KX, c⟩ := Y
    have hmg : mg ("law" : PySem.Str) = some (.ref fa) := by
      rw [← show (HandSHeadRun.topDef (OpenLaw.row PySem.Challenge.rw_turnedrows_k48_rows_written_and_read).prog 31).name = ("law" : PySem.Str) by kernel_rfl]
      exact hmg0
    have ct := Gn.ct_of KX G c
    obtain ⟨fd, hb, hF⟩ := Pu.law_fn (P := (PySem.Challenge.rw_turnedrows_k48_rows_written_and_read).prog) (w := w) (p := "script") (k := 4) (f := Gn.m_law) hmg ct.f_law (fun _ _ _ _ _ _ us hl => match us, hl with | [_], _ => rfl)
      fun base _ _ fA fd Fd _ => Pu.def_ok Fd Gn.sc_law Gn.M_law (by decide) Gn.s_law fun cdv A outer sh H Ex Gx F => Gn.bo_law ct 0 fA cdv A outer sh H Ex Gx F
    exact ⟨K, fd, [], [], KX, (fun _ h => nomatch h), (fun _ h => nomatch h), (fun _ h => nomatch h), (fun _ h => nomatch h), hb, fun base h1 h2 _ => hF base h1 h2⟩

