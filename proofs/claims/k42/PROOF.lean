import PyProof.Rows.All
import Wide.All
import OpenK.AllK
import Wide.FinOn
import HandS.ForMost
import HandS.Conv
import HandS.TupAny
import HandS.HeadHook1
import HandS.Exc
import HandS.TryOnly
import HandS.ExcOwn
import HandS.WordsExc
import HandS.Wide
import HandS.SortInts
import HandS.More
import HandS.ExcIs
import HandS.Defaults
import HandS.HeadHook2
import HandS.HeadEnd
import HandS.Strs
import HandS.IsInst
import KE.DataMinMax
import HandS.Head0
import HandS.Head1
import HandS.Head2
import HandS.DictComp
import PyProof.CollectIter
import PyProof.WalksMore
import HandS.HeadHook3
import HandS.Zip
import KE.GoesMore
import HandS.Gcd
import HandS.RevRange
import HandS.SortKw
import HandS.Style
import KE.GoesEnum
import KE.KStateDown
import HandS.Flow
import HandS.Deep
import HandS.SetFor
import HandS.TupLe
import PyProof.DictUpdate
import PyProof.P3In
import HandS.SlotsOwn
import PySem.Challenge.RW_turnedrows_k42_all_trees
set_option Elab.async false
set_option linter.all false
set_option maxRecDepth 100000
set_option maxHeartbeats 2000000
/-! tuples whose object is known to bear no dict of its own -/
namespace Pu
open PySem PySem.Spec PyProof.Rows L2
def TupD (K : PySem.W.Frag) (H : Hp) (a : Addr) (xs : List V) : Prop := (∃ o : Obj, H a = some (.frz o (.tup xs)) ∧ o.dict = none) ∨
  ∃ (o : Obj) (its : Array Value) (n : Nat), K.lookup a = some o ∧ o.cls = .type "tuple" ∧ o.dict = none ∧ o.data = .seq its n ∧ its.size ≤ sizeLine ∧ Vals xs its.toList
theorem TupD.sq {K : PySem.W.Frag} {H : Hp} {a : Addr} {xs : List V} (h : TupD K H a xs) : SqT K H a xs := by
  rcases h with ⟨o, h, _⟩ | ⟨o, its, n, h1, h2, _, h3, h4, h5⟩
  · exact .inl (.inr ⟨o, h⟩)
  · exact .inr ⟨o, its, n, h1, h2, h3, h4, h5⟩
/-- a new tuple at p -/
abbrev NewT (Q : VK) (H : Hp) (xs : List V) : Prop := ∀ (p : Addr) (o : Obj), H p = none → o.dict = none → Q (.ref p) (upd H p (.frz o (.tup xs)))
section
variable {X : Cx} {pins : List (Addr × Obj)} {σ : L2.St} {H : Hp} {s : Shared}
theorem Inv.tupNew {h' : Heap} {its : List Value} {xs : List V} {Q : VK} {tk : Nat} (I1 : Inv X pins σ H { s with heap := h', toks := tk }) (r : Vals xs its) (hz : xs.length ≤ sizeLine) (q : NewT Q H xs) :
    EP X pins σ Q (.ref h'.objs.size) { s with heap := h'.push { cls := .type "tuple", data := .seq its.toArray }, toks := tk } := by
  refine ⟨.ref h'.objs.size, upd H h'.objs.size (.frz { cls := .type "tuple", data := .seq its.toArray } (.tup xs)), ?_, rfl, q _ _ (I1.hok.fresh (Nat.le_refl _)) rfl⟩
  exact I1.laid (t' := tk) (fun b o e => Heap.get?_push_of_some _ e) (Nat.le_refl _) ⟨Heap.get?_push_size _ rfl, hz, its, r, IsTup.new _ _⟩
def tTupF (t : TA) : TE := fun σ H Q => t σ H fun xs H1 => xs.length ≤ sizeLine ∧ NewT Q H1 xs
theorem pe_tupF {es : List Expr} {x1 : Nat} {pos : Pos} {t : TA} (h : PA X es t) : PE X (.Tuple es x1 pos) (tTupF t) := by
  refine ⟨fun pins s σ H Q I hq => wpAny_Tuple_spliced (thn (h.run pos pins s σ H _ I hq) ?_)⟩
  rintro us s1 ⟨xs, H1, I1, r, z, q⟩
  exact ⟨by rw [← r.length]; exact z, Inv.tupNew (h' := s1.heap) (tk := s1.toks) I1 r z q⟩
def rSlF (K : PySem.W.Frag) : V → Option Int → Option Int → Hp → VK → Prop := fun x lo hi H Q => ∃ a xs, x = .ref a ∧ SqT K H a xs ∧
  ((HT.sIx xs.length 0 lo = 0 ∧ HT.sIx xs.length xs.length hi = xs.length) → Q (.ref a) H) ∧ (¬ (HT.sIx xs.length 0 lo = 0 ∧ HT.sIx xs.length xs.length hi = xs.length) → NewT Q H (cutV xs lo hi))
theorem sl_tupF : SlR X (rSlF X.K) := by
  intro pins s σ H x v vl vu lo hi sl Q I rx hs pl pu h
  obtain ⟨a, xs, rfl, hx, q1, q2⟩ := h
  cases rx
  obtain ⟨its, r, ht, hz⟩ := I.tuple hx
  have hlen : its.toArray.size = xs.length := by
    rw [List.size_toArray]
    exact r.length.symm
  refine ⟨"tuple", _, PyProof.Rows.slot_tuple_getitem.lookup, ht.typeIs, ?_⟩
  by_cases hw : HT.sIx xs.length 0 lo = 0 ∧ HT.sIx xs.length xs.length hi = xs.length
  · exact getItem_tuple_whole ht hs pl pu (by rw [hlen]; exact hw) ⟨.ref a, H, I, rfl, q1 hw⟩
  · refine HT.getItem_tuple_cut ht hs pl pu (by rw [hlen]; exact hw) ?_ (by rw [hlen]; exact hz)
    rw [hlen]
    exact Inv.tupNew (h' := s.heap) (tk := s.toks) I ((r.drop (HT.sIx xs.length 0 lo)).take _) (Nat.le_trans (cutV_length xs lo hi) hz) (q2 hw)
def rCatF (K : PySem.W.Frag) : R2 := fun x y H Q => ∃ a b xs ys, x = .ref a ∧ y = .ref b ∧ SqT K H a xs ∧ SqT K H b ys ∧ xs.length + ys.length ≤ sizeLine ∧
  (xs = [] → Q (.ref b) H) ∧ (xs ≠ [] → ys = [] → Q (.ref a) H) ∧ (xs ≠ [] → ys ≠ [] → NewT Q H (xs ++ ys))
theorem op_catF : OpR X (binaryOp .Add) (rCatF X.K) := by
  intro pins s σ H x y v u Q I rx ry h
  obtain ⟨a, b, xs, ys, rfl, rfl, ha, hb, hz, q0, q1, q2⟩ := h
  cases rx
  cases ry
  obtain ⟨its, r1, p1, _⟩ := I.tuple ha
  obtain ⟨jts, r2, p2, _⟩ := I.tuple hb
  by_cases hx : xs = []
  · subst hx
    cases r1
    exact cat_tup0 p1 p2 ⟨.ref b, H, I, rfl, q0 rfl⟩
  · refine HT.cat_tup p1 p2 (fun z => hx (r1.nil_iff.mp z)) (fun z => ⟨.ref a, H, I, rfl, q1 hx (r2.nil_iff.mp z)⟩) (fun z => ?_) (by rw [← r1.length, ← r2.length]; exact hz)
    exact Inv.tupNew (h' := s.heap) (tk := s.toks) I (r1.append r2) (by rw [List.length_append]; exact hz) (q2 hx fun w => z (r2.nil_iff.mpr w))
def rTupOfF (K : PySem.W.Frag) : List V → Hp → VK → Prop := fun xs H Q => ∃ p ys, xs = [.ref p] ∧ ((SqL K H p ys ∧ NewT Q H ys) ∨ (SqT K H p ys ∧ Q (.ref p) H))
theorem call_tuple_ofF : CallR X (.type "tuple") (rTupOfF X.K) := by
  intro pins s σ H xs us Q I r h
  obtain ⟨p, ys, rfl, h⟩ := h
  obtain ⟨u, rfl, rx⟩ := vals1 r
  cases rx
  rcases h with ⟨hq, q⟩ | ⟨hq, q⟩
  · obtain ⟨its, r1, pl, hz⟩ := I.list hq
    have hlen := r1.length
    refine call_tuple_list pl.isList (fun h1 kp => ?_) (by rw [List.size_toArray]; omega)
    exact Inv.tupNew (h' := h1) (tk := s.toks) (I.kept (t' := s.toks) kp) r1 hz q
  · obtain ⟨its, r1, pl, hz⟩ := I.tuple hq
    exact call_tuple_same pl ⟨.ref p, H, I, rfl, q⟩
def tTupRgF (te : L2.St → Hp → (Int → Int → Hp → Prop) → Prop) : TE := fun σ H Q => te σ H fun a b H1 => RgOk a b ∧ NewT Q H1 (rgV a b)
theorem pe_tupRgF {e : Expr} {te : L2.St → Hp → (Int → Int → Hp → Prop) → Prop} {p pos : Pos} (hc : X.calm = true) (hg : Gl X "tuple") (hm : X.mg "tuple" = none) (he : PRg X e te) (na : starEach [e] X.env = (false, eval e X.env) :: starEach [] X.env := by rfl) : PE X (.Call (.Name "tuple" p) [e] [] pos) (tTupRgF te) := by
  refine ⟨fun pins s σ H Q I h => Call_ (ld_blt I hg hm (show bootBuiltins "tuple" = some (.type "tuple") by decide +kernel) (PyProof.Rows.callWith_type1 (args_cons (thn (he pins s σ H _ I h) ?_) na) na))⟩
  rintro x s1 ⟨r, a, b, t, u, v, H1, rfl, hr, I1, ⟨b1, b2, b3, b4, b5⟩, q⟩
  refine args_nil (call_tuple_range (n := (b - a).toNat) (I1.ok.hd hc) hr (small_one b1 b2 b3 b4) (rangeSize_nat a b) b5 fun h1 tk acc hk hi => ?_)
  have ea : acc = acc.toList.toArray := by simp
  rw [ea]
  exact Inv.tupNew (h' := h1) (tk := tk) (I1.kept hk) (vals_rg hi) (by rw [rgV_length, sizeLine_eq]; omega) q
def rDmF : List V → Hp → VK → Prop := fun xs H Q => ∃ i j, xs = [.int i, .int j] ∧ CDiv i j ∧ NewT Q H [.int (i / j), .int (i % j)]
/-- o.m(..) of a built-in type, its kind told by one's own words -/
def tBMG (ty : V → Hp → Prop) (r : V → List V → Hp → VK → Prop) (to : TE) (t : TA) : TE := fun σ H Q => to σ H fun x H1 => ty x H1 ∧ t σ H1 fun xs H2 => r x xs H2 Q
theorem pe_bmG {T id : String} {name : Str} {o e : Expr} {es : List Expr} {to : TE} {t : TA} {apos cpos : Pos} {r : V → List V → Hp → VK → Prop} {ty : V → Hp → Prop}
    (hk : ∀ (pins : List (Addr × Obj)) (σ : L2.St) (H : Hp) (s : Shared) (x : V) (v : Value), Inv X pins σ H s → RelV x v → ty x H → s.TypeIs v T ∧ ∀ a, v = .ref a → ∃ ob, s.heap.get? a = some ob ∧ ob.dict = none)
    (pa : PlainAttrs T) (slot : Slot T name id) (hty : typeOf (.builtin id) = pure (.type "method_descriptor")) (hm : MtR X id r) (ho : PE X o to) (ha : PA X (e :: es) t)
    (hbase : attributeBase o name X.env (eval o X.env) = eval o X.env)
    (hfew : ((backTo cpos (starEach (e :: es) X.env)).all (fun x => !x.1) && (backToKw cpos (keywordEach [] X.env)).all (fun x => x.1.isSome) && decide ((e :: es).length + ([] : List Keyword).length + (if ([] : List Keyword).isEmpty then 0 else 1) < 30)) = true)
    (hline : (apos.endLine == cpos.line) = true) (hs : starEach (e :: es) X.env = (false, eval e X.env) :: starEach es X.env) (hplain : (backTo cpos (starEach es X.env)).any (·.1) = false) :
    PE X (.Call (.Attribute o name apos) (e :: es) [] cpos) (tBMG ty r to t) := by
  refine ⟨fun pins s σ H Q I h => wpAny_Call_method_late hbase hfew hline rfl (thn (ho.run pins s σ H _ I h) ?_)⟩
  rintro v s1 ⟨x, H1, I1, r1, tyx, q1⟩
  have hA := ha.run cpos pins s1 σ H1 _ I1 q1
  obtain ⟨k1, k2⟩ := hk pins σ H1 s1 x v I1 r1 tyx
  refine ⟨T, id, pa, slot, hty, k1, k2, ?_⟩
  rw [hs] at hA ⊢
  refine Calls.callWith_builtin (show (false || (backTo cpos (starEach es X.env)).any (·.1)) = false by rw [hplain]; rfl) (Calls.evalArgs_plain (thn hA ?_))
  rintro us s2 ⟨vs, H2, I2, r2, q2⟩
  exact hm pins s2 σ H2 x vs v us Q I2 r1 r2 q2
/-- a tuple of ours -/
theorem ty_tupD : ∀ (pins : List (Addr × Obj)) (σ : L2.St) (H : Hp) (s : Shared) (x : V) (v : Value), Inv X pins σ H s → RelV x v → (∃ a xs, x = .ref a ∧ TupD X.K H a xs) → s.TypeIs v "tuple" ∧ ∀ a, v = .ref a → ∃ ob, s.heap.get? a = some ob ∧ ob.dict = none := by
  rintro pins σ H s x v I rx ⟨a, xs, rfl, h⟩
  cases rx
  rcases h with ⟨o, h, hd⟩ | ⟨o, its, n, h1, h2, hd, _⟩
  · obtain ⟨e, _, jts, _, o2, e2, c2, _⟩ := I.hok a _ h
    rw [e] at e2
    cases e2
    exact ⟨⟨o, e, c2⟩, fun b z => by
      cases z
      exact ⟨o, e, hd⟩⟩
  · exact ⟨⟨o, I.kIn a o h1, h2⟩, fun b z => by
      cases z
      exact ⟨o, I.kIn a o h1, hd⟩⟩
end
end Pu

set_option Elab.async false
set_option linter.all false
set_option maxRecDepth 100000
set_option maxHeartbeats 2000000
/-! Pu: a layer over HandS in which a piece of syntax is read as a function of plain data; no heap is seen above it. -/
namespace Pu
open PySem PySem.Spec PyProof.Rows L2

abbrev Rho := List (Option PyData)
/-- an outcome: a value, an own error of that name, or nothing that is promised -/
inductive Re (α : Type) where
  | ok (a : α)
  | ex (c : Str)
  | bad
def Re.andThen {α β : Type} : Re α → (α → Re β) → Re β
  | .ok a, f => f a
  | .ex c, _ => .ex c
  | .bad, _ => .bad
/-! data that holds no list and no dict -/
mutual
def imm : PyData → Bool
  | .list _ => false
  | .dict _ => false
  | .tuple xs => immAll xs
  | _ => true
def immAll : List PyData → Bool
  | [] => true
  | x :: xs => imm x && immAll xs
end
/-- a key as data -/
def kD : Key → PyData
  | .inl i => .int i
  | .inr s => .str s
/-- a list that is only read -/
def FzL (K : PySem.W.Frag) (H : Hp) (a : Addr) (xs : List V) : Prop := (∃ o, H a = some (.frz o (.lst xs))) ∨ ∀ H' : Hp, SqL K H' a xs
/-! the value v is the data d; the lists and dicts in it stand at addresses of S -/
mutual
inductive Rp (K : PySem.W.Frag) (H : Hp) (S : Addr → Prop) : V → PyData → Prop
  | non : Rp K H S .non .none
  | bl (b : Bool) : Rp K H S (.bl b) (.bool b)
  | int (i : Int) : Rp K H S (.int i) (.int i)
  | str (x : Str) : Rp K H S (.str x) (.str x)
  | tup {a : Addr} {xs : List V} {ds : List PyData} : TupD K H a xs → RpA K H S xs ds → Rp K H S (.ref a) (.tuple ds)
  | lst {a : Addr} {xs : List V} {ds : List PyData} : H a = some (.lst xs) → S a → RpA K H S xs ds → Rp K H S (.ref a) (.list ds)
  | scr {a : Addr} {xs : List V} {ds : List PyData} : FzL K H a xs → RpA K H S xs ds → Rp K H S (.ref a) (.dict [(.none, .list ds)])
  | dic {a : Addr} {ks : List Key} {xs : List V} {ds : List PyData} : H a = some (.dK (ks.zip xs)) → S a → ks.length = xs.length → RpA K H S xs ds → Rp K H S (.ref a) (.dict ((.bool true, .none) :: (ks.map kD).zip ds))
  | dit {a dx : Addr} {c : Str} {tag : PyData} {ks : List Str} {xs : List V} {ds : List PyData} : H a = some (.ins (He.ga K c) dx (ks.zip xs)) → S a → ks.length = xs.length → RpA K H S xs ds → Rp K H S (.ref a) (.dict ((.bool false, .tuple [.str c, tag]) :: (ks.map PyData.str).zip ds))
  | dif {a : Addr} {o : Obj} {ks : List Key} {xs : List V} {ds : List PyData} : H a = some (.frz o (.dK (ks.zip xs))) → ks.length = xs.length → RpA K H S xs ds → Rp K H S (.ref a) (.dict ((.bool true, .none) :: (ks.map kD).zip ds))
inductive RpA (K : PySem.W.Frag) (H : Hp) (S : Addr → Prop) : List V → List PyData → Prop
  | nil : RpA K H S [] []
  | cons {v : V} {vs : List V} {d : PyData} {ds : List PyData} : Rp K H S v d → RpA K H S vs ds → RpA K H S (v :: vs) (d :: ds)
end

section
variable {K : PySem.W.Frag} {H H' H1 H2 : Hp} {S S' : Addr → Prop} {a : Addr}
theorem tupD_keep {xs : List V} (h : TupD K H a xs) (k : ∀ u, H a = some u → ¬ Mut (some u) → H' a = some u) : TupD K H' a xs := by
  rcases h with ⟨o, h, hd⟩ | h
  · exact .inl ⟨o, k _ h (fun z => z), hd⟩
  · exact .inr h
theorem FzL.sq {xs : List V} (h : FzL K H a xs) : SqL K H a xs := by
  rcases h with ⟨o, h⟩ | h
  · exact .inl (.inr ⟨o, h⟩)
  · exact h H
theorem fzL_keep {xs : List V} (h : FzL K H a xs) (k : ∀ u, H a = some u → ¬ Mut (some u) → H' a = some u) : FzL K H' a xs := by
  rcases h with ⟨o, h⟩ | h
  · exact .inl ⟨o, k _ h (fun z => z)⟩
  · exact .inr h
/-- what keeps the data: the addresses of S and all that can't be written -/
def Kp (S : Addr → Prop) (H H' : Hp) : Prop := ∀ a u, H a = some u → (S a ∨ ¬ Mut (some u)) → H' a = some u
theorem kp_same (e : Same H H') : Kp S H H' := fun a u h _ => e a u h
mutual
theorem Rp.keep (k : Kp S H H') (hs : ∀ a u, S a → H a = some u → S' a) : ∀ {d : PyData} {v : V}, Rp K H S v d → Rp K H' S' v d
  | _, _, .non => .non
  | _, _, .bl b => .bl b
  | _, _, .int i => .int i
  | _, _, .str x => .str x
  | _, _, .tup h1 h2 => .tup (tupD_keep h1 fun u e nm => k _ u e (.inr nm)) (RpA.keep k hs h2)
  | _, _, .lst h1 h2 h3 => .lst (k _ _ h1 (.inl h2)) (hs _ _ h2 h1) (RpA.keep k hs h3)
  | _, _, .scr h1 h3 => .scr (fzL_keep h1 fun u e nm => k _ u e (.inr nm)) (RpA.keep k hs h3)
  | _, _, .dic h1 h2 h3 h4 => .dic (k _ _ h1 (.inl h2)) (hs _ _ h2 h1) h3 (RpA.keep k hs h4)
  | _, _, .dit h1 h2 h3 h4 => .dit (k _ _ h1 (.inl h2)) (hs _ _ h2 h1) h3 (RpA.keep k hs h4)
  | _, _, .dif h1 h3 h4 => .dif (k _ _ h1 (.inr fun z => z)) h3 (RpA.keep k hs h4)
theorem RpA.keep (k : Kp S H H') (hs : ∀ a u, S a → H a = some u → S' a) : ∀ {ds : List PyData} {vs : List V}, RpA K H S vs ds → RpA K H' S' vs ds
  | _, _, .nil => .nil
  | _, _, .cons h1 h2 => .cons (Rp.keep k hs h1) (RpA.keep k hs h2)
end
theorem Rp.same {d : PyData} {v : V} (r : Rp K H S v d) (e : Same H H') : Rp K H' S v d := r.keep (kp_same e) fun _ _ h _ => h
theorem RpA.same {d : List PyData} {v : List V} (r : RpA K H S v d) (e : Same H H') : RpA K H' S v d := r.keep (kp_same e) fun _ _ h _ => h
theorem Rp.wide {d : PyData} {v : V} (r : Rp K H S v d) (h : ∀ a, S a → S' a) : Rp K H S' v d := r.keep (kp_same (Same.refl H)) fun a _ x _ => h a x
theorem RpA.wide {d : List PyData} {v : List V} (r : RpA K H S v d) (h : ∀ a, S a → S' a) : RpA K H S' v d := r.keep (kp_same (Same.refl H)) fun a _ x _ => h a x
theorem imm_tup {xs : List PyData} : imm (.tuple xs) = immAll xs := by rw [imm]
theorem imm_lst {xs : List PyData} : imm (.list xs) = false := by rw [imm]
theorem imm_dic {xs : List (PyData × PyData)} : imm (.dict xs) = false := by rw [imm]
theorem immAll_cons {x : PyData} {xs : List PyData} : immAll (x :: xs) = (imm x && immAll xs) := by rw [immAll]
theorem imm_no {A : Prop} {b : Bool} (e : b = false) (h : b = true) : A := by
  rw [e] at h
  cases h
/-! plain data wants no address -/
mutual
theorem Rp.noAddr : ∀ {d : PyData} {v : V}, Rp K H S v d → imm d = true → Rp K H S' v d
  | _, _, .non, _ => .non
  | _, _, .bl b, _ => .bl b
  | _, _, .int i, _ => .int i
  | _, _, .str x, _ => .str x
  | _, _, .tup h1 h2, h => .tup h1 (RpA.noAddr h2 (imm_tup.symm.trans h))
  | _, _, .lst h1 h2 h3, h => imm_no imm_lst h
  | _, _, .scr h1 h3, h => imm_no imm_dic h
  | _, _, .dic h1 h2 h3 h4, h => imm_no imm_dic h
  | _, _, .dit h1 h2 h3 h4, h => imm_no imm_dic h
  | _, _, .dif h1 h3 h4, h => imm_no imm_dic h
theorem RpA.noAddr : ∀ {ds : List PyData} {vs : List V}, RpA K H S vs ds → immAll ds = true → RpA K H S' vs ds
  | _, _, .nil, _ => .nil
  | _, _, .cons h1 h2, h => .cons (Rp.noAddr h1 (Bool.and_eq_true_iff.mp (immAll_cons.symm.trans h)).1) (RpA.noAddr h2 (Bool.and_eq_true_iff.mp (immAll_cons.symm.trans h)).2)
end
theorem RpA.length : ∀ {ds : List PyData} {vs : List V}, RpA K H S vs ds → vs.length = ds.length
  | _, _, .nil => rfl
  | _, _, .cons _ h2 => by rw [List.length_cons, List.length_cons, RpA.length h2]
theorem RpA.get : ∀ {ds : List PyData} {vs : List V} {i : Nat} {v : V}, RpA K H S vs ds → vs[i]? = some v → ∃ d, ds[i]? = some d ∧ Rp K H S v d
  | _, _, _, _, .nil, e => by simp at e
  | _, _, 0, _, .cons h1 _, e => by
    simp at e
    subst e
    exact ⟨_, rfl, h1⟩
  | _, _, i + 1, v, .cons _ h2, e => by
    obtain ⟨d, h3, h4⟩ := RpA.get (i := i) (v := v) h2 (by simpa using e)
    exact ⟨d, by simpa using h3, h4⟩
theorem RpA.get' : ∀ {ds : List PyData} {vs : List V} {i : Nat} {d : PyData}, RpA K H S vs ds → ds[i]? = some d → ∃ v, vs[i]? = some v ∧ Rp K H S v d
  | _, _, _, _, .nil, e => by simp at e
  | _, _, 0, _, .cons h1 _, e => by
    simp at e
    subst e
    exact ⟨_, rfl, h1⟩
  | _, _, i + 1, v, .cons _ h2, e => by
    obtain ⟨d, h3, h4⟩ := RpA.get' (i := i) (d := v) h2 (by simpa using e)
    exact ⟨d, by simpa using h3, h4⟩
theorem RpA.append : ∀ {ds es : List PyData} {vs us : List V}, RpA K H S vs ds → RpA K H S us es → RpA K H S (vs ++ us) (ds ++ es)
  | _, _, _, _, .nil, r => r
  | _, _, _, _, .cons h1 h2, r => .cons h1 (RpA.append h2 r)
theorem RpA.take : ∀ {ds : List PyData} {vs : List V} (n : Nat), RpA K H S vs ds → RpA K H S (vs.take n) (ds.take n)
  | _, _, 0, _ => .nil
  | _, _, _ + 1, .nil => .nil
  | _, _, n + 1, .cons h1 h2 => .cons h1 (RpA.take n h2)
theorem RpA.drop : ∀ {ds : List PyData} {vs : List V} (n : Nat), RpA K H S vs ds → RpA K H S (vs.drop n) (ds.drop n)
  | _, _, 0, r => r
  | _, _, _ + 1, .nil => .nil
  | _, _, n + 1, .cons _ h2 => RpA.drop n h2
theorem RpA.set {v : V} {d : PyData} (r : Rp K H S v d) : ∀ {ds : List PyData} {vs : List V} (i : Nat), RpA K H S vs ds → RpA K H S (vs.set i v) (ds.set i d)
  | _, _, _, .nil => .nil
  | _, _, 0, .cons _ h2 => .cons r h2
  | _, _, i + 1, .cons h1 h2 => .cons h1 (RpA.set r i h2)
theorem RpA.erase : ∀ {ds : List PyData} {vs : List V} (i : Nat), RpA K H S vs ds → RpA K H S (vs.eraseIdx i) (ds.eraseIdx i)
  | _, _, _, .nil => .nil
  | _, _, 0, .cons _ h2 => h2
  | _, _, i + 1, .cons h1 h2 => .cons h1 (RpA.erase i h2)
theorem RpA.rev : ∀ {ds : List PyData} {vs : List V}, RpA K H S vs ds → RpA K H S vs.reverse ds.reverse
  | _, _, .nil => .nil
  | _, _, .cons h1 h2 => by
    rw [List.reverse_cons, List.reverse_cons]
    exact (RpA.rev h2).append (.cons h1 .nil)
theorem RpA.ints : ∀ (ns : List Int), RpA K H S (ns.map V.int) (ns.map PyData.int)
  | [] => .nil
  | n :: ns => .cons (.int n) (RpA.ints ns)
theorem RpA.of_ints : ∀ {ns : List Int} {vs : List V}, RpA K H S vs (ns.map PyData.int) → vs = ns.map V.int
  | [], _, .nil => rfl
  | n :: ns, _, .cons h1 h2 => by
    cases h1
    rw [RpA.of_ints h2]
    rfl
/-- every address of the data is tracked -/
theorem Rp.thru {d : PyData} {v : V} (r : Rp K H S v d) : Rp K H (fun a => S a ∧ H a ≠ none) v d := r.keep (kp_same (Same.refl H)) fun a u h e => ⟨h, by rw [e]; simp⟩
theorem RpA.thru {d : List PyData} {v : List V} (r : RpA K H S v d) : RpA K H (fun a => S a ∧ H a ≠ none) v d := r.keep (kp_same (Same.refl H)) fun a u h e => ⟨h, by rw [e]; simp⟩
end

/-! ### a frame's slots as data -/
/-- H0: the heap at the entry; S0: where lists and dicts of others may stand; M: the slots that hold lists and dicts of the frame's own, which no other value reaches -/
structure Fx where
  H0 : Hp
  S0 : Addr → Prop
def OwnA (M : Nat → Bool) (σ : L2.St) (ρ : Rho) (a : Addr) : Prop := ∃ i d, M i = true ∧ ρ[i]? = some (some d) ∧ σ[i]? = some (some (.ref a))
/-- an own list or dict -/
inductive OwR (K : PySem.W.Frag) (H : Hp) (S : Addr → Prop) (p : Addr) : PyData → Prop
  | lst {xs : List V} {ds : List PyData} : H p = some (.lst xs) → RpA K H S xs ds → OwR K H S p (.list ds)
  | dic {ks : List Key} {xs : List V} {ds : List PyData} : H p = some (.dK (ks.zip xs)) → ks.length = xs.length → RpA K H S xs ds → OwR K H S p (.dict ((.bool true, .none) :: (ks.map kD).zip ds))
  | dit {dx : Addr} {c : Str} {ks : List Str} {xs : List V} {ds : List PyData} : (H p = some (.ins (He.ga K c) dx (ks.zip xs)) ∧ H dx = some (.own p)) → ks.length = xs.length → RpA K H S xs ds → OwR K H S p (.dict ((.bool false, .tuple [.str c, .int (dx : Nat)]) :: (ks.map PyData.str).zip ds))
/-- where a value's lists may stand: lk tells whether it may reach an own list -/
def RS (M : Nat → Bool) (F : Fx) (σ : L2.St) (ρ : Rho) (lk : Bool) : Addr → Prop := fun a => F.S0 a ∧ (lk = false → ¬ OwnA M σ ρ a)
structure ER (K : PySem.W.Frag) (M : Nat → Bool) (F : Fx) (σ : L2.St) (H : Hp) (ρ : Rho) : Prop where
  len : ρ.length = σ.length
  old : Same F.H0 H
  new : ∀ a, H a = none → F.S0 a
  im : ∀ i d, ρ[i]? = some (some d) → M i = false → ∃ v, σ[i]? = some (some v) ∧ Rp K H (RS M F σ ρ false) v d
  ow : ∀ i d, ρ[i]? = some (some d) → M i = true → ∃ p, σ[i]? = some (some (.ref p)) ∧ (F.H0 p = none ∧ F.S0 p) ∧ OwR K H (RS M F σ ρ false) p d
  ap : ∀ i j d e p, M i = true → M j = true → ρ[i]? = some (some d) → ρ[j]? = some (some e) → σ[i]? = some (some (.ref p)) → σ[j]? = some (some (.ref p)) → i = j

section
variable {K : PySem.W.Frag} {M : Nat → Bool} {F : Fx} {σ σ' : L2.St} {H H' : Hp} {ρ ρ' : Rho} {S S' : Addr → Prop} {p : Addr} {d : PyData}
theorem OwR.there (h : OwR K H S p d) : ∃ u, H p = some u ∧ Mut (some u) := by
  cases h with
  | lst h _ => exact ⟨_, h, trivial⟩
  | dic h _ _ => exact ⟨_, h, trivial⟩
  | dit h _ _ => exact ⟨_, h.1, trivial⟩
theorem OwR.keep (h : OwR K H S p d) (k : Kp S H H') (hs : ∀ a u, S a → H a = some u → S' a) (hp : ∀ u, H p = some u → H' p = some u) : OwR K H' S' p d := by
  cases h with
  | lst h r => exact .lst (hp _ h) (r.keep k hs)
  | dic h l r => exact .dic (hp _ h) l (r.keep k hs)
  | dit h l r => exact .dit ⟨hp _ h.1, k _ _ h.2 (.inr fun z => z)⟩ l (r.keep k hs)
theorem OwR.rp (h : OwR K H S p d) (hp : S p) : Rp K H S (.ref p) d := by
  cases h with
  | lst h r => exact .lst h hp r
  | dic h l r => exact .dic h hp l r
  | dit h l r => exact .dit h.1 hp l r
theorem ER.own (e : ER K M F σ H ρ) {a : Addr} (o : OwnA M σ ρ a) : F.H0 a = none ∧ F.S0 a ∧ ∃ u, H a = some u := by
  obtain ⟨i, d, m, r, s⟩ := o
  obtain ⟨p, s', z, w⟩ := e.ow i d r m
  rw [s] at s'
  cases s'
  obtain ⟨u, hu, _⟩ := w.there
  exact ⟨z.1, z.2, u, hu⟩
theorem ER.fresh (e : ER K M F σ H ρ) {a : Addr} (h : H a = none) : F.H0 a = none ∧ ¬ OwnA M σ ρ a := by
  refine ⟨e.old.free h, fun o => ?_⟩
  obtain ⟨_, _, u, hu⟩ := e.own o
  rw [h] at hu
  cases hu
theorem ER.freshS (e : ER K M F σ H ρ) {lk : Bool} : ∀ a, H a = none → RS M F σ ρ lk a := fun a h => ⟨e.new a h, fun _ => (e.fresh h).2⟩
/-- new objects alone -/
theorem ER.same (e : ER K M F σ H ρ) (h : Same H H') : ER K M F σ H' ρ where
  len := e.len
  old := e.old.trans h
  new := fun a q => e.new a (h.free q)
  im := fun i d r m => by
    obtain ⟨v, s, r⟩ := e.im i d r m
    exact ⟨v, s, r.same h⟩
  ow := fun i d r m => by
    obtain ⟨p, s, z, w⟩ := e.ow i d r m
    exact ⟨p, s, z, w.keep (kp_same h) (fun _ _ x _ => x) fun u q => h _ _ q⟩
  ap := e.ap
/-- a slot's value -/
theorem ER.get (e : ER K M F σ H ρ) {i : Nat} (r : ρ[i]? = some (some d)) : ∃ v, σ[i]? = some (some v) ∧ Rp K H (RS M F σ ρ (M i)) v d := by
  cases m : M i with
  | false => exact e.im i d r m
  | true =>
    obtain ⟨p, s, z, w⟩ := e.ow i d r m
    exact ⟨_, s, (w.keep (S' := RS M F σ ρ true) (kp_same (Same.refl H)) (fun a _ x _ => ⟨x.1, fun q => nomatch q⟩) fun _ q => q).rp ⟨z.2, fun q => nomatch q⟩⟩
theorem getSome {α : Type} {l : List α} {i : Nat} {x : α} (h : l[i]? = some x) : i < l.length := (List.getElem?_eq_some_iff.mp h).1
/-- own addresses behind a store into a slot that is not own -/
theorem own_set {i : Nat} {v : V} {d' : Option PyData} (m : M i = false) {a : Addr} : OwnA M (σ.set i (some v)) (ρ.set i d') a ↔ OwnA M σ ρ a := by
  constructor
  · rintro ⟨j, e, mj, r, s⟩
    have hj : i ≠ j := fun z => by
      subst z
      rw [m] at mj
      cases mj
    rw [List.getElem?_set_ne hj] at r s
    exact ⟨j, e, mj, r, s⟩
  · rintro ⟨j, e, mj, r, s⟩
    have hj : i ≠ j := fun z => by
      subst z
      rw [m] at mj
      cases mj
    exact ⟨j, e, mj, by rw [List.getElem?_set_ne hj]; exact r, by rw [List.getElem?_set_ne hj]; exact s⟩
theorem rs_set {i : Nat} {v : V} {d' : Option PyData} (m : M i = false) {lk : Bool} : RS M F (σ.set i (some v)) (ρ.set i d') lk = RS M F σ ρ lk := by
  funext a
  unfold RS
  rw [propext (own_set (v := v) (d' := d') (σ := σ) (ρ := ρ) (a := a) m)]
theorem ER.set (e : ER K M F σ H ρ) {i : Nat} {v : V} (m : M i = false) (r : Rp K H (RS M F σ ρ false) v d) : ER K M F (σ.set i (some v)) H (ρ.set i (some d)) where
  len := by rw [List.length_set, List.length_set]; exact e.len
  old := e.old
  new := e.new
  im := fun j d' q mj => by
    rw [rs_set m]
    by_cases hj : i = j
    · subst hj
      have hi : i < ρ.length := by
        have := getSome q
        rwa [List.length_set] at this
      rw [List.getElem?_set_self hi] at q
      cases q
      exact ⟨v, List.getElem?_set_self (by rw [← e.len]; exact hi), r⟩
    · rw [List.getElem?_set_ne hj] at q
      obtain ⟨v', s, r'⟩ := e.im j d' q mj
      exact ⟨v', by rw [List.getElem?_set_ne hj]; exact s, r'⟩
  ow := fun j d' q mj => by
    rw [rs_set m]
    have hj : i ≠ j := fun z => by
      subst z
      rw [m] at mj
      cases mj
    rw [List.getElem?_set_ne hj] at q
    obtain ⟨p, s, z, w⟩ := e.ow j d' q mj
    exact ⟨p, by rw [List.getElem?_set_ne hj]; exact s, z, w⟩
  ap := fun j k d' e' p mj mk q1 q2 s1 s2 => by
    have hj : i ≠ j := fun z => by
      subst z
      rw [m] at mj
      cases mj
    have hk : i ≠ k := fun z => by
      subst z
      rw [m] at mk
      cases mk
    rw [List.getElem?_set_ne hj] at q1 s1
    rw [List.getElem?_set_ne hk] at q2 s2
    exact e.ap j k d' e' p mj mk q1 q2 s1 s2
/-- what is not own stays as it is and does not become own -/
def Evo (M : Nat → Bool) (σ : L2.St) (H : Hp) (ρ : Rho) (σ' : L2.St) (H' : Hp) (ρ' : Rho) : Prop := ∀ a u, H a = some u → ¬ OwnA M σ ρ a → H' a = some u ∧ ¬ OwnA M σ' ρ' a
theorem Evo.refl : Evo M σ H ρ σ H ρ := fun _ _ h n => ⟨h, n⟩
theorem Evo.trans {σ1 : L2.St} {H1 : Hp} {ρ1 : Rho} (a : Evo M σ H ρ σ1 H1 ρ1) (b : Evo M σ1 H1 ρ1 σ' H' ρ') : Evo M σ H ρ σ' H' ρ' := fun x u h n => by
  obtain ⟨h1, n1⟩ := a x u h n
  exact b x u h1 n1
theorem Evo.same (h : Same H H') : Evo M σ H ρ σ H' ρ := fun a u q n => ⟨h a u q, n⟩
theorem Evo.kp (e : ER K M F σ H ρ) (v : Evo M σ H ρ σ' H' ρ') : Kp (RS M F σ ρ false) H H' := fun a u h x => by
  rcases x with x | x
  · exact (v a u h (x.2 rfl)).1
  · refine (v a u h fun o => ?_).1
    obtain ⟨i, d, m, r, s⟩ := o
    obtain ⟨p, s', z, w⟩ := e.ow i d r m
    rw [s] at s'
    cases s'
    obtain ⟨u', hu, mu⟩ := w.there
    rw [h] at hu
    cases hu
    exact x mu
theorem Evo.rs (v : Evo M σ H ρ σ' H' ρ') : ∀ a u, RS M F σ ρ false a → H a = some u → RS M F σ' ρ' false a := fun a u x h => ⟨x.1, fun _ => (v a u h (x.2 rfl)).2⟩
end
end Pu

set_option Elab.async false
set_option linter.all false
set_option maxRecDepth 100000
set_option maxHeartbeats 2000000
namespace Pu
open PySem PySem.Spec PyProof.Rows L2

/-! ### expressions -/
def Frs (K : PySem.W.Frag) (S : Addr → Prop) (H H' : Hp) (v : V) (d : PyData) : Prop := ∃ p, v = .ref p ∧ H p = none ∧ OwR K H' (fun a => S a ∧ a ≠ p) p d
def WE (X : Cx) (M : Nat → Bool) (F : Fx) (E : L2.St → XK) (lk fr : Bool) (σ : L2.St) (ρ : Rho) (H : Hp) (r : Re PyData) (Q : VK) : Prop :=
  match r with
  | .ok d => ∀ v H', Same H H' → Rp X.K H' (RS M F σ ρ lk) v d → (fr = true → Frs X.K (RS M F σ ρ lk) H H' v d) → Q v H'
  | .ex c => ∀ C H', X.mg c = some (.ref C) → Same H H' → E σ (.ref C) none H'
  | .bad => False
def DE (X : Cx) (M : Nat → Bool) (F : Fx) (E : L2.St → XK) (lk fr : Bool) (e : Expr) (f : Rho → Re PyData) : Prop :=
  ∃ t : TE, PE X e t ∧ ∀ σ H ρ, ER X.K M F σ H ρ → ∀ Q, WE X M F E lk fr σ ρ H (f ρ) Q → t σ H Q
def WT (X : Cx) (E : L2.St → XK) (σ : L2.St) (H : Hp) (r : Re Bool) (Q : Bool → Hp → Prop) : Prop :=
  match r with
  | .ok b => ∀ H', Same H H' → Q b H'
  | .ex c => ∀ C H', X.mg c = some (.ref C) → Same H H' → E σ (.ref C) none H'
  | .bad => False
def DT (X : Cx) (M : Nat → Bool) (F : Fx) (E : L2.St → XK) (e : Expr) (f : Rho → Re Bool) : Prop :=
  ∃ t : TT, PT X e t ∧ ∀ σ H ρ, ER X.K M F σ H ρ → ∀ Q, WT X E σ H (f ρ) Q → t σ H Q
def DW (X : Cx) (M : Nat → Bool) (F : Fx) (E : L2.St → XK) (e : Expr) (f : Rho → Re Bool) : Prop :=
  ∃ t : TT, PW X e t ∧ ∀ σ H ρ, ER X.K M F σ H ρ → ∀ Q, WT X E σ H (f ρ) Q → t σ H Q
def WA (X : Cx) (M : Nat → Bool) (F : Fx) (E : L2.St → XK) (lk : Bool) (σ : L2.St) (ρ : Rho) (H : Hp) (r : Re (List PyData)) (Q : List V → Hp → Prop) : Prop :=
  match r with
  | .ok ds => ∀ vs H', Same H H' → RpA X.K H' (RS M F σ ρ lk) vs ds → Q vs H'
  | .ex c => ∀ C H', X.mg c = some (.ref C) → Same H H' → E σ (.ref C) none H'
  | .bad => False
def DA (X : Cx) (M : Nat → Bool) (F : Fx) (E : L2.St → XK) (lk : Bool) (es : List Expr) (f : Rho → Re (List PyData)) : Prop :=
  ∃ t : TA, PA X es t ∧ ∀ σ H ρ, ER X.K M F σ H ρ → ∀ Q, WA X M F E lk σ ρ H (f ρ) Q → t σ H Q

section
variable {X : Cx} {M : Nat → Bool} {F : Fx} {E : L2.St → XK} {σ : L2.St} {ρ : Rho} {H H' H1 : Hp}
theorem rs_or1 {a b : Bool} : ∀ x, RS M F σ ρ a x → RS M F σ ρ (a || b) x := fun x h => ⟨h.1, fun q => h.2 (by cases a <;> simp_all)⟩
theorem rs_or2 {a b : Bool} : ∀ x, RS M F σ ρ b x → RS M F σ ρ (a || b) x := fun x h => ⟨h.1, fun q => h.2 (by cases a <;> simp_all)⟩
theorem rs_t {a : Bool} : ∀ x, RS M F σ ρ a x → RS M F σ ρ true x := fun x h => ⟨h.1, fun q => nomatch q⟩
theorem Frs.of (h : Frs X.K (RS M F σ ρ true) H H1 v d) (s : Same H' H) {v : V} {d : PyData} : True := trivial
/-- weaken -/
theorem DE.lk {lk fr : Bool} {e : Expr} {f : Rho → Re PyData} (h : DE X M F E lk fr e f) : DE X M F E true false e f := by
  obtain ⟨t, p, h⟩ := h
  refine ⟨t, p, fun σ H ρ er Q w => h σ H ρ er Q ?_⟩
  cases q : f ρ with
  | ok d =>
    rw [q] at w
    exact fun v H' s r _ => w v H' s (r.wide rs_t) fun z => nomatch z
  | ex c =>
    rw [q] at w
    exact w
  | bad =>
    rw [q] at w
    exact w
/-- the continuation of a part -/
theorem we_step {lk fr lk' fr' : Bool} {r : Re PyData} {Q : VK} {g : PyData → Re PyData} {K : VK} (w : WE X M F E lk fr σ ρ H (r.andThen g) Q)
    (h : ∀ d v H', r = .ok d → Same H H' → Rp X.K H' (RS M F σ ρ lk') v d → (fr' = true → Frs X.K (RS M F σ ρ lk') H H' v d) → WE X M F E lk fr σ ρ H' (g d) Q → K v H') : WE X M F E lk' fr' σ ρ H r K := by
  cases r with
  | ok d =>
    refine fun v H' s rr ff => h d v H' rfl s rr ff ?_
    show WE X M F E lk fr σ ρ H' (g d) Q
    have w : WE X M F E lk fr σ ρ H (g d) Q := w
    cases q : g d with
    | ok z =>
      rw [q] at w
      refine fun v2 H2 s2 r2 f2 => w v2 H2 (s.trans s2) r2 fun z2 => ?_
      obtain ⟨p, e1, e2, e3⟩ := f2 z2
      exact ⟨p, e1, s.free e2, e3⟩
    | ex c =>
      rw [q] at w
      exact fun C H2 m s2 => w C H2 m (s.trans s2)
    | bad =>
      rw [q] at w
      exact w
  | ex c => exact w
  | bad => exact w
theorem wt_step {r : Re PyData} {lk' fr' : Bool} {Q : Bool → Hp → Prop} {g : PyData → Re Bool} {K : VK} (w : WT X E σ H (r.andThen g) Q)
    (h : ∀ d v H', r = .ok d → Same H H' → Rp X.K H' (RS M F σ ρ lk') v d → (fr' = true → Frs X.K (RS M F σ ρ lk') H H' v d) → WT X E σ H' (g d) Q → K v H') : WE X M F E lk' fr' σ ρ H r K := by
  cases r with
  | ok d =>
    refine fun v H' s rr ff => h d v H' rfl s rr ff ?_
    have w : WT X E σ H (g d) Q := w
    cases q : g d with
    | ok z =>
      rw [q] at w
      exact fun H2 s2 => w H2 (s.trans s2)
    | ex c =>
      rw [q] at w
      exact fun C H2 m s2 => w C H2 m (s.trans s2)
    | bad =>
      rw [q] at w
      exact w
  | ex c => exact w
  | bad => exact w
theorem we_stepT {lk fr : Bool} {r : Re Bool} {Q : VK} {g : Bool → Re PyData} {K : Bool → Hp → Prop} (w : WE X M F E lk fr σ ρ H (r.andThen g) Q)
    (h : ∀ d H', r = .ok d → Same H H' → WE X M F E lk fr σ ρ H' (g d) Q → K d H') : WT X E σ H r K := by
  cases r with
  | ok d =>
    refine fun H' s => h d H' rfl s ?_
    have w : WE X M F E lk fr σ ρ H (g d) Q := w
    cases q : g d with
    | ok z =>
      rw [q] at w
      refine fun v2 H2 s2 r2 f2 => w v2 H2 (s.trans s2) r2 fun z2 => ?_
      obtain ⟨p, e1, e2, e3⟩ := f2 z2
      exact ⟨p, e1, s.free e2, e3⟩
    | ex c =>
      rw [q] at w
      exact fun C H2 m s2 => w C H2 m (s.trans s2)
    | bad =>
      rw [q] at w
      exact w
  | ex c => exact w
  | bad => exact w
theorem wt_stepT {r : Re Bool} {Q : Bool → Hp → Prop} {g : Bool → Re Bool} {K : Bool → Hp → Prop} (w : WT X E σ H (r.andThen g) Q)
    (h : ∀ d H', r = .ok d → Same H H' → WT X E σ H' (g d) Q → K d H') : WT X E σ H r K := by
  cases r with
  | ok d =>
    refine fun H' s => h d H' rfl s ?_
    have w : WT X E σ H (g d) Q := w
    cases q : g d with
    | ok z =>
      rw [q] at w
      exact fun H2 s2 => w H2 (s.trans s2)
    | ex c =>
      rw [q] at w
      exact fun C H2 m s2 => w C H2 m (s.trans s2)
    | bad =>
      rw [q] at w
      exact w
  | ex c => exact w
  | bad => exact w
theorem we_stepA {lk fr lk' : Bool} {r : Re (List PyData)} {Q : VK} {g : List PyData → Re PyData} {K : List V → Hp → Prop} (w : WE X M F E lk fr σ ρ H (r.andThen g) Q)
    (h : ∀ ds vs H', r = .ok ds → Same H H' → RpA X.K H' (RS M F σ ρ lk') vs ds → WE X M F E lk fr σ ρ H' (g ds) Q → K vs H') : WA X M F E lk' σ ρ H r K := by
  cases r with
  | ok d =>
    refine fun vs H' s rr => h d vs H' rfl s rr ?_
    have w : WE X M F E lk fr σ ρ H (g d) Q := w
    cases q : g d with
    | ok z =>
      rw [q] at w
      refine fun v2 H2 s2 r2 f2 => w v2 H2 (s.trans s2) r2 fun z2 => ?_
      obtain ⟨p, e1, e2, e3⟩ := f2 z2
      exact ⟨p, e1, s.free e2, e3⟩
    | ex c =>
      rw [q] at w
      exact fun C H2 m s2 => w C H2 m (s.trans s2)
    | bad =>
      rw [q] at w
      exact w
  | ex c => exact w
  | bad => exact w

/-! names, constants -/
def rVar (i : Nat) : Rho → Re PyData := fun ρ => match ρ[i]? with | some (some d) => .ok d | _ => .bad
theorem de_var (i : Nat) {x : Str} {pos : Pos} (hN : X.N[i]? = some x := by rfl) (hv : Vis X.env.scope x := by first | exact Or.inl rfl | exact Or.inr (Or.inl rfl) | exact Or.inr (Or.inr rfl)) (hd : (x == ("__debug__" : Str)) = false := by decide)
    (hcd : (x == ("__classdict__" : Str)) = false := by decide) : DE X M F E (M i) false (.Name x pos) (rVar i) := by
  refine ⟨_, pe_var hN hv hd hcd, fun σ H ρ er Q w => ?_⟩
  unfold rVar at w
  split at w
  · rename_i d hd
    obtain ⟨v, s, r⟩ := er.get hd
    exact ⟨v, s, w v H (Same.refl H) r fun z => nomatch z⟩
  · exact w.elim
def rC (d : PyData) : Rho → Re PyData := fun _ => .ok d
theorem de_int {i : Int} {j pos} : DE X M F E false false (.Constant (.int i) j pos) (rC (.int i)) := ⟨_, pe_int, fun σ H ρ er Q w => w _ H (Same.refl H) (.int i) fun z => nomatch z⟩
theorem de_bl {i : Bool} {j pos} : DE X M F E false false (.Constant (.bool i) j pos) (rC (.bool i)) := ⟨_, pe_bl, fun σ H ρ er Q w => w _ H (Same.refl H) (.bl i) fun z => nomatch z⟩
theorem de_non {j pos} : DE X M F E false false (.Constant .none j pos) (rC .none) := ⟨_, pe_non, fun σ H ρ er Q w => w _ H (Same.refl H) .non fun z => nomatch z⟩
theorem de_str {i : Str} {j pos} : DE X M F E false false (.Constant (.str i) j pos) (rC (.str i)) := ⟨_, pe_str, fun σ H ρ er Q w => w _ H (Same.refl H) (.str i) fun z => nomatch z⟩
/-- a module's constant -/
theorem de_glob {x : Str} {i : Int} {t : Tok} {pos : Pos} (hg : Gl X x) (hm : X.mg x = some (.int i t)) (hd : (x == ("__debug__" : Str)) = false := by decide) : DE X M F E false false (.Name x pos) (rC (.int i)) :=
  ⟨_, pe_glob (v := .int i) hg hm ⟨t, rfl⟩ hd, fun σ H ρ er Q w => w _ H (Same.refl H) (.int i) fun z => nomatch z⟩

/-! operators, by values -/
/-- the rule r reckons g -/
def SemB (K : PySem.W.Frag) (r : R2) (fr : Bool) (g : PyData → PyData → Option PyData) : Prop :=
  ∀ (S : Addr → Prop) (H : Hp) (x y : V) (d e z : PyData) (Q : VK), (∀ a, H a = none → S a) → Rp K H S x d → Rp K H S y e → g d e = some z →
    (∀ v H', Same H H' → Rp K H' S v z → (fr = true → Frs K S H H' v z) → Q v H') → r x y H Q
def SemU (K : PySem.W.Frag) (r : V → Hp → VK → Prop) (fr : Bool) (g : PyData → Option PyData) : Prop :=
  ∀ (S : Addr → Prop) (H : Hp) (x : V) (d z : PyData) (Q : VK), (∀ a, H a = none → S a) → Rp K H S x d → g d = some z →
    (∀ v H', Same H H' → Rp K H' S v z → (fr = true → Frs K S H H' v z) → Q v H') → r x H Q
def SemL (K : PySem.W.Frag) (r : List V → Hp → VK → Prop) (fr : Bool) (g : List PyData → Option PyData) : Prop :=
  ∀ (S : Addr → Prop) (H : Hp) (xs : List V) (ds : List PyData) (z : PyData) (Q : VK), (∀ a, H a = none → S a) → RpA K H S xs ds → g ds = some z →
    (∀ v H', Same H H' → Rp K H' S v z → (fr = true → Frs K S H H' v z) → Q v H') → r xs H Q
def liftO {α : Type} : Option α → Re α
  | some a => .ok a
  | none => .bad
def r2 (g : PyData → PyData → Option PyData) (fa fb : Rho → Re PyData) : Rho → Re PyData := fun ρ => (fa ρ).andThen fun x => (fb ρ).andThen fun y => liftO (g x y)
def r1 (g : PyData → Option PyData) (fa : Rho → Re PyData) : Rho → Re PyData := fun ρ => (fa ρ).andThen fun x => liftO (g x)
def asB (f : Rho → Re PyData) : Rho → Re Bool := fun ρ => (f ρ).andThen fun d => match d with | .bool b => .ok b | _ => .bad
variable {la lb fa fb : Bool} {a b : Expr} {f g : Rho → Re PyData} {pos : Pos}
/-- two parts, then a rule upon values -/
theorem two_run {ta tb : TE} {r : R2} {gg : PyData → PyData → Option PyData} {fr : Bool} (ha : ∀ σ H ρ, ER X.K M F σ H ρ → ∀ Q, WE X M F E la fa σ ρ H (f ρ) Q → ta σ H Q) (hb : ∀ σ H ρ, ER X.K M F σ H ρ → ∀ Q, WE X M F E lb fb σ ρ H (g ρ) Q → tb σ H Q)
    (hg : SemB X.K r fr gg) (er : ER X.K M F σ H ρ) {Q : VK} (w : WE X M F E (la || lb) fr σ ρ H (r2 gg f g ρ) Q) : tOp r ta tb σ H Q := by
  refine ha σ H ρ er _ (we_step w fun d v H1 e1 s1 q1 _ w1 => ?_)
  refine hb σ H1 ρ (er.same s1) _ (we_step w1 fun e u H2 e2 s2 q2 _ w2 => ?_)
  cases q : gg d e with
  | none =>
    rw [q] at w2
    exact w2.elim
  | some z =>
    rw [q] at w2
    exact hg (RS M F σ ρ (la || lb)) H2 v u d e z Q ((er.same s1).same s2).freshS ((q1.same s2).wide rs_or1) (q2.wide rs_or2) q fun v' H' s' r' f' => w2 v' H' s' r' f'
theorem de_op {op : Operator} {r : R2} {fr : Bool} {gg : PyData → PyData → Option PyData} (ho : OpR X (binaryOp op) r) (hg : SemB X.K r fr gg) (ha : DE X M F E la fa a f) (hb : DE X M F E lb fb b g) : DE X M F E (la || lb) fr (.BinOp a op b pos) (r2 gg f g) := by
  obtain ⟨ta, pa, ha⟩ := ha
  obtain ⟨tb, pb, hb⟩ := hb
  exact ⟨_, pe_op ho pa pb, fun σ H ρ er Q w => two_run ha hb hg er w⟩
theorem de_un {op : UnaryOp} {r : V → Hp → VK → Prop} {fr : Bool} {gg : PyData → Option PyData} (ho : UnR X (unaryOp op) r) (hg : SemU X.K r fr gg) (ha : DE X M F E la fa a f) : DE X M F E la fr (.UnaryOp op a pos) (r1 gg f) := by
  obtain ⟨ta, pa, ha⟩ := ha
  refine ⟨_, pe_un ho pa, fun σ H ρ er Q w => ?_⟩
  refine ha σ H ρ er _ (we_step w fun d v H1 e1 s1 q1 _ w1 => ?_)
  cases q : gg d with
  | none =>
    rw [q] at w1
    exact w1.elim
  | some z =>
    rw [q] at w1
    exact hg (RS M F σ ρ la) H1 v d z Q (er.same s1).freshS q1 q fun v' H' s' r' f' => w1 v' H' s' r' f'
theorem de_cmp {op : CmpOp} {r : R2} {gg : PyData → PyData → Option PyData} (ho : OpR X (compareOp op) r) (hg : SemB X.K r false gg) (ha : DE X M F E la fa a f) (hb : DE X M F E lb fb b g) (hm : behindInMarks op b = false) : DE X M F E (la || lb) false (.Compare a [op] [b] pos) (r2 gg f g) := by
  obtain ⟨ta, pa, ha⟩ := ha
  obtain ⟨tb, pb, hb⟩ := hb
  exact ⟨_, pe_cmpR ho pa pb hm, fun σ H ρ er Q w => two_run ha hb hg er w⟩
theorem wt_asB {t : TE} {lk fr : Bool} {h : Rho → Re PyData} (ht : ∀ σ H ρ, ER X.K M F σ H ρ → ∀ Q, WE X M F E lk fr σ ρ H (h ρ) Q → t σ H Q) (er : ER X.K M F σ H ρ) {Q : Bool → Hp → Prop} (w : WT X E σ H (asB h ρ) Q) : t σ H fun x H' => ∃ k, x = .bl k ∧ Q k H' := by
  refine ht σ H ρ er _ (wt_step w fun d v H1 e1 s1 q1 _ w1 => ?_)
  cases q1 with
  | bl k => exact ⟨k, rfl, w1 H1 (Same.refl _)⟩
  | non => exact w1.elim
  | int _ => exact w1.elim
  | str _ => exact w1.elim
  | tup _ _ => exact w1.elim
  | lst _ _ _ => exact w1.elim
  | scr _ _ => exact w1.elim
  | dic _ _ _ _ => exact w1.elim
  | dit _ _ _ _ => exact w1.elim
  | dif _ _ _ => exact w1.elim
theorem dt_cmp {op : CmpOp} {r : R2} {gg : PyData → PyData → Option PyData} (ho : OpR X (compareOp op) r) (hg : SemB X.K r false gg) (ha : DE X M F E la fa a f) (hb : DE X M F E lb fb b g) (hm : behindInMarks op b = false) : DT X M F E (.Compare a [op] [b] pos) (asB (r2 gg f g)) := by
  obtain ⟨ta, pa, ha⟩ := ha
  obtain ⟨tb, pb, hb⟩ := hb
  exact ⟨_, pt_cmpR ho pa pb hm, fun σ H ρ er Q w => wt_asB (fun σ H ρ er Q w => two_run ha hb hg er w) er w⟩
theorem dt_val (ha : DE X M F E la fa a f) (he : ∀ whole, isTrue a X.env whole = (do let v ← whole; standAt a.pos; holding [v] (truthy v)) := by intro _; rfl) : DT X M F E a (asB f) := by
  obtain ⟨ta, pa, ha⟩ := ha
  exact ⟨_, pt_val pa he, fun σ H ρ er Q w => wt_asB ha er w⟩

/-! tests -/
def tAndR (f g : Rho → Re Bool) : Rho → Re Bool := fun ρ => (f ρ).andThen fun c => if c = true then g ρ else .ok false
def tOrR (f g : Rho → Re Bool) : Rho → Re Bool := fun ρ => (f ρ).andThen fun c => if c = true then .ok true else g ρ
def tNotR (f : Rho → Re Bool) : Rho → Re Bool := fun ρ => (f ρ).andThen fun c => .ok (!c)
section
variable {c c' : Expr} {rest : List Expr} {p q : Rho → Re Bool}
theorem DW.pt {e : Expr} (h : DW X M F E e p) : DT X M F E e p := by
  obtain ⟨t, h, w⟩ := h
  exact ⟨t, h.pt, w⟩
theorem dw_and1 (h : DT X M F E c p) : DW X M F E (.BoolOp .And [c] pos) p := by
  obtain ⟨t, h, w⟩ := h
  exact ⟨t, pw_and1 h, w⟩
theorem dw_or1 (h : DT X M F E c p) : DW X M F E (.BoolOp .Or [c] pos) p := by
  obtain ⟨t, h, w⟩ := h
  exact ⟨t, pw_or1 h, w⟩
theorem dw_and (h : DT X M F E c p) (k : DW X M F E (.BoolOp .And (c' :: rest) pos) q) : DW X M F E (.BoolOp .And (c :: c' :: rest) pos) (tAndR p q) := by
  obtain ⟨t, h, w⟩ := h
  obtain ⟨u, k, y⟩ := k
  refine ⟨_, pw_and h k, fun σ H ρ er Q z => ?_⟩
  refine w σ H ρ er _ (wt_stepT z fun d H1 e s z1 => ?_)
  cases d with
  | true => exact y σ H1 ρ (er.same s) Q z1
  | false => exact z1 H1 (Same.refl _)
theorem dw_or (h : DT X M F E c p) (k : DW X M F E (.BoolOp .Or (c' :: rest) pos) q) : DW X M F E (.BoolOp .Or (c :: c' :: rest) pos) (tOrR p q) := by
  obtain ⟨t, h, w⟩ := h
  obtain ⟨u, k, y⟩ := k
  refine ⟨_, pw_or h k, fun σ H ρ er Q z => ?_⟩
  refine w σ H ρ er _ (wt_stepT z fun d H1 e s z1 => ?_)
  cases d with
  | false => exact y σ H1 ρ (er.same s) Q z1
  | true => exact z1 H1 (Same.refl _)
theorem dt_not (h : DT X M F E c p) : DT X M F E (.UnaryOp .Not c pos) (tNotR p) := by
  obtain ⟨t, h, w⟩ := h
  refine ⟨_, pt_not h, fun σ H ρ er Q z => ?_⟩
  exact w σ H ρ er _ (wt_stepT z fun d H1 e s z1 => z1 H1 (Same.refl _))
def rIf (p : Rho → Re Bool) (f g : Rho → Re PyData) : Rho → Re PyData := fun ρ => (p ρ).andThen fun c => if c = true then f ρ else g ρ
theorem de_ifExp (hc : DT X M F E c p) (ha : DE X M F E la fa a f) (hb : DE X M F E lb fb b g) : DE X M F E (la || lb) false (.IfExp c a b pos) (rIf p f g) := by
  obtain ⟨t, hc, w⟩ := hc
  obtain ⟨ta, pa, ha⟩ := ha
  obtain ⟨tb, pb, hb⟩ := hb
  refine ⟨_, pe_ifExp hc pa pb, fun σ H ρ er Q z => ?_⟩
  refine w σ H ρ er _ (we_stepT z fun d H1 e s z1 => ?_)
  cases d with
  | true =>
    refine ha σ H1 ρ (er.same s) Q ?_
    have z1 : WE X M F E (la || lb) false σ ρ H1 (f ρ) Q := z1
    revert z1
    cases f ρ with
    | ok d => exact fun z1 v H2 s2 r2 _ => z1 v H2 s2 (r2.wide rs_or1) fun z => nomatch z
    | ex c => exact fun z1 => z1
    | bad => exact fun z1 => z1
  | false =>
    refine hb σ H1 ρ (er.same s) Q ?_
    have z1 : WE X M F E (la || lb) false σ ρ H1 (g ρ) Q := z1
    revert z1
    cases g ρ with
    | ok d => exact fun z1 v H2 s2 r2 _ => z1 v H2 s2 (r2.wide rs_or2) fun z => nomatch z
    | ex c => exact fun z1 => z1
    | bad => exact fun z1 => z1
/-- and, or, not as values of bools -/
def vB (p : Rho → Re Bool) : Rho → Re PyData := fun ρ => (p ρ).andThen fun b => .ok (.bool b)
theorem de_one {op} {t : Rho → Re PyData} (h : DE X M F E la fa a t) : DE X M F E la fa (.BoolOp op [a] pos) t := by
  obtain ⟨ta, pa, ha⟩ := h
  exact ⟨ta, pe_one pa, ha⟩
def rAnd (f g : Rho → Re PyData) : Rho → Re PyData := fun ρ => (f ρ).andThen fun d => match d with | .bool true => g ρ | .bool false => .ok (.bool false) | _ => .bad
def rOr (f g : Rho → Re PyData) : Rho → Re PyData := fun ρ => (f ρ).andThen fun d => match d with | .bool false => g ρ | .bool true => .ok (.bool true) | _ => .bad
def rNot (f : Rho → Re PyData) : Rho → Re PyData := fun ρ => (f ρ).andThen fun d => match d with | .bool b => .ok (.bool (!b)) | _ => .bad
theorem we_nofr {lk fr : Bool} {r : Re PyData} {Q : VK} (w : WE X M F E lk false σ ρ H r Q) : WE X M F E lk fr σ ρ H r Q := by
  cases r with
  | ok d => exact fun v H' s r _ => w v H' s r fun z => nomatch z
  | ex c => exact w
  | bad => exact w
theorem we_lk {lk lk' fr : Bool} {r : Re PyData} {Q : VK} (h : ∀ x, RS M F σ ρ lk x → RS M F σ ρ lk' x) (w : WE X M F E lk' false σ ρ H r Q) : WE X M F E lk fr σ ρ H r Q := by
  cases r with
  | ok d => exact fun v H' s r _ => w v H' s (r.wide h) fun z => nomatch z
  | ex c => exact w
  | bad => exact w
theorem de_and {b : Expr} {rest : List Expr} (ha : DE X M F E la fa a f) (hb : DE X M F E lb fb (.BoolOp .And (b :: rest) pos) g) : DE X M F E lb false (.BoolOp .And (a :: b :: rest) pos) (rAnd f g) := by
  obtain ⟨ta, pa, ha⟩ := ha
  obtain ⟨tb, pb, hb⟩ := hb
  refine ⟨_, pe_and pa pb, fun σ H ρ er Q z => ?_⟩
  refine ha σ H ρ er _ (we_step z fun d v H1 e s r1 _ z1 => ?_)
  cases r1 with
  | bl k =>
    refine ⟨k, rfl, ?_⟩
    cases k with
    | true => exact hb σ H1 ρ (er.same s) Q (we_nofr z1)
    | false => exact z1 _ H1 (Same.refl _) (.bl false) fun z => nomatch z
  | non => exact z1.elim
  | int _ => exact z1.elim
  | str _ => exact z1.elim
  | tup _ _ => exact z1.elim
  | lst _ _ _ => exact z1.elim
  | scr _ _ => exact z1.elim
  | dic _ _ _ _ => exact z1.elim
  | dit _ _ _ _ => exact z1.elim
  | dif _ _ _ => exact z1.elim
theorem de_or {b : Expr} {rest : List Expr} (ha : DE X M F E la fa a f) (hb : DE X M F E lb fb (.BoolOp .Or (b :: rest) pos) g) : DE X M F E lb false (.BoolOp .Or (a :: b :: rest) pos) (rOr f g) := by
  obtain ⟨ta, pa, ha⟩ := ha
  obtain ⟨tb, pb, hb⟩ := hb
  refine ⟨_, pe_or pa pb, fun σ H ρ er Q z => ?_⟩
  refine ha σ H ρ er _ (we_step z fun d v H1 e s r1 _ z1 => ?_)
  cases r1 with
  | bl k =>
    refine ⟨k, rfl, ?_⟩
    cases k with
    | false => exact hb σ H1 ρ (er.same s) Q (we_nofr z1)
    | true => exact z1 _ H1 (Same.refl _) (.bl true) fun z => nomatch z
  | non => exact z1.elim
  | int _ => exact z1.elim
  | str _ => exact z1.elim
  | tup _ _ => exact z1.elim
  | lst _ _ _ => exact z1.elim
  | scr _ _ => exact z1.elim
  | dic _ _ _ _ => exact z1.elim
  | dit _ _ _ _ => exact z1.elim
  | dif _ _ _ => exact z1.elim
theorem de_not (ha : DE X M F E la fa a f) : DE X M F E false false (.UnaryOp .Not a pos) (rNot f) := by
  obtain ⟨ta, pa, ha⟩ := ha
  refine ⟨_, pe_not pa, fun σ H ρ er Q z => ?_⟩
  refine ha σ H ρ er _ (we_step z fun d v H1 e s r1 _ z1 => ?_)
  cases r1 with
  | bl k => exact ⟨k, rfl, z1 _ H1 (Same.refl _) (.bl _) fun z => nomatch z⟩
  | non => exact z1.elim
  | int _ => exact z1.elim
  | str _ => exact z1.elim
  | tup _ _ => exact z1.elim
  | lst _ _ _ => exact z1.elim
  | scr _ _ => exact z1.elim
  | dic _ _ _ _ => exact z1.elim
  | dit _ _ _ _ => exact z1.elim
  | dif _ _ _ => exact z1.elim
end

/-! arguments, displays -/
def aNil : Rho → Re (List PyData) := fun _ => .ok []
def aCons (f : Rho → Re PyData) (g : Rho → Re (List PyData)) : Rho → Re (List PyData) := fun ρ => (f ρ).andThen fun d => (g ρ).andThen fun ds => .ok (d :: ds)
theorem da_nil : DA X M F E false [] aNil := ⟨_, pa_nil, fun σ H ρ er Q w => w [] H (Same.refl _) .nil⟩
theorem wa_step {lk lk' fr' : Bool} {r : Re PyData} {Q : List V → Hp → Prop} {g : PyData → Re (List PyData)} {K : VK} (w : WA X M F E lk σ ρ H (r.andThen g) Q)
    (h : ∀ d v H', r = .ok d → Same H H' → Rp X.K H' (RS M F σ ρ lk') v d → (fr' = true → Frs X.K (RS M F σ ρ lk') H H' v d) → WA X M F E lk σ ρ H' (g d) Q → K v H') : WE X M F E lk' fr' σ ρ H r K := by
  cases r with
  | ok d =>
    refine fun v H' s rr ff => h d v H' rfl s rr ff ?_
    have w : WA X M F E lk σ ρ H (g d) Q := w
    cases q : g d with
    | ok z =>
      rw [q] at w
      exact fun v2 H2 s2 r2 => w v2 H2 (s.trans s2) r2
    | ex c =>
      rw [q] at w
      exact fun C H2 m s2 => w C H2 m (s.trans s2)
    | bad =>
      rw [q] at w
      exact w
  | ex c => exact w
  | bad => exact w
theorem wa_stepA {lk lk' : Bool} {r : Re (List PyData)} {Q : List V → Hp → Prop} {g : List PyData → Re (List PyData)} {K : List V → Hp → Prop} (w : WA X M F E lk σ ρ H (r.andThen g) Q)
    (h : ∀ d v H', r = .ok d → Same H H' → RpA X.K H' (RS M F σ ρ lk') v d → WA X M F E lk σ ρ H' (g d) Q → K v H') : WA X M F E lk' σ ρ H r K := by
  cases r with
  | ok d =>
    refine fun v H' s rr => h d v H' rfl s rr ?_
    have w : WA X M F E lk σ ρ H (g d) Q := w
    cases q : g d with
    | ok z =>
      rw [q] at w
      exact fun v2 H2 s2 r2 => w v2 H2 (s.trans s2) r2
    | ex c =>
      rw [q] at w
      exact fun C H2 m s2 => w C H2 m (s.trans s2)
    | bad =>
      rw [q] at w
      exact w
  | ex c => exact w
  | bad => exact w
theorem da_cons {es : List Expr} {gs : Rho → Re (List PyData)} (ha : DE X M F E la fa a f) (hb : DA X M F E lb es gs) (hs : starEach (a :: es) X.env = (false, eval a X.env) :: starEach es X.env := by rfl) : DA X M F E (la || lb) (a :: es) (aCons f gs) := by
  obtain ⟨ta, pa, ha⟩ := ha
  obtain ⟨tb, pb, hb⟩ := hb
  refine ⟨_, pa_cons pa pb hs, fun σ H ρ er Q z => ?_⟩
  refine ha σ H ρ er _ (wa_step z fun d v H1 e s r1 _ z1 => ?_)
  refine hb σ H1 ρ (er.same s) _ (wa_stepA z1 fun ds vs H2 e s2 r2 z2 => ?_)
  exact z2 _ H2 (Same.refl _) (.cons ((r1.same s2).wide rs_or1) (r2.wide rs_or2))
theorem same_new {H : Hp} {p : Addr} {o : HO} (h : H p = none) : Same H (upd H p o) := fun b x e => by
  rw [upd_ne (ne_of_none e h)]
  exact e
/-- the line of lengths that the data may have: 10000 (Python's own is greater) -/
def okLen (n : Nat) : Bool := decide (n ≤ 10000)
theorem okLen_le {n : Nat} (h : okLen n = true) : n ≤ sizeLine := Nat.le_trans (of_decide_eq_true h) (by decide)
def mkT (ds : List PyData) : Re PyData := if okLen ds.length = true then .ok (.tuple ds) else .bad
def mkL (ds : List PyData) : Re PyData := if okLen ds.length = true then .ok (.list ds) else .bad
def rTup (g : Rho → Re (List PyData)) : Rho → Re PyData := fun ρ => (g ρ).andThen mkT
def rLst (g : Rho → Re (List PyData)) : Rho → Re PyData := fun ρ => (g ρ).andThen mkL
theorem de_tup {es : List Expr} {k : Nat} {gs : Rho → Re (List PyData)} (h : DA X M F E la es gs) : DE X M F E la false (.Tuple es k pos) (rTup gs) := by
  obtain ⟨t, p, h⟩ := h
  refine ⟨_, pe_tupF p, fun σ H ρ er Q z => ?_⟩
  refine h σ H ρ er _ (we_stepA z fun ds vs H1 e s r1 z1 => ?_)
  unfold mkT at z1
  by_cases hl : okLen ds.length = true
  · rw [if_pos hl] at z1
    refine ⟨by rw [r1.length]; exact okLen_le hl, fun p o hp hd => z1 _ _ (same_new hp) ?_ fun z => nomatch z⟩
    exact .tup (.inl ⟨o, upd_same, hd⟩) (r1.same (same_new hp))
  · rw [if_neg hl] at z1
    exact z1.elim
/-- a new list at p -/
theorem frs_new {S : Addr → Prop} {K : PySem.W.Frag} {H H1 : Hp} {p : Addr} {vs : List V} {ds : List PyData} (s : Same H H1) (hp : H1 p = none) (r : RpA K H1 S vs ds) : Frs K S H (upd H1 p (.lst vs)) (.ref p) (.list ds) := by
  refine ⟨p, rfl, s.free hp, .lst upd_same ((r.thru.same (same_new hp)).wide fun a x => ⟨x.1, fun e => ?_⟩)⟩
  rw [e] at x
  exact x.2 hp
theorem de_lst {es : List Expr} {gs : Rho → Re (List PyData)} (h : DA X M F E la es gs) : DE X M F E la true (.List es pos) (rLst gs) := by
  obtain ⟨t, p, h⟩ := h
  refine ⟨_, pe_lst p, fun σ H ρ er Q z => ?_⟩
  refine h σ H ρ er _ (we_stepA z fun ds vs H1 e s r1 z1 => ?_)
  unfold mkL at z1
  by_cases hl : okLen ds.length = true
  · rw [if_pos hl] at z1
    refine ⟨by rw [r1.length]; exact okLen_le hl, fun p hp => z1 _ _ (same_new hp) ?_ fun _ => frs_new (Same.refl _) hp r1⟩
    exact .lst upd_same ((er.same s).freshS p hp) (r1.same (same_new hp))
  · rw [if_neg hl] at z1
    exact z1.elim

/-! calls -/
/-- a def's promise, by the function that it is -/
def spD (mg : Str → Option Value) (f : List PyData → Re PyData) (K : PySem.W.Frag) : Sp := fun vs H Q Ex => ∃ (ds : List PyData) (S : Addr → Prop), RpA K H S vs ds ∧ (∀ a, H a = none → S a) ∧
  match f ds with
  | .ok d => ∀ v H', Same H H' → Rp K H' S v d → Q v H'
  | .ex c => ∀ C H', mg c = some (.ref C) → Same H H' → Ex (.ref C) none H'
  | .bad => False
def rCall (ff : List PyData → Re PyData) (g : Rho → Re (List PyData)) : Rho → Re PyData := fun ρ => (g ρ).andThen ff
theorem de_call {k : Nat} {fAd : Addr} {fd : FuncData} {ps : List Str} {ff : List PyData → Re PyData} {x : Str} {es : List Expr} {gs : Rho → Re (List PyData)} {p : Pos} (G : FnOk X.prog X.w X.K X.mg X.base (L2.CX X.prog X.w) k fAd fd ps (spD X.mg ff X.K)) (hr : Room k X.A) (hg : Gl X x)
    (hm : X.mg x = some (.ref fAd)) (hk : PySem.W.keepIn X.K (.ref fAd) = true) (hb : Binds X.K fd ps []) (hx : ∀ σ, PassesAt (L2.CX X.prog X.w) X σ (E σ)) (ha : DA X M F E la (a :: es) gs)
    (hdb : (x == ("__debug__" : Str)) = false := by decide) (he : starEach (a :: es) X.env = (false, eval a X.env) :: starEach es X.env := by rfl) (hpl : (backTo pos (starEach es X.env)).any (·.1) = false := by rfl) :
    DE X M F E la false (.Call (.Name x p) (a :: es) [] pos) (rCall ff gs) := by
  obtain ⟨t, pa, ha⟩ := ha
  refine ⟨_, pe_callS G hr hg hm hk hb hx pa hdb he hpl, fun σ H ρ er Q z => ?_⟩
  refine ha σ H ρ er _ (we_stepA z fun ds vs H1 e s r1 z1 => ?_)
  refine ⟨ds, RS M F σ ρ la, r1, (er.same s).freshS, ?_⟩
  cases q : ff ds with
  | ok d =>
    rw [q] at z1
    exact fun v H' s' r' => z1 v H' s' r' fun z => nomatch z
  | ex c =>
    rw [q] at z1
    exact z1
  | bad =>
    rw [q] at z1
    exact z1
/-- a built-in called -/
theorem de_callB {id : String} {r : List V → Hp → VK → Prop} {fr : Bool} {gg : List PyData → Option PyData} {x : Str} {es : List Expr} {gs : Rho → Re (List PyData)} {p : Pos} (hc : CallR X (.builtin id) r) (hS : SemL X.K r fr gg) (hg : Gl X x) (hm : X.mg x = none) (hv : bootBuiltins x = some (.builtin id))
    (ha : DA X M F E la (a :: es) gs) (hn : x ≠ "__name__" := by decide) (hdb : (x == ("__debug__" : Str)) = false := by decide)
    (he : starEach (a :: es) X.env = (false, eval a X.env) :: starEach es X.env := by rfl) (hpl : (backTo pos (starEach es X.env)).any (·.1) = false := by rfl) :
    DE X M F E la fr (.Call (.Name x p) (a :: es) [] pos) (fun ρ => (gs ρ).andThen fun ds => liftO (gg ds)) := by
  obtain ⟨t, pa, ha⟩ := ha
  refine ⟨_, pe_callB hc hg hm hv pa hn hdb he hpl, fun σ H ρ er Q z => ?_⟩
  refine ha σ H ρ er _ (we_stepA z fun ds vs H1 e s r1 z1 => ?_)
  cases q : gg ds with
  | none =>
    rw [q] at z1
    exact z1.elim
  | some d =>
    rw [q] at z1
    exact hS (RS M F σ ρ la) H1 vs ds d Q (er.same s).freshS r1 q fun v' H' s' r' f' => z1 v' H' s' r' f'
theorem de_callTy {id : String} {r : List V → Hp → VK → Prop} {fr : Bool} {gg : List PyData → Option PyData} {x : Str} {es : List Expr} {gs : Rho → Re (List PyData)} {p : Pos} (hc : CallR X (.type id) r) (hS : SemL X.K r fr gg) (hg : Gl X x) (hm : X.mg x = none) (hv : bootBuiltins x = some (.type id))
    (ha : DA X M F E la (a :: es) gs) (hn : x ≠ "__name__" := by decide) (hdb : (x == ("__debug__" : Str)) = false := by decide)
    (he : starEach (a :: es) X.env = (false, eval a X.env) :: starEach es X.env := by rfl) (hpl : (backTo pos (starEach es X.env)).any (·.1) = false := by rfl) :
    DE X M F E la fr (.Call (.Name x p) (a :: es) [] pos) (fun ρ => (gs ρ).andThen fun ds => liftO (gg ds)) := by
  obtain ⟨t, pa, ha⟩ := ha
  refine ⟨_, pe_callTy hc hg hm hv pa hn hdb he hpl, fun σ H ρ er Q z => ?_⟩
  refine ha σ H ρ er _ (we_stepA z fun ds vs H1 e s r1 z1 => ?_)
  cases q : gg ds with
  | none =>
    rw [q] at z1
    exact z1.elim
  | some d =>
    rw [q] at z1
    exact hS (RS M F σ ρ la) H1 vs ds d Q (er.same s).freshS r1 q fun v' H' s' r' f' => z1 v' H' s' r' f'
end
end Pu

set_option Elab.async false
set_option linter.all false
set_option maxRecDepth 100000
set_option maxHeartbeats 2000000
namespace Pu
open PySem PySem.Spec PyProof.Rows L2

/-! ### statements -/
inductive Sr where
  | nx (ρ : Rho)
  | rt (d : PyData)
  | bk (ρ : Rho)
  | ct (ρ : Rho)
  | ex (c : Str) (ρ : Rho)
  | bad
def Re.st : Re PyData → Rho → (PyData → Sr) → Sr
  | .ok d, _, k => k d
  | .ex c, ρ, _ => .ex c ρ
  | .bad, _, _ => .bad
def Re.stT : Re Bool → Rho → (Bool → Sr) → Sr
  | .ok d, _, k => k d
  | .ex c, ρ, _ => .ex c ρ
  | .bad, _, _ => .bad
def WS (X : Cx) (M : Nat → Bool) (F : Fx) (E : L2.St → XK) (σ : L2.St) (H : Hp) (ρ : Rho) (r : Sr) (D : Ends) : Prop :=
  match r with
  | .nx ρ' => ∀ σ' H', ER X.K M F σ' H' ρ' → Evo M σ H ρ σ' H' ρ' → D.nx σ' H'
  | .rt d => ∀ v H', Same F.H0 H' → Rp X.K H' F.S0 v d → D.rt v H'
  | .bk ρ' => ∀ σ' H', ER X.K M F σ' H' ρ' → Evo M σ H ρ σ' H' ρ' → D.bk σ' H'
  | .ct ρ' => ∀ σ' H', ER X.K M F σ' H' ρ' → Evo M σ H ρ σ' H' ρ' → D.ct σ' H'
  | .ex c ρ' => ∀ C σ' H', X.mg c = some (.ref C) → ER X.K M F σ' H' ρ' → Evo M σ H ρ σ' H' ρ' → E σ' (.ref C) none H'
  | .bad => False
def DS (X : Cx) (M : Nat → Bool) (F : Fx) (E : L2.St → XK) (st : Stmt) (s : Rho → Sr) : Prop := ∃ t : TS, PS X st t ∧ ∀ σ H ρ, ER X.K M F σ H ρ → ∀ D, WS X M F E σ H ρ (s ρ) D → t D σ H
def DSs (X : Cx) (M : Nat → Bool) (F : Fx) (E : L2.St → XK) (st : List Stmt) (s : Rho → Sr) : Prop := ∃ t : TS, PSs X st t ∧ ∀ σ H ρ, ER X.K M F σ H ρ → ∀ D, WS X M F E σ H ρ (s ρ) D → t D σ H

section
variable {X : Cx} {M : Nat → Bool} {F : Fx} {E : L2.St → XK} {σ σ1 : L2.St} {ρ ρ1 : Rho} {H H' H1 : Hp} {D : Ends}
/-- from a later state -/
theorem ws_evo {r : Sr} (v : Evo M σ H ρ σ1 H1 ρ1) (w : WS X M F E σ H ρ r D) : WS X M F E σ1 H1 ρ1 r D := by
  cases r with
  | nx ρ' => exact fun σ' H' e v' => w σ' H' e (v.trans v')
  | rt d => exact w
  | bk ρ' => exact fun σ' H' e v' => w σ' H' e (v.trans v')
  | ct ρ' => exact fun σ' H' e v' => w σ' H' e (v.trans v')
  | ex c ρ' => exact fun C σ' H' m e v' => w C σ' H' m e (v.trans v')
  | bad => exact w
theorem ws_step {lk fr : Bool} {r : Re PyData} {g : PyData → Sr} {K : VK} (er : ER X.K M F σ H ρ) (w : WS X M F E σ H ρ (r.st ρ g) D)
    (h : ∀ d v H', r = .ok d → Same H H' → Rp X.K H' (RS M F σ ρ lk) v d → (fr = true → Frs X.K (RS M F σ ρ lk) H H' v d) → WS X M F E σ H' ρ (g d) D → K v H') : WE X M F E lk fr σ ρ H r K := by
  cases r with
  | ok d => exact fun v H' s r f => h d v H' rfl s r f (ws_evo (Evo.same s) w)
  | ex c => exact fun C H' m s => w C σ H' m (er.same s) (Evo.same s)
  | bad => exact w
theorem ws_stepT {r : Re Bool} {g : Bool → Sr} {K : Bool → Hp → Prop} (er : ER X.K M F σ H ρ) (w : WS X M F E σ H ρ (r.stT ρ g) D)
    (h : ∀ d H', r = .ok d → Same H H' → WS X M F E σ H' ρ (g d) D → K d H') : WT X E σ H r K := by
  cases r with
  | ok d => exact fun H' s => h d H' rfl s (ws_evo (Evo.same s) w)
  | ex c => exact fun C H' m s => w C σ H' m (er.same s) (Evo.same s)
  | bad => exact w

variable {st : Stmt} {rest : List Stmt} {s u : Rho → Sr} {la fa lb fb : Bool} {a b : Expr} {f g : Rho → Re PyData} {p : Rho → Re Bool} {pos : Pos}
def sNil : Rho → Sr := fun ρ => .nx ρ
def sSeq (s u : Rho → Sr) : Rho → Sr := fun ρ => match s ρ with | .nx ρ' => u ρ' | r => r
theorem dss_nil : DSs X M F E [] sNil := ⟨_, pss_nil, fun σ H ρ er D w => w σ H er Evo.refl⟩
theorem dss_one (h : DS X M F E st s) : DSs X M F E [st] s := by
  obtain ⟨t, p, h⟩ := h
  exact ⟨t, pss_one p, h⟩
theorem dss_cons (h : DS X M F E st s) (k : DSs X M F E rest u) : DSs X M F E (st :: rest) (sSeq s u) := by
  obtain ⟨t, p, h⟩ := h
  obtain ⟨t', p', k⟩ := k
  refine ⟨_, pss_cons p p', fun σ H ρ er D w => ?_⟩
  refine h σ H ρ er _ ?_
  unfold sSeq at w
  cases q : s ρ with
  | nx ρ' =>
    rw [q] at w
    exact fun σ' H' er' ev => k σ' H' ρ' er' D (ws_evo ev w)
  | rt d =>
    rw [q] at w
    exact w
  | bk ρ' =>
    rw [q] at w
    exact w
  | ct ρ' =>
    rw [q] at w
    exact w
  | ex c ρ' =>
    rw [q] at w
    exact w
  | bad =>
    rw [q] at w
    exact w
theorem ds_pass : DS X M F E (.Pass pos) sNil := ⟨_, ps_pass, fun σ H ρ er D w => w σ H er Evo.refl⟩
theorem ds_doc {x j pos'} : DS X M F E (.Expr (.Constant (.str x) j pos) pos') sNil := ⟨_, ps_doc, fun σ H ρ er D w => w σ H er Evo.refl⟩
theorem ds_break : DS X M F E (.Break pos) (fun ρ => .bk ρ) := ⟨_, ps_break, fun σ H ρ er D w => w σ H er Evo.refl⟩
theorem ds_continue : DS X M F E (.Continue pos) (fun ρ => .ct ρ) := ⟨_, ps_continue, fun σ H ρ er D w => w σ H er Evo.refl⟩
def sIf (p : Rho → Re Bool) (s u : Rho → Sr) : Rho → Sr := fun ρ => (p ρ).stT ρ fun b => if b = true then s ρ else u ρ
theorem ds_if {c : Expr} {x y : List Stmt} (hc : DT X M F E c p) (hx : DSs X M F E x s) (hy : DSs X M F E y u) : DS X M F E (.If c x y pos) (sIf p s u) := by
  obtain ⟨t, pc, hc⟩ := hc
  obtain ⟨t1, p1, h1⟩ := hx
  obtain ⟨t2, p2, h2⟩ := hy
  refine ⟨_, ps_if pc p1 p2, fun σ H ρ er D w => ?_⟩
  refine hc σ H ρ er _ (ws_stepT er w fun d H1 e sm w1 => ?_)
  cases d with
  | true => exact h1 σ H1 ρ (er.same sm) D w1
  | false => exact h2 σ H1 ρ (er.same sm) D w1
def sRet (f : Rho → Re PyData) : Rho → Sr := fun ρ => (f ρ).st ρ fun d => .rt d
theorem ds_ret (h : DE X M F E la fa a f) : DS X M F E (.Return (some a) pos) (sRet f) := by
  obtain ⟨t, p, h⟩ := h
  refine ⟨_, ps_ret p, fun σ H ρ er D w => ?_⟩
  exact h σ H ρ er _ (ws_step er w fun d v H1 e sm r _ w1 => w1 v H1 (er.same sm).old (r.wide fun a x => x.1))
theorem ds_retN : DS X M F E (.Return none pos) (fun _ => .rt .none) := ⟨_, ps_retN, fun σ H ρ er D w => w _ H er.old .non⟩
def sDrop (f : Rho → Re PyData) : Rho → Sr := fun ρ => (f ρ).st ρ fun _ => .nx ρ
theorem ds_expr (h : DE X M F E la fa a f) (hs : swapsWith a none pos.line X.env = pure false := by rfl) : DS X M F E (.Expr a pos) (sDrop f) := by
  obtain ⟨t, p, h⟩ := h
  refine ⟨_, ps_expr p hs, fun σ H ρ er D w => ?_⟩
  exact h σ H ρ er _ (ws_step er w fun d v H1 e sm r _ w1 => w1 σ H1 (er.same sm) Evo.refl)
/-- x = e, x no list of the frame's own -/
def sSet (i : Nat) (lk : Bool) (f : Rho → Re PyData) : Rho → Sr := fun ρ => (f ρ).st ρ fun d => if lk = true → imm d = true then .nx (ρ.set i (some d)) else .bad
theorem ds_set {i : Nat} {x : Str} {pos' : Pos} (m : M i = false) (hN : X.N.Nodup) (h : DE X M F E la fa a f) (hi : X.N[i]? = some x := by rfl) (hx : Loc X.env.scope x := by first | exact Or.inl rfl | exact Or.inr rfl)
    (hs : swapsWith a (some (.Name x pos')) pos.line X.env = pure false := by rfl) (hw : swappedStores [.Name x pos'] a X.env = pure none := by rfl) (hf : X.fn x = true ∨ X.env.scope.names.lookup x = some .local := by first | exact .inl rfl | exact .inr rfl) :
    DS X M F E (.Assign [.Name x pos'] a pos) (sSet i la f) := by
  obtain ⟨t, p, h⟩ := h
  refine ⟨_, ps_asg p (pg_name hN hi hx hf) hs hw, fun σ H ρ er D w => ?_⟩
  refine h σ H ρ er _ (ws_step er w fun d v H1 e sm r _ w1 => ?_)
  by_cases hd : la = true → imm d = true
  · rw [if_pos hd] at w1
    have r' : Rp X.K H1 (RS M F σ ρ false) v d := by
      cases la with
      | false => exact r
      | true => exact r.noAddr (hd rfl)
    exact w1 _ H1 ((er.same sm).set m r') fun a u q n => ⟨q, fun o => n ((own_set m).mp o)⟩
  · rw [if_neg hd] at w1
    exact w1.elim

/-! own lists -/
theorem own_upd {i : Nat} {pp : Addr} (m : M i = true) {d : PyData} {a : Addr} (hi : i < ρ.length) (hl : ρ.length = σ.length) : OwnA M (σ.set i (some (.ref pp))) (ρ.set i (some d)) a → a = pp ∨ ∃ j d, j ≠ i ∧ M j = true ∧ ρ[j]? = some (some d) ∧ σ[j]? = some (some (.ref a)) := by
  rintro ⟨j, e, mj, r, s⟩
  by_cases hj : i = j
  · subst hj
    rw [List.getElem?_set_self (by rw [← hl]; exact hi)] at s
    cases s
    exact .inl rfl
  · rw [List.getElem?_set_ne hj] at r s
    exact .inr ⟨j, e, fun z => hj z.symm, mj, r, s⟩
/-- a new own list in slot i -/
theorem ER.setOwn (e : ER X.K M F σ H ρ) {i : Nat} {pp : Addr} {d : PyData} (m : M i = true) (hi : i < ρ.length) (sm : Same H H1) (hp : H pp = none) (w : OwR X.K H1 (fun a => RS M F σ ρ false a ∧ a ≠ pp) pp d) :
    ER X.K M F (σ.set i (some (.ref pp))) H1 (ρ.set i (some d)) ∧ Evo M σ H ρ (σ.set i (some (.ref pp))) H1 (ρ.set i (some d)) := by
  have h0 : F.H0 pp = none := (e.fresh hp).1
  have key : ∀ a, OwnA M (σ.set i (some (.ref pp))) (ρ.set i (some d)) a → a = pp ∨ OwnA M σ ρ a := fun a o => by
    rcases own_upd m hi e.len o with z | ⟨j, d', _, mj, r, s⟩
    · exact .inl z
    · exact .inr ⟨j, d', mj, r, s⟩
  have rs : ∀ a, RS M F σ ρ false a → a ≠ pp → RS M F (σ.set i (some (.ref pp))) (ρ.set i (some d)) false a := fun a x ne => ⟨x.1, fun _ o => by
    rcases key a o with z | z
    · exact ne z
    · exact x.2 rfl z⟩
  have e1 := e.same sm
  refine ⟨⟨by rw [List.length_set, List.length_set]; exact e.len, e1.old, e1.new, fun j d' q mj => ?_, fun j d' q mj => ?_, fun j k d' e' p mj mk q1 q2 s1 s2 => ?_⟩, fun a u q n => ⟨sm a u q, fun o => ?_⟩⟩
  · have hj : i ≠ j := fun z => by
      subst z
      rw [m] at mj
      cases mj
    rw [List.getElem?_set_ne hj] at q
    obtain ⟨v, s, r⟩ := e.im j d' q mj
    exact ⟨v, by rw [List.getElem?_set_ne hj]; exact s, r.keep (kp_same sm) fun a u x z => rs a x fun q => by
      rw [q, hp] at z
      cases z⟩
  · by_cases hj : i = j
    · subst hj
      rw [List.getElem?_set_self hi] at q
      cases q
      exact ⟨pp, List.getElem?_set_self (by rw [← e.len]; exact hi), ⟨h0, e.new _ hp⟩, w.keep (kp_same (Same.refl _)) (fun a u x _ => rs a x.1 x.2) fun _ q => q⟩
    · rw [List.getElem?_set_ne hj] at q
      obtain ⟨p, s, z, w'⟩ := e.ow j d' q mj
      refine ⟨p, by rw [List.getElem?_set_ne hj]; exact s, z, w'.keep (kp_same sm) (fun a u x zz => rs a x fun qq => ?_) fun u q => sm _ _ q⟩
      rw [qq, hp] at zz
      cases zz
  · have nope : ∀ j d', i ≠ j → M j = true → (ρ.set i (some d))[j]? = some (some d') → (σ.set i (some (V.ref pp)))[j]? = some (some (.ref pp)) → False := fun j d' hj mj q s => by
      rw [List.getElem?_set_ne hj] at q s
      obtain ⟨_, _, u, hu⟩ := e.own ⟨j, d', mj, q, s⟩
      rw [hp] at hu
      cases hu
    by_cases hj : i = j
    · subst hj
      by_cases hk : i = k
      · exact hk
      · rw [List.getElem?_set_self (by rw [← e.len]; exact hi)] at s1
        cases s1
        exact (nope k e' hk mk q2 s2).elim
    · by_cases hk : i = k
      · subst hk
        rw [List.getElem?_set_self (by rw [← e.len]; exact hi)] at s2
        cases s2
        exact (nope j d' hj mj q1 s1).elim
      · rw [List.getElem?_set_ne hj] at q1 s1
        rw [List.getElem?_set_ne hk] at q2 s2
        exact e.ap j k d' e' p mj mk q1 q2 s1 s2
  · rcases key a o with z | z
    · rw [z, hp] at q
      cases q
    · exact n z
/-- items of an own list -/
def itemsImm : PyData → Bool
  | .list ds => immAll ds
  | .dict (_ :: kvs) => immAll (kvs.map (·.2))
  | _ => false
theorem zip_snd : ∀ {α β : Type} (ks : List α) (ds : List β), ks.length = ds.length → (ks.zip ds).map (·.2) = ds
  | _, _, [], [], _ => rfl
  | _, _, _ :: ks, _ :: ds, h => by
    rw [List.zip_cons_cons, List.map_cons, zip_snd ks ds (by simpa using h)]
  | _, _, [], _ :: _, h => by simp at h
  | _, _, _ :: _, [], h => by simp at h
theorem OwR.noAddr {K : PySem.W.Frag} {S S' : Addr → Prop} {H : Hp} {pp : Addr} {d : PyData} (h : OwR K H S pp d) (q : itemsImm d = true) : OwR K H S' pp d := by
  cases h with
  | lst e r => exact .lst e (r.noAddr q)
  | dic e l r => exact .dic e l (r.noAddr (by
      have q' : immAll ((_ : List (PyData × PyData)).map (·.2)) = true := q
      rw [zip_snd _ _ (by rw [List.length_map, l, r.length])] at q'
      exact q'))
  | dit e l r => exact .dit e l (r.noAddr (by
      have q' : immAll ((_ : List (PyData × PyData)).map (·.2)) = true := q
      rw [zip_snd _ _ (by rw [List.length_map, l, r.length])] at q'
      exact q'))
def sSetO (i : Nat) (lk : Bool) (f : Rho → Re PyData) : Rho → Sr := fun ρ => (f ρ).st ρ fun d => if i < ρ.length ∧ (lk = true → itemsImm d = true) then .nx (ρ.set i (some d)) else .bad
/-- x = [..], {..}, list(..): x is a list of the frame's own -/
theorem setO_run {t : TE} {i : Nat} (m : M i = true) (h : ∀ σ H ρ, ER X.K M F σ H ρ → ∀ Q, WE X M F E la true σ ρ H (f ρ) Q → t σ H Q) (er : ER X.K M F σ H ρ) (w : WS X M F E σ H ρ (sSetO i la f ρ) D) : tAsg t (gName i) D σ H := by
  refine h σ H ρ er _ ?_
  unfold sSetO at w
  cases q : f ρ with
  | ok d =>
    rw [q] at w
    refine fun v H1 sm r fr => ?_
    obtain ⟨pp, rfl, hp, ow⟩ := fr rfl
    have w : WS X M F E σ H ρ (if i < ρ.length ∧ (la = true → itemsImm d = true) then .nx (ρ.set i (some d)) else .bad) D := w
    by_cases hd : i < ρ.length ∧ (la = true → itemsImm d = true)
    · rw [if_pos hd] at w
      have ow' : OwR X.K H1 (fun a => RS M F σ ρ false a ∧ a ≠ pp) pp d := by
        cases la with
        | false => exact ow
        | true => exact ow.noAddr (hd.2 rfl)
      obtain ⟨er', ev⟩ := er.setOwn m hd.1 sm hp ow'
      exact w _ _ er' ev
    · rw [if_neg hd] at w
      exact w.elim
  | ex c =>
    rw [q] at w
    exact fun C H' mm sm => w C σ H' mm (er.same sm) (Evo.same sm)
  | bad =>
    rw [q] at w
    exact w
theorem ds_setO {i : Nat} {x : Str} {pos' : Pos} (m : M i = true) (hN : X.N.Nodup) (h : DE X M F E la true a f) (hi : X.N[i]? = some x := by rfl) (hx : Loc X.env.scope x := by first | exact Or.inl rfl | exact Or.inr rfl)
    (hs : swapsWith a (some (.Name x pos')) pos.line X.env = pure false := by rfl) (hw : swappedStores [.Name x pos'] a X.env = pure none := by rfl) (hf : X.fn x = true ∨ X.env.scope.names.lookup x = some .local := by first | exact .inl rfl | exact .inr rfl) :
    DS X M F E (.Assign [.Name x pos'] a pos) (sSetO i la f) := by
  obtain ⟨t, p, h⟩ := h
  exact ⟨_, ps_asg p (pg_name hN hi hx hf) hs hw, fun σ H ρ er D w => setO_run m h er w⟩
/-- an own list's content changes -/
theorem ER.put (e : ER X.K M F σ H ρ) {i : Nat} {pp : Addr} {d d' : PyData} {o : HO} (m : M i = true) (hr : ρ[i]? = some (some d)) (hs : σ[i]? = some (some (.ref pp))) (ow : OwR X.K (upd H pp o) (RS M F σ ρ false) pp d') :
    ER X.K M F σ (upd H pp o) (ρ.set i (some d')) ∧ Evo M σ H ρ σ (upd H pp o) (ρ.set i (some d')) := by
  have hi := getSome hr
  have oP : OwnA M σ ρ pp := ⟨i, d, m, hr, hs⟩
  obtain ⟨h0, _, uu, hu⟩ := e.own oP
  obtain ⟨p', s', z', w'⟩ := e.ow i d hr m
  rw [hs] at s'
  cases s'
  obtain ⟨u2, hu2, mu⟩ := w'.there
  have own : ∀ a, OwnA M σ (ρ.set i (some d')) a ↔ OwnA M σ ρ a := fun a => by
    constructor
    · rintro ⟨j, x, mj, r, s⟩
      by_cases hj : i = j
      · subst hj
        exact ⟨i, d, m, hr, s⟩
      · rw [List.getElem?_set_ne hj] at r
        exact ⟨j, x, mj, r, s⟩
    · rintro ⟨j, x, mj, r, s⟩
      by_cases hj : i = j
      · subst hj
        exact ⟨i, d', m, List.getElem?_set_self hi, s⟩
      · exact ⟨j, x, mj, by rw [List.getElem?_set_ne hj]; exact r, s⟩
  have rs : RS M F σ (ρ.set i (some d')) false = RS M F σ ρ false := by
    funext a
    unfold RS
    rw [propext (own a)]
  have kp : Kp (RS M F σ ρ false) H (upd H pp o) := fun a u q x => by
    rw [upd_ne]
    · exact q
    · intro z
      subst z
      rcases x with x | x
      · exact x.2 rfl oP
      · rw [q] at hu2
        cases hu2
        exact x mu
  refine ⟨⟨by rw [List.length_set]; exact e.len, fun a u q => ?_, fun a q => e.new a ?_, fun j x q mj => ?_, fun j x q mj => ?_, fun j k x y p mj mk q1 q2 s1 s2 => ?_⟩, fun a u q n => ⟨?_, fun oo => n ((own a).mp oo)⟩⟩
  · rw [upd_ne]
    · exact e.old a u q
    · intro z
      rw [z, h0] at q
      cases q
  · by_cases z : a = pp
    · rw [z, upd_same] at q
      cases q
    · rw [upd_ne z] at q
      exact q
  · have hj : i ≠ j := fun z => by
      subst z
      rw [m] at mj
      cases mj
    rw [List.getElem?_set_ne hj] at q
    obtain ⟨v, s, r⟩ := e.im j x q mj
    rw [rs]
    exact ⟨v, s, r.keep kp fun _ _ x _ => x⟩
  · rw [rs]
    by_cases hj : i = j
    · subst hj
      rw [List.getElem?_set_self hi] at q
      cases q
      exact ⟨pp, hs, z', ow⟩
    · rw [List.getElem?_set_ne hj] at q
      obtain ⟨p, s, z, w2⟩ := e.ow j x q mj
      refine ⟨p, s, z, w2.keep kp (fun _ _ x _ => x) fun u q' => ?_⟩
      rw [upd_ne]
      · exact q'
      · intro zz
        rw [zz] at s
        exact hj (e.ap i j d x pp m mj hr q hs s)
  · have back : ∀ j x, (ρ.set i (some d'))[j]? = some (some x) → ∃ x', ρ[j]? = some (some x') := fun j x q => by
      by_cases hj : i = j
      · subst hj
        exact ⟨d, hr⟩
      · rw [List.getElem?_set_ne hj] at q
        exact ⟨x, q⟩
    obtain ⟨x', q1⟩ := back j x q1
    obtain ⟨y', q2⟩ := back k y q2
    exact e.ap j k x' y' p mj mk q1 q2 s1 s2
  · rw [upd_ne]
    · exact q
    · intro z
      subst z
      exact n oP
end
end Pu

set_option Elab.async false
set_option linter.all false
set_option maxRecDepth 100000
set_option maxHeartbeats 2000000
namespace Pu
open PySem PySem.Spec PyProof.Rows L2

section
variable {X : Cx} {M : Nat → Bool} {F : Fx} {E : L2.St → XK} {σ σ1 : L2.St} {ρ ρ1 : Rho} {H H' H1 : Hp} {D : Ends}
variable {st : Stmt} {rest : List Stmt} {s u : Rho → Sr} {la fa lb fb : Bool} {a b : Expr} {f g : Rho → Re PyData} {p : Rho → Re Bool} {pos : Pos}

/-! ### changes of own lists -/
def getL (ρ : Rho) (i : Nat) : Option (List PyData) := match ρ[i]? with | some (some (.list ds)) => some ds | _ => none
theorem getL_some {ds : List PyData} {i : Nat} (h : getL ρ i = some ds) : ρ[i]? = some (some (.list ds)) := by
  unfold getL at h
  split at h
  · rename_i ds' e
    cases h
    exact e
  · cases h
theorem ER.lst (er : ER X.K M F σ H ρ) {i : Nat} {ds : List PyData} (m : M i = true) (h : getL ρ i = some ds) : ∃ pp xs, σ[i]? = some (some (.ref pp)) ∧ H pp = some (.lst xs) ∧ RpA X.K H (RS M F σ ρ false) xs ds := by
  obtain ⟨pp, hs, _, w⟩ := er.ow i _ (getL_some h) m
  cases w with
  | lst e r => exact ⟨pp, _, hs, e, r⟩
/-- behind a change of an own list -/
theorem ER.putL (er : ER X.K M F σ H ρ) {i : Nat} {pp : Addr} {ds ds' : List PyData} {xs xs' : List V} (m : M i = true) (h : getL ρ i = some ds) (hs : σ[i]? = some (some (.ref pp))) (hx : H pp = some (.lst xs)) (r : RpA X.K H (RS M F σ ρ false) xs' ds') :
    ER X.K M F σ (upd H pp (.lst xs')) (ρ.set i (some (.list ds'))) ∧ Evo M σ H ρ σ (upd H pp (.lst xs')) (ρ.set i (some (.list ds'))) := by
  refine er.put m (getL_some h) hs (.lst upd_same (r.keep (fun a u q x => ?_) fun _ _ x _ => x))
  rw [upd_ne]
  · exact q
  · intro z
    subst z
    rcases x with x | x
    · exact x.2 rfl ⟨i, _, m, getL_some h, hs⟩
    · rw [q] at hx
      cases hx
      exact x trivial
/-- after a pure part: the slots and own lists are as they were -/
theorem sq_l {pp : Addr} {xs : List V} (h : H pp = some (.lst xs)) : tyV X.K "list" (.ref pp) H := Or.inl ⟨rfl, _, SqL.of h⟩
def sApp (i : Nat) (lk : Bool) (f : Rho → Re PyData) : Rho → Sr := fun ρ => match getL ρ i with
  | some ds => (f ρ).st ρ fun d => if okLen (ds.length + 1) = true ∧ (lk = true → imm d = true) then .nx (ρ.set i (some (.list (ds ++ [d])))) else .bad
  | none => .bad
theorem rp_lk {d : PyData} {v : V} (r : Rp X.K H (RS M F σ ρ la) v d) (h : la = true → imm d = true) : Rp X.K H (RS M F σ ρ false) v d := by
  cases la with
  | false => exact r
  | true => exact r.noAddr (h rfl)
theorem ds_app {i : Nat} {x : Str} {p1 p2 p3 : Pos} (m : M i = true) (h : DE X M F E la fa a f) (hN : X.N[i]? = some x := by rfl) (hv : Vis X.env.scope x := by first | exact Or.inl rfl | exact Or.inr (Or.inl rfl) | exact Or.inr (Or.inr rfl)) (hd : (x == ("__debug__" : Str)) = false := by decide)
    (hcd : (x == ("__classdict__" : Str)) = false := by decide)
    (hs : swapsWith (.Call (.Attribute (.Name x p1) "append" p2) [a] [] p3) none pos.line X.env = pure false := by rfl) (hbase : attributeBase (.Name x p1) "append" X.env (eval (.Name x p1) X.env) = eval (.Name x p1) X.env := by rfl)
    (hfew : ((backTo p3 (starEach (a :: []) X.env)).all (fun x => !x.1) && (backToKw p3 (keywordEach [] X.env)).all (fun x => x.1.isSome)
      && decide ((a :: ([] : List Expr)).length + ([] : List Keyword).length + (if ([] : List Keyword).isEmpty then 0 else 1) < 30)) = true := by rfl)
    (hline : (p2.endLine == p3.line) = true := by rfl) (hst : starEach (a :: []) X.env = (false, eval a X.env) :: starEach [] X.env := by rfl) (hplain : (backTo p3 (starEach [] X.env)).any (·.1) = false := by rfl) :
    DS X M F E (.Expr (.Call (.Attribute (.Name x p1) "append" p2) [a] [] p3) pos) (sApp i la f) := by
  obtain ⟨t, pa, h⟩ := h
  refine ⟨_, ps_expr (pe_bm PySem.F.plainAttrs_list PySem.F.slot_list_append PySem.F.type_list_append mt_append (pe_var hN hv hd hcd) (pa_cons pa pa_nil hst) hbase hfew hline hst hplain) hs, fun σ H ρ er D w => ?_⟩
  unfold sApp at w
  cases hl : getL ρ i with
  | none =>
    rw [hl] at w
    exact w.elim
  | some ds =>
    rw [hl] at w
    obtain ⟨pp, xs, hs', hx, rx⟩ := er.lst m hl
    refine ⟨.ref pp, hs', sq_l hx, h σ H ρ er _ (ws_step er w fun d v H1 e sm r _ w1 => ?_)⟩
    by_cases hc : okLen (ds.length + 1) = true ∧ (la = true → imm d = true)
    · rw [if_pos hc] at w1
      have er1 := er.same sm
      have hx1 := sm _ _ hx
      have hz : xs.length < sizeLine := by
        have := of_decide_eq_true hc.1
        rw [rx.length]
        exact Nat.lt_of_lt_of_le (Nat.lt_of_succ_le this) (by decide)
      obtain ⟨er2, ev2⟩ := er1.putL m hl hs' hx1 ((rx.same sm).append (.cons (rp_lk r hc.2) .nil))
      exact ⟨pp, xs, v, rfl, rfl, hx1, hz, w1 σ _ er2 ev2⟩
    · rw [if_neg hc] at w1
      exact w1.elim
/-- x.append(y.pop(e)) -/
def popAt (ρ : Rho) (j : Nat) (d : PyData) : Option (PyData × List PyData) := match getL ρ j, d with
  | some es, .int n => if okLen es.length = true then (match ixN es.length n with
    | some k => (match es[k]? with | some y => some (y, es.eraseIdx k) | none => none)
    | none => none) else none
  | _, _ => none
theorem popAt_some {j : Nat} {d y : PyData} {es' : List PyData} (h : popAt ρ j d = some (y, es')) : ∃ es n k, getL ρ j = some es ∧ d = .int n ∧ okLen es.length = true ∧ ixN es.length n = some k ∧ es[k]? = some y ∧ es' = es.eraseIdx k := by
  unfold popAt at h
  split at h
  · rename_i es n he
    split at h
    · rename_i hz
      split at h
      · rename_i k hk
        split at h
        · rename_i y' hy
          cases h
          exact ⟨es, n, k, by assumption, rfl, hz, hk, hy, rfl⟩
        · cases h
      · cases h
    · cases h
  · cases h
theorem rpop_ok {j : Nat} {pp : Addr} {xs : List V} {es : List PyData} {n : Int} {k : Nat} {y : PyData} {S : Addr → Prop} {Q : VK} (hx : H pp = some (.lst xs)) (rx : RpA X.K H S xs es) (hz : okLen es.length = true) (hk : ixN es.length n = some k) (hy : es[k]? = some y)
    (h : ∀ v, Rp X.K H S v y → xs[k]? = some v → Q v (upd H pp (.lst (xs.eraseIdx k)))) : rPopAt (.ref pp) [.int n] H Q := by
  have hlen := rx.length
  rw [← hlen] at hk hz
  obtain ⟨h1, h2, h3, h4⟩ := ixN_seq hk
  obtain ⟨v, hv, rv⟩ := rx.get' hy
  have := of_decide_eq_true hz
  exact ⟨pp, xs, n, k, v, rfl, rfl, hx, by omega, by omega, h1, hv, h v rv hv⟩
def sAppPop (i j : Nat) (f : Rho → Re PyData) : Rho → Sr := fun ρ => match getL ρ i, getL ρ j with
  | some ds, some _ => (f ρ).st ρ fun d => match popAt ρ j d with
    | some (y, es') => if okLen (ds.length + 1) = true ∧ i ≠ j then .nx ((ρ.set j (some (.list es'))).set i (some (.list (ds ++ [y])))) else .bad
    | none => .bad
  | _, _ => .bad
theorem getL_set {i j : Nat} (h : i ≠ j) {d : Option PyData} : getL (ρ.set j d) i = getL ρ i := by
  unfold getL
  rw [List.getElem?_set_ne (Ne.symm h)]
theorem ds_appPop {i j : Nat} {x y : Str} {p1 p2 p3 q1 q2 q3 : Pos} (m : M i = true) (mj : M j = true) (h : DE X M F E la fa a f) (hN : X.N[i]? = some x := by rfl) (hv : Vis X.env.scope x := by first | exact Or.inl rfl | exact Or.inr (Or.inl rfl) | exact Or.inr (Or.inr rfl)) (hd : (x == ("__debug__" : Str)) = false := by decide)
    (hcd : (x == ("__classdict__" : Str)) = false := by decide)
    (hNy : X.N[j]? = some y := by rfl) (hvy : Vis X.env.scope y := by first | exact Or.inl rfl | exact Or.inr (Or.inl rfl) | exact Or.inr (Or.inr rfl)) (hdy : (y == ("__debug__" : Str)) = false := by decide)
    (hcdy : (y == ("__classdict__" : Str)) = false := by decide)
    (hs : swapsWith (.Call (.Attribute (.Name x p1) "append" p2) [.Call (.Attribute (.Name y q1) "pop" q2) [a] [] q3] [] p3) none pos.line X.env = pure false := by rfl)
    (hbase : attributeBase (.Name x p1) "append" X.env (eval (.Name x p1) X.env) = eval (.Name x p1) X.env := by rfl)
    (hfew : ((backTo p3 (starEach (Expr.Call (.Attribute (.Name y q1) "pop" q2) [a] [] q3 :: []) X.env)).all (fun x => !x.1) && (backToKw p3 (keywordEach [] X.env)).all (fun x => x.1.isSome)
      && decide ((Expr.Call (.Attribute (.Name y q1) "pop" q2) [a] [] q3 :: ([] : List Expr)).length + ([] : List Keyword).length + (if ([] : List Keyword).isEmpty then 0 else 1) < 30)) = true := by rfl)
    (hline : (p2.endLine == p3.line) = true := by rfl) (hst : starEach (Expr.Call (.Attribute (.Name y q1) "pop" q2) [a] [] q3 :: []) X.env = (false, eval (.Call (.Attribute (.Name y q1) "pop" q2) [a] [] q3) X.env) :: starEach [] X.env := by rfl) (hplain : (backTo p3 (starEach [] X.env)).any (·.1) = false := by rfl)
    (hbase2 : attributeBase (.Name y q1) "pop" X.env (eval (.Name y q1) X.env) = eval (.Name y q1) X.env := by rfl)
    (hfew2 : ((backTo q3 (starEach (a :: []) X.env)).all (fun x => !x.1) && (backToKw q3 (keywordEach [] X.env)).all (fun x => x.1.isSome)
      && decide ((a :: ([] : List Expr)).length + ([] : List Keyword).length + (if ([] : List Keyword).isEmpty then 0 else 1) < 30)) = true := by rfl)
    (hline2 : (q2.endLine == q3.line) = true := by rfl) (hst2 : starEach (a :: []) X.env = (false, eval a X.env) :: starEach [] X.env := by rfl) (hplain2 : (backTo q3 (starEach [] X.env)).any (·.1) = false := by rfl) :
    DS X M F E (.Expr (.Call (.Attribute (.Name x p1) "append" p2) [.Call (.Attribute (.Name y q1) "pop" q2) [a] [] q3] [] p3) pos) (sAppPop i j f) := by
  obtain ⟨t, pa, h⟩ := h
  refine ⟨_, ps_expr (pe_bm PySem.F.plainAttrs_list PySem.F.slot_list_append PySem.F.type_list_append mt_append (pe_var hN hv hd hcd)
    (pa_cons (pe_bm PySem.F.plainAttrs_list PySem.F.slot_list_pop PySem.F.type_list_pop mt_popAt (pe_var hNy hvy hdy hcdy) (pa_cons pa pa_nil hst2) hbase2 hfew2 hline2 hst2 hplain2) pa_nil hst) hbase hfew hline hst hplain) hs, fun σ H ρ er D w => ?_⟩
  unfold sAppPop at w
  cases hl : getL ρ i with
  | none =>
    rw [hl] at w
    exact w.elim
  | some ds =>
    cases hl2 : getL ρ j with
    | none =>
      rw [hl, hl2] at w
      exact w.elim
    | some es =>
      rw [hl, hl2] at w
      obtain ⟨pp, xs, hs', hx, rx⟩ := er.lst m hl
      obtain ⟨qq, ys, hs2, hy, ry⟩ := er.lst mj hl2
      refine ⟨.ref pp, hs', sq_l hx, .ref qq, hs2, sq_l hy, h σ H ρ er _ (ws_step er w fun d v H1 e sm r _ w1 => ?_)⟩
      cases hp : popAt ρ j d with
      | none =>
        rw [hp] at w1
        exact w1.elim
      | some z =>
        obtain ⟨y0, es'⟩ := z
        rw [hp] at w1
        have w1 : WS X M F E σ H1 ρ (if okLen (ds.length + 1) = true ∧ i ≠ j then .nx ((ρ.set j (some (.list es'))).set i (some (.list (ds ++ [y0])))) else .bad) D := w1
        by_cases hc : okLen (ds.length + 1) = true ∧ i ≠ j
        · rw [if_pos hc] at w1
          obtain ⟨es2, n, k, g1, rfl, g2, g3, g4, rfl⟩ := popAt_some hp
          rw [hl2] at g1
          cases g1
          cases r
          have er1 := er.same sm
          refine rpop_ok (X := X) (j := j) (sm _ _ hy) (ry.same sm) g2 g3 g4 fun v rv hv' => ?_
          obtain ⟨er2, ev2⟩ := er1.putL mj hl2 hs2 (sm _ _ hy) ((ry.same sm).erase k)
          have hl3 : getL (ρ.set j (some (.list (es.eraseIdx k)))) i = some ds := by rw [getL_set hc.2]; exact hl
          have ne : pp ≠ qq := fun z => hc.2 (er.ap i j _ _ pp m mj (getL_some hl) (getL_some hl2) hs' (by rw [z]; exact hs2))
          obtain ⟨pp', xs', hs3, hx3, rx3⟩ := er2.lst m hl3
          rw [hs'] at hs3
          cases hs3
          have hx3' := hx3
          rw [upd_ne ne, sm _ _ hx] at hx3'
          cases hx3'
          have hz : xs.length < sizeLine := by
            have := of_decide_eq_true hc.1
            rw [rx.length]
            exact Nat.lt_of_lt_of_le (Nat.lt_of_succ_le this) (by decide)
          have rv' : Rp X.K (upd H1 qq (.lst (ys.eraseIdx k))) (RS M F σ (ρ.set j (some (.list (es.eraseIdx k)))) false) v y0 := rv.keep (Evo.kp er1 ev2) fun a u x q => Evo.rs ev2 a u x q
          obtain ⟨er4, ev4⟩ := er2.putL m hl3 hs' hx3 (rx3.append (.cons rv' .nil))
          exact ⟨pp, xs, v, rfl, rfl, hx3, hz, w1 σ _ er4 (ev2.trans ev4)⟩
        · rw [if_neg hc] at w1
          exact w1.elim
/-- x.pop(e) as a statement -/
def sPop (j : Nat) (f : Rho → Re PyData) : Rho → Sr := fun ρ => match getL ρ j with
  | some _ => (f ρ).st ρ fun d => match popAt ρ j d with
    | some (_, es') => .nx (ρ.set j (some (.list es')))
    | none => .bad
  | none => .bad
theorem ds_pop {j : Nat} {y : Str} {q1 q2 q3 : Pos} (mj : M j = true) (h : DE X M F E la fa a f) 
    (hNy : X.N[j]? = some y := by rfl) (hvy : Vis X.env.scope y := by first | exact Or.inl rfl | exact Or.inr (Or.inl rfl) | exact Or.inr (Or.inr rfl)) (hdy : (y == ("__debug__" : Str)) = false := by decide)
    (hcdy : (y == ("__classdict__" : Str)) = false := by decide)
    (hs : swapsWith (.Call (.Attribute (.Name y q1) "pop" q2) [a] [] q3) none pos.line X.env = pure false := by rfl)
    (hbase2 : attributeBase (.Name y q1) "pop" X.env (eval (.Name y q1) X.env) = eval (.Name y q1) X.env := by rfl)
    (hfew2 : ((backTo q3 (starEach (a :: []) X.env)).all (fun x => !x.1) && (backToKw q3 (keywordEach [] X.env)).all (fun x => x.1.isSome)
      && decide ((a :: ([] : List Expr)).length + ([] : List Keyword).length + (if ([] : List Keyword).isEmpty then 0 else 1) < 30)) = true := by rfl)
    (hline2 : (q2.endLine == q3.line) = true := by rfl) (hst2 : starEach (a :: []) X.env = (false, eval a X.env) :: starEach [] X.env := by rfl) (hplain2 : (backTo q3 (starEach [] X.env)).any (·.1) = false := by rfl) :
    DS X M F E (.Expr (.Call (.Attribute (.Name y q1) "pop" q2) [a] [] q3) pos) (sPop j f) := by
  obtain ⟨t, pa, h⟩ := h
  refine ⟨_, ps_expr (pe_bm PySem.F.plainAttrs_list PySem.F.slot_list_pop PySem.F.type_list_pop mt_popAt (pe_var hNy hvy hdy hcdy) (pa_cons pa pa_nil hst2) hbase2 hfew2 hline2 hst2 hplain2) hs, fun σ H ρ er D w => ?_⟩
  unfold sPop at w
  cases hl2 : getL ρ j with
  | none =>
    rw [hl2] at w
    exact w.elim
  | some es =>
    rw [hl2] at w
    obtain ⟨qq, ys, hs2, hy, ry⟩ := er.lst mj hl2
    refine ⟨.ref qq, hs2, sq_l hy, h σ H ρ er _ (ws_step er w fun d v H1 e sm r _ w1 => ?_)⟩
    cases hp : popAt ρ j d with
    | none =>
      rw [hp] at w1
      exact w1.elim
    | some z =>
      obtain ⟨y0, es'⟩ := z
      rw [hp] at w1
      have w1 : WS X M F E σ H1 ρ (.nx (ρ.set j (some (.list es')))) D := w1
      obtain ⟨es2, n, k, g1, rfl, g2, g3, g4, rfl⟩ := popAt_some hp
      rw [hl2] at g1
      cases g1
      cases r
      have er1 := er.same sm
      refine rpop_ok (X := X) (j := j) (sm _ _ hy) (ry.same sm) g2 g3 g4 fun v rv hv' => ?_
      obtain ⟨er2, ev2⟩ := er1.putL mj hl2 hs2 (sm _ _ hy) ((ry.same sm).erase k)
      exact w1 σ _ er2 ev2
/-- x[e] = v, x a list of the frame's own -/
def sPut (i : Nat) (lk : Bool) (f g : Rho → Re PyData) : Rho → Sr := fun ρ => (f ρ).st ρ fun d => (match getL ρ i with
  | some ds => (g ρ).st ρ fun e => (match e with
    | .int n => (match ixN ds.length n with
      | some k => if (lk = true → imm d = true) then .nx (ρ.set i (some (.list (ds.set k d)))) else .bad
      | none => .bad)
    | _ => .bad)
  | none => .bad)
theorem ds_put {i : Nat} {x : Str} {p1 p2 : Pos} (m : M i = true) (h : DE X M F E la fa a f) (hg : DE X M F E lb fb b g) (hN : X.N[i]? = some x := by rfl) (hv : Vis X.env.scope x := by first | exact Or.inl rfl | exact Or.inr (Or.inl rfl) | exact Or.inr (Or.inr rfl)) (hd : (x == ("__debug__" : Str)) = false := by decide)
    (hcd : (x == ("__classdict__" : Str)) = false := by decide)
    (hs : swapsWithSole [.Subscript (.Name x p1) b p2] a pos.line X.env = pure false := by rfl) (hw : swappedStores [.Subscript (.Name x p1) b p2] a X.env = pure none := by rfl)
    (ha : ∀ v, assign (.Subscript (.Name x p1) b p2) X.env v = (do
      let ov ← holding [v] (eval (.Name x p1) X.env)
      let iv ← holding [v, ov] (eval b X.env)
      standAt p2
      holding [v, ov, iv] (setItem ov iv v)
      release [v, ov, iv] []) := by intro _; rfl) :
    DS X M F E (.Assign [.Subscript (.Name x p1) b p2] a pos) (sPut i la f g) := by
  obtain ⟨t, pa, h⟩ := h
  obtain ⟨t2, pb, h2⟩ := hg
  refine ⟨_, ps_asg pa (pg_sub (pe_var hN hv hd hcd) pb set_list ha) hs hw, fun σ H ρ er D w => ?_⟩
  unfold sPut at w
  refine h σ H ρ er _ (ws_step er w fun d v H1 e sm r _ w1 => ?_)
  cases hl : getL ρ i with
  | none =>
    rw [hl] at w1
    exact w1.elim
  | some ds =>
    rw [hl] at w1
    have er1 := er.same sm
    obtain ⟨pp, xs, hs', hx, rx⟩ := er1.lst m hl
    refine ⟨.ref pp, hs', h2 σ H1 ρ er1 _ (ws_step er1 w1 fun d2 v2 H2 e2 sm2 r2 _ w2 => ?_)⟩
    cases r2 with
    | int n =>
      have w2 : WS X M F E σ H2 ρ (match ixN ds.length n with
      | some k => if (la = true → imm d = true) then .nx (ρ.set i (some (.list (ds.set k d)))) else .bad
      | none => .bad) D := w2
      cases hk : ixN ds.length n with
      | none =>
        rw [hk] at w2
        exact w2.elim
      | some k =>
        rw [hk] at w2
        have w2 : WS X M F E σ H2 ρ (if (la = true → imm d = true) then .nx (ρ.set i (some (.list (ds.set k d)))) else .bad) D := w2
        by_cases hc : la = true → imm d = true
        · rw [if_pos hc] at w2
          have er2 := er1.same sm2
          have rv : Rp X.K H2 (RS M F σ ρ false) v d := rp_lk (r.same sm2) hc
          obtain ⟨er3, ev3⟩ := er2.putL m hl hs' (sm2 _ _ hx) (RpA.set rv k (rx.same sm2))
          exact ⟨pp, xs, n, k, rfl, rfl, sm2 _ _ hx, by rw [rx.length]; exact hk, w2 σ _ er3 ev3⟩
        · rw [if_neg hc] at w2
          exact w2.elim
    | bl _ => exact w2.elim
    | non => exact w2.elim
    | str _ => exact w2.elim
    | tup _ _ => exact w2.elim
    | lst _ _ _ => exact w2.elim
    | scr _ _ => exact w2.elim
    | dic _ _ _ _ => exact w2.elim
    | dit _ _ _ _ => exact w2.elim
    | dif _ _ _ => exact w2.elim
end
end Pu

set_option Elab.async false
set_option linter.all false
set_option maxRecDepth 100000
set_option maxHeartbeats 2000000
namespace Pu
open PySem PySem.Spec PyProof.Rows L2

/-! ### targets -/
theorem wipe_set {σ : L2.St} {i : Nat} {x y : Option V} : ∀ vs : List Nat, (wipe (σ.set i x) vs).set i y = (wipe σ vs).set i y
  | [] => by
    show (σ.set i x).set i y = σ.set i y
    rw [List.set_set]
  | v :: vs => by
    show ((wipe (σ.set i x) vs).set v none).set i y = ((wipe σ vs).set v none).set i y
    by_cases h : v = i
    · subst h
      rw [List.set_set, List.set_set]
      exact wipe_set vs
    · rw [List.set_comm _ _ h, wipe_set vs, List.set_comm _ _ (Ne.symm h)]
theorem wipe_mem {σ : L2.St} {i : Nat} {x : Option V} : ∀ {vs : List Nat}, i ∈ vs → wipe (σ.set i x) vs = wipe σ vs
  | v :: vs, h => by
    show (wipe (σ.set i x) vs).set v none = (wipe σ vs).set v none
    by_cases hv : v = i
    · subst hv
      exact wipe_set vs
    · rw [wipe_mem ((List.mem_cons.mp h).resolve_left fun e => hv e.symm)]
def DG (X : Cx) (M : Nat → Bool) (F : Fx) (tg : Expr) (ts : List Nat) (g : PyData → Rho → Option Rho) : Prop :=
  ∃ t : TG, PG X tg t ∧ ∀ σ H ρ v d ρ', ER X.K M F σ H ρ → Rp X.K H (RS M F σ ρ false) v d → g d ρ = some ρ' → ∀ Q : L2.St → Hp → Prop,
    (∀ σ', ER X.K M F σ' H ρ' → Evo M σ H ρ σ' H ρ' → (∀ vs, (∀ i ∈ ts, i ∈ vs) → wipe σ' vs = wipe σ vs) → (∀ a, OwnA M σ ρ a → OwnA M σ' ρ' a) → Q σ' H) → t v σ H Q
def DGs (X : Cx) (M : Nat → Bool) (F : Fx) (tg : List Expr) (ts : List Nat) (g : List PyData → Rho → Option Rho) : Prop :=
  ∃ t : TGs, PGs X tg t ∧ ∀ σ H ρ v d ρ', ER X.K M F σ H ρ → RpA X.K H (RS M F σ ρ false) v d → g d ρ = some ρ' → ∀ Q : L2.St → Hp → Prop,
    (∀ σ', ER X.K M F σ' H ρ' → Evo M σ H ρ σ' H ρ' → (∀ vs, (∀ i ∈ ts, i ∈ vs) → wipe σ' vs = wipe σ vs) → (∀ a, OwnA M σ ρ a → OwnA M σ' ρ' a) → Q σ' H) → t v σ H Q
section
variable {X : Cx} {M : Nat → Bool} {F : Fx} {E : L2.St → XK} {σ σ1 : L2.St} {ρ ρ1 : Rho} {H H' H1 : Hp} {D : Ends}
variable {st : Stmt} {rest : List Stmt} {s u : Rho → Sr} {la fa lb fb : Bool} {a b : Expr} {f g : Rho → Re PyData} {p : Rho → Re Bool} {pos : Pos}
def gSlot (i : Nat) : PyData → Rho → Option Rho := fun d ρ => some (ρ.set i (some d))
theorem dg_name (i : Nat) {x : Str} (m : M i = false) (hN : X.N.Nodup) (hi : X.N[i]? = some x := by rfl) (hx : Loc X.env.scope x := by first | exact Or.inl rfl | exact Or.inr rfl) (hf : X.fn x = true ∨ X.env.scope.names.lookup x = some .local := by first | exact .inl rfl | exact .inr rfl) :
    DG X M F (.Name x pos) [i] (gSlot i) := by
  refine ⟨_, pg_name hN hi hx hf, fun σ H ρ v d ρ' er r e Q k => ?_⟩
  cases e
  exact k _ (er.set m r) (fun a u q n => ⟨q, fun o => n ((own_set m).mp o)⟩) (fun vs h => wipe_mem (h i List.mem_cons_self)) fun a o => (own_set m).mpr o
def gNone : List PyData → Rho → Option Rho := fun ds ρ => match ds with | [] => some ρ | _ => none
def gMore (g : PyData → Rho → Option Rho) (h : List PyData → Rho → Option Rho) : List PyData → Rho → Option Rho := fun ds ρ => match ds with | d :: ds => (g d ρ).bind (h ds) | [] => none
theorem dgs_nil : DGs X M F [] [] gNone := by
  refine ⟨_, pgs_nil, fun σ H ρ v d ρ' er r e Q k => ?_⟩
  unfold gNone at e
  split at e
  · cases e
    cases r
    exact ⟨rfl, k σ er Evo.refl (fun _ _ => rfl) fun _ o => o⟩
  · cases e
theorem dgs_cons {e : Expr} {es : List Expr} {ts us : List Nat} {gg : PyData → Rho → Option Rho} {gs : List PyData → Rho → Option Rho} (h : DG X M F e ts gg) (hs : DGs X M F es us gs)
    (hq : (assignEach (e :: es) X.env).map (·.2) = assign e X.env :: (assignEach es X.env).map (·.2) := by rfl) : DGs X M F (e :: es) (ts ++ us) (gMore gg gs) := by
  obtain ⟨t, pt, h⟩ := h
  obtain ⟨t', pt', h'⟩ := hs
  refine ⟨_, pgs_cons pt pt' hq, fun σ H ρ v d ρ' er r e Q k => ?_⟩
  cases r with
  | nil => cases e
  | cons r1 r2 =>
    rename_i v vs d ds
    have e : (gg d ρ).bind (gs ds) = some ρ' := e
    obtain ⟨ρ1, e1, e2⟩ := Option.bind_eq_some_iff.mp e
    refine ⟨v, vs, rfl, h σ H ρ v d ρ1 er r1 e1 _ fun σ1 er1 ev1 w1 o1 => ?_⟩
    refine h' σ1 H ρ1 vs ds ρ' er1 (r2.keep (Evo.kp er ev1) (Evo.rs ev1)) e2 _ fun σ2 er2 ev2 w2 o2 => ?_
    exact k σ2 er2 (ev1.trans ev2) (fun vs hv => by rw [w2 vs fun i hi => hv i (List.mem_append_right _ hi), w1 vs fun i hi => hv i (List.mem_append_left _ hi)]) fun a o => o2 a (o1 a o)
/-- (a, b, ..): a tuple of as many -/
def gTupD (n : Nat) (g : List PyData → Rho → Option Rho) : PyData → Rho → Option Rho := fun d ρ => match d with | .tuple ds => if ds.length = n then g ds ρ else none | _ => none
theorem dg_tup {es : List Expr} {ts : List Nat} {k : Nat} {n : Nat} {gs : List PyData → Rho → Option Rho} (hc : X.calm = true) (h : DGs X M F es ts gs) (hn : (assignEach es X.env).length = n := by rfl) (hst : (assignEach es X.env).findIdx? (·.1) = none := by rfl) :
    DG X M F (.Tuple es k pos) ts (gTupD n gs) := by
  obtain ⟨t, pt, h⟩ := h
  refine ⟨_, pg_tup hc pt hn hst, fun σ H ρ v d ρ' er r e Q kk => ?_⟩
  unfold gTupD at e
  cases r with
  | tup hs ha =>
    rename_i a xs ds
    have e : (if ds.length = n then gs ds ρ else none) = some ρ' := e
    by_cases hl : ds.length = n
    · rw [if_pos hl] at e
      exact ⟨a, xs, rfl, hs.sq, by rw [ha.length]; exact hl, h σ H ρ xs ds ρ' er ha e Q kk⟩
    · rw [if_neg hl] at e
      cases e
  | bl _ => cases e
  | non => cases e
  | int _ => cases e
  | str _ => cases e
  | lst _ _ _ => cases e
  | scr _ _ => cases e
  | dic _ _ _ _ => cases e
  | dit _ _ _ _ => cases e
  | dif _ _ _ => cases e
/-- .. a list of as many -/
def gLstD (n : Nat) (g : List PyData → Rho → Option Rho) : PyData → Rho → Option Rho := fun d ρ => match d with | .list ds => if ds.length = n then g ds ρ else none | _ => none
theorem dg_lst {es : List Expr} {ts : List Nat} {k : Nat} {n : Nat} {gs : List PyData → Rho → Option Rho} (hc : X.calm = true) (h : DGs X M F es ts gs) (hn : (assignEach es X.env).length = n := by rfl) (hst : (assignEach es X.env).findIdx? (·.1) = none := by rfl) :
    DG X M F (.Tuple es k pos) ts (gLstD n gs) := by
  obtain ⟨t, pt, h⟩ := h
  refine ⟨_, pg_lst hc pt hn hst, fun σ H ρ v d ρ' er r e Q kk => ?_⟩
  unfold gLstD at e
  cases r with
  | lst he hS ha =>
    rename_i a xs ds
    have e : (if ds.length = n then gs ds ρ else none) = some ρ' := e
    by_cases hl : ds.length = n
    · rw [if_pos hl] at e
      exact ⟨a, xs, rfl, SqL.of he, by rw [ha.length]; exact hl, h σ H ρ xs ds ρ' er ha e Q kk⟩
    · rw [if_neg hl] at e
      cases e
  | bl _ => cases e
  | non => cases e
  | int _ => cases e
  | str _ => cases e
  | tup _ _ => cases e
  | scr _ _ => cases e
  | dic _ _ _ _ => cases e
  | dit _ _ _ _ => cases e
  | dif _ _ _ => cases e
/-- target = e -/
def sAsg (lk : Bool) (g : PyData → Rho → Option Rho) (f : Rho → Re PyData) : Rho → Sr := fun ρ => (f ρ).st ρ fun d => if lk = true → imm d = true then (match g d ρ with | some ρ' => .nx ρ' | none => .bad) else .bad
theorem ds_asg {tg : Expr} {ts : List Nat} {gg : PyData → Rho → Option Rho} (hg : DG X M F tg ts gg) (h : DE X M F E la fa a f) (h1 : (assignEach [tg] X.env).map (·.2) = [assign tg X.env] := by rfl) (hs : swapsWithSole [tg] a pos.line X.env = pure false := by rfl) (hw : swappedStores [tg] a X.env = pure none := by rfl) : DS X M F E (.Assign [tg] a pos) (sAsg la gg f) := by
  obtain ⟨t, pa, h⟩ := h
  obtain ⟨t', pt, hg⟩ := hg
  refine ⟨_, ps_asg pa pt hs hw (h1 := h1), fun σ H ρ er D w => ?_⟩
  refine h σ H ρ er _ (ws_step er w fun d v H1 e sm r _ w1 => ?_)
  by_cases hd : la = true → imm d = true
  · rw [if_pos hd] at w1
    cases q : gg d ρ with
    | none =>
      rw [q] at w1
      exact w1.elim
    | some ρ' =>
      rw [q] at w1
      exact hg σ H1 ρ v d ρ' (er.same sm) (rp_lk r hd) q _ fun σ' er' ev _ _ => w1 σ' H1 er' ev
  · rw [if_neg hd] at w1
    exact w1.elim

/-! ### what a loop walks -/
def Walks (K : PySem.W.Frag) (S : Addr → Prop) (J : It) (ds : List PyData) (H1 : Hp) : Prop :=
  ∀ H2, Kp S H1 H2 → ∀ i, (∀ d, ds[i]? = some d → J.go i H2 ∧ ∀ x H', J.yld i H2 x H' → Same H2 H' ∧ Rp K H' S x d) ∧ (i = ds.length → J.stop i H2)
def WI (X : Cx) (M : Nat → Bool) (F : Fx) (E : L2.St → XK) (σ : L2.St) (ρ : Rho) (H : Hp) (r : Re (List PyData)) (R : It → Hp → Prop) : Prop :=
  match r with
  | .ok ds => ∀ J H', Same H H' → Walks X.K (fun a => RS M F σ ρ false a ∧ H' a ≠ none) J ds H' → R J H'
  | .ex c => ∀ C H', X.mg c = some (.ref C) → Same H H' → E σ (.ref C) none H'
  | .bad => False
def DI (X : Cx) (M : Nat → Bool) (F : Fx) (E : L2.St → XK) (tg it : Expr) (f : Rho → Re (List PyData)) : Prop := ∃ wi : TI, PI X tg it wi ∧ ∀ σ H ρ, ER X.K M F σ H ρ → ∀ R, WI X M F E σ ρ H (f ρ) R → wi σ H R
theorem wi_step {lk fr : Bool} {r : Re PyData} {R : It → Hp → Prop} {g : PyData → Re (List PyData)} {K : VK} (w : WI X M F E σ ρ H (r.andThen g) R)
    (h : ∀ d v H', r = .ok d → Same H H' → Rp X.K H' (RS M F σ ρ lk) v d → WI X M F E σ ρ H' (g d) R → K v H') : WE X M F E lk fr σ ρ H r K := by
  cases r with
  | ok d =>
    refine fun v H' s rr _ => h d v H' rfl s rr ?_
    have w : WI X M F E σ ρ H (g d) R := w
    cases q : g d with
    | ok z =>
      rw [q] at w
      exact fun J H2 s2 k => w J H2 (s.trans s2) k
    | ex c =>
      rw [q] at w
      exact fun C H2 m s2 => w C H2 m (s.trans s2)
    | bad =>
      rw [q] at w
      exact w
  | ex c => exact w
  | bad => exact w
theorem wi_stepA {lk : Bool} {r : Re (List PyData)} {R : It → Hp → Prop} {g : List PyData → Re (List PyData)} {K : List V → Hp → Prop} (w : WI X M F E σ ρ H (r.andThen g) R)
    (h : ∀ d v H', r = .ok d → Same H H' → RpA X.K H' (RS M F σ ρ lk) v d → WI X M F E σ ρ H' (g d) R → K v H') : WA X M F E lk σ ρ H r K := by
  cases r with
  | ok d =>
    refine fun v H' s rr => h d v H' rfl s rr ?_
    have w : WI X M F E σ ρ H (g d) R := w
    cases q : g d with
    | ok z =>
      rw [q] at w
      exact fun J H2 s2 k => w J H2 (s.trans s2) k
    | ex c =>
      rw [q] at w
      exact fun C H2 m s2 => w C H2 m (s.trans s2)
    | bad =>
      rw [q] at w
      exact w
  | ex c => exact w
  | bad => exact w
/-- over a list or a tuple that no own list is -/
def itL (d : PyData) : Re (List PyData) := match d with | .list ds => .ok ds | _ => .bad
def itT (d : PyData) : Re (List PyData) := match d with | .tuple ds => .ok ds | _ => .bad
def iOf (h : PyData → Re (List PyData)) (f : Rho → Re PyData) : Rho → Re (List PyData) := fun ρ => (f ρ).andThen h
theorem walk_l {S : Addr → Prop} {K : PySem.W.Frag} {aa : Addr} {xs : List V} {ds : List PyData} (e : H1 aa = some (.lst xs)) (hS : S aa) (r : RpA K H1 S xs ds) : Walks K (fun a => S a ∧ H1 a ≠ none) (Itl K aa) ds H1 := fun H2 kp i => by
  have e2 := kp aa _ e (.inl ⟨hS, by rw [e]; simp⟩)
  refine ⟨fun d hd => ?_, fun hl => ⟨xs, SqL.of e2, by rw [r.length]; exact Nat.le_of_eq hl.symm⟩⟩
  obtain ⟨v, hv, rv⟩ := r.thru.get' hd
  refine ⟨⟨xs, v, SqL.of e2, hv⟩, fun x H' y => ?_⟩
  obtain ⟨rfl, y⟩ := y
  have := y xs (SqL.of e2)
  rw [hv] at this
  cases this
  exact ⟨Same.refl _, rv.keep kp fun _ _ x _ => x⟩
theorem walk_t {S : Addr → Prop} {K : PySem.W.Frag} {aa : Addr} {xs : List V} {ds : List PyData} (e : TupD K H1 aa xs) (r : RpA K H1 S xs ds) : Walks K (fun a => S a ∧ H1 a ≠ none) (Itt K aa) ds H1 := fun H2 kp i => by
  have e2 : SqT K H2 aa xs := (tupD_keep e fun u q m => kp aa u q (.inr m)).sq
  refine ⟨fun d hd => ?_, fun hl => ⟨xs, e2, by rw [r.length]; exact Nat.le_of_eq hl.symm⟩⟩
  obtain ⟨v, hv, rv⟩ := r.thru.get' hd
  refine ⟨⟨xs, v, e2, hv⟩, fun x H' y => ?_⟩
  obtain ⟨rfl, y⟩ := y
  have := y xs e2
  rw [hv] at this
  cases this
  exact ⟨Same.refl _, rv.keep kp fun _ _ x _ => x⟩
theorem di_list {tg : Expr} (h : DE X M F E false fa a f) : DI X M F E tg a (iOf itL f) := by
  obtain ⟨t, pa, h⟩ := h
  refine ⟨_, pi_list pa, fun σ H ρ er R w => ?_⟩
  refine h σ H ρ er _ (wi_step w fun d v H1 e sm r w1 => ?_)
  cases r with
  | lst e2 hS ha => exact ⟨_, rfl, ⟨_, SqL.of e2⟩, w1 _ H1 (Same.refl _) (walk_l e2 hS ha)⟩
  | bl _ => exact w1.elim
  | non => exact w1.elim
  | int _ => exact w1.elim
  | str _ => exact w1.elim
  | tup _ _ => exact w1.elim
  | scr _ _ => exact w1.elim
  | dic _ _ _ _ => exact w1.elim
  | dit _ _ _ _ => exact w1.elim
  | dif _ _ _ => exact w1.elim
theorem di_tup {tg : Expr} (h : DE X M F E false fa a f) : DI X M F E tg a (iOf itT f) := by
  obtain ⟨t, pa, h⟩ := h
  refine ⟨_, pi_tup pa, fun σ H ρ er R w => ?_⟩
  refine h σ H ρ er _ (wi_step w fun d v H1 e sm r w1 => ?_)
  cases r with
  | tup e2 ha => exact ⟨_, rfl, ⟨_, e2.sq⟩, w1 _ H1 (Same.refl _) (walk_t e2 ha)⟩
  | bl _ => exact w1.elim
  | non => exact w1.elim
  | int _ => exact w1.elim
  | str _ => exact w1.elim
  | lst _ _ _ => exact w1.elim
  | scr _ _ => exact w1.elim
  | dic _ _ _ _ => exact w1.elim
  | dit _ _ _ _ => exact w1.elim
  | dif _ _ _ => exact w1.elim
/-- range -/
def upFrom (lo : Int) (n : Nat) : List PyData := (List.range n).map fun (k : Nat) => PyData.int (lo + (k : Int))
def small62 (i : Int) : Bool := decide (-(2 ^ 62) ≤ i) && decide (i < 2 ^ 62)
def rg1 (ds : List PyData) : Re (List PyData) := match ds with | [.int j] => if small62 j = true then .ok (upFrom 0 j.toNat) else .bad | _ => .bad
def rg2 (ds : List PyData) : Re (List PyData) := match ds with | [.int i, .int j] => if small62 i = true ∧ small62 j = true then .ok (upFrom i (j - i).toNat) else .bad | _ => .bad
theorem walk_r {S : Addr → Prop} {K : PySem.W.Frag} {lo : Int} {n : Nat} : Walks K S (Itr lo n) (upFrom lo n) H1 := fun H2 kp i => by
  have hlen : (upFrom lo n).length = n := by simp [upFrom]
  refine ⟨fun d hd => ?_, fun hl => by rw [hlen] at hl; exact Nat.le_of_eq hl.symm⟩
  have hi : i < n := by
    have := getSome hd
    rwa [hlen] at this
  have hd' : d = .int (lo + i) := by
    unfold upFrom at hd
    rw [List.getElem?_map, List.getElem?_range hi] at hd
    exact (Option.some.inj hd).symm
  refine ⟨hi, fun x H' y => ?_⟩
  obtain ⟨rfl, rfl⟩ := y
  rw [hd']
  exact ⟨Same.refl _, .int _⟩
theorem di_rg1 {tg : Expr} {gs : Rho → Re (List PyData)} {pp : Pos} (hg : Gl X "range") (hm : X.mg "range" = none) (ha : DA X M F E la [a] gs) (hs : starEach [a] X.env = [(false, eval a X.env)] := by rfl)  :
    DI X M F E tg (.Call (.Name "range" pp) [a] [] pos) (fun ρ => (gs ρ).andThen rg1) := by
  obtain ⟨t, pa, ha⟩ := ha
  refine ⟨_, pi_range1 hg hm pa hs, fun σ H ρ er R w => ?_⟩
  refine ha σ H ρ er _ (wi_stepA w fun ds vs H1 e sm r w1 => ?_)
  unfold rg1 at w1
  split at w1
  · rename_i j
    cases r with
    | cons r1 r2 =>
      cases r1
      cases r2
      by_cases hj : small62 j = true
      · rw [if_pos hj] at w1
        unfold small62 at hj
        simp only [Bool.and_eq_true, decide_eq_true_eq] at hj
        exact ⟨j, rfl, hj.1, hj.2, w1 _ H1 (Same.refl _) walk_r⟩
      · rw [if_neg hj] at w1
        exact w1.elim
  · exact w1.elim
theorem di_rg2 {tg : Expr} {gs : Rho → Re (List PyData)} {pp : Pos} (hg : Gl X "range") (hm : X.mg "range" = none) (ha : DA X M F E la [a, b] gs) (hs : starEach [a, b] X.env = [(false, eval a X.env), (false, eval b X.env)] := by rfl) (hs2 : starEach [b] X.env = [(false, eval b X.env)] := by rfl) :
    DI X M F E tg (.Call (.Name "range" pp) [a, b] [] pos) (fun ρ => (gs ρ).andThen rg2) := by
  obtain ⟨t, pa, ha⟩ := ha
  refine ⟨_, pi_range2 hg hm pa hs hs2, fun σ H ρ er R w => ?_⟩
  refine ha σ H ρ er _ (wi_stepA w fun ds vs H1 e sm r w1 => ?_)
  unfold rg2 at w1
  split at w1
  · rename_i i j
    cases r with
    | cons r1 r2 =>
      cases r1
      cases r2 with
      | cons r2 r3 =>
        cases r2
        cases r3
        by_cases hj : small62 i = true ∧ small62 j = true
        · rw [if_pos hj] at w1
          unfold small62 at hj
          simp only [Bool.and_eq_true, decide_eq_true_eq] at hj
          exact ⟨i, j, rfl, ⟨hj.1.1, hj.1.2, hj.2.1, hj.2.2⟩, w1 _ H1 (Same.refl _) walk_r⟩
        · rw [if_neg hj] at w1
          exact w1.elim
  · exact w1.elim

/-! ### loops -/
def sLoop (g : PyData → Rho → Option Rho) (body : Rho → Sr) : List PyData → Rho → Sr
  | [], ρ => .nx ρ
  | d :: ds, ρ => match g d ρ with
    | none => .bad
    | some ρ1 => match body ρ1 with
      | .nx ρ2 => sLoop g body ds ρ2
      | .ct ρ2 => sLoop g body ds ρ2
      | .bk ρ2 => .nx ρ2
      | .rt d => .rt d
      | .ex c ρ2 => .ex c ρ2
      | .bad => .bad
def Re.stL : Re (List PyData) → Rho → (List PyData → Sr) → Sr
  | .ok d, _, k => k d
  | .ex c, ρ, _ => .ex c ρ
  | .bad, _, _ => .bad
def sFor (it : Rho → Re (List PyData)) (g : PyData → Rho → Option Rho) (body : Rho → Sr) : Rho → Sr := fun ρ => (it ρ).stL ρ fun ds => sLoop g body ds ρ
theorem drop_get {α : Type} {l : List α} {i : Nat} {x : α} (h : l[i]? = some x) : l.drop i = x :: l.drop (i + 1) := by
  obtain ⟨hi, e⟩ := List.getElem?_eq_some_iff.mp h
  rw [List.drop_eq_getElem_cons hi, e]
theorem ds_for {tg it : Expr} {ts : List Nat} {body : List Stmt} {its : Rho → Re (List PyData)} {gg : PyData → Rho → Option Rho} (hp : PassesOwn (model X.prog X.w) X.A X.env X.xe) (hc : X.calm = true) (hi : DI X M F E tg it its) (hg : DG X M F tg ts gg) (hb : DSs X M F E body s)
    (hs : ∀ x, foldedSetIterable it X.env x = pure x := by intro _; rfl) : DS X M F E (.For tg it body [] pos) (sFor its gg s) := by
  obtain ⟨wi, pi, hi⟩ := hi
  obtain ⟨t, pg, hg⟩ := hg
  obtain ⟨tb, pb, hb⟩ := hb
  refine ⟨_, ps_for hp hc pi pg pb hs, fun σ H ρ er D w => ?_⟩
  refine hi σ H ρ er _ ?_
  unfold sFor at w
  cases q : its ρ with
  | ex c =>
    rw [q] at w
    exact fun C H' m sm => w C σ H' m (er.same sm) (Evo.same sm)
  | bad =>
    rw [q] at w
    exact w
  | ok ds =>
    rw [q] at w
    refine fun J H1 sm wk => ?_
    have w : WS X M F E σ H ρ (sLoop gg s ds ρ) D := w
    have er1 := er.same sm
    have w1 := ws_evo (Evo.same sm) w
    refine ⟨fun i m σ' H' => m = ds.length - i ∧ i ≤ ds.length ∧ ∃ ρ', ER X.K M F σ' H' ρ' ∧ Evo M σ H1 ρ σ' H' ρ' ∧ WS X M F E σ' H' ρ' (sLoop gg s (ds.drop i) ρ') D, ⟨ds.length, by simp, Nat.zero_le _, ρ, er1, Evo.refl, w1⟩, ?_⟩
    rintro i m σ' H' ⟨rfl, hi', ρ', er', ev', w'⟩
    have kp : Kp (fun a => RS M F σ ρ false a ∧ H1 a ≠ none) H1 H' := fun a u e x => Evo.kp er1 ev' a u e (x.elim (fun x => .inl x.1) .inr)
    by_cases hlt : i < ds.length
    · obtain ⟨go, yl⟩ := (wk H' kp i).1 _ (List.getElem?_eq_getElem hlt)
      refine .inr ⟨go, fun σ2 H2 => ds.length - (i + 1) = ds.length - (i + 1) ∧ i + 1 ≤ ds.length ∧ ∃ ρ2, ER X.K M F σ2 H2 ρ2 ∧ Evo M σ H1 ρ σ2 H2 ρ2 ∧ WS X M F E σ2 H2 ρ2 (sLoop gg s (ds.drop (i + 1)) ρ2) D, fun σ2 H2 x => ⟨ds.length - (i + 1), by omega, x⟩, fun x H2 y => ?_⟩
      obtain ⟨s2, rx⟩ := yl x H2 y
      rw [drop_get (List.getElem?_eq_getElem hlt)] at w'
      have w' : WS X M F E σ' H' ρ' (match gg ds[i] ρ' with
        | none => .bad
        | some ρ1 => match s ρ1 with
          | .nx ρ2 => sLoop gg s (ds.drop (i + 1)) ρ2
          | .ct ρ2 => sLoop gg s (ds.drop (i + 1)) ρ2
          | .bk ρ2 => .nx ρ2
          | .rt d => .rt d
          | .ex c ρ2 => .ex c ρ2
          | .bad => .bad) D := w'
      cases q1 : gg ds[i] ρ' with
      | none =>
        rw [q1] at w'
        exact w'.elim
      | some ρ1 =>
        rw [q1] at w'
        have er2 := er'.same s2
        have ev2 : Evo M σ H1 ρ σ' H2 ρ' := ev'.trans (Evo.same s2)
        have rx' : Rp X.K H2 (RS M F σ' ρ' false) x ds[i] := rx.keep (kp_same (Same.refl _)) fun a u z _ => by
          obtain ⟨u', hu'⟩ := Option.ne_none_iff_exists'.mp z.2
          exact Evo.rs ev' a u' z.1 hu'
        refine hg σ' H2 ρ' x ds[i] ρ1 er2 rx' q1 _ fun σ3 er3 ev3 _ _ => ?_
        have w3 := ws_evo ((Evo.same s2).trans ev3) w'
        have w3 : WS X M F E σ3 H2 ρ1 (match s ρ1 with
          | .nx ρ2 => sLoop gg s (ds.drop (i + 1)) ρ2
          | .ct ρ2 => sLoop gg s (ds.drop (i + 1)) ρ2
          | .bk ρ2 => .nx ρ2
          | .rt d => .rt d
          | .ex c ρ2 => .ex c ρ2
          | .bad => .bad) D := w3
        have ev3' := ev2.trans ev3
        refine hb σ3 H2 ρ1 er3 _ ?_
        cases q2 : s ρ1 with
        | nx ρ2 =>
          rw [q2] at w3
          exact fun σ4 H4 er4 ev4 => ⟨rfl, hlt, ρ2, er4, ev3'.trans ev4, ws_evo ev4 w3⟩
        | ct ρ2 =>
          rw [q2] at w3
          exact fun σ4 H4 er4 ev4 => ⟨rfl, hlt, ρ2, er4, ev3'.trans ev4, ws_evo ev4 w3⟩
        | bk ρ2 =>
          rw [q2] at w3
          exact w3
        | rt d =>
          rw [q2] at w3
          exact w3
        | ex c ρ2 =>
          rw [q2] at w3
          exact w3
        | bad =>
          rw [q2] at w3
          exact w3
    · have e : i = ds.length := by omega
      subst e
      rw [List.drop_length] at w'
      exact .inl ⟨(wk H' kp _).2 rfl, w' σ' H' er' Evo.refl⟩
/-- while, at most n turns are looked at -/
def sWhile (p : Rho → Re Bool) (body : Rho → Sr) : Nat → Rho → Sr
  | 0, _ => .bad
  | n + 1, ρ => (p ρ).stT ρ fun b => if b = true then (match body ρ with
      | .nx ρ2 => sWhile p body n ρ2
      | .ct ρ2 => sWhile p body n ρ2
      | .bk ρ2 => .nx ρ2
      | .rt d => .rt d
      | .ex c ρ2 => .ex c ρ2
      | .bad => .bad) else .nx ρ
theorem ds_while {c : Expr} {body : List Stmt} (n : Nat) (hp : PassesOwn (model X.prog X.w) X.A X.env X.xe) (hc : DT X M F E c p) (hb : DSs X M F E body s) : DS X M F E (.While c body [] pos) (sWhile p s n) := by
  obtain ⟨tc, pc, hc⟩ := hc
  obtain ⟨tb, pb, hb⟩ := hb
  refine ⟨_, ps_while hp pc pb, fun σ H ρ er D w => ?_⟩
  refine ⟨fun m σ' H' => ∃ ρ', ER X.K M F σ' H' ρ' ∧ WS X M F E σ' H' ρ' (sWhile p s m ρ') D, ⟨n, ρ, er, w⟩, ?_⟩
  rintro m σ' H' ⟨ρ', er', w'⟩
  cases m with
  | zero => exact w'.elim
  | succ m =>
    refine hc σ' H' ρ' er' _ (ws_stepT er' (show WS X M F E σ' H' ρ' ((p ρ').stT ρ' _) D from w') fun b H1 e sm w1 => ?_)
    cases b with
    | false => exact w1 σ' H1 (er'.same sm) Evo.refl
    | true =>
      refine ⟨fun σ2 H2 => ∃ m', m' < m + 1 ∧ ∃ ρ2, ER X.K M F σ2 H2 ρ2 ∧ WS X M F E σ2 H2 ρ2 (sWhile p s m' ρ2) D, fun σ2 H2 x => x, ?_⟩
      refine hb σ' H1 ρ' (er'.same sm) _ ?_
      have w1 : WS X M F E σ' H1 ρ' (match s ρ' with
        | .nx ρ2 => sWhile p s m ρ2
        | .ct ρ2 => sWhile p s m ρ2
        | .bk ρ2 => .nx ρ2
        | .rt d => .rt d
        | .ex c ρ2 => .ex c ρ2
        | .bad => .bad) D := w1
      cases q2 : s ρ' with
      | nx ρ2 =>
        rw [q2] at w1
        exact fun σ4 H4 er4 ev4 => ⟨m, Nat.lt_succ_self _, ρ2, er4, ws_evo ev4 w1⟩
      | ct ρ2 =>
        rw [q2] at w1
        exact fun σ4 H4 er4 ev4 => ⟨m, Nat.lt_succ_self _, ρ2, er4, ws_evo ev4 w1⟩
      | bk ρ2 =>
        rw [q2] at w1
        exact w1
      | rt d =>
        rw [q2] at w1
        exact w1
      | ex c ρ2 =>
        rw [q2] at w1
        exact w1
      | bad =>
        rw [q2] at w1
        exact w1
end
end Pu

set_option Elab.async false
set_option linter.all false
set_option maxRecDepth 100000
set_option maxHeartbeats 2000000
namespace Pu
open PySem PySem.Spec PyProof.Rows L2

section
variable {X : Cx} {M : Nat → Bool} {F : Fx} {E : L2.St → XK} {σ σ1 : L2.St} {ρ ρ1 : Rho} {H H' H1 : Hp} {D : Ends}
variable {st : Stmt} {rest : List Stmt} {s u : Rho → Sr} {la fa lb fb : Bool} {a b : Expr} {f g : Rho → Re PyData} {p : Rho → Re Bool} {pos : Pos}

/-! ### one reading for all contexts -/
def canE (X : Cx) (M : Nat → Bool) (E : L2.St → XK) (lk fr : Bool) (f : Rho → Re PyData) : TE := fun σ H Q => ∃ (F : Fx) (ρ : Rho), ER X.K M F σ H ρ ∧ WE X M F E lk fr σ ρ H (f ρ) Q
def canT (X : Cx) (M : Nat → Bool) (E : L2.St → XK) (f : Rho → Re Bool) : TT := fun σ H Q => ∃ (F : Fx) (ρ : Rho), ER X.K M F σ H ρ ∧ WT X E σ H (f ρ) Q
def canG (X : Cx) (M : Nat → Bool) (ts : List Nat) (g : PyData → Rho → Option Rho) : TG := fun v σ H Q => ∃ (F : Fx) (ρ : Rho) (d : PyData) (ρ' : Rho), ER X.K M F σ H ρ ∧ Rp X.K H (RS M F σ ρ false) v d ∧ g d ρ = some ρ' ∧
    (∀ σ', ER X.K M F σ' H ρ' → Evo M σ H ρ σ' H ρ' → (∀ vs, (∀ i ∈ ts, i ∈ vs) → wipe σ' vs = wipe σ vs) → (∀ a, OwnA M σ ρ a → OwnA M σ' ρ' a) → Q σ' H)
theorem canE_ok {lk fr : Bool} {e : Expr} (h : ∀ F, DE X M F E lk fr e f) : PE X e (canE X M E lk fr f) := ⟨fun pins s σ H Q I ⟨F, ρ, er, w⟩ => by
  obtain ⟨t, pt, h⟩ := h F
  exact pt.run pins s σ H Q I (h σ H ρ er Q w)⟩
theorem canT_ok {e : Expr} (h : ∀ F, DT X M F E e p) : PT X e (canT X M E p) := ⟨fun pins s σ H Q I ⟨F, ρ, er, w⟩ => by
  obtain ⟨t, pt, h⟩ := h F
  exact pt.run pins s σ H Q I (h σ H ρ er Q w)⟩
theorem canG_ok {e : Expr} {ts : List Nat} {gg : PyData → Rho → Option Rho} (h : ∀ F, DG X M F e ts gg) : PG X e (canG X M ts gg) := ⟨fun pins s σ H v u Q I r ⟨F, ρ, d, ρ', er, rp, e, w⟩ => by
  obtain ⟨t, pt, h⟩ := h F
  exact pt.run pins s σ H v u Q I r (h σ H ρ v d ρ' er rp e Q w)⟩
/-- tests of a clause: none, or one -/
def DTs (X : Cx) (M : Nat → Bool) (E : L2.St → XK) (ifs : List Expr) (f : Rho → Re Bool) : Prop := PTs X ifs (canT X M E f)
def yesR : Rho → Re Bool := fun _ => .ok true
theorem dts_nil : DTs X M E [] yesR := ⟨fun pins s σ H Q I ⟨F, ρ, er, w⟩ => pts_nil.run pins s σ H Q I (w H (Same.refl _))⟩
theorem dts_one {c : Expr} (h : ∀ F, DT X M F E c p) : DTs X M E [c] p := pts_one (canT_ok h)

/-! ### list comprehensions -/
def E0s : L2.St → XK := fun _ _ _ _ => False
def wipeR (ρ : Rho) : List Nat → Rho
  | [] => ρ
  | v :: vs => (wipeR ρ vs).set v none
def lcGo (g : PyData → Rho → Option Rho) (t : Rho → Re Bool) (f : Rho → Re PyData) (ρ : Rho) : List PyData → Option (List PyData)
  | [] => some []
  | d :: ds => match g d ρ with
    | none => none
    | some ρ1 => match t ρ1 with
      | .ok true => (match f ρ1 with | .ok x => (match lcGo g t f ρ ds with | some xs => some (x :: xs) | none => none) | _ => none)
      | .ok false => lcGo g t f ρ ds
      | _ => none
def rLc (its : Rho → Re (List PyData)) (vs : List Nat) (g : PyData → Rho → Option Rho) (t : Rho → Re Bool) (f : Rho → Re PyData) : Rho → Re PyData := fun ρ => (its ρ).andThen fun ds => if okLen ds.length = true then (match lcGo g t f (wipeR ρ vs) ds with | some xs => .ok (.list xs) | none => .bad) else .bad
theorem ER.wipe1 (e : ER X.K M F σ H ρ) {i : Nat} (m : M i = false) : ER X.K M F (σ.set i none) H (ρ.set i none) ∧ ∀ lk, RS M F (σ.set i none) (ρ.set i none) lk = RS M F σ ρ lk := by
  have own : ∀ a, OwnA M (σ.set i none) (ρ.set i none) a ↔ OwnA M σ ρ a := fun a => by
    constructor
    · rintro ⟨j, x, mj, r, s⟩
      have hj : i ≠ j := fun z => by
        subst z
        rw [m] at mj
        cases mj
      rw [List.getElem?_set_ne hj] at r s
      exact ⟨j, x, mj, r, s⟩
    · rintro ⟨j, x, mj, r, s⟩
      have hj : i ≠ j := fun z => by
        subst z
        rw [m] at mj
        cases mj
      exact ⟨j, x, mj, by rw [List.getElem?_set_ne hj]; exact r, by rw [List.getElem?_set_ne hj]; exact s⟩
  have rs : ∀ lk, RS M F (σ.set i none) (ρ.set i none) lk = RS M F σ ρ lk := fun lk => by
    funext a
    unfold RS
    rw [propext (own a)]
  have back : ∀ {j : Nat} {d : PyData}, (ρ.set i none)[j]? = some (some d) → i ≠ j ∧ ρ[j]? = some (some d) := fun {j d} q => by
    have hj : i ≠ j := fun z => by
      subst z
      have hi := getSome q
      rw [List.length_set] at hi
      rw [List.getElem?_set_self hi] at q
      cases q
    rw [List.getElem?_set_ne hj] at q
    exact ⟨hj, q⟩
  refine ⟨⟨by rw [List.length_set, List.length_set]; exact e.len, e.old, e.new, fun j d q mj => ?_, fun j d q mj => ?_, fun j k d e' p mj mk q1 q2 s1 s2 => ?_⟩, rs⟩
  · obtain ⟨hj, q⟩ := back q
    obtain ⟨v, s, r⟩ := e.im j d q mj
    rw [rs]
    exact ⟨v, by rw [List.getElem?_set_ne hj]; exact s, r⟩
  · obtain ⟨hj, q⟩ := back q
    obtain ⟨p, s, z, w⟩ := e.ow j d q mj
    rw [rs]
    exact ⟨p, by rw [List.getElem?_set_ne hj]; exact s, z, w⟩
  · obtain ⟨hj, q1⟩ := back q1
    obtain ⟨hk, q2⟩ := back q2
    rw [List.getElem?_set_ne hj] at s1
    rw [List.getElem?_set_ne hk] at s2
    exact e.ap j k d e' p mj mk q1 q2 s1 s2
theorem ER.wipe (e : ER X.K M F σ H ρ) : ∀ {vs : List Nat}, (∀ i ∈ vs, M i = false) → ER X.K M F (wipe σ vs) H (wipeR ρ vs) ∧ ∀ lk, RS M F (L2.wipe σ vs) (wipeR ρ vs) lk = RS M F σ ρ lk
  | [], _ => ⟨e, fun _ => rfl⟩
  | v :: vs, h => by
    obtain ⟨e1, r1⟩ := e.wipe (vs := vs) fun i hi => h i (List.mem_cons_of_mem _ hi)
    obtain ⟨e2, r2⟩ := e1.wipe1 (h v List.mem_cons_self)
    exact ⟨e2, fun lk => (r2 lk).trans (r1 lk)⟩
/-- within a block: the new list at Dd is no one's -/
def inBlk (F : Fx) (Dd : Addr) : Fx := ⟨fun _ => none, fun a => F.S0 a ∧ a ≠ Dd⟩
theorem ER.blk (e : ER X.K M F σ H ρ) {Dd : Addr} {o : HO} (hD : H Dd = none) (sm : ∀ a u, H a = some u → H' a = some u) (hD' : H' Dd = some o) : ER X.K M (inBlk F Dd) σ H' ρ where
  len := e.len
  old := fun a u q => nomatch q
  new := fun a q => ⟨e.new a (Same.free (show Same H H' from sm) q), fun z => by
    rw [z, hD'] at q
    cases q⟩
  im := fun i d r m => by
    obtain ⟨v, s, r⟩ := e.im i d r m
    exact ⟨v, s, r.keep (kp_same sm) fun a u x q => ⟨⟨x.1, fun z => by
      rw [z, hD] at q
      cases q⟩, x.2⟩⟩
  ow := fun i d r m => by
    obtain ⟨p, s, z, w⟩ := e.ow i d r m
    obtain ⟨u, hu, _⟩ := w.there
    exact ⟨p, s, ⟨rfl, z.2, fun zz => by
      rw [zz, hD] at hu
      cases hu⟩, w.keep (kp_same sm) (fun a u x q => ⟨⟨x.1, fun z => by
      rw [z, hD] at q
      cases q⟩, x.2⟩) fun u q => sm _ _ q⟩
  ap := e.ap
theorem lc_run {ts vs : List Nat} {wi : TI} {its : Rho → Re (List PyData)} {gg : PyData → Rho → Option Rho} {tt : Rho → Re Bool} {lk fr : Bool} (hi : ∀ σ H ρ, ER X.K M F σ H ρ → ∀ R, WI X M F E σ ρ H (its ρ) R → wi σ H R)
    (hv : ∀ i ∈ vs, M i = false) (hts : ∀ i ∈ ts, i ∈ vs) (er : ER X.K M F σ H ρ) {Q : VK} (w : WE X M F E lk true σ ρ H (rLc its vs gg tt f ρ) Q) : tLc wi (canG X M ts gg) (canT X M E0s tt) (canE X M E0s lk fr f) vs σ H Q := by
  refine hi σ H ρ er _ ?_
  unfold rLc at w
  cases q : its ρ with
  | ex c =>
    rw [q] at w
    exact w
  | bad =>
    rw [q] at w
    exact w
  | ok ds =>
    rw [q] at w
    have w : WE X M F E lk true σ ρ H (if okLen ds.length = true then (match lcGo gg tt f (wipeR ρ vs) ds with | some xs => .ok (.list xs) | none => .bad) else .bad) Q := w
    by_cases hz : okLen ds.length = true
    · rw [if_pos hz] at w
      cases q2 : lcGo gg tt f (wipeR ρ vs) ds with
      | none =>
        rw [q2] at w
        exact w.elim
      | some tot =>
        rw [q2] at w
        refine fun J H1 sm wk Dd hD => ?_
        have er1 := er.same sm
        refine ⟨fun i m H2 => m = ds.length - i ∧ i ≤ ds.length ∧ Same H1 H2 ∧ ∃ acc accd rst, H2 Dd = some (.lst acc) ∧ RpA X.K H2 (fun a => RS M F σ ρ lk a ∧ a ≠ Dd) acc accd ∧ acc.length ≤ i ∧ lcGo gg tt f (wipeR ρ vs) (ds.drop i) = some rst ∧ tot = accd ++ rst,
          ⟨ds.length, by simp, Nat.zero_le _, same_new hD, [], [], tot, upd_same, .nil, Nat.le_refl _, q2, rfl⟩, ?_⟩
        rintro i m H2 ⟨rfl, hi', sm2, acc, accd, rst, e1, r1, l1, g1, t1⟩
        have kp : Kp (fun a => RS M F σ ρ false a ∧ H1 a ≠ none) H1 H2 := kp_same sm2
        by_cases hlt : i < ds.length
        · obtain ⟨go, yl⟩ := (wk H2 kp i).1 _ (List.getElem?_eq_getElem hlt)
          refine .inr ⟨go, fun H3 => ds.length - (i + 1) = ds.length - (i + 1) ∧ i + 1 ≤ ds.length ∧ Same H1 H3 ∧ ∃ acc accd rst, H3 Dd = some (.lst acc) ∧ RpA X.K H3 (fun a => RS M F σ ρ lk a ∧ a ≠ Dd) acc accd ∧ acc.length ≤ i + 1 ∧ lcGo gg tt f (wipeR ρ vs) (ds.drop (i + 1)) = some rst ∧ tot = accd ++ rst, fun H3 x => ⟨ds.length - (i + 1), by omega, x⟩, fun x H3 y => ?_⟩
          obtain ⟨s3, rx⟩ := yl x H3 y
          rw [drop_get (List.getElem?_eq_getElem hlt)] at g1
          have g1 : (match gg ds[i] (wipeR ρ vs) with
            | none => none
            | some ρ1 => match tt ρ1 with
              | .ok true => (match f ρ1 with | .ok x => (match lcGo gg tt f (wipeR ρ vs) (ds.drop (i + 1)) with | some xs => some (x :: xs) | none => none) | _ => none)
              | .ok false => lcGo gg tt f (wipeR ρ vs) (ds.drop (i + 1))
              | _ => none) = some rst := g1
          cases q3 : gg ds[i] (wipeR ρ vs) with
          | none =>
            rw [q3] at g1
            cases g1
          | some ρ1 =>
            rw [q3] at g1
            have g1 : (match tt ρ1 with
              | .ok true => (match f ρ1 with | .ok x => (match lcGo gg tt f (wipeR ρ vs) (ds.drop (i + 1)) with | some xs => some (x :: xs) | none => none) | _ => none)
              | .ok false => lcGo gg tt f (wipeR ρ vs) (ds.drop (i + 1))
              | _ => none) = some rst := g1
            obtain ⟨erw, rsw⟩ := er1.wipe (vs := vs) hv
            have s13 : Same H1 H3 := sm2.trans s3
            have e3 : H3 Dd = some (.lst acc) := s3 _ _ e1
            have erb := erw.blk hD s13 e3
            have rx' : Rp X.K H3 (RS M (inBlk F Dd) (wipe σ vs) (wipeR ρ vs) false) x ds[i] := rx.wide fun a z => by
              have := rsw false
              refine ⟨⟨z.1.1, fun zz => ?_⟩, ?_⟩
              · rw [zz] at z
                exact z.2 hD
              · have z1 : RS M F (wipe σ vs) (wipeR ρ vs) false a := by
                  rw [this]
                  exact z.1
                exact z1.2
            refine ⟨inBlk F Dd, wipeR ρ vs, ds[i], ρ1, erb, rx', q3, fun σ4 er4 ev4 wp4 ow4 => ⟨?_, ?_⟩⟩
            · rw [wp4 vs hts]
              exact (show wipe (wipe σ vs) vs = wipe σ vs from by
                have : ∀ (l : List Nat) (τ : L2.St), (∀ i ∈ l, i < τ.length → τ[i]? = some none) → wipe τ l = τ := by
                  intro l
                  induction l with
                  | nil => intro τ _; rfl
                  | cons v l ih =>
                    intro τ h
                    show (wipe τ l).set v none = τ
                    rw [ih τ fun i hi => h i (List.mem_cons_of_mem _ hi)]
                    by_cases hv : v < τ.length
                    · have := h v List.mem_cons_self hv
                      obtain ⟨h1, h2⟩ := List.getElem?_eq_some_iff.mp this
                      rw [← h2, List.set_getElem_self]
                    · rw [List.set_eq_of_length_le (by omega)]
                refine this vs _ fun i hi hl => ?_
                have mem : ∀ (l : List Nat) (i : Nat), i ∈ l → i < (wipe σ l).length → (wipe σ l)[i]? = some none := by
                  intro l
                  induction l with
                  | nil => intro i h; cases h
                  | cons v l ih =>
                    intro i h hl
                    show ((wipe σ l).set v none)[i]? = some none
                    have hl' : i < (wipe σ l).length := by
                      have hl2 : i < ((wipe σ l).set v none).length := hl
                      rwa [List.length_set] at hl2
                    by_cases e : v = i
                    · subst e
                      rw [List.getElem?_set_self hl']
                    · rw [List.getElem?_set_ne e]
                      exact ih i ((List.mem_cons.mp h).resolve_left fun z => e z.symm) hl'
                exact mem vs i hi hl)
            · refine ⟨inBlk F Dd, ρ1, er4, ?_⟩
              cases q4 : tt ρ1 with
              | ex c =>
                rw [q4] at g1
                cases g1
              | bad =>
                rw [q4] at g1
                cases g1
              | ok bb =>
                rw [q4] at g1
                cases bb with
                | false =>
                  refine fun H5 s5 => ?_
                  show (if false = true then _ else _)
                  rw [if_neg Bool.false_ne_true]
                  exact ⟨rfl, hlt, s13.trans s5, acc, accd, rst, s5 _ _ e3, r1.same (s3.trans s5), by omega, g1, t1⟩
                | true =>
                  refine fun H5 s5 => ?_
                  show (if true = true then _ else _)
                  rw [if_pos rfl]
                  have g1 : (match f ρ1 with | .ok x => (match lcGo gg tt f (wipeR ρ vs) (ds.drop (i + 1)) with | some xs => some (x :: xs) | none => none) | _ => none) = some rst := g1
                  cases q5 : f ρ1 with
                  | ex c =>
                    rw [q5] at g1
                    cases g1
                  | bad =>
                    rw [q5] at g1
                    cases g1
                  | ok xd =>
                    rw [q5] at g1
                    have g1 : (match lcGo gg tt f (wipeR ρ vs) (ds.drop (i + 1)) with | some xs => some (xd :: xs) | none => none) = some rst := g1
                    cases q6 : lcGo gg tt f (wipeR ρ vs) (ds.drop (i + 1)) with
                    | none =>
                      rw [q6] at g1
                      cases g1
                    | some xs =>
                      rw [q6] at g1
                      have g1 : some (xd :: xs) = some rst := g1
                      cases g1
                      refine ⟨inBlk F Dd, ρ1, er4.same s5, ?_⟩
                      rw [q5]
                      refine fun v H6 s6 r6 _ => ?_
                      have e6 : H6 Dd = some (.lst acc) := s6 _ _ (s5 _ _ e3)
                      have acl : acc.length < sizeLine := by
                        have := of_decide_eq_true hz
                        exact Nat.lt_of_lt_of_le (show acc.length < 10001 by omega) (by decide)
                      refine ⟨acc, e6, acl, rfl, hlt, fun a u qa => ?_, acc ++ [v], accd ++ [xd], xs, upd_same, ?_, ?_, rfl, ?_⟩
                      · rw [upd_ne (ne_of_none qa hD)]
                        exact s6 _ _ (s5 _ _ (s13 _ _ qa))
                      · have kpD : Kp (fun a => RS M F σ ρ lk a ∧ a ≠ Dd) H6 (upd H6 Dd (.lst (acc ++ [v]))) := fun a u qa xa => by
                          rw [upd_ne]
                          · exact qa
                          · intro za
                            subst za
                            rcases xa with xa | xa
                            · exact xa.2 rfl
                            · rw [e6] at qa
                              cases qa
                              exact xa trivial
                        have rA : RpA X.K H6 (fun a => RS M F σ ρ lk a ∧ a ≠ Dd) acc accd := r1.same ((s3.trans s5).trans s6)
                        have rV : Rp X.K H6 (fun a => RS M F σ ρ lk a ∧ a ≠ Dd) v xd := r6.wide fun a za => by
                          refine ⟨⟨za.1.1, fun zl => fun o => ?_⟩, za.1.2⟩
                          have rw0 := rsw false
                          -- an own address ahead is own in the block
                          obtain ⟨hh0, hs0, uu, hu⟩ := er1.own o
                          have nb : ¬ OwnA M (wipe σ vs) (wipeR ρ vs) a → False := fun nn => by
                            have : RS M F (wipe σ vs) (wipeR ρ vs) false a := ⟨hs0, fun _ => nn⟩
                            rw [rw0] at this
                            exact this.2 rfl o
                          refine za.2 zl ?_
                          by_cases ob : OwnA M (wipe σ vs) (wipeR ρ vs) a
                          · exact ow4 a ob
                          · exact (nb ob).elim
                        exact (rA.append (.cons rV .nil)).keep kpD fun _ _ x _ => x
                      · rw [List.length_append]
                        show acc.length + 1 ≤ i + 1
                        omega
                      · rw [t1, List.append_assoc]
                        rfl
        · have ei : i = ds.length := by omega
          subst ei
          rw [List.drop_length] at g1
          have g1 : some ([] : List PyData) = some rst := g1
          cases g1
          rw [List.append_nil] at t1
          subst t1
          refine .inl ⟨(wk H2 kp _).2 rfl, w (.ref Dd) H2 (sm.trans sm2) (.lst e1 ?_ (r1.wide fun a x => x.1)) fun _ => ⟨Dd, rfl, sm.free hD, .lst e1 r1⟩⟩
          exact er1.freshS _ hD
    · rw [if_neg hz] at w
      exact w.elim
end
end Pu

set_option Elab.async false
set_option linter.all false
set_option maxRecDepth 100000
set_option maxHeartbeats 2000000
namespace Pu
open PySem PySem.Spec PyProof.Rows L2

section
variable {X : Cx} {M : Nat → Bool} {F : Fx} {E : L2.St → XK} {σ σ1 : L2.St} {ρ ρ1 : Rho} {H H' H1 : Hp} {D : Ends}
variable {st : Stmt} {rest : List Stmt} {s u : Rho → Sr} {la fa lb fb lk fr : Bool} {a b : Expr} {f g : Rho → Re PyData} {p : Rho → Re Bool} {pos : Pos}
/-! ### comprehensions, as a value and given to a name -/
section
variable {elt tg iter : Expr} {ifs : List Expr} {scope : Scope} {own : List (Str × Nat)} {ts : List Nat} (vs : List Nat) {its : Rho → Re (List PyData)} {gg : PyData → Rho → Option Rho} {tt : Rho → Re Bool}
theorem de_lc (hc : X.calm = true) (hN : X.N.Nodup) (hi : DI X M F E tg iter its) (ok : BlkOk X.N X.env.scope scope own) (hv : ∀ i ∈ vs, M i = false)
    (hg : ∀ (s : Shared) (H : Hp) (C : Addr) (cl : List (Str × Addr)) (fp : List Addr) (F : Fx), DG (X.blk s H scope (compEnvC scope cl C X.env) fp) M F tg ts gg)
    (ht : ∀ (s : Shared) (H : Hp) (C : Addr) (cl : List (Str × Addr)) (fp : List Addr), DTs (X.blk s H scope (compEnvC scope cl C X.env) fp) M E0s ifs tt)
    (he : ∀ (s : Shared) (H : Hp) (C : Addr) (cl : List (Str × Addr)) (fp : List Addr) (F : Fx), DE (X.blk s H scope (compEnvC scope cl C X.env) fp) M F E0s lk fr elt f)
    (hvs : own.map (·.2) = vs := by rfl) (hts : ∀ i ∈ ts, i ∈ vs := by decide) (hs : ∀ x, foldedSetIterable iter X.env x = pure x := by intro _; rfl) :
    DE X M F E lk true (.ListComp elt [⟨tg, iter, ifs, 0⟩] scope pos) (rLc its vs gg tt f) := by
  subst hvs
  obtain ⟨wi, pw, hi⟩ := hi
  exact ⟨_, pe_lc (g := canG X M ts gg) (tt := canT X M E0s tt) (te := canE X M E0s lk fr f) hc hN pw ok (fun s H C cl fp => canG_ok (hg s H C cl fp)) (fun s H C cl fp => ht s H C cl fp) (fun s H C cl fp => canE_ok (he s H C cl fp)) hs, fun σ H ρ er Q w => lc_run hi hv hts er w⟩
/-- y = [..] on one row -/
theorem ds_setLc {i : Nat} {y : Str} {py spos : Pos} (m : M i = false) (hc : X.calm = true) (hN : X.N.Nodup) (hi : DI X M F E tg iter its) (ok : BlkOk X.N X.env.scope scope own) (hv : ∀ i ∈ vs, M i = false)
    (hg : ∀ (s : Shared) (H : Hp) (C : Addr) (cl : List (Str × Addr)) (fp : List Addr) (F : Fx), DG (X.blk s H scope (compEnvC scope cl C X.env) fp) M F tg ts gg)
    (ht : ∀ (s : Shared) (H : Hp) (C : Addr) (cl : List (Str × Addr)) (fp : List Addr), DTs (X.blk s H scope (compEnvC scope cl C X.env) fp) M E0s ifs tt)
    (he : ∀ (s : Shared) (H : Hp) (C : Addr) (cl : List (Str × Addr)) (fp : List Addr) (F : Fx), DE (X.blk s H scope (compEnvC scope cl C X.env) fp) M F E0s lk fr elt f)
    (hsw : swapsWith (.ListComp elt [⟨tg, iter, ifs, 0⟩] scope pos) (some (.Name y py)) spos.line X.env = pure true)
    (hy : X.N[i]? = some y := by rfl) (hyl : X.env.scope.names.lookup y = some .local := by rfl)
    (hvs : own.map (·.2) = vs := by rfl) (hts : ∀ i ∈ ts, i ∈ vs := by decide) (hs : ∀ x, foldedSetIterable iter X.env x = pure x := by intro _; rfl) :
    DS X M F E (.Assign [.Name y py] (.ListComp elt [⟨tg, iter, ifs, 0⟩] scope pos) spos) (sSet i lk (rLc its vs gg tt f)) := by
  subst hvs
  obtain ⟨wi, pw, hi⟩ := hi
  refine ⟨_, ps_setLc (g := canG X M ts gg) (tt := canT X M E0s tt) (te := canE X M E0s lk fr f) hc hN hy hyl hsw pw ok (fun s H C cl fp => canG_ok (hg s H C cl fp)) (fun s H C cl fp => ht s H C cl fp) (fun s H C cl fp => canE_ok (he s H C cl fp)) hs, fun σ H ρ er D w => ?_⟩
  refine lc_run (lk := lk) (fr := fr) (X := X) hi hv hts er ?_
  refine ws_step er w fun d v H1 e sm r _ w1 => ?_
  by_cases hd : lk = true → imm d = true
  · rw [if_pos hd] at w1
    exact w1 _ H1 ((er.same sm).set m (rp_lk r hd)) fun a u q n => ⟨q, fun o => n ((own_set m).mp o)⟩
  · rw [if_neg hd] at w1
    exact w1.elim
theorem ds_setOLc {i : Nat} {y : Str} {py spos : Pos} (m : M i = true) (hc : X.calm = true) (hN : X.N.Nodup) (hi : DI X M F E tg iter its) (ok : BlkOk X.N X.env.scope scope own) (hv : ∀ i ∈ vs, M i = false)
    (hg : ∀ (s : Shared) (H : Hp) (C : Addr) (cl : List (Str × Addr)) (fp : List Addr) (F : Fx), DG (X.blk s H scope (compEnvC scope cl C X.env) fp) M F tg ts gg)
    (ht : ∀ (s : Shared) (H : Hp) (C : Addr) (cl : List (Str × Addr)) (fp : List Addr), DTs (X.blk s H scope (compEnvC scope cl C X.env) fp) M E0s ifs tt)
    (he : ∀ (s : Shared) (H : Hp) (C : Addr) (cl : List (Str × Addr)) (fp : List Addr) (F : Fx), DE (X.blk s H scope (compEnvC scope cl C X.env) fp) M F E0s lk fr elt f)
    (hsw : swapsWith (.ListComp elt [⟨tg, iter, ifs, 0⟩] scope pos) (some (.Name y py)) spos.line X.env = pure true)
    (hy : X.N[i]? = some y := by rfl) (hyl : X.env.scope.names.lookup y = some .local := by rfl)
    (hvs : own.map (·.2) = vs := by rfl) (hts : ∀ i ∈ ts, i ∈ vs := by decide) (hs : ∀ x, foldedSetIterable iter X.env x = pure x := by intro _; rfl) :
    DS X M F E (.Assign [.Name y py] (.ListComp elt [⟨tg, iter, ifs, 0⟩] scope pos) spos) (sSetO i lk (rLc its vs gg tt f)) := by
  subst hvs
  obtain ⟨wi, pw, hi⟩ := hi
  refine ⟨_, ps_setLc (g := canG X M ts gg) (tt := canT X M E0s tt) (te := canE X M E0s lk fr f) hc hN hy hyl hsw pw ok (fun s H C cl fp => canG_ok (hg s H C cl fp)) (fun s H C cl fp => ht s H C cl fp) (fun s H C cl fp => canE_ok (he s H C cl fp)) hs, fun σ H ρ er D w => ?_⟩
  exact setO_run m (fun σ H ρ er Q w => lc_run (lk := lk) (fr := fr) (X := X) hi hv hts er w) er w
end

/-! ### a def -/
def runF (n m : Nat) (s : Rho → Sr) (ds : List PyData) : Re PyData := if ds.length = n then (match s (ds.map some ++ List.replicate (m - n) none) with
  | .nx _ => .ok .none
  | .rt d => .ok d
  | .ex c _ => .ex c
  | _ => .bad) else .bad
/-- where a body runs -/
structure Gd (X : Cx) (E : L2.St → XK) (k : Nat) : Prop where
  room : Room k X.A
  pass : ∀ σ, PassesAt (L2.CX X.prog X.w) X σ (E σ)
  tk : Takes X (fun cls d σ H => E σ cls d H)
  own : PassesOwn (model X.prog X.w) X.A X.env X.xe
  stk : X.stack = X.env :: X.outer
  frm : X.env.frame = some X.env.locals
theorem passF {X : Cx} (σ : L2.St) : PassesAt (L2.CX X.prog X.w) X σ (E0s σ) := fun _ _ _ _ _ _ c => by
  obtain ⟨_, _, _, _, _, _, _, _, _, _, _, _, z⟩ := c
  exact z.elim
end

section
variable {P : Program} {w : World} {K : PySem.W.Frag} {mg : Str → Option Value} {base : Heap} {x qual : Str} {params : Arguments} {body : List Stmt} {scope : Scope} {dvs : List V} {kws : List (Str × V)} {fA : Addr} {fd : FuncData}
theorem start_get {N : List Str} {vs : List V} {i : Nat} {v : V} (h : vs[i]? = some v) : (L2.start N vs)[i]? = some (some v) := by
  unfold L2.start
  have hi := getSome h
  rw [List.getElem?_append_left (by simpa using hi), List.getElem?_map, h]
  rfl
theorem def_ok {N ps : List Str} {k : Nat} (Fd : FunD K x qual params body scope dvs kws fA fd) (S : FnScope N ps scope) (M : Nat → Bool) (hM : ∀ i, i < ps.length → M i = false) (s : Rho → Sr)
    (hb : ∀ (cdv : Value) (A : Around) (outer : List Env) (sh : Shared) (H : Hp) (Ex : XK), Gd (cxOf (L2.CX P w) P w K mg base N qual scope fA cdv A outer sh H Ex) (fun _ => Ex) k →
      ∀ F : Fx, DSs (cxOf (L2.CX P w) P w K mg base N qual scope fA cdv A outer sh H Ex) M F (fun _ => Ex) body s) :
    FnOk P w K mg base (L2.CX P w) (k + 1) fA fd ps (spD mg (runF ps.length N.length s) K) := by
  refine Fd.ok S (fun vs H Q E h => ?_) fun cdv A outer sh H vs Q Ex hr h => ?_
  · obtain ⟨ds, Sx, r, _, h⟩ := h
    unfold runF at h
    by_cases hl : ds.length = ps.length
    · rw [r.length, hl]
    · rw [if_neg hl] at h
      exact h.elim
  · obtain ⟨ds, Sx, r, new, h⟩ := h
    unfold runF at h
    by_cases hl : ds.length = ps.length
    · rw [if_pos hl] at h
      have tk : Takes (cxOf (L2.CX P w) P w K mg base N qual scope fA cdv A outer sh H Ex) (fun cls d σ H => Ex cls d H) := takes_of rfl rfl rfl rfl
      have gd : Gd (cxOf (L2.CX P w) P w K mg base N qual scope fA cdv A outer sh H Ex) (fun _ => Ex) k := ⟨hr, fun σ => passAt tk σ, tk, passes_of rfl, rfl, rfl⟩
      obtain ⟨t, pt, ht⟩ := hb cdv A outer sh H Ex gd ⟨H, Sx⟩
      refine ⟨t, pt, ?_⟩
      have hNl : ps.length ≤ N.length := by
        have := congrArg List.length S.pre
        rw [List.length_take] at this
        omega
      have r0 : ∀ i d, (ds.map some ++ List.replicate (N.length - ps.length) none : Rho)[i]? = some (some d) → i < ps.length ∧ ds[i]? = some d := fun i d q => by
        by_cases hi : i < ps.length
        · rw [List.getElem?_append_left (by rw [List.length_map, hl]; exact hi), List.getElem?_map] at q
          refine ⟨hi, ?_⟩
          cases e : ds[i]? with
          | none =>
            rw [e] at q
            cases q
          | some d' =>
            rw [e] at q
            cases q
            rfl
        · rw [List.getElem?_append_right (by rw [List.length_map, hl]; omega), List.getElem?_replicate] at q
          split at q <;> cases q
      have nown : ∀ a, ¬ OwnA M (L2.start N vs) (ds.map some ++ List.replicate (N.length - ps.length) none) a := fun a o => by
        obtain ⟨i, d, m, q, _⟩ := o
        rw [hM i (r0 i d q).1] at m
        cases m
      have er : ER K M ⟨H, Sx⟩ (L2.start N vs) H (ds.map some ++ List.replicate (N.length - ps.length) none) := by
        refine ⟨?_, Same.refl _, new, fun i d q m => ?_, fun i d q m => ?_, fun i j d e p mi mj q1 q2 s1 s2 => ?_⟩
        · unfold L2.start
          rw [List.length_append, List.length_append, List.length_map, List.length_map, List.length_replicate, List.length_replicate, r.length, hl]
        · obtain ⟨hi, e⟩ := r0 i d q
          obtain ⟨v, hv, rv⟩ := r.get' e
          exact ⟨v, start_get hv, rv.wide fun a x => ⟨x, fun _ => nown a⟩⟩
        · rw [hM i (r0 i d q).1] at m
          cases m
        · rw [hM i (r0 i d q1).1] at mi
          cases mi
      refine ht _ H _ er _ ?_
      cases q : s (ds.map some ++ List.replicate (N.length - ps.length) none) with
      | nx ρ' =>
        rw [q] at h
        exact fun σ' H' er' _ => h .non H' er'.old .non
      | rt d =>
        rw [q] at h
        exact h
      | ex c ρ' =>
        rw [q] at h
        exact fun C σ' H' m er' _ => h C H' m er'.old
      | bk ρ' =>
        rw [q] at h
        exact h.elim
      | ct ρ' =>
        rw [q] at h
        exact h.elim
      | bad =>
        rw [q] at h
        exact h.elim
    · rw [if_neg hl] at h
      exact h.elim
end

section
variable {X : Cx} {M : Nat → Bool} {F : Fx} {E : L2.St → XK} {σ σ1 : L2.St} {ρ ρ1 : Rho} {H H' H1 : Hp} {D : Ends}
variable {st : Stmt} {rest : List Stmt} {s u : Rho → Sr} {la fa lb fb lk fr : Bool} {a b : Expr} {f g : Rho → Re PyData} {p : Rho → Re Bool} {pos : Pos}
/-! ### own errors -/
/-- an own error under ValueError, at C -/
structure ErrC (K : PySem.W.Frag) (mg : Str → Option Value) (c : Str) (C : Addr) : Prop where
  gC : mg c = some (.ref C)
  xP : PySem.W.excIn K C He.veBase "ValueError.__new__" = true
  kP : PySem.W.keepIn K (.ref C) = true
  bP : PySem.W.subIn K (.ref C) (.type "BaseException") = some true
  tP : PySem.W.typeIn K (.ref C) = some (.type "type")
  eP : PySem.W.exmOne K (.ref C) (.ref C) = some true
theorem ds_raise {c m : Str} {C : Addr} {j : Nat} {p1 p2 p3 : Pos} {k : Nat} (G : Gd X E k) (hc : X.calm = true) (Ec : ErrC X.K X.mg c C) (hg : Gl X c) (hdb : (c == ("__debug__" : Str)) = false := by decide) :
    DS X M F E (.Raise (some (.Call (.Name c p1) [.Constant (.str m) j p2] [] p3)) none pos) (fun ρ => .ex c ρ) :=
  ⟨_, ps_raise hc G.tk (pmk_own PySem.F.excBase_ValueError Ec.xP Ec.gC Ec.kP (raises_own Ec.bP Ec.tP) hg hdb), fun σ H ρ er D w => w C σ H Ec.gC er Evo.refl⟩
/-- one reading of a block for all contexts -/
def canS (X : Cx) (M : Nat → Bool) (E : L2.St → XK) (s : Rho → Sr) : TS := fun D σ H => ∃ (F : Fx) (ρ : Rho), ER X.K M F σ H ρ ∧ WS X M F E σ H ρ (s ρ) D
theorem canS_ok {b : List Stmt} (h : ∀ F, DSs X M F E b s) : PSs X b (canS X M E s) := ⟨fun pins sh σ H D I ⟨F, ρ, er, w⟩ => by
  obtain ⟨t, pt, h⟩ := h F
  exact pt.run pins sh σ H D I (h σ H ρ er D w)⟩
/-- try: body; except c: suite -/
def sTry (c : Str) (s u : Rho → Sr) : Rho → Sr := fun ρ => match s ρ with
  | .ex c' ρ' => if c' = c then (match u ρ' with | .ex _ _ => .bad | r => r) else .bad
  | r => r
theorem ds_try {c : Str} {C : Addr} {body suite : List Stmt} {b0 : Stmt} {np pos' : Pos} {k : Nat} (G : Gd X E k) (Ec : ErrC X.K X.mg c C) (hn : Gl X c ∧ (c == ("__debug__" : Str)) = false)
    (hb : ∀ (W : WX) (pn : List (Addr × Obj)) (xe : Value → Shared → Prop), Gd (X.tr pn xe) (fun σ cls d H => W cls d σ H) k → ∀ F, DSs (X.tr pn xe) M F (fun σ cls d H => W cls d σ H) body s)
    (hs : ∀ (a : Addr) (oe : Obj) (pn : List (Addr × Obj)) (F : Fx), DSs (X.suite a ((a, oe) :: pn)) M F E0s (b0 :: suite) u) :
    DS X M F E (.Try body [.ExceptHandler (some (.Name c np)) none (b0 :: suite) pos'] [] [] pos) (sTry c s u) := by
  refine ⟨_, ps_try_only (tb := fun W => canS X M (fun σ cls d H => W cls d σ H) s) (ts := fun _ _ _ => canS X M E0s u) G.stk G.frm ⟨hn.1, hn.2, .inl Ec.gC⟩ G.tk
    (fun W pn xe tk po => canS_ok (hb W pn xe ⟨G.room, fun σ => passAt tk σ, tk, po, G.stk, G.frm⟩)) (fun a oe cls d pn _ _ => canS_ok (hs a oe pn)), fun σ H ρ er D w => ?_⟩
  refine ⟨F, ρ, er, ?_⟩
  unfold sTry at w
  cases q : s ρ with
  | ex c' ρ' =>
    rw [q] at w
    have w2 : WS X M F E σ H ρ (if c' = c then (match u ρ' with | .ex _ _ => .bad | r => r) else .bad) D := w
    clear w
    by_cases hc : c' = c
    · rw [if_pos hc] at w2
      rw [hc]
      refine fun C' σ' H' m er' ev => ⟨true, ?_, fun _ a _ => ⟨F, ρ', er', ?_⟩, fun z => nomatch z⟩
      · rw [Ec.gC] at m
        cases m
        exact Ec.eP
      · have w1 := ws_evo ev w2
        revert w1
        generalize u ρ' = r
        intro w1
        cases r with
        | ex c2 ρ2 => exact w1.elim
        | nx ρ2 => exact w1
        | rt d => exact w1
        | bk ρ2 => exact w1
        | ct ρ2 => exact w1
        | bad => exact w1
    · rw [if_neg hc] at w2
      exact w2.elim
  | nx ρ' =>
    rw [q] at w
    exact w
  | rt d =>
    rw [q] at w
    exact w
  | bk ρ' =>
    rw [q] at w
    exact w
  | ct ρ' =>
    rw [q] at w
    exact w
  | bad =>
    rw [q] at w
    exact w
end
end Pu

set_option Elab.async false
set_option linter.all false
set_option maxRecDepth 100000
set_option maxHeartbeats 2000000
namespace Pu
open PySem PySem.Spec PyProof.Rows L2

/-! ### numbers -/
theorem SemB.int {K : PySem.W.Frag} {C : Int → Int → Prop} {v : Int → Int → V} {r : R2} {gg : PyData → PyData → Option PyData} (hr : ∀ i j H Q, C i j → Q (v i j) H → r (.int i) (.int j) H Q)
    (hg : ∀ d e z, gg d e = some z → ∃ i j, d = .int i ∧ e = .int j ∧ C i j ∧ ∀ H S, Rp K H S (v i j) z) : SemB K r false gg := fun S H x y d e z Q _ rx ry q k => by
  obtain ⟨i, j, rfl, rfl, c, rz⟩ := hg d e z q
  cases rx
  cases ry
  exact hr i j H Q c (k _ H (Same.refl H) (rz H S) fun z => nomatch z)
def oSub : PyData → PyData → Option PyData := fun d e => match d, e with | .int i, .int j => some (.int (i - j)) | _, _ => none
def mulOk (i j : Int) : Bool := decide (j.natAbs < 2 ^ 63) || decide (i.natAbs < 2 ^ 63) || decide (i.natAbs.log2 + j.natAbs.log2 < 1000000)
def oMul : PyData → PyData → Option PyData := fun d e => match d, e with | .int i, .int j => if mulOk i j = true then some (.int (i * j)) else none | _, _ => none
def divOk (j : Int) : Bool := decide (0 < j) && decide (j < 2 ^ 240)
def oDiv : PyData → PyData → Option PyData := fun d e => match d, e with | .int i, .int j => if divOk j = true then some (.int (i / j)) else none | _, _ => none
def oMod : PyData → PyData → Option PyData := fun d e => match d, e with | .int i, .int j => if 0 < j then some (.int (i % j)) else none | _, _ => none
def powOk (i j : Int) : Bool := decide (0 ≤ j) && decide (j ≤ 1000000) && decide (i.natAbs < 2 ^ 63)
def oPow : PyData → PyData → Option PyData := fun d e => match d, e with | .int i, .int j => if powOk i j = true then some (.int (i ^ j.toNat)) else none | _, _ => none
def oNeg : PyData → Option PyData := fun d => match d with | .int i => some (.int (-i)) | _ => none
def oLt : PyData → PyData → Option PyData := fun d e => match d, e with | .int i, .int j => some (.bool (decide (i < j))) | _, _ => none
def oLe : PyData → PyData → Option PyData := fun d e => match d, e with | .int i, .int j => some (.bool (decide (i ≤ j))) | _, _ => none
def oGt : PyData → PyData → Option PyData := fun d e => match d, e with | .int i, .int j => some (.bool (decide (j < i))) | _, _ => none
def oGe : PyData → PyData → Option PyData := fun d e => match d, e with | .int i, .int j => some (.bool (decide (j ≤ i))) | _, _ => none
section
variable {X : Cx} {K : PySem.W.Frag}
theorem ints2 {P : Int → Int → Option PyData} {d e z : PyData} (h : (match d, e with | .int i, .int j => P i j | _, _ => none) = some z) : ∃ i j, d = .int i ∧ e = .int j ∧ P i j = some z := by
  split at h
  · exact ⟨_, _, rfl, rfl, h⟩
  · cases h
theorem if_some {c : Prop} [Decidable c] {a z : PyData} (h : (if c then some a else none) = some z) : c ∧ z = a := by
  by_cases hc : c
  · rw [if_pos hc] at h
    exact ⟨hc, (Option.some.inj h).symm⟩
  · rw [if_neg hc] at h
    cases h
theorem s_sub : SemB K (rI0 fun i j => .int (i - j)) false oSub := SemB.int (C := fun _ _ => True) (v := fun i j => .int (i - j)) (fun i j H Q _ q => ⟨i, j, rfl, rfl, q⟩) fun d e z q => by
  obtain ⟨i, j, h1, h2, h3⟩ := ints2 q
  cases h3
  exact ⟨i, j, h1, h2, trivial, fun _ _ => .int _⟩
theorem s_mul : SemB K (fun x y H Q => rI CMul (fun i j => .int (i * j)) x y H Q ∨ rI CMulW (fun i j => .int (i * j)) x y H Q) false oMul :=
  SemB.int (C := fun i j => mulOk i j = true) (v := fun i j => .int (i * j)) (fun i j H Q c q => by
    unfold mulOk at c
    simp only [Bool.or_eq_true, decide_eq_true_eq] at c
    rcases c with (c | c) | c
    · exact .inl ⟨i, j, rfl, rfl, .inr (by omega), q⟩
    · exact .inl ⟨i, j, rfl, rfl, .inl (by omega), q⟩
    · exact .inr ⟨i, j, rfl, rfl, c, q⟩) fun d e z q => by
  obtain ⟨i, j, h1, h2, h3⟩ := ints2 q
  obtain ⟨h4, rfl⟩ := if_some h3
  exact ⟨i, j, h1, h2, h4, fun _ _ => .int _⟩
theorem s_div : SemB K (rI CDivW fun i j => .int (i / j)) false oDiv := SemB.int (C := fun _ j => divOk j = true) (v := fun i j => .int (i / j)) (fun i j H Q c q => by
    unfold divOk at c
    simp only [Bool.and_eq_true, decide_eq_true_eq] at c
    have hb : j.natAbs < 2 ^ 240 := by
      have h2 := c.2
      have h1 := c.1
      have e : (2 : Int) ^ 240 = ((2 ^ 240 : Nat) : Int) := by rw [Int.natCast_pow]; rfl
      rw [e] at h2
      omega
    exact ⟨i, j, rfl, rfl, wide_div c.1 hb (by decide) (by decide), q⟩) fun d e z q => by
  obtain ⟨i, j, h1, h2, h3⟩ := ints2 q
  obtain ⟨h4, rfl⟩ := if_some h3
  exact ⟨i, j, h1, h2, h4, fun _ _ => .int _⟩
theorem s_mod : SemB K (rI (fun _ j => 0 < j) fun i j => .int (i % j)) false oMod := SemB.int (C := fun _ j => 0 < j) (v := fun i j => .int (i % j)) (fun i j H Q c q => ⟨i, j, rfl, rfl, c, q⟩) fun d e z q => by
  obtain ⟨i, j, h1, h2, h3⟩ := ints2 q
  obtain ⟨h4, rfl⟩ := if_some h3
  exact ⟨i, j, h1, h2, h4, fun _ _ => .int _⟩
theorem s_pow : SemB K (rI CPow fun i j => .int (i ^ j.toNat)) false oPow := SemB.int (C := fun i j => powOk i j = true) (v := fun i j => .int (i ^ j.toNat)) (fun i j H Q c q => by
    unfold powOk at c
    simp only [Bool.and_eq_true, decide_eq_true_eq] at c
    exact ⟨i, j, rfl, rfl, ⟨c.1.1, c.1.2, Nat.lt_trans c.2 (by decide)⟩, q⟩) fun d e z q => by
  obtain ⟨i, j, h1, h2, h3⟩ := ints2 q
  obtain ⟨h4, rfl⟩ := if_some h3
  exact ⟨i, j, h1, h2, h4, fun _ _ => .int _⟩
theorem s_neg : SemU K (rU fun i => .int (-i)) false oNeg := fun S H x d z Q _ rx q k => by
  unfold oNeg at q
  split at q
  · cases q
    cases rx
    exact ⟨_, rfl, k _ H (Same.refl H) (.int _) fun z => nomatch z⟩
  · cases q
theorem s_lt : SemB K (rI0 fun i j => .bl (decide (i < j))) false oLt := SemB.int (C := fun _ _ => True) (v := fun i j => .bl (decide (i < j))) (fun i j H Q _ q => ⟨i, j, rfl, rfl, q⟩) fun d e z q => by
  obtain ⟨i, j, h1, h2, h3⟩ := ints2 q
  cases h3
  exact ⟨i, j, h1, h2, trivial, fun _ _ => .bl _⟩
theorem s_le : SemB K (rI0 fun i j => .bl (decide (i ≤ j))) false oLe := SemB.int (C := fun _ _ => True) (v := fun i j => .bl (decide (i ≤ j))) (fun i j H Q _ q => ⟨i, j, rfl, rfl, q⟩) fun d e z q => by
  obtain ⟨i, j, h1, h2, h3⟩ := ints2 q
  cases h3
  exact ⟨i, j, h1, h2, trivial, fun _ _ => .bl _⟩
theorem s_gt : SemB K (rI0 fun i j => .bl (decide (j < i))) false oGt := SemB.int (C := fun _ _ => True) (v := fun i j => .bl (decide (j < i))) (fun i j H Q _ q => ⟨i, j, rfl, rfl, q⟩) fun d e z q => by
  obtain ⟨i, j, h1, h2, h3⟩ := ints2 q
  cases h3
  exact ⟨i, j, h1, h2, trivial, fun _ _ => .bl _⟩
theorem s_ge : SemB K (rI0 fun i j => .bl (decide (j ≤ i))) false oGe := SemB.int (C := fun _ _ => True) (v := fun i j => .bl (decide (j ≤ i))) (fun i j H Q _ q => ⟨i, j, rfl, rfl, q⟩) fun d e z q => by
  obtain ⟨i, j, h1, h2, h3⟩ := ints2 q
  cases h3
  exact ⟨i, j, h1, h2, trivial, fun _ _ => .bl _⟩
theorem op_mulA : OpR X (binaryOp .Mult) (fun x y H Q => rI CMul (fun i j => .int (i * j)) x y H Q ∨ rI CMulW (fun i j => .int (i * j)) x y H Q) := op_mul.or op_mulW

/-! + of numbers, tuples, lists, texts -/
def oAdd : PyData → PyData → Option PyData := fun d e => match d, e with
  | .int i, .int j => some (.int (i + j))
  | .tuple xs, .tuple ys => if okLen (xs.length + ys.length) = true then some (.tuple (xs ++ ys)) else none
  | .list xs, .list ys => if okLen (xs.length + ys.length) = true then some (.list (xs ++ ys)) else none
  | .str a, .str b => if okLen (a.length + b.length) = true then some (.str (a ++ b)) else none
  | _, _ => none
abbrev rAddA (K : PySem.W.Frag) : R2 := fun x y H Q => rI0 (fun i j => .int (i + j)) x y H Q ∨ (rCatF K x y H Q ∨ (rCat x y H Q ∨ (∃ i j, x = .str i ∧ y = .str j ∧ i.length + j.length ≤ sizeLine ∧ Q (.str (i ++ j)) H)))
theorem op_addA : OpR X (binaryOp .Add) (rAddA X.K) := op_add.or (op_catF.or (op_cat.or op_add_str))
theorem frs_lst {S : Addr → Prop} {H : Hp} {p : Addr} {vs : List V} {ds : List PyData} (hp : H p = none) (r : RpA K H S vs ds) : Frs K S H (upd H p (.lst vs)) (.ref p) (.list ds) := frs_new (Same.refl H) hp r
theorem s_add : SemB K (rAddA K) false oAdd := fun S H x y d e z Q new rx ry q k => by
  unfold oAdd at q
  split at q
  · cases q
    cases rx
    cases ry
    exact .inl ⟨_, _, rfl, rfl, k _ H (Same.refl H) (.int _) fun z => nomatch z⟩
  · obtain ⟨hl, rfl⟩ := if_some q
    cases rx with
    | tup h1 r1 =>
      cases ry with
      | tup h2 r2 =>
        refine .inr (.inl ⟨_, _, _, _, rfl, rfl, h1.sq, h2.sq, by rw [r1.length, r2.length]; exact okLen_le hl, fun e => ?_, fun ne e => ?_, fun _ _ p o hp hd => ?_⟩)
        · subst e
          cases r1
          exact k _ H (Same.refl H) (.tup h2 r2) fun z => nomatch z
        · subst e
          cases r2
          rw [List.append_nil] at k
          exact k _ H (Same.refl H) (.tup h1 r1) fun z => nomatch z
        · exact k _ _ (same_new hp) (.tup (.inl ⟨o, upd_same, hd⟩) ((r1.append r2).same (same_new hp))) fun z => nomatch z
  · obtain ⟨hl, rfl⟩ := if_some q
    cases rx with
    | lst h1 s1 r1 =>
      cases ry with
      | lst h2 s2 r2 =>
        refine .inr (.inr (.inl ⟨_, _, _, _, rfl, rfl, h1, h2, by rw [r1.length, r2.length]; exact okLen_le hl, fun p hp => ?_⟩))
        exact k _ _ (same_new hp) (.lst upd_same (new p hp) ((r1.append r2).same (same_new hp))) fun z => nomatch z
  · obtain ⟨hl, rfl⟩ := if_some q
    cases rx
    cases ry
    exact .inr (.inr (.inr ⟨_, _, rfl, rfl, okLen_le hl, k _ H (Same.refl H) (.str _) fun z => nomatch z⟩))
  · cases q
/-- .. of lists alone: a new list -/
def oAddL : PyData → PyData → Option PyData := fun d e => match d, e with
  | .list xs, .list ys => if okLen (xs.length + ys.length) = true then some (.list (xs ++ ys)) else none
  | _, _ => none
theorem s_addL : SemB K rCat true oAddL := fun S H x y d e z Q new rx ry q k => by
  unfold oAddL at q
  split at q
  · obtain ⟨hl, rfl⟩ := if_some q
    cases rx with
    | lst h1 s1 r1 =>
      cases ry with
      | lst h2 s2 r2 =>
        refine ⟨_, _, _, _, rfl, rfl, h1, h2, by rw [r1.length, r2.length]; exact okLen_le hl, fun p hp => ?_⟩
        exact k _ _ (same_new hp) (.lst upd_same (new p hp) ((r1.append r2).same (same_new hp))) fun _ => frs_lst hp (r1.append r2)
  · cases q

/-! == and != of data -/
theorem Rp.dp {S : Addr → Prop} {H : Hp} : ∀ {d : PyData} {v : V}, Rp K H S v d → SeqAt.shaped d = true → Dp K H v d := by
  have key : (∀ {v : V} {d : PyData}, Rp K H S v d → d.canLay0 = true → Dp K H v d) ∧ (∀ {vs : List V} {ds : List PyData}, RpA K H S vs ds → PyData.canLayAll0 ds = true → DpAll K H vs ds) := by
    refine ⟨fun {v d} r => ?_, fun {vs ds} r => ?_⟩
    · exact Rp.rec (K := K) (H := H) (S := S) (motive_1 := fun v d _ => d.canLay0 = true → Dp K H v d) (motive_2 := fun vs ds _ => PyData.canLayAll0 ds = true → DpAll K H vs ds)
        (fun _ => .non) (fun b _ => .bl b) (fun i _ => .int i) (fun x _ => .str x) (fun h _ ih c => .tup h.sq (ih (by simpa [PyData.canLay0] using c))) (fun h _ _ ih c => .lst (SqL.of h) (ih (by simpa [PyData.canLay0] using c)))
        (fun _ _ _ c => by simp [PyData.canLay0] at c) (fun _ _ _ _ _ c => by simp [PyData.canLay0] at c) (fun _ _ _ _ _ c => by simp [PyData.canLay0] at c) (fun _ _ _ _ c => by simp [PyData.canLay0] at c) (fun _ => .nil)
        (fun _ _ ih1 ih2 c => by
          simp only [PyData.canLayAll0, Bool.and_eq_true] at c
          exact .cons (ih1 c.1) (ih2 c.2)) r
    · exact RpA.rec (K := K) (H := H) (S := S) (motive_1 := fun v d _ => d.canLay0 = true → Dp K H v d) (motive_2 := fun vs ds _ => PyData.canLayAll0 ds = true → DpAll K H vs ds)
        (fun _ => .non) (fun b _ => .bl b) (fun i _ => .int i) (fun x _ => .str x) (fun h _ ih c => .tup h.sq (ih (by simpa [PyData.canLay0] using c))) (fun h _ _ ih c => .lst (SqL.of h) (ih (by simpa [PyData.canLay0] using c)))
        (fun _ _ _ c => by simp [PyData.canLay0] at c) (fun _ _ _ _ _ c => by simp [PyData.canLay0] at c) (fun _ _ _ _ _ c => by simp [PyData.canLay0] at c) (fun _ _ _ _ c => by simp [PyData.canLay0] at c) (fun _ => .nil)
        (fun _ _ ih1 ih2 c => by
          simp only [PyData.canLayAll0, Bool.and_eq_true] at c
          exact .cons (ih1 c.1) (ih2 c.2)) r
  intro d v r c
  exact key.1 r (SeqAt.canLay_of_shaped c)
def oEq : PyData → PyData → Option PyData := fun d e => if SeqAt.shaped d = true ∧ SeqAt.shaped e = true then some (.bool (PyData.eqv d e)) else none
def oNe : PyData → PyData → Option PyData := fun d e => if SeqAt.shaped d = true ∧ SeqAt.shaped e = true then some (.bool (!PyData.eqv d e)) else none
theorem s_eq : SemB K (rEqD K) false oEq := fun S H x y d e z Q new rx ry q k => by
  obtain ⟨h, rfl⟩ := if_some q
  exact ⟨d, e, rx.dp h.1, ry.dp h.2, h.1, h.2, k _ H (Same.refl H) (.bl _) fun z => nomatch z⟩
theorem s_ne : SemB K (rNeD K) false oNe := fun S H x y d e z Q new rx ry q k => by
  obtain ⟨h, rfl⟩ := if_some q
  exact ⟨d, e, rx.dp h.1, ry.dp h.2, h.1, h.2, k _ H (Same.refl H) (.bl _) fun z => nomatch z⟩
/-! is None -/
def isNon : PyData → Bool
  | .none => true
  | _ => false
def oIsN : PyData → PyData → Option PyData := fun d e => match e with | .none => some (.bool (isNon d)) | _ => none
def oNotN : PyData → PyData → Option PyData := fun d e => match e with | .none => some (.bool (!isNon d)) | _ => none
theorem isNon_of {S : Addr → Prop} {H : Hp} {v : V} {d : PyData} (r : Rp K H S v d) : isNon d = decide (v = .non) := by
  cases r <;> rfl
theorem s_isN : SemB K (fun x y H Q => y = .non ∧ Q (.bl (decide (x = .non))) H) false oIsN := fun S H x y d e z Q new rx ry q k => by
  unfold oIsN at q
  split at q
  · cases q
    cases ry
    rw [isNon_of rx] at k
    exact ⟨rfl, k _ H (Same.refl H) (.bl _) fun z => nomatch z⟩
  · cases q
theorem s_notN : SemB K (fun x y H Q => y = .non ∧ Q (.bl (!decide (x = .non))) H) false oNotN := fun S H x y d e z Q new rx ry q k => by
  unfold oNotN at q
  split at q
  · cases q
    cases ry
    rw [isNon_of rx] at k
    exact ⟨rfl, k _ H (Same.refl H) (.bl _) fun z => nomatch z⟩
  · cases q
/-! in -/
def flatD : PyData → Bool
  | .none | .bool _ | .int _ | .str _ => true
  | _ => false
theorem flat_of {S : Addr → Prop} {H : Hp} {v : V} {d : PyData} (r : Rp K H S v d) (h : flatD d = true) : flatV v = true := by
  cases r with
  | non => rfl
  | bl _ => rfl
  | int _ => rfl
  | str _ => rfl
  | tup _ _ => cases h
  | lst _ _ _ => cases h
  | scr _ _ => cases h
  | dic _ _ _ _ => cases h
  | dit _ _ _ _ => cases h
  | dif _ _ _ => cases h
theorem eqV_of {S : Addr → Prop} {H : Hp} {v u : V} {d e : PyData} (r : Rp K H S v d) (t : Rp K H S u e) (hd : flatD d = true) (he : flatD e = true) : eqV v u = PyData.eqv d e := by
  cases r <;> first | cases hd | skip
  all_goals (cases t <;> first | cases he | skip)
  all_goals first
    | rfl
    | (simp only [eqV, PyData.eqv]; done)
    | (simp only [eqV, PyData.eqv]; rfl)
def inD (x : PyData) (ds : List PyData) : Bool := ds.any fun e => PyData.eqv e x
theorem inV_of {S : Addr → Prop} {H : Hp} {v : V} {d : PyData} (r : Rp K H S v d) (hd : flatD d = true) : ∀ {vs : List V} {ds : List PyData}, RpA K H S vs ds → ds.all flatD = true → inV v vs = inD d ds ∧ vs.all flatV = true
  | _, _, .nil, _ => ⟨rfl, rfl⟩
  | _, _, .cons (v := u) (vs := us) (d := e) (ds := es) h1 h2, h => by
    rw [List.all_cons, Bool.and_eq_true] at h
    obtain ⟨i1, i2⟩ := inV_of r hd h2 h.2
    refine ⟨?_, by rw [List.all_cons, flat_of h1 h.1, i2]; rfl⟩
    unfold inV inD at i1 ⊢
    rw [List.any_cons, List.any_cons, eqV_of h1 r h.1 hd, i1]
def oIn (neg : Bool) : PyData → PyData → Option PyData := fun d e => match e with
  | .list ds => if flatD d = true ∧ ds.all flatD = true then some (.bool (if neg then !inD d ds else inD d ds)) else none
  | .tuple ds => if flatD d = true ∧ ds.all flatD = true then some (.bool (if neg then !inD d ds else inD d ds)) else none
  | _ => none
theorem s_in (neg : Bool) : SemB K (rIn K neg) false (oIn neg) := fun S H x y d e z Q new rx ry q k => by
  unfold oIn at q
  split at q
  · obtain ⟨h, rfl⟩ := if_some q
    cases ry with
    | lst h1 s1 r1 =>
      obtain ⟨i1, i2⟩ := inV_of rx h.1 r1 h.2
      refine ⟨_, _, rfl, .inl (SqL.of h1), flat_of rx h.1, i2, ?_⟩
      rw [i1]
      exact k _ H (Same.refl H) (.bl _) fun z => nomatch z
  · obtain ⟨h, rfl⟩ := if_some q
    cases ry with
    | tup h1 r1 =>
      obtain ⟨i1, i2⟩ := inV_of rx h.1 r1 h.2
      refine ⟨_, _, rfl, .inr h1.sq, flat_of rx h.1, i2, ?_⟩
      rw [i1]
      exact k _ H (Same.refl H) (.bl _) fun z => nomatch z
  · cases q

/-! ### built-ins -/
def bLen : List PyData → Option PyData := fun ds => match ds with
  | [.list xs] => some (.int xs.length)
  | [.tuple xs] => some (.int xs.length)
  | [.dict [(.none, .list xs)]] => some (.int xs.length)
  | _ => none
theorem s_len : SemL K (fun xs H Q => ∃ p ys, xs = [.ref p] ∧ (SqL K H p ys ∨ SqT K H p ys) ∧ Q (.int ys.length) H) false bLen := fun S H xs ds z Q new r q k => by
  unfold bLen at q
  split at q
  · cases q
    cases r with
    | cons r1 r2 =>
      cases r2
      cases r1 with
      | lst h1 s1 r1 =>
        refine ⟨_, _, rfl, .inl (SqL.of h1), ?_⟩
        rw [r1.length]
        exact k _ H (Same.refl H) (.int _) fun z => nomatch z
  · cases q
    cases r with
    | cons r1 r2 =>
      cases r2
      cases r1 with
      | tup h1 r1 =>
        refine ⟨_, _, rfl, .inr h1.sq, ?_⟩
        rw [r1.length]
        exact k _ H (Same.refl H) (.int _) fun z => nomatch z
  · cases q
    cases r with
    | cons r1 r2 =>
      cases r2
      generalize e : PyData.dict [(PyData.none, PyData.list _)] = dd at r1
      cases r1 with
      | scr h1 r1 =>
        cases e
        refine ⟨_, _, rfl, .inl h1.sq, ?_⟩
        rw [r1.length]
        exact k _ H (Same.refl H) (.int _) fun z => nomatch z
      | dic _ _ _ _ => cases e
      | dit _ _ _ _ => cases e
      | dif _ _ _ => cases e
      | non => cases e
      | bl _ => cases e
      | int _ => cases e
      | str _ => cases e
      | tup _ _ => cases e
      | lst _ _ _ => cases e
  · cases q
def bInt : List PyData → Option PyData := fun ds => match ds with
  | [.int i] => some (.int i)
  | [.bool b] => some (.int (if b then 1 else 0))
  | _ => none
theorem s_int : SemL K (fun xs H Q => (∃ i, xs = [.int i] ∧ Q (.int i) H) ∨ ∃ k, xs = [.bl k] ∧ Q (.int (if k then 1 else 0)) H) false bInt := fun S H xs ds z Q new r q k => by
  unfold bInt at q
  split at q
  · cases q
    cases r with
    | cons r1 r2 =>
      cases r2
      cases r1
      exact .inl ⟨_, rfl, k _ H (Same.refl H) (.int _) fun z => nomatch z⟩
  · cases q
    cases r with
    | cons r1 r2 =>
      cases r2
      cases r1
      exact .inr ⟨_, rfl, k _ H (Same.refl H) (.int _) fun z => nomatch z⟩
  · cases q
def bAbs : List PyData → Option PyData := fun ds => match ds with
  | [.int i] => some (.int (if i < 0 then -i else i))
  | _ => none
theorem s_abs : SemL K (fun xs H Q => ∃ i, xs = [.int i] ∧ Q (.int (if i < 0 then -i else i)) H) false bAbs := fun S H xs ds z Q new r q k => by
  unfold bAbs at q
  split at q
  · cases q
    cases r with
    | cons r1 r2 =>
      cases r2
      cases r1
      exact ⟨_, rfl, k _ H (Same.refl H) (.int _) fun z => nomatch z⟩
  · cases q
def bMax2 : List PyData → Option PyData := fun ds => match ds with
  | [.int i, .int j] => some (.int (if j > i then j else i))
  | _ => none
theorem s_max2 : SemL K (fun xs H Q => ∃ i j, xs = [.int i, .int j] ∧ Q (.int (if j > i then j else i)) H) false bMax2 := fun S H xs ds z Q new r q k => by
  unfold bMax2 at q
  split at q
  · cases q
    cases r with
    | cons r1 r2 =>
      cases r2 with
      | cons r2 r3 =>
        cases r3
        cases r1
        cases r2
        exact ⟨_, _, rfl, k _ H (Same.refl H) (.int _) fun z => nomatch z⟩
  · cases q
def bMin2 : List PyData → Option PyData := fun ds => match ds with
  | [.int i, .int j] => some (.int (if j < i then j else i))
  | _ => none
theorem s_min2 : SemL K (fun xs H Q => ∃ i j, xs = [.int i, .int j] ∧ Q (.int (if j < i then j else i)) H) false bMin2 := fun S H xs ds z Q new r q k => by
  unfold bMin2 at q
  split at q
  · cases q
    cases r with
    | cons r1 r2 =>
      cases r2 with
      | cons r2 r3 =>
        cases r3
        cases r1
        cases r2
        exact ⟨_, _, rfl, k _ H (Same.refl H) (.int _) fun z => nomatch z⟩
  · cases q
def bList : List PyData → Option PyData := fun ds => match ds with
  | [.list xs] => some (.list xs)
  | [.tuple xs] => some (.list xs)
  | _ => none
theorem s_list : SemL K (fun xs H Q => ∃ p ys, xs = [.ref p] ∧ (SqL K H p ys ∨ SqT K H p ys) ∧ ∀ l, H l = none → Q (.ref l) (upd H l (.lst ys))) true bList := fun S H xs ds z Q new r q k => by
  unfold bList at q
  split at q
  · cases q
    cases r with
    | cons r1 r2 =>
      cases r2
      cases r1 with
      | lst h1 s1 r1 => exact ⟨_, _, rfl, .inl (SqL.of h1), fun p hp => k _ _ (same_new hp) (.lst upd_same (new p hp) (r1.same (same_new hp))) fun _ => frs_lst hp r1⟩
  · cases q
    cases r with
    | cons r1 r2 =>
      cases r2
      cases r1 with
      | tup h1 r1 => exact ⟨_, _, rfl, .inr h1.sq, fun p hp => k _ _ (same_new hp) (.lst upd_same (new p hp) (r1.same (same_new hp))) fun _ => frs_lst hp r1⟩
  · cases q
def bTuple : List PyData → Option PyData := fun ds => match ds with
  | [.list xs] => some (.tuple xs)
  | [.tuple xs] => some (.tuple xs)
  | _ => none
theorem s_tuple : SemL K (rTupOfF K) false bTuple := fun S H xs ds z Q new r q k => by
  unfold bTuple at q
  split at q
  · cases q
    cases r with
    | cons r1 r2 =>
      cases r2
      cases r1 with
      | lst h1 s1 r1 => exact ⟨_, _, rfl, .inl ⟨SqL.of h1, fun p o hp hd => k _ _ (same_new hp) (.tup (.inl ⟨o, upd_same, hd⟩) (r1.same (same_new hp))) fun z => nomatch z⟩⟩
  · cases q
    cases r with
    | cons r1 r2 =>
      cases r2
      cases r1 with
      | tup h1 r1 => exact ⟨_, _, rfl, .inr ⟨h1.sq, k _ H (Same.refl H) (.tup h1 r1) fun z => nomatch z⟩⟩
  · cases q
/-! numbers in a row -/
def asInts : List PyData → Option (List Int)
  | [] => some []
  | .int i :: ds => (asInts ds).map (i :: ·)
  | _ => none
theorem asInts_eq : ∀ {ds : List PyData} {ns : List Int}, asInts ds = some ns → ds = ns.map PyData.int
  | [], ns, h => by
    cases h
    rfl
  | d :: ds, ns, h => by
    cases d with
    | int i =>
      have h : (asInts ds).map (i :: ·) = some ns := h
      cases e : asInts ds with
      | none =>
        rw [e] at h
        cases h
      | some ms =>
        rw [e] at h
        cases h
        rw [asInts_eq e]
        rfl
    | none => cases h
    | bool _ => cases h
    | str _ => cases h
    | list _ => cases h
    | tuple _ => cases h
    | dict _ => cases h
theorem asInts_map : ∀ ns : List Int, asInts (ns.map PyData.int) = some ns
  | [] => rfl
  | n :: ns => by
    show (asInts (ns.map PyData.int)).map (n :: ·) = some (n :: ns)
    rw [asInts_map ns]
    rfl
def sumZ : List Int → Int := List.sum
def bSum : List PyData → Option PyData := fun ds => match ds with
  | [.list xs] => (asInts xs).map fun ns => .int ns.sum
  | _ => none
theorem s_sum : SemL K (rSum K) false bSum := fun S H xs ds z Q new r q k => by
  unfold bSum at q
  split at q
  · rename_i ys
    obtain ⟨ns, e, rfl⟩ := Option.map_eq_some_iff.mp q
    cases r with
    | cons r1 r2 =>
      cases r2
      cases r1 with
      | lst h1 s1 r1 =>
        rw [asInts_eq e] at r1
        rw [RpA.of_ints r1] at h1
        exact ⟨_, ns, rfl, SqL.of h1, k _ H (Same.refl H) (.int _) fun z => nomatch z⟩
  · cases q
/-- the least, the greatest -/
def minZ (n : Int) (ns : List Int) : Int := ns.foldl (fun a b => if b < a then b else a) n
def maxZ (n : Int) (ns : List Int) : Int := ns.foldl (fun a b => if a < b then b else a) n
theorem minZ_mem : ∀ (ns : List Int) (n : Int), minZ n ns ∈ n :: ns ∧ ∀ y ∈ n :: ns, minZ n ns ≤ y
  | [], n => ⟨List.mem_cons_self, fun y hy => by
    have : y = n := by simpa using hy
    rw [this]
    exact Int.le_refl _⟩
  | m :: ns, n => by
    obtain ⟨h1, h2⟩ := minZ_mem ns (if m < n then m else n)
    have e : minZ n (m :: ns) = minZ (if m < n then m else n) ns := rfl
    rw [e]
    have h3 := h2 _ List.mem_cons_self
    refine ⟨?_, fun y hy => ?_⟩
    · rcases List.mem_cons.mp h1 with z | z
      · rw [z]
        split
        · exact List.mem_cons_of_mem _ List.mem_cons_self
        · exact List.mem_cons_self
      · exact List.mem_cons_of_mem _ (List.mem_cons_of_mem _ z)
    · rcases List.mem_cons.mp hy with z | hy
      · rw [z]
        exact Int.le_trans h3 (by split <;> omega)
      · rcases List.mem_cons.mp hy with z | hy
        · rw [z]
          exact Int.le_trans h3 (by split <;> omega)
        · exact h2 y (List.mem_cons_of_mem _ hy)
theorem maxZ_mem : ∀ (ns : List Int) (n : Int), maxZ n ns ∈ n :: ns ∧ ∀ y ∈ n :: ns, y ≤ maxZ n ns
  | [], n => ⟨List.mem_cons_self, fun y hy => by
    have : y = n := by simpa using hy
    rw [this]
    exact Int.le_refl _⟩
  | m :: ns, n => by
    obtain ⟨h1, h2⟩ := maxZ_mem ns (if n < m then m else n)
    have e : maxZ n (m :: ns) = maxZ (if n < m then m else n) ns := rfl
    rw [e]
    have h3 := h2 _ List.mem_cons_self
    refine ⟨?_, fun y hy => ?_⟩
    · rcases List.mem_cons.mp h1 with z | z
      · rw [z]
        split
        · exact List.mem_cons_of_mem _ List.mem_cons_self
        · exact List.mem_cons_self
      · exact List.mem_cons_of_mem _ (List.mem_cons_of_mem _ z)
    · rcases List.mem_cons.mp hy with z | hy
      · rw [z]
        exact Int.le_trans (by split <;> omega) h3
      · rcases List.mem_cons.mp hy with z | hy
        · rw [z]
          exact Int.le_trans (by split <;> omega) h3
        · exact h2 y (List.mem_cons_of_mem _ hy)
def bMin : List PyData → Option PyData := fun ds => match ds with
  | [.list xs] => (match asInts xs with | some (n :: ns) => some (.int (minZ n ns)) | _ => none)
  | _ => none
def bMax : List PyData → Option PyData := fun ds => match ds with
  | [.list xs] => (match asInts xs with | some (n :: ns) => some (.int (maxZ n ns)) | _ => none)
  | _ => none
theorem s_min : SemL K (rMin K) false bMin := fun S H xs ds z Q new r q k => by
  unfold bMin at q
  split at q
  · split at q
    · rename_i ys n ns e
      cases q
      cases r with
      | cons r1 r2 =>
        cases r2
        cases r1 with
        | lst h1 s1 r1 =>
          rw [asInts_eq e] at r1
          rw [RpA.of_ints r1] at h1
          refine ⟨_, n :: ns, rfl, SqL.of h1, Nat.succ_pos _, fun m hm hle => ?_⟩
          obtain ⟨g1, g2⟩ := minZ_mem ns n
          have : m = minZ n ns := Int.le_antisymm (hle _ g1) (g2 _ hm)
          rw [this]
          exact k _ H (Same.refl H) (.int _) fun z => nomatch z
    · cases q
  · cases q
theorem s_max : SemL K (rMax K) false bMax := fun S H xs ds z Q new r q k => by
  unfold bMax at q
  split at q
  · split at q
    · rename_i ys n ns e
      cases q
      cases r with
      | cons r1 r2 =>
        cases r2
        cases r1 with
        | lst h1 s1 r1 =>
          rw [asInts_eq e] at r1
          rw [RpA.of_ints r1] at h1
          refine ⟨_, n :: ns, rfl, SqL.of h1, Nat.succ_pos _, fun m hm hle => ?_⟩
          obtain ⟨g1, g2⟩ := maxZ_mem ns n
          have : m = maxZ n ns := Int.le_antisymm (g2 _ hm) (hle _ g1)
          rw [this]
          exact k _ H (Same.refl H) (.int _) fun z => nomatch z
    · cases q
  · cases q
end
end Pu

set_option Elab.async false
set_option linter.all false
set_option maxRecDepth 100000
set_option maxHeartbeats 2000000
namespace Pu
open PySem PySem.Spec PyProof.Rows L2

/-! ### sorted of a list or a tuple of numbers -/
section
variable {prog : Program} {w : World} {A : Around} {E : Value → Shared → Prop} {s : Shared}
theorem sorted_seqO {l : Addr} {T : String} {o : Obj} {n : Nat} {vs : List Value} {ltv : Value → Value → Bool} {Q : Value → Shared → Prop} (O : SrtO.Swo ltv) (hT : T = "list" ∨ T = "tuple") (ho : s.heap.get? l = some o) (hc : o.cls = .type T) (hd : o.data = .seq vs.toArray n) (hz : vs.length ≤ sizeLine)
    (hS : 2 ≤ vs.length → ∀ (h1 : Heap) (a : Addr), SrtO.SortableO prog w A.in1.in1 { s with heap := h1 } a vs ltv)
    (h : ∀ (out : List Value) (h1 h2 : Heap) (e : Nat), SrtO.Srtd ltv out → SrtO.Stb ltv out vs → (∀ b ob, s.heap.get? b = some ob → h1.get? b = some ob) → h2.get? h1.objs.size = some { cls := .type "list", data := .seq out.toArray e } → (∀ b ob, h1.get? b = some ob → h2.get? b = some ob) → Q (.ref h1.objs.size) { s with heap := h2 }) :
    wpAny (model prog w) A (call (.builtin "sorted") [.ref l]) Q E s := by
  refine Calls.call_function_entry PyProof.Rows.kind_sorted PyProof.Rows.plain_sorted PyProof.Rows.entry_sorted (PyProof.Rows.args_sorted1 _) ?_
  unfold Builtin.«sorted»
  refine wpAny_bind (m := checkCount "sorted" 1 1 _) (wpAny_pure ?_)
  refine wpAny_bind (wpAny_collect_seq (items := vs.toArray) (n := n) l hT ho hc hd (fun h1 k1 => ?_) (by rw [List.size_toArray]; exact hz))
  refine wpAny_bind (wpAny_newList ?_ (by simpa using hz))
  have hoL : (h1.push (PyProof.Rows.seqObj "list" vs.toArray 0)).get? h1.objs.size = some (PyProof.Rows.seqObj "list" vs.toArray 0) := Heap.get?_push_size _ rfl
  have e0 : vs.toArray.toList = vs := by simp
  rw [e0]
  show wpAny _ _ _ _ _ { s with heap := h1.push (PyProof.Rows.seqObj "list" vs.toArray 0) }
  refine wpAny_bind (wpAny_holding (wpAny_call_entry PyProof.Rows.slot_list_sort ⟨_, hoL, rfl⟩ PyProof.Rows.entry_list_sort (SrtO.list_sort_ord O hoL hz (fun h2 => hS h2 _ _) fun out hs hb => ⟨_, rfl, ?_⟩) (PyProof.Rows.args_list_sort _)))
  obtain ⟨e, he⟩ := PyProof.Rows.sortedHeap_at (out := out.toArray) hoL
  refine wpAny_pure ⟨_, rfl, h out h1 _ e hs hb k1 he fun b ob q => ?_⟩
  have hb' := Heap.lt_size q
  rw [PyProof.Rows.sortedHeap_old (Nat.ne_of_lt hb') (by rw [PyProof.Rows.size_push']; exact Nat.lt_succ_of_lt hb')]
  exact Heap.get?_push_of_some _ q
end
section
variable {X : Cx} {K : PySem.W.Frag}
/-- sorted(x): x a list or a tuple of ints -/
def rSrt (K : PySem.W.Frag) : List V → Hp → VK → Prop := fun vs H Q => ∃ (a : Addr) (ns : List Int), vs = [V.ref a] ∧ (SqL K H a (ns.map V.int) ∨ SqT K H a (ns.map V.int)) ∧
  ∀ (ns' : List Int) (p : Addr), ns'.Perm ns → ns'.Pairwise (· ≤ ·) → H p = none → Q (.ref p) (upd H p (.lst (ns'.map V.int)))
theorem cr_srt : CallR X (.builtin "sorted") (rSrt X.K) := by
  intro pins s σ H vs us Q I r h
  obtain ⟨a, ns, rfl, hs, q⟩ := h
  rw [Vals.ref1 r]
  have fin : ∀ (T : String) (o : Obj) (n : Nat) (its : List Value), (T = "list" ∨ T = "tuple") → s.heap.get? a = some o → o.cls = .type T → o.data = .seq its.toArray n → Vals (ns.map V.int) its → (ns.map V.int).length ≤ sizeLine →
      wpAny (model X.prog X.w) X.A (call (.builtin "sorted") [.ref a]) (EP X pins σ Q) X.xe s := fun T o n its hT ho hc hd rv hz => by
    have hi := rv.ints
    refine sorted_seqO SrtO.swo_int hT ho hc hd (by rw [← rv.length]; exact hz) (fun h2 h1 a' => SrtO.ints_sortable hi h2) fun out h1 h2 e s1 s2 k1 he k2 => ?_
    obtain ⟨g1, g2, g3⟩ := SrtO.ints_out hi s1 s2
    have I1 : Inv X pins σ H { s with heap := h1 } := I.kept (t' := s.toks) k1
    have hl : ((out.map SrtO.iv).map V.int).length ≤ sizeLine := by
      rw [List.length_map, g2.length_eq]
      rw [List.length_map] at hz
      exact hz
    exact ⟨.ref _, upd H h1.objs.size (.lst ((out.map SrtO.iv).map V.int)), I1.laid (t' := s.toks) k2 (Nat.le_refl _) ⟨hl, out, e, vals_of_ints g1, he⟩, rfl, q _ _ g2 g3 (I1.hok.fresh (Nat.le_refl _))⟩
  rcases hs with hs | hs
  · obtain ⟨its, rv, ⟨o, n, ho, hc, _, hd⟩, hz⟩ := I.list hs
    exact fin "list" o n its (.inl rfl) ho hc hd rv hz
  · obtain ⟨its, rv, ⟨o, ho, hc, n, hd⟩, hz⟩ := I.tuple hs
    exact fin "tuple" o n its (.inr rfl) ho hc hd rv hz
def srtZ (ns : List Int) : List Int := ns.mergeSort fun a b => decide (a ≤ b)
theorem srtZ_perm (ns : List Int) : (srtZ ns).Perm ns := List.mergeSort_perm _ _
theorem srtZ_sorted (ns : List Int) : (srtZ ns).Pairwise (· ≤ ·) := by
  have := List.pairwise_mergeSort (le := fun (a b : Int) => decide (a ≤ b)) (fun a b c h1 h2 => by
    simp only [decide_eq_true_eq] at *
    omega) (fun a b => by
    simp only [Bool.or_eq_true, decide_eq_true_eq]
    omega) ns
  exact this.imp fun h => by simpa using h
theorem srtZ_uniq {ns ms : List Int} (h : ms.Perm ns) (hs : ms.Pairwise (· ≤ ·)) : ms = srtZ ns :=
  List.Perm.eq_of_pairwise (fun a b _ _ h1 h2 => Int.le_antisymm h1 h2) hs (srtZ_sorted ns) (h.trans (srtZ_perm ns).symm)
def bSorted : List PyData → Option PyData := fun ds => match ds with
  | [.list xs] => (asInts xs).map fun ns => .list ((srtZ ns).map PyData.int)
  | [.tuple xs] => (asInts xs).map fun ns => .list ((srtZ ns).map PyData.int)
  | _ => none
theorem s_sorted : SemL K (rSrt K) true bSorted := fun S H xs ds z Q new r q k => by
  unfold bSorted at q
  split at q
  · obtain ⟨ns, e, rfl⟩ := Option.map_eq_some_iff.mp q
    cases r with
    | cons r1 r2 =>
      cases r2
      cases r1 with
      | lst h1 s1 r1 =>
        rw [asInts_eq e] at r1
        rw [RpA.of_ints r1] at h1
        refine ⟨_, ns, rfl, .inl (SqL.of h1), fun ns' p hp hs hn => ?_⟩
        rw [srtZ_uniq hp hs]
        exact k _ _ (same_new hn) (.lst upd_same (new p hn) (RpA.ints _)) fun _ => frs_lst hn (RpA.ints _)
  · obtain ⟨ns, e, rfl⟩ := Option.map_eq_some_iff.mp q
    cases r with
    | cons r1 r2 =>
      cases r2
      cases r1 with
      | tup h0 r1 =>
        have h1 := h0.sq
        rw [asInts_eq e] at r1
        rw [RpA.of_ints r1] at h1
        refine ⟨_, ns, rfl, .inr h1, fun ns' p hp hs hn => ?_⟩
        rw [srtZ_uniq hp hs]
        exact k _ _ (same_new hn) (.lst upd_same (new p hn) (RpA.ints _)) fun _ => frs_lst hn (RpA.ints _)
  · cases q

/-! ### min, max of a tuple of numbers -/
def rMinT (K : PySem.W.Frag) : List V → Hp → VK → Prop := fun vs H Q => ∃ (a : Addr) (n : Int) (ns : List Int), vs = [V.ref a] ∧ SqT K H a ((n :: ns).map V.int) ∧ Q (.int (minZ n ns)) H
def rMaxT (K : PySem.W.Frag) : List V → Hp → VK → Prop := fun vs H Q => ∃ (a : Addr) (n : Int) (ns : List Int), vs = [V.ref a] ∧ SqT K H a ((n :: ns).map V.int) ∧ Q (.int (maxZ n ns)) H
theorem dpAll_ints {H : Hp} : ∀ ns : List Int, DpAll K H (ns.map V.int) (ns.map PyData.int)
  | [] => .nil
  | n :: ns => .cons (.int n) (dpAll_ints ns)
theorem minD_ints : ∀ (ns : List Int) (n : Int), PySem.W.minD (.int n) (ns.map PyData.int) = .int (minZ n ns)
  | [], n => rfl
  | m :: ns, n => by
    show List.foldl _ (if PySem.W.dataLt (.int m) (.int n) then PyData.int m else PyData.int n) (ns.map PyData.int) = PyData.int (minZ (if m < n then m else n) ns)
    have e : PySem.W.dataLt (.int m) (.int n) = decide (m < n) := by
      unfold PySem.W.dataLt
      simp [PySem.W.keyToks, PyProof.Rows.lexLt, itemOrd]
      rfl
    rw [e]
    by_cases h : m < n
    · rw [if_pos (decide_eq_true h), if_pos h]
      exact minD_ints ns m
    · rw [if_neg (by simpa using h), if_neg h]
      exact minD_ints ns n
theorem maxD_ints : ∀ (ns : List Int) (n : Int), PySem.W.maxD (.int n) (ns.map PyData.int) = .int (maxZ n ns)
  | [], n => rfl
  | m :: ns, n => by
    show List.foldl _ (if PySem.W.dataLt (.int n) (.int m) then PyData.int m else PyData.int n) (ns.map PyData.int) = PyData.int (maxZ (if n < m then m else n) ns)
    have e : PySem.W.dataLt (.int n) (.int m) = decide (n < m) := by
      unfold PySem.W.dataLt
      simp [PySem.W.keyToks, PyProof.Rows.lexLt, itemOrd]
      rfl
    rw [e]
    by_cases h : n < m
    · rw [if_pos (decide_eq_true h), if_pos h]
      exact maxD_ints ns m
    · rw [if_neg (by simpa using h), if_neg h]
      exact maxD_ints ns n
theorem alike_ints (ns : List Int) : PySem.W.AlikeAll (ns.map PyData.int) := by
  refine ⟨fun x hx y hy => ?_, fun x hx => ?_⟩
  · obtain ⟨i, _, rfl⟩ := List.mem_map.mp hx
    obtain ⟨j, _, rfl⟩ := List.mem_map.mp hy
    rfl
  · obtain ⟨i, _, rfl⟩ := List.mem_map.mp hx
    exact fun z => nomatch z
theorem depth_ints : ∀ ns : List Int, PyData.depthAll (ns.map PyData.int) ≤ 1
  | [] => by simp [PyData.depthAll]
  | n :: ns => by
    have := depth_ints ns
    simp only [List.map_cons, PyData.depthAll, PyData.depth]
    omega
theorem cr_minT (hc : X.calm = true) {k : Nat} (hr : Room k X.A) : CallR X (.builtin "min") (rMinT X.K) := by
  intro pins s σ H vs us Q I r h
  obtain ⟨a, n, ns, rfl, hs, q⟩ := h
  rw [Vals.ref1 r]
  obtain ⟨its, rv, ⟨o, ho, hcl, m, hd⟩, hz⟩ := I.tuple hs
  obtain ⟨as, ra⟩ := Dp.readsAll I ((n :: ns).map PyData.int) _ its (dpAll_ints (n :: ns)) rv
  have hu := hr.units
  have hde := depth_ints (n :: ns)
  refine PySem.W.min_tuple_data (x := .int n) (xs := ns.map PyData.int) (I.ok.hd hc) ⟨o, ho, hcl, m, hd⟩ ra (alike_ints (n :: ns)) (by
    have e : PyData.depthAll (PyData.int n :: ns.map PyData.int) = PyData.depthAll ((n :: ns).map PyData.int) := rfl
    rw [e]
    omega) fun i v h' tk bs hv rd kp => ?_
  rw [minD_ints] at rd
  obtain ⟨t, rfl⟩ : ∃ t, v = .int (minZ n ns) t := by
    cases rd
    exact ⟨_, rfl⟩
  exact ⟨.int _, H, I.kept (t' := tk) kp, ⟨t, rfl⟩, q⟩
theorem cr_maxT (hc : X.calm = true) {k : Nat} (hr : Room k X.A) : CallR X (.builtin "max") (rMaxT X.K) := by
  intro pins s σ H vs us Q I r h
  obtain ⟨a, n, ns, rfl, hs, q⟩ := h
  rw [Vals.ref1 r]
  obtain ⟨its, rv, ⟨o, ho, hcl, m, hd⟩, hz⟩ := I.tuple hs
  obtain ⟨as, ra⟩ := Dp.readsAll I ((n :: ns).map PyData.int) _ its (dpAll_ints (n :: ns)) rv
  have hu := hr.units
  have hde := depth_ints (n :: ns)
  refine PySem.W.max_tuple_data (x := .int n) (xs := ns.map PyData.int) (I.ok.hd hc) ⟨o, ho, hcl, m, hd⟩ ra (alike_ints (n :: ns)) (by
    have e : PyData.depthAll (PyData.int n :: ns.map PyData.int) = PyData.depthAll ((n :: ns).map PyData.int) := rfl
    rw [e]
    omega) fun i v h' tk bs hv rd kp => ?_
  rw [maxD_ints] at rd
  obtain ⟨t, rfl⟩ : ∃ t, v = .int (maxZ n ns) t := by
    cases rd
    exact ⟨_, rfl⟩
  exact ⟨.int _, H, I.kept (t' := tk) kp, ⟨t, rfl⟩, q⟩
def bMinA : List PyData → Option PyData := fun ds => match ds with
  | [.list xs] => (match asInts xs with | some (n :: ns) => some (.int (minZ n ns)) | _ => none)
  | [.tuple xs] => (match asInts xs with | some (n :: ns) => some (.int (minZ n ns)) | _ => none)
  | _ => none
def bMaxA : List PyData → Option PyData := fun ds => match ds with
  | [.list xs] => (match asInts xs with | some (n :: ns) => some (.int (maxZ n ns)) | _ => none)
  | [.tuple xs] => (match asInts xs with | some (n :: ns) => some (.int (maxZ n ns)) | _ => none)
  | _ => none
theorem s_minA : SemL K (fun xs H Q => rMin K xs H Q ∨ rMinT K xs H Q) false bMinA := fun S H xs ds z Q new r q k => by
  unfold bMinA at q
  split at q
  · exact .inl (s_min S H _ _ z Q new r q k)
  · split at q
    · rename_i ys n ns e
      cases q
      cases r with
      | cons r1 r2 =>
        cases r2
        cases r1 with
        | tup h0 r1 =>
          have h1 := h0.sq
          rw [asInts_eq e] at r1
          rw [RpA.of_ints r1] at h1
          exact .inr ⟨_, n, ns, rfl, h1, k _ H (Same.refl H) (.int _) fun z => nomatch z⟩
    · cases q
  · cases q
theorem s_maxA : SemL K (fun xs H Q => rMax K xs H Q ∨ rMaxT K xs H Q) false bMaxA := fun S H xs ds z Q new r q k => by
  unfold bMaxA at q
  split at q
  · exact .inl (s_max S H _ _ z Q new r q k)
  · split at q
    · rename_i ys n ns e
      cases q
      cases r with
      | cons r1 r2 =>
        cases r2
        cases r1 with
        | tup h0 r1 =>
          have h1 := h0.sq
          rw [asInts_eq e] at r1
          rw [RpA.of_ints r1] at h1
          exact .inr ⟨_, n, ns, rfl, h1, k _ H (Same.refl H) (.int _) fun z => nomatch z⟩
    · cases q
  · cases q
theorem cr_minA (hc : X.calm = true) {k : Nat} (hr : Room k X.A) : CallR X (.builtin "min") (fun xs H Q => rMin X.K xs H Q ∨ rMinT X.K xs H Q) := (cr_min hc).or (cr_minT hc hr)
theorem cr_maxA (hc : X.calm = true) {k : Nat} (hr : Room k X.A) : CallR X (.builtin "max") (fun xs H Q => rMax X.K xs H Q ∨ rMaxT X.K xs H Q) := (cr_max hc).or (cr_maxT hc hr)

/-! ### items and slices -/
def atD (ds : List PyData) (i : Int) : Option PyData := (ixN ds.length i).bind fun j => ds[j]?
def oIx : PyData → PyData → Option PyData := fun d e => match d, e with
  | .list ds, .int i => atD ds i
  | .tuple ds, .int i => atD ds i
  | .dict [(.none, .list ds)], .int i => atD ds i
  | _, _ => none
theorem atD_of {S : Addr → Prop} {H : Hp} {vs : List V} {ds : List PyData} {i : Int} {z : PyData} (r : RpA K H S vs ds) (q : atD ds i = some z) : ∃ v, atI vs i = some v ∧ Rp K H S v z := by
  unfold atD at q
  obtain ⟨j, e1, e2⟩ := Option.bind_eq_some_iff.mp q
  obtain ⟨v, hv, rv⟩ := r.get' e2
  refine ⟨v, ?_, rv⟩
  unfold atI
  rw [r.length, e1]
  exact hv
theorem s_ix : SemB K (rIx K) false oIx := fun S H x y d e z Q new rx ry q k => by
  unfold oIx at q
  split at q
  · cases ry
    cases rx with
    | lst h1 s1 r1 =>
      obtain ⟨v, hv, rv⟩ := atD_of r1 q
      exact .inl ⟨_, _, _, v, rfl, rfl, SqL.of h1, hv, k v H (Same.refl H) rv fun z => nomatch z⟩
  · cases ry
    cases rx with
    | tup h1 r1 =>
      obtain ⟨v, hv, rv⟩ := atD_of r1 q
      exact .inr (.inl ⟨_, _, _, v, rfl, rfl, h1.sq, hv, k v H (Same.refl H) rv fun z => nomatch z⟩)
  · cases ry
    rename_i ds i
    generalize e : PyData.dict [(PyData.none, PyData.list ds)] = dd at rx
    cases rx with
    | scr h1 r1 =>
      cases e
      obtain ⟨v, hv, rv⟩ := atD_of r1 q
      exact .inl ⟨_, _, _, v, rfl, rfl, h1.sq, hv, k v H (Same.refl H) rv fun z => nomatch z⟩
    | dic _ _ _ _ => cases e
    | dit _ _ _ _ => cases e
    | dif _ _ _ => cases e
    | non => cases e
    | bl _ => cases e
    | int _ => cases e
    | str _ => cases e
    | tup _ _ => cases e
    | lst _ _ _ => cases e
  · cases q
section
variable {M : Nat → Bool} {F : Fx} {E : L2.St → XK} {la lb fa fb : Bool} {a b : Expr} {f g : Rho → Re PyData} {pos : Pos}
theorem de_ix (ha : DE X M F E la fa a f) (hb : DE X M F E lb fb b g) (hs : PlainIx b := by intro _ _; rfl) : DE X M F E (la || lb) false (.Subscript a b pos) (r2 oIx f g) := by
  obtain ⟨ta, pa, ha⟩ := ha
  obtain ⟨tb, pb, hb⟩ := hb
  exact ⟨_, pe_ix ix_seq pa pb hs, fun σ H ρ er Q w => two_run ha hb s_ix er w⟩
/-- the ends of a slice -/
def WO (X : Cx) (E : L2.St → XK) (σ : L2.St) (H : Hp) (r : Re (Option Int)) (Q : Option Int → Hp → Prop) : Prop :=
  match r with
  | .ok b => ∀ H', Same H H' → Q b H'
  | .ex c => ∀ C H', X.mg c = some (.ref C) → Same H H' → E σ (.ref C) none H'
  | .bad => False
def DO (X : Cx) (M : Nat → Bool) (F : Fx) (E : L2.St → XK) (e : Option Expr) (f : Rho → Re (Option Int)) : Prop := ∃ t : TO, PO X e t ∧ ∀ σ H ρ, ER X.K M F σ H ρ → ∀ Q, WO X E σ H (f ρ) Q → t σ H Q
def asI (f : Rho → Re PyData) : Rho → Re (Option Int) := fun ρ => (f ρ).andThen fun d => match d with | .int i => .ok (some i) | _ => .bad
def noI : Rho → Re (Option Int) := fun _ => .ok none
theorem do_none : DO X M F E none noI := ⟨_, po_none, fun σ H ρ er Q w => w H (Same.refl H)⟩
theorem do_some (h : DE X M F E la fa a f) : DO X M F E (some a) (asI f) := by
  obtain ⟨t, p, h⟩ := h
  refine ⟨_, po_some p, fun σ H ρ er Q w => h σ H ρ er _ ?_⟩
  unfold asI at w
  cases q : f ρ with
  | ok d =>
    rw [q] at w
    refine fun v H1 s r _ => ?_
    have w : WO X E σ H ((fun d : PyData => match d with | .int i => Re.ok (some i) | _ => Re.bad) d) Q := w
    cases r with
    | int i => exact ⟨i, rfl, w H1 s⟩
    | bl _ => exact w.elim
    | non => exact w.elim
    | str _ => exact w.elim
    | tup _ _ => exact w.elim
    | lst _ _ _ => exact w.elim
    | scr _ _ => exact w.elim
    | dic _ _ _ _ => exact w.elim
    | dit _ _ _ _ => exact w.elim
    | dif _ _ _ => exact w.elim
  | ex c =>
    rw [q] at w
    exact w
  | bad =>
    rw [q] at w
    exact w
def cutD (ds : List PyData) (lo hi : Option Int) : List PyData := (ds.drop (HT.sIx ds.length 0 lo)).take (HT.sIx ds.length ds.length hi - HT.sIx ds.length 0 lo)
def oCut (d : PyData) (lo hi : Option Int) : Re PyData := match d with
  | .tuple ds => .ok (.tuple (cutD ds lo hi))
  | .list ds => .ok (.list (cutD ds lo hi))
  | _ => .bad
theorem cut_rp {S : Addr → Prop} {H : Hp} {vs : List V} {ds : List PyData} {lo hi : Option Int} (r : RpA K H S vs ds) : RpA K H S (cutV vs lo hi) (cutD ds lo hi) := by
  unfold cutV cutD
  rw [r.length]
  exact (r.drop _).take _
theorem cut_whole {ds : List PyData} {lo hi : Option Int} (h : HT.sIx ds.length 0 lo = 0 ∧ HT.sIx ds.length ds.length hi = ds.length) : cutD ds lo hi = ds := by
  unfold cutD
  rw [h.1, h.2, List.drop_zero, Nat.sub_zero, List.take_length]
abbrev rSlTL (K : PySem.W.Frag) : V → Option Int → Option Int → Hp → VK → Prop := fun x lo hi H Q => rSlF K x lo hi H Q ∨ rSlL K x lo hi H Q
theorem sl_tl : SlR X (rSlTL X.K) := sl_tupF.or sl_list
def rCut (f : Rho → Re PyData) (lo hi : Rho → Re (Option Int)) : Rho → Re PyData := fun ρ => (f ρ).andThen fun d => (lo ρ).andThen fun l => (hi ρ).andThen fun h => oCut d l h
theorem wo_step {lk fr : Bool} {σ : L2.St} {ρ : Rho} {H : Hp} {r : Re (Option Int)} {Q : VK} {g : Option Int → Re PyData} {K : Option Int → Hp → Prop} (w : WE X M F E lk fr σ ρ H (r.andThen g) Q)
    (h : ∀ d H', r = .ok d → Same H H' → WE X M F E lk fr σ ρ H' (g d) Q → K d H') : WO X E σ H r K := by
  cases r with
  | ok d =>
    refine fun H' s => h d H' rfl s ?_
    have w : WE X M F E lk fr σ ρ H (g d) Q := w
    cases q : g d with
    | ok z =>
      rw [q] at w
      refine fun v2 H2 s2 r2 f2 => w v2 H2 (s.trans s2) r2 fun z2 => ?_
      obtain ⟨p, e1, e2, e3⟩ := f2 z2
      exact ⟨p, e1, s.free e2, e3⟩
    | ex c =>
      rw [q] at w
      exact fun C H2 m s2 => w C H2 m (s.trans s2)
    | bad =>
      rw [q] at w
      exact w
  | ex c => exact w
  | bad => exact w
theorem de_cut {lo hi : Option Expr} {fl fh : Rho → Re (Option Int)} {p2 : Pos} (ha : DE X M F E la fa a f) (hl : DO X M F E lo fl) (hh : DO X M F E hi fh) : DE X M F E la false (.Subscript a (.Slice lo hi none p2) pos) (rCut f fl fh) := by
  obtain ⟨ta, pa, ha⟩ := ha
  obtain ⟨tl, pl, hl⟩ := hl
  obtain ⟨th, ph, hh⟩ := hh
  refine ⟨_, pe_slice sl_tl pa pl ph, fun σ H ρ er Q w => ?_⟩
  refine ha σ H ρ er _ (we_step w fun d v H1 e1 s1 r1 _ w1 => ?_)
  refine hl σ H1 ρ (er.same s1) _ (wo_step w1 fun l H2 e2 s2 w2 => ?_)
  refine hh σ H2 ρ ((er.same s1).same s2) _ (wo_step w2 fun h H3 e3 s3 w3 => ?_)
  have er3 := ((er.same s1).same s2).same s3
  have r3 := r1.same (s2.trans s3)
  have w3 : WE X M F E la false σ ρ H3 (oCut d l h) Q := w3
  cases r3 with
  | tup h1 rr =>
    refine .inl ⟨_, _, rfl, h1.sq, fun hw => ?_, fun hw p o hp hd => w3 _ _ (same_new hp) (.tup (.inl ⟨o, upd_same, hd⟩) ((cut_rp rr).same (same_new hp))) fun z => nomatch z⟩
    rw [rr.length] at hw
    refine w3 _ H3 (Same.refl _) ?_ fun z => nomatch z
    rw [cut_whole hw]
    exact .tup h1 rr
  | lst h1 ss rr => exact .inr ⟨_, _, rfl, SqL.of h1, fun p hp => w3 _ _ (same_new hp) (.lst upd_same (er3.freshS p hp) ((cut_rp rr).same (same_new hp))) fun z => nomatch z⟩
  | bl _ => exact w3.elim
  | non => exact w3.elim
  | int _ => exact w3.elim
  | str _ => exact w3.elim
  | scr _ _ => exact w3.elim
  | dic _ _ _ _ => exact w3.elim
  | dit _ _ _ _ => exact w3.elim
  | dif _ _ _ => exact w3.elim

/-! ### tuple(range(..)), list(range(..)) -/
def rgOk (a b : Int) : Bool := decide (-1000000 ≤ a) && decide (a ≤ 1000000) && decide (-1000000 ≤ b) && decide (b ≤ 1000000)
theorem rgOk_ok {a b : Int} (h : rgOk a b = true) : RgOk a b := by
  unfold rgOk at h
  simp only [Bool.and_eq_true, decide_eq_true_eq] at h
  obtain ⟨⟨⟨h1, h2⟩, h3⟩, h4⟩ := h
  exact ⟨by omega, by omega, by omega, by omega, by omega⟩
theorem rg_rp {S : Addr → Prop} {H : Hp} (a b : Int) : RpA K H S (rgV a b) (upFrom a (b - a).toNat) := by
  have e1 : rgV a b = ((List.range (b - a).toNat).map fun i => a + ((i : Nat) : Int)).map V.int := by
    unfold rgV
    rw [List.map_map]
    rfl
  have e2 : upFrom a (b - a).toNat = ((List.range (b - a).toNat).map fun i => a + ((i : Nat) : Int)).map PyData.int := by
    unfold upFrom
    rw [List.map_map]
    rfl
  rw [e1, e2]
  exact RpA.ints _
def rTupRg (f g : Rho → Re PyData) : Rho → Re PyData := r2 (fun d e => match d, e with | .int i, .int j => if rgOk i j = true then some (.tuple (upFrom i (j - i).toNat)) else none | _, _ => none) f g
theorem de_tupRg {pp q : Pos} (hc : X.calm = true) (hg : Gl X "tuple") (hm : X.mg "tuple" = none) (hg2 : Gl X "range") (hm2 : X.mg "range" = none) (ha : DE X M F E la fa a f) (hb : DE X M F E lb fb b g)
    (na : starEach [a, b] X.env = (false, eval a X.env) :: starEach [b] X.env := by rfl) (nb : starEach [b] X.env = (false, eval b X.env) :: starEach [] X.env := by rfl)
    (np : (backTo q (starEach [b] X.env)).any (·.1) = false := by rfl) (nc : starEach [Expr.Call (.Name "range" pp) [a, b] [] q] X.env = (false, eval (.Call (.Name "range" pp) [a, b] [] q) X.env) :: starEach [] X.env := by rfl) {p0 : Pos} :
    DE X M F E (la || lb) false (.Call (.Name "tuple" p0) [.Call (.Name "range" pp) [a, b] [] q] [] pos) (rTupRg f g) := by
  obtain ⟨ta, pa, ha⟩ := ha
  obtain ⟨tb, pb, hb⟩ := hb
  refine ⟨_, pe_tupRgF hc hg hm (prg_2 hg2 hm2 pa pb na nb np) nc, fun σ H ρ er Q w => ?_⟩
  refine ha σ H ρ er _ (we_step w fun d v H1 e1 s1 q1 _ w1 => ?_)
  refine hb σ H1 ρ (er.same s1) _ (we_step w1 fun e u H2 e2 s2 q2 _ w2 => ?_)
  cases q1 with
  | int i =>
    cases q2 with
    | int j =>
      have w2 : WE X M F E (la || lb) false σ ρ H2 (liftO (if rgOk i j = true then some (.tuple (upFrom i (j - i).toNat)) else none)) Q := w2
      by_cases hr : rgOk i j = true
      · rw [if_pos hr] at w2
        exact ⟨i, j, rfl, rfl, rgOk_ok hr, fun p o hp hd => w2 _ _ (same_new hp) (.tup (.inl ⟨o, upd_same, hd⟩) (rg_rp i j)) fun z => nomatch z⟩
      · rw [if_neg hr] at w2
        exact w2.elim
    | bl _ => exact w2.elim
    | non => exact w2.elim
    | str _ => exact w2.elim
    | tup _ _ => exact w2.elim
    | lst _ _ _ => exact w2.elim
    | scr _ _ => exact w2.elim
    | dic _ _ _ _ => exact w2.elim
    | dit _ _ _ _ => exact w2.elim
    | dif _ _ _ => exact w2.elim
  | bl _ => exact w2.elim
  | non => exact w2.elim
  | str _ => exact w2.elim
  | tup _ _ => exact w2.elim
  | lst _ _ _ => exact w2.elim
  | scr _ _ => exact w2.elim
  | dic _ _ _ _ => exact w2.elim
  | dit _ _ _ _ => exact w2.elim
  | dif _ _ _ => exact w2.elim
end
end
end Pu

set_option Elab.async false
set_option linter.all false
set_option maxRecDepth 100000
set_option maxHeartbeats 2000000
namespace Pu
open PySem PySem.Spec PyProof.Rows L2

section
variable {X : Cx} {K : PySem.W.Frag} {M : Nat → Bool} {F : Fx} {E : L2.St → XK} {la lb fa fb : Bool} {a b : Expr} {f g : Rho → Re PyData} {pos : Pos} {s u : Rho → Sr}
/-! ### a list or a tuple is walked, is unpacked -/
theorem pi_or {tg it : Expr} {w1 w2 : TI} (h1 : PI X tg it w1) (h2 : PI X tg it w2) : PI X tg it (fun σ H R => w1 σ H R ∨ w2 σ H R) := ⟨fun pins s σ H R I h => h.elim (h1.run pins s σ H R I) (h2.run pins s σ H R I)⟩
theorem pg_or {tg : Expr} {w1 w2 : TG} (h1 : PG X tg w1) (h2 : PG X tg w2) : PG X tg (fun v σ H Q => w1 v σ H Q ∨ w2 v σ H Q) := ⟨fun pins s σ H v u Q I r h => h.elim (h1.run pins s σ H v u Q I r) (h2.run pins s σ H v u Q I r)⟩
def itS (d : PyData) : Re (List PyData) := match d with | .list ds => .ok ds | .tuple ds => .ok ds | _ => .bad
theorem di_seq {tg : Expr} (h : DE X M F E false fa a f) : DI X M F E tg a (iOf itS f) := by
  obtain ⟨t1, p1, h1⟩ := di_list (tg := tg) h
  obtain ⟨t2, p2, h2⟩ := di_tup (tg := tg) h
  refine ⟨_, pi_or p1 p2, fun σ H ρ er R w => ?_⟩
  unfold iOf at w h1 h2
  cases q : f ρ with
  | ex c =>
    rw [q] at w
    refine .inl (h1 σ H ρ er R ?_)
    rw [q]
    exact w
  | bad =>
    rw [q] at w
    exact w.elim
  | ok d =>
    rw [q] at w
    cases d with
    | list ds =>
      refine .inl (h1 σ H ρ er R ?_)
      rw [q]
      exact w
    | tuple ds =>
      refine .inr (h2 σ H ρ er R ?_)
      rw [q]
      exact w
    | none => exact w.elim
    | bool _ => exact w.elim
    | int _ => exact w.elim
    | str _ => exact w.elim
    | dict _ => exact w.elim
def gSeqD (n : Nat) (g : List PyData → Rho → Option Rho) : PyData → Rho → Option Rho := fun d ρ => match d with | .tuple ds => if ds.length = n then g ds ρ else none | .list ds => if ds.length = n then g ds ρ else none | _ => none
theorem dg_seq {es : List Expr} {ts : List Nat} {k : Nat} {n : Nat} {gs : List PyData → Rho → Option Rho} (hc : X.calm = true) (h : DGs X M F es ts gs) (hn : (assignEach es X.env).length = n := by rfl) (hst : (assignEach es X.env).findIdx? (·.1) = none := by rfl) :
    DG X M F (.Tuple es k pos) ts (gSeqD n gs) := by
  obtain ⟨t1, p1, h1⟩ := dg_tup (k := k) (pos := pos) hc h hn hst
  obtain ⟨t2, p2, h2⟩ := dg_lst (k := k) (pos := pos) hc h hn hst
  refine ⟨_, pg_or p1 p2, fun σ H ρ v d ρ' er r e Q kk => ?_⟩
  cases d with
  | tuple ds => exact .inl (h1 σ H ρ v (.tuple ds) ρ' er r e Q kk)
  | list ds => exact .inr (h2 σ H ρ v (.list ds) ρ' er r e Q kk)
  | none => cases e
  | bool _ => cases e
  | int _ => cases e
  | str _ => cases e
  | dict _ => cases e

/-! ### a name's constant -/
theorem de_globE {x : Str} {i : Int} {pos : Pos} (hm : ∃ t, X.mg x = some (.int i t)) (hg : Gl X x := by rfl) (hd : (x == ("__debug__" : Str)) = false := by decide) : DE X M F E false false (.Name x pos) (rC (.int i)) := by
  obtain ⟨t, h⟩ := hm
  exact de_glob hg h hd

/-! ### isinstance -/
def tyD : PyData → String
  | .none => "NoneType"
  | .bool _ => "bool"
  | .int _ => "int"
  | .str _ => "str"
  | .list _ => "list"
  | .tuple _ => "tuple"
  | .dict _ => "dict"
def isD (d : PyData) (T : String) : Option Bool := match d with
  | .dict _ => none
  | d => kitB (tyD d) T
theorem ty_of {S : Addr → Prop} {H : Hp} {v : V} {d : PyData} (r : Rp K H S v d) (nd : ∀ kvs, d ≠ .dict kvs) : TyX K H v (.type (tyD d)) := by
  cases r with
  | non => exact .base .non
  | bl b => exact .base (.bl b)
  | int i => exact .base (.int i)
  | str x => exact .base (.str x)
  | tup h _ =>
    rcases h with ⟨o, h, _⟩ | ⟨o, its, n, hk, hc, _⟩
    · exact .fTuple h
    · exact .kTuple hk hc
  | lst h _ _ => exact .base (.lst h)
  | scr _ _ => exact absurd rfl (nd _)
  | dic _ _ _ _ => exact absurd rfl (nd _)
  | dit _ _ _ _ => exact absurd rfl (nd _)
  | dif _ _ _ => exact absurd rfl (nd _)
/-- isinstance(x, T), T a built-in class -/
theorem de_isi {T : String} {x : Str} {p p1 p2 : Pos} (hg : Gl X "isinstance") (hm : X.mg "isinstance" = none) (hgT : Gl X x) (hmT : X.mg x = none) (hv : bootBuiltins x = some (.type T)) (ha : DE X M F E la fa a f)
    (hnT : x ≠ "__name__" := by decide) (hdT : (x == ("__debug__" : Str)) = false := by decide)
    (h1 : starEach [a, .Name x p1] X.env = (false, eval a X.env) :: starEach [.Name x p1] X.env := by rfl) (h2 : starEach [.Name x p1] X.env = (false, eval (.Name x p1) X.env) :: starEach [] X.env := by rfl) (hpl : (backTo pos (starEach [.Name x p1] X.env)).any (·.1) = false := by rfl) :
    DE X M F E false false (.Call (.Name "isinstance" p) [a, .Name x p1] [] pos) (fun ρ => (f ρ).andThen fun d => liftO ((isD d T).map PyData.bool)) := by
  obtain ⟨t, pa, h⟩ := ha
  refine ⟨_, pe_callB call_isi hg hm PyProof.Rows.boot_isinstance (pa_cons pa (pa_cons (pe_bltn (v := .ty T) hgT hmT hv rfl hnT hdT) pa_nil h2) h1) (he := h1) (hpl := hpl), fun σ H ρ er Q w => ?_⟩
  refine h σ H ρ er _ (we_step w fun d v H1 e s1 r1 _ w1 => ?_)
  cases q : isD d T with
  | none =>
    rw [q] at w1
    exact w1.elim
  | some bb =>
    rw [q] at w1
    have nd : ∀ kvs, d ≠ .dict kvs := fun kvs z => by
      rw [z] at q
      cases q
    have q' : kitB (tyD d) T = some bb := by
      unfold isD at q
      split at q
      · cases q
      · exact q
    exact ⟨v, .ty T, .type (tyD d), .type T, bb, rfl, .ty T, ty_of r1 nd, kit_ty q', w1 _ H1 (Same.refl _) (.bl bb) fun z => nomatch z⟩

/-! ### t.index(x): numbers in a tuple or a list -/
def rIdxT (K : PySem.W.Frag) : V → List V → Hp → VK → Prop := fun x xs H Q => ∃ (p : Addr) (ys : List Int) (z : Int) (j : Nat), x = .ref p ∧ xs = [.int z] ∧ SqT K H p (ys.map V.int) ∧ ys[j]? = some z ∧ (∀ m, m < j → ys[m]? ≠ some z) ∧ Q (.int (j : Nat)) H
theorem all_flat_ints (ys : List Int) : (ys.map V.int).all flatV = true := by
  rw [List.all_map]
  exact List.all_eq_true.mpr fun _ _ => rfl
end
section
variable {X : Cx}
theorem mt_idxT : MtR X "tuple.index" (rIdxT X.K) := by
  intro pins s σ H x xs v us Q I rx rs h
  obtain ⟨p, ys, z, j, rfl, rfl, hq, hy, hno, q⟩ := h
  cases rx
  obtain ⟨u, rfl, t, rfl⟩ := vals1 rs
  obtain ⟨its, r, pl, hz⟩ := I.tuple hq
  obtain ⟨⟨cl, dd, dt, sl⟩, ho, hc, n, hd⟩ := pl
  simp only at hc hd
  subst hc hd
  have hl : its.toArray.size = ys.length := by rw [List.size_toArray, ← r.length, List.length_map]
  have hj : j < its.toArray.size := by rw [hl]; exact getSome hy
  have at1 : ∀ (m : Nat) (hm : m < its.toArray.size), ∃ y t', ys[m]? = some y ∧ its.toArray[m] = Value.int y t' := fun m hm => by
    have hm' : m < ys.length := by rw [← hl]; exact hm
    obtain ⟨w, hw, t', hw'⟩ := r.get (i := m) (x := .int ys[m]) (by simp [hm'])
    refine ⟨ys[m], t', List.getElem?_eq_getElem hm', ?_⟩
    have e := (List.getElem?_eq_some_iff.mp hw).2
    rw [← hw', ← e]
    simp
  refine call_meets PySem.F.slot_tuple_index ⟨_, ho, rfl⟩ PySem.F.entry_tuple_index (PySem.F.args_tuple_index_2 _ _) (TI.tuple_indexAt p its.toArray n dd sl (.int z t) (eqU (.int z)) j hj ?_ ?_)
    ⟨ho, fun w hw => mem_eqAt (x := .int z) ⟨t, rfl⟩ rfl r (all_flat_ints ys) w (by simpa using hw), ⟨.int (j : Nat), H, I.tok _, ⟨_, rfl⟩, q⟩⟩
  · obtain ⟨y, t', h1, h2⟩ := at1 j hj
    rw [hy] at h1
    cases h1
    rw [h2]
    show (z == z) = true
    exact beq_self_eq_true z
  · intro m hm hmj
    obtain ⟨y, t', h1, h2⟩ := at1 m hm
    rw [h2]
    show (y == z) = false
    exact beq_eq_false_iff_ne.mpr fun e => hno m hmj (e ▸ h1)
end
end Pu

set_option Elab.async false
set_option linter.all false
set_option maxRecDepth 100000
set_option maxHeartbeats 2000000
namespace Pu
open PySem PySem.Spec PyProof.Rows L2

section
variable {X : Cx} {K : PySem.W.Frag} {M : Nat → Bool} {F : Fx} {E : L2.St → XK} {la lb fa fb : Bool} {a b : Expr} {f g : Rho → Re PyData} {pos : Pos} {s u : Rho → Sr}
/-! ### t.index(x), l.index(x) of numbers -/
/-- the first place of z -/
def idxZ (z : Int) : List Int → Option Nat
  | [] => none
  | n :: ns => if n = z then some 0 else (idxZ z ns).map (· + 1)
theorem idxZ_some {z : Int} : ∀ {ns : List Int} {j : Nat}, idxZ z ns = some j → ns[j]? = some z ∧ ∀ m, m < j → ns[m]? ≠ some z
  | [], j, h => by cases h
  | n :: ns, j, h => by
    unfold idxZ at h
    by_cases e : n = z
    · rw [if_pos e] at h
      cases h
      exact ⟨by simp [e], fun m hm => absurd hm (Nat.not_lt_zero _)⟩
    · rw [if_neg e] at h
      obtain ⟨k, hk, rfl⟩ := Option.map_eq_some_iff.mp h
      obtain ⟨h1, h2⟩ := idxZ_some hk
      refine ⟨by simpa using h1, fun m hm => ?_⟩
      cases m with
      | zero => simpa using e
      | succ m => simpa using h2 m (by omega)
def oIdx : PyData → List PyData → Option PyData := fun d es => match d, es with
  | .tuple ds, [.int z] => (asInts ds).bind fun ns => (idxZ z ns).map fun j => .int (j : Nat)
  | _, _ => none
def oIdxL : PyData → List PyData → Option PyData := fun d es => match d, es with
  | .list ds, [.int z] => (asInts ds).bind fun ns => (idxZ z ns).map fun j => .int (j : Nat)
  | _, _ => none
theorem oIdx_some {ds0 es : List PyData} {z : PyData} (q : oIdx (.tuple ds0) es = some z) : ∃ ns z0 j, asInts ds0 = some ns ∧ es = [.int z0] ∧ idxZ z0 ns = some j ∧ z = .int (j : Nat) := by
  unfold oIdx at q
  split at q
  · next x1 x2 a1 a2 e1 =>
    cases e1
    obtain ⟨ns, e3, q⟩ := Option.bind_eq_some_iff.mp q
    obtain ⟨j, e4, e5⟩ := Option.map_eq_some_iff.mp q
    exact ⟨ns, _, j, e3, rfl, e4, e5.symm⟩
  · cases q
theorem oIdxL_some {ds0 es : List PyData} {z : PyData} (q : oIdxL (.list ds0) es = some z) : ∃ ns z0 j, asInts ds0 = some ns ∧ es = [.int z0] ∧ idxZ z0 ns = some j ∧ z = .int (j : Nat) := by
  unfold oIdxL at q
  split at q
  · next x1 x2 a1 a2 e1 =>
    cases e1
    obtain ⟨ns, e3, q⟩ := Option.bind_eq_some_iff.mp q
    obtain ⟨j, e4, e5⟩ := Option.map_eq_some_iff.mp q
    exact ⟨ns, _, j, e3, rfl, e4, e5.symm⟩
  · cases q
def rMeth (o : PyData → List PyData → Option PyData) (f : Rho → Re PyData) (g : Rho → Re (List PyData)) : Rho → Re PyData := fun ρ => (f ρ).andThen fun d => (match d with | .tuple _ => (g ρ).andThen fun es => liftO (o d es) | _ => .bad)
def rMethL (o : PyData → List PyData → Option PyData) (f : Rho → Re PyData) (g : Rho → Re (List PyData)) : Rho → Re PyData := fun ρ => (f ρ).andThen fun d => (match d with | .list _ => (g ρ).andThen fun es => liftO (o d es) | _ => .bad)
theorem de_idxT {es : List Expr} {gs : Rho → Re (List PyData)} {p2 : Pos} (ha : DE X M F E la fa a f) (hb : DA X M F E lb (b :: es) gs)
    (hbase : attributeBase a "index" X.env (eval a X.env) = eval a X.env := by rfl)
    (hfew : ((backTo pos (starEach (b :: es) X.env)).all (fun x => !x.1) && (backToKw pos (keywordEach [] X.env)).all (fun x => x.1.isSome) && decide ((b :: es).length + ([] : List Keyword).length + (if ([] : List Keyword).isEmpty then 0 else 1) < 30)) = true := by rfl)
    (hline : (p2.endLine == pos.line) = true := by rfl) (hs : starEach (b :: es) X.env = (false, eval b X.env) :: starEach es X.env := by rfl) (hplain : (backTo pos (starEach es X.env)).any (·.1) = false := by rfl) :
    DE X M F E false false (.Call (.Attribute a "index" p2) (b :: es) [] pos) (rMeth oIdx f gs) := by
  obtain ⟨ta, pa, ha⟩ := ha
  obtain ⟨tb, pb, hb⟩ := hb
  refine ⟨_, pe_bmG (ty_tupD (X := X)) PySem.F.plainAttrs_tuple PySem.F.slot_tuple_index PySem.F.type_tuple_index mt_idxT pa pb hbase hfew hline hs hplain, fun σ H ρ er Q w => ?_⟩
  refine ha σ H ρ er _ (we_step w fun d v H1 e1 s1 r1 _ w1 => ?_)
  have er1 := er.same s1
  cases r1 with
  | tup h1 rr =>
    refine ⟨⟨_, _, rfl, h1⟩, hb σ H1 ρ er1 _ (we_stepA (lk' := lb) w1 fun ds vs H2 e2 s2 r2 w2 => ?_)⟩
    have h2 := tupD_keep h1 fun u q nm => s2 _ u q
    have rr2 := rr.same s2
    have w2 : WE X M F E false false σ ρ H2 (liftO (oIdx (.tuple _) ds)) Q := w2
    generalize q : oIdx (.tuple _) ds = oo at w2
    cases oo with
    | none => exact w2.elim
    | some z =>
      obtain ⟨ns, z0, j, e3, rfl, e4, rfl⟩ := oIdx_some q
      cases r2 with
      | cons r2 r3 =>
        cases r2
        cases r3
        obtain ⟨g1, g2⟩ := idxZ_some e4
        rw [asInts_eq e3] at rr2
        rw [RpA.of_ints rr2] at h2
        exact ⟨_, ns, _, j, rfl, rfl, h2.sq, g1, g2, w2 _ H2 (Same.refl _) (.int _) fun z => nomatch z⟩
  | bl _ => exact w1.elim
  | non => exact w1.elim
  | int _ => exact w1.elim
  | str _ => exact w1.elim
  | lst _ _ _ => exact w1.elim
  | scr _ _ => exact w1.elim
  | dic _ _ _ _ => exact w1.elim
  | dit _ _ _ _ => exact w1.elim
  | dif _ _ _ => exact w1.elim
theorem de_idxL {es : List Expr} {gs : Rho → Re (List PyData)} {p2 : Pos} (ha : DE X M F E la fa a f) (hb : DA X M F E lb (b :: es) gs)
    (hbase : attributeBase a "index" X.env (eval a X.env) = eval a X.env := by rfl)
    (hfew : ((backTo pos (starEach (b :: es) X.env)).all (fun x => !x.1) && (backToKw pos (keywordEach [] X.env)).all (fun x => x.1.isSome)
      && decide ((b :: es).length + ([] : List Keyword).length + (if ([] : List Keyword).isEmpty then 0 else 1) < 30)) = true := by rfl)
    (hline : (p2.endLine == pos.line) = true := by rfl) (hs : starEach (b :: es) X.env = (false, eval b X.env) :: starEach es X.env := by rfl) (hplain : (backTo pos (starEach es X.env)).any (·.1) = false := by rfl) :
    DE X M F E false false (.Call (.Attribute a "index" p2) (b :: es) [] pos) (rMethL oIdxL f gs) := by
  obtain ⟨ta, pa, ha⟩ := ha
  obtain ⟨tb, pb, hb⟩ := hb
  refine ⟨_, pe_bm PySem.F.plainAttrs_list PySem.F.slot_list_index PySem.F.type_list_index mt_index pa pb hbase hfew hline hs hplain, fun σ H ρ er Q w => ?_⟩
  refine ha σ H ρ er _ (we_step w fun d v H1 e1 s1 r1 _ w1 => ?_)
  have er1 := er.same s1
  cases r1 with
  | lst h1 _ rr =>
    refine ⟨sq_l h1, hb σ H1 ρ er1 _ (we_stepA (lk' := lb) w1 fun ds vs H2 e2 s2 r2 w2 => ?_)⟩
    have h2 := s2 _ _ h1
    have rr2 := rr.same s2
    have w2 : WE X M F E false false σ ρ H2 (liftO (oIdxL (.list _) ds)) Q := w2
    generalize q : oIdxL (.list _) ds = oo at w2
    cases oo with
    | none => exact w2.elim
    | some z =>
      obtain ⟨ns, z0, j, e3, rfl, e4, rfl⟩ := oIdxL_some q
      cases r2 with
      | cons r2 r3 =>
        cases r2
        cases r3
        obtain ⟨g1, g2⟩ := idxZ_some e4
        rw [asInts_eq e3] at rr2
        rw [RpA.of_ints rr2] at h2
        refine ⟨_, _, _, j, _, rfl, rfl, SqL.of h2, rfl, all_flat_ints ns, by rw [List.getElem?_map, g1]; rfl, ?_, fun m z' hm hz' => ?_, w2 _ H2 (Same.refl _) (.int _) fun z => nomatch z⟩
        · show (_ == _) = true
          exact beq_self_eq_true _
        · rw [List.getElem?_map] at hz'
          obtain ⟨y, hy, rfl⟩ := Option.map_eq_some_iff.mp hz'
          show (y == _) = false
          exact beq_eq_false_iff_ne.mpr fun e => g2 m hm (e ▸ hy)
  | bl _ => exact w1.elim
  | non => exact w1.elim
  | int _ => exact w1.elim
  | str _ => exact w1.elim
  | tup _ _ => exact w1.elim
  | scr _ _ => exact w1.elim
  | dic _ _ _ _ => exact w1.elim
  | dit _ _ _ _ => exact w1.elim
  | dif _ _ _ => exact w1.elim

/-! ### chains of comparisons -/
def PCh (X : Cx) (ops : List CmpOp) (rs : List (Sem Value)) (t : V → TE) : Prop := ∀ (pos : Pos) (pins : List (Addr × Obj)) (s : Shared) (σ : L2.St) (H : Hp) (x : V) (v : Value) (Q : VK), Inv X pins σ H s → RelV x v → t x σ H Q →
  wpAny (model X.prog X.w) X.A (compareChain pos v ops rs) (EP X pins σ Q) X.xe s
def PChT (X : Cx) (ops : List CmpOp) (rs : List (Sem Value)) (t : V → TT) : Prop := ∀ (pos : Pos) (pins : List (Addr × Obj)) (s : Shared) (σ : L2.St) (H : Hp) (x : V) (v : Value) (Q : Bool → Hp → Prop), Inv X pins σ H s → RelV x v → t x σ H Q →
  wpAny (model X.prog X.w) X.A (testChain pos v ops rs) (TP X pins σ Q) X.xe s
/-- .. as functions of data -/
def DCh (X : Cx) (M : Nat → Bool) (F : Fx) (E : L2.St → XK) (ops : List CmpOp) (rs : List (Sem Value)) (g : PyData → Rho → Re PyData) : Prop := ∃ t : V → TE, PCh X ops rs t ∧ ∀ σ H ρ x d lk, ER X.K M F σ H ρ → Rp X.K H (RS M F σ ρ lk) x d → ∀ Q, WE X M F E true false σ ρ H (g d ρ) Q → t x σ H Q
def DChT (X : Cx) (M : Nat → Bool) (F : Fx) (E : L2.St → XK) (ops : List CmpOp) (rs : List (Sem Value)) (g : PyData → Rho → Re Bool) : Prop := ∃ t : V → TT, PChT X ops rs t ∧ ∀ σ H ρ x d lk, ER X.K M F σ H ρ → Rp X.K H (RS M F σ ρ lk) x d → ∀ Q, WT X E σ H (g d ρ) Q → t x σ H Q
def cLast (gg : PyData → PyData → Option PyData) (g : Rho → Re PyData) : PyData → Rho → Re PyData := fun d ρ => (g ρ).andThen fun e => liftO (gg d e)
def cLink (gg : PyData → PyData → Option PyData) (g : Rho → Re PyData) (k : PyData → Rho → Re PyData) : PyData → Rho → Re PyData := fun d ρ => (g ρ).andThen fun e => match gg d e with | some (.bool true) => k e ρ | some (.bool false) => .ok (.bool false) | _ => .bad
def asR (d : Option PyData) : Re Bool := match d with | some (.bool b) => .ok b | _ => .bad
def cLastT (gg : PyData → PyData → Option PyData) (g : Rho → Re PyData) : PyData → Rho → Re Bool := fun d ρ => (g ρ).andThen fun e => asR (gg d e)
def cLinkT (gg : PyData → PyData → Option PyData) (g : Rho → Re PyData) (k : PyData → Rho → Re Bool) : PyData → Rho → Re Bool := fun d ρ => (g ρ).andThen fun e => match gg d e with | some (.bool true) => k e ρ | some (.bool false) => .ok false | _ => .bad
variable {op op' : CmpOp} {ops : List CmpOp} {rs : List (Sem Value)} {r : R2} {gg : PyData → PyData → Option PyData}
theorem rp_true {lk : Bool} {σ : L2.St} {ρ : Rho} {H : Hp} {x : V} {d : PyData} (h : Rp X.K H (RS M F σ ρ lk) x d) : Rp X.K H (RS M F σ ρ true) x d := h.wide rs_t
theorem dch_last (ho : OpR X (compareOp op) r) (hg : SemB X.K r false gg) (hb : DE X M F E lb fb b g) : DCh X M F E [op] [eval b X.env] (cLast gg g) := by
  obtain ⟨tb, pb, hb⟩ := hb
  refine ⟨fun x σ H Q => tb σ H fun y H2 => r x y H2 Q, fun pos pins s σ H x v Q I rx h => ?_, fun σ H ρ x d lk er rx Q w => ?_⟩
  · refine chain_last (thn (pb.run pins s σ H _ I h) ?_)
    rintro w' s4 ⟨z', H4, I4, r4, q4⟩
    exact ho pins s4 σ H4 x z' v w' Q I4 rx r4 q4
  · refine hb σ H ρ er _ (we_step (lk' := lb) w fun e v H1 e1 s1 r1 _ w1 => ?_)
    cases q : gg d e with
    | none =>
      rw [q] at w1
      exact w1.elim
    | some z =>
      rw [q] at w1
      exact hg (RS M F σ ρ true) H1 x v d e z Q (er.same s1).freshS ((rp_true rx).same s1) (rp_true r1) q fun v' H' s' r' f' => w1 v' H' s' r' f'
theorem dch_link {g1 : Sem Value} {k : PyData → Rho → Re PyData} (ho : OpR X (compareOp op) r) (hg : SemB X.K r false gg) (hb : DE X M F E lb fb b g) (hk : DCh X M F E (op' :: ops) (g1 :: rs) k) : DCh X M F E (op :: op' :: ops) (eval b X.env :: g1 :: rs) (cLink gg g k) := by
  obtain ⟨tb, pb, hb⟩ := hb
  obtain ⟨tk, pk, hk⟩ := hk
  refine ⟨fun x σ H Q => tb σ H fun y H2 => r x y H2 fun z H3 => ∃ c, z = .bl c ∧ (if c = true then tk y σ H3 Q else Q (.bl false) H3), fun pos pins s σ H x v Q I rx h => ?_, fun σ H ρ x d lk er rx Q w => ?_⟩
  · refine chain_link (thn (pb.run pins s σ H _ I h) ?_)
    rintro w' s4 ⟨z', H4, I4, r4, q4⟩
    refine thn (ho pins s4 σ H4 x z' v w' _ I4 rx r4 q4) ?_
    rintro d' s5 ⟨z2, H5, I5, r5, c, e2, q5⟩
    subst e2
    cases r5
    refine wpAny_truthy_bool ?_
    cases c with
    | true => exact pk pos pins s5 σ H5 z' w' Q I5 r4 q5
    | false => exact ⟨.bl false, H5, I5, rfl, q5⟩
  · refine hb σ H ρ er _ (we_step (lk' := lb) w fun e v H1 e1 s1 r1 _ w1 => ?_)
    have er1 := er.same s1
    have w1 : WE X M F E true false σ ρ H1 (match gg d e with | some (.bool true) => k e ρ | some (.bool false) => .ok (.bool false) | _ => .bad) Q := w1
    split at w1
    · rename_i q
      refine hg (RS M F σ ρ true) H1 x v d e (.bool true) _ er1.freshS ((rp_true rx).same s1) (rp_true r1) q fun v' H' s' r' f' => ?_
      cases r'
      refine ⟨true, rfl, ?_⟩
      refine hk σ H' ρ v e true (er1.same s') ((rp_true r1).same s') Q ?_
      revert w1
      cases k e ρ with
      | ok z => exact fun w1 v2 H2 s2 r2 f2 => w1 v2 H2 (s'.trans s2) r2 fun z => nomatch z
      | ex c => exact fun w1 C H2 m s2 => w1 C H2 m (s'.trans s2)
      | bad => exact fun w1 => w1
    · rename_i q
      refine hg (RS M F σ ρ true) H1 x v d e (.bool false) _ er1.freshS ((rp_true rx).same s1) (rp_true r1) q fun v' H' s' r' f' => ?_
      cases r'
      exact ⟨false, rfl, w1 _ H' s' (.bl false) fun z => nomatch z⟩
    · exact w1.elim
theorem dch_lastT (ho : OpR X (compareOp op) r) (hg : SemB X.K r false gg) (hb : DE X M F E lb fb b g) : DChT X M F E [op] [eval b X.env] (cLastT gg g) := by
  obtain ⟨tb, pb, hb⟩ := hb
  refine ⟨fun x σ H Q => tb σ H fun y H2 => r x y H2 fun z H3 => ∃ c, z = .bl c ∧ Q c H3, fun pos pins s σ H x v Q I rx h => ?_, fun σ H ρ x d lk er rx Q w => ?_⟩
  · refine test_last (thn (pb.run pins s σ H _ I h) ?_)
    rintro w' s4 ⟨z', H4, I4, r4, q4⟩
    refine thn (ho pins s4 σ H4 x z' v w' _ I4 rx r4 q4) ?_
    rintro d' s5 ⟨z2, H5, I5, r5, c, e2, q5⟩
    subst e2
    cases r5
    exact wpAny_truthy_bool ⟨H5, I5, q5⟩
  · refine hb σ H ρ er _ (wt_step (M := M) (F := F) (lk' := lb) w fun e v H1 e1 s1 r1 _ w1 => ?_)
    have w1 : WT X E σ H1 (asR (gg d e)) Q := w1
    unfold asR at w1
    split at w1
    · rename_i bb q
      refine hg (RS M F σ ρ true) H1 x v d e (.bool bb) _ (er.same s1).freshS ((rp_true rx).same s1) (rp_true r1) q fun v' H' s' r' f' => ?_
      cases r'
      exact ⟨bb, rfl, w1 H' s'⟩
    · exact w1.elim
theorem dch_linkT {g1 : Sem Value} {k : PyData → Rho → Re Bool} (ho : OpR X (compareOp op) r) (hg : SemB X.K r false gg) (hb : DE X M F E lb fb b g) (hk : DChT X M F E (op' :: ops) (g1 :: rs) k) : DChT X M F E (op :: op' :: ops) (eval b X.env :: g1 :: rs) (cLinkT gg g k) := by
  obtain ⟨tb, pb, hb⟩ := hb
  obtain ⟨tk, pk, hk⟩ := hk
  refine ⟨fun x σ H Q => tb σ H fun y H2 => r x y H2 fun z H3 => ∃ c, z = .bl c ∧ (if c = true then tk y σ H3 Q else Q false H3), fun pos pins s σ H x v Q I rx h => ?_, fun σ H ρ x d lk er rx Q w => ?_⟩
  · refine test_link (thn (pb.run pins s σ H _ I h) ?_)
    rintro w' s4 ⟨z', H4, I4, r4, q4⟩
    refine thn (ho pins s4 σ H4 x z' v w' _ I4 rx r4 q4) ?_
    rintro d' s5 ⟨z2, H5, I5, r5, c, e2, q5⟩
    subst e2
    cases r5
    refine wpAny_truthy_bool ?_
    cases c with
    | true => exact pk pos pins s5 σ H5 z' w' Q I5 r4 q5
    | false => exact ⟨H5, I5, q5⟩
  · refine hb σ H ρ er _ (wt_step (M := M) (F := F) (lk' := lb) w fun e v H1 e1 s1 r1 _ w1 => ?_)
    have er1 := er.same s1
    have w1 : WT X E σ H1 (match gg d e with | some (.bool true) => k e ρ | some (.bool false) => .ok false | _ => .bad) Q := w1
    split at w1
    · rename_i q
      refine hg (RS M F σ ρ true) H1 x v d e (.bool true) _ er1.freshS ((rp_true rx).same s1) (rp_true r1) q fun v' H' s' r' f' => ?_
      cases r'
      refine ⟨true, rfl, ?_⟩
      refine hk σ H' ρ v e true (er1.same s') ((rp_true r1).same s') Q ?_
      revert w1
      cases k e ρ with
      | ok z => exact fun w1 H2 s2 => w1 H2 (s'.trans s2)
      | ex c => exact fun w1 C H2 m s2 => w1 C H2 m (s'.trans s2)
      | bad => exact fun w1 => w1
    · rename_i q
      refine hg (RS M F σ ρ true) H1 x v d e (.bool false) _ er1.freshS ((rp_true rx).same s1) (rp_true r1) q fun v' H' s' r' f' => ?_
      cases r'
      exact ⟨false, rfl, w1 H' s'⟩
    · exact w1.elim
def rCh (f : Rho → Re PyData) (g : PyData → Rho → Re PyData) : Rho → Re PyData := fun ρ => (f ρ).andThen fun d => g d ρ
def rChT (f : Rho → Re PyData) (g : PyData → Rho → Re Bool) : Rho → Re Bool := fun ρ => (f ρ).andThen fun d => g d ρ
theorem de_chain {c1 c2 : Expr} {cs : List Expr} {h : PyData → Rho → Re PyData} (ha : DE X M F E la fa a f) (hk : DCh X M F E (op :: op' :: ops) (eval c1 X.env :: eval c2 X.env :: evalEach cs X.env) h) (hm : lastMarks (op :: op' :: ops) (c1 :: c2 :: cs) = false := by with_unfolding_all rfl) :
    DE X M F E true false (.Compare a (op :: op' :: ops) (c1 :: c2 :: cs) pos) (rCh f h) := by
  obtain ⟨ta, pa, ha⟩ := ha
  obtain ⟨tk, pk, hk⟩ := hk
  refine ⟨fun σ H Q => ta σ H fun x H1 => tk x σ H1 Q, ⟨fun pins s σ H Q I hw => Compare_chain (thn (pa.run pins s σ H _ I hw) ?_) hm⟩, fun σ H ρ er Q w => ?_⟩
  · rintro v s1 ⟨x, H1, I1, r1, q1⟩
    exact pk _ pins s1 σ H1 x v Q I1 r1 q1
  · exact ha σ H ρ er _ (we_step (lk' := la) w fun d v H1 e1 s1 r1 _ w1 => hk σ H1 ρ v d la (er.same s1) r1 Q w1)
theorem dt_chain {c1 c2 : Expr} {cs : List Expr} {h : PyData → Rho → Re Bool} (ha : DE X M F E la fa a f) (hk : DChT X M F E (op :: op' :: ops) (eval c1 X.env :: eval c2 X.env :: evalEach cs X.env) h) (hm : lastMarks (op :: op' :: ops) (c1 :: c2 :: cs) = false := by with_unfolding_all rfl) :
    DT X M F E (.Compare a (op :: op' :: ops) (c1 :: c2 :: cs) pos) (rChT f h) := by
  obtain ⟨ta, pa, ha⟩ := ha
  obtain ⟨tk, pk, hk⟩ := hk
  refine ⟨fun σ H Q => ta σ H fun x H1 => tk x σ H1 Q, ⟨fun pins s σ H Q I hw => isTrue_chain (thn (pa.run pins s σ H _ I hw) ?_) hm⟩, fun σ H ρ er Q w => ?_⟩
  · rintro v s1 ⟨x, H1, I1, r1, q1⟩
    exact pk _ pins s1 σ H1 x v Q I1 r1 q1
  · exact ha σ H ρ er _ (wt_step (M := M) (F := F) (lk' := la) w fun d v H1 e1 s1 r1 _ w1 => hk σ H1 ρ v d la (er.same s1) r1 Q w1)
end
end Pu

set_option Elab.async false
set_option linter.all false
set_option maxRecDepth 100000
set_option maxHeartbeats 2000000
namespace Pu
open PySem PySem.Spec PyProof.Rows L2

section
variable {X : Cx} {M : Nat → Bool} {F : Fx} {E : L2.St → XK} {s u : Rho → Sr} {pos : Pos} {i : Nat} {a : Addr} {b b' : Bool}
/-! ### a suite whose slot i holds the error at a -/
def DSE (X : Cx) (M : Nat → Bool) (F : Fx) (E : L2.St → XK) (i : Nat) (a : Addr) (st : List Stmt) (s : Rho → Sr) : Prop := ∃ t : TS, PSs X st t ∧ ∀ σ H ρ, ER X.K M F σ H ρ → σ[i]? = some (some (.ref a)) → ∀ D, WS X M F E σ H ρ (s ρ) D → t D σ H
theorem dse_of {st : List Stmt} (h : DSs X M F E st s) : DSE X M F E i a st s := by
  obtain ⟨t, p, h⟩ := h
  exact ⟨t, p, fun σ H ρ er _ D w => h σ H ρ er D w⟩
def DEe (X : Cx) (i : Nat) (a : Addr) (e : Expr) (b : Bool) : Prop := ∃ t : TE, PE X e t ∧ ∀ σ H, σ[i]? = some (some (.ref a)) → ∀ Q : VK, Q (.bl b) H → t σ H Q
def DTe (X : Cx) (i : Nat) (a : Addr) (e : Expr) (b : Bool) : Prop := ∃ t : TT, PT X e t ∧ ∀ σ H, σ[i]? = some (some (.ref a)) → ∀ Q : Bool → Hp → Prop, Q b H → t σ H Q
def DWe (X : Cx) (i : Nat) (a : Addr) (e : Expr) (b : Bool) : Prop := ∃ t : TT, PW X e t ∧ ∀ σ H, σ[i]? = some (some (.ref a)) → ∀ Q : Bool → Hp → Prop, Q b H → t σ H Q
theorem DWe.pt {e : Expr} (h : DWe X i a e b) : DTe X i a e b := by
  obtain ⟨t, p, h⟩ := h
  exact ⟨t, p.pt, h⟩
theorem dte_val {e : Expr} (h : DEe X i a e b) (he : ∀ whole, isTrue e X.env whole = (do let v ← whole; standAt e.pos; holding [v] (truthy v)) := by intro _; rfl) : DTe X i a e b := by
  obtain ⟨t, p, h⟩ := h
  exact ⟨_, pt_val p he, fun σ H hs Q q => h σ H hs _ ⟨b, rfl, q⟩⟩
theorem dte_not {c : Expr} (h : DTe X i a c b) : DTe X i a (.UnaryOp .Not c pos) (!b) := by
  obtain ⟨t, p, h⟩ := h
  exact ⟨_, pt_not p, fun σ H hs Q q => h σ H hs _ q⟩
theorem dwe_or1 {c : Expr} (h : DTe X i a c b) : DWe X i a (.BoolOp .Or [c] pos) b := by
  obtain ⟨t, p, h⟩ := h
  exact ⟨t, pw_or1 p, h⟩
theorem dwe_or {c d : Expr} {rest : List Expr} (h : DTe X i a c b) (k : DWe X i a (.BoolOp .Or (d :: rest) pos) b') : DWe X i a (.BoolOp .Or (c :: d :: rest) pos) (b || b') := by
  obtain ⟨t, p, h⟩ := h
  obtain ⟨t', p', k⟩ := k
  refine ⟨_, pw_or p p', fun σ H hs Q q => h σ H hs _ ?_⟩
  cases b with
  | true => exact q
  | false => exact k σ H hs Q q
theorem dwe_and1 {c : Expr} (h : DTe X i a c b) : DWe X i a (.BoolOp .And [c] pos) b := by
  obtain ⟨t, p, h⟩ := h
  exact ⟨t, pw_and1 p, h⟩
theorem dwe_and {c d : Expr} {rest : List Expr} (h : DTe X i a c b) (k : DWe X i a (.BoolOp .And (d :: rest) pos) b') : DWe X i a (.BoolOp .And (c :: d :: rest) pos) (b && b') := by
  obtain ⟨t, p, h⟩ := h
  obtain ⟨t', p', k⟩ := k
  refine ⟨_, pw_and p p', fun σ H hs Q q => h σ H hs _ ?_⟩
  cases b with
  | true => exact k σ H hs Q q
  | false => exact q
theorem dse_if {c : Expr} {x y rest : List Stmt} {s1 s2 : Rho → Sr} (hc : DTe X i a c b) (hx : DSs X M F E x s1) (hy : DSs X M F E y s2) (hr : DSs X M F E rest u) : DSE X M F E i a (.If c x y pos :: rest) (sSeq (if b = true then s1 else s2) u) := by
  obtain ⟨t, pc, hc⟩ := hc
  obtain ⟨t1, p1, h1⟩ := hx
  obtain ⟨t2, p2, h2⟩ := hy
  obtain ⟨t3, p3, h3⟩ := hr
  refine ⟨_, pss_cons (ps_if pc p1 p2) p3, fun σ H ρ er hs D w => ?_⟩
  refine hc σ H hs _ ?_
  have key : ∀ {s' : Rho → Sr} {t' : TS}, (∀ σ H ρ, ER X.K M F σ H ρ → ∀ D, WS X M F E σ H ρ (s' ρ) D → t' D σ H) → WS X M F E σ H ρ (sSeq s' u ρ) D → t' { D with nx := fun σ' H' => t3 D σ' H' } σ H := by
    intro s' t' ht w
    refine ht σ H ρ er _ ?_
    unfold sSeq at w
    cases q : s' ρ with
    | nx ρ' =>
      rw [q] at w
      exact fun σ' H' er' ev => h3 σ' H' ρ' er' D (ws_evo ev w)
    | rt d =>
      rw [q] at w
      exact w
    | bk ρ' =>
      rw [q] at w
      exact w
    | ct ρ' =>
      rw [q] at w
      exact w
    | ex c ρ' =>
      rw [q] at w
      exact w
    | bad =>
      rw [q] at w
      exact w
  cases b with
  | true => exact key h1 w
  | false => exact key h2 w
/-- isinstance(e, C), C an own class -/
theorem dee_own {D Cy : Addr} {oe : Obj} {pn : List (Addr × Obj)} {n y : Str} {p p1 p2 : Pos} (Ex : ExcC X.K D) (hz : Zc (.ref D) none oe) (hf : ∃ vs, oe.data = .fields vs) (hg : Gl X "isinstance") (hm : X.mg "isinstance" = none)
    (hN : X.N[i]? = some n) (hv : Vis X.env.scope n) (hy : Gl X y) (hmy : X.mg y = some (.ref Cy)) (hk : PySem.W.kitOne X.K (.ref D) (.ref Cy) = some b)
    (hdn : (n == ("__debug__" : Str)) = false := by decide) (hcd : (n == ("__classdict__" : Str)) = false := by decide) (hdy : (y == ("__debug__" : Str)) = false := by decide)
    (h1 : starEach [.Name n p1, .Name y p2] X.env = (false, eval (.Name n p1) X.env) :: starEach [.Name y p2] X.env := by rfl) (h2 : starEach [.Name y p2] X.env = (false, eval (.Name y p2) X.env) :: starEach [] X.env := by rfl) (hpl : (backTo pos (starEach [.Name y p2] X.env)).any (·.1) = false := by rfl) :
    DEe (X.suite a ((a, oe) :: pn)) i a (.Call (.Name "isinstance" p) [.Name n p1, .Name y p2] [] pos) b := by
  refine ⟨_, pe_callB (X := X.suite a ((a, oe) :: pn)) (call_isE Ex hz hf) hg hm PyProof.Rows.boot_isinstance (pa_cons (pe_var hN hv hdn hcd) (pa_cons (pe_glob (v := .ref Cy) hy hmy rfl hdy) pa_nil h2) h1) (he := h1) (hpl := hpl), fun σ H hs Q q => ?_⟩
  exact ⟨_, hs, .ref Cy, .ref Cy, b, rfl, fun _ r => r, hk, q⟩
/-- .. a built-in class -/
theorem dee_ty {D : Addr} {T : String} {oe : Obj} {pn : List (Addr × Obj)} {n y : Str} {p p1 p2 : Pos} (Ex : ExcC X.K D) (hz : Zc (.ref D) none oe) (hf : ∃ vs, oe.data = .fields vs) (hg : Gl X "isinstance") (hm : X.mg "isinstance" = none)
    (hN : X.N[i]? = some n) (hv : Vis X.env.scope n) (hy : Gl X y) (hmy : X.mg y = none) (hb : bootBuiltins y = some (.type T)) (hk : PySem.W.kitOne X.K (.ref D) (.type T) = some b)
    (hnT : y ≠ "__name__" := by decide) (hdn : (n == ("__debug__" : Str)) = false := by decide) (hcd : (n == ("__classdict__" : Str)) = false := by decide) (hdy : (y == ("__debug__" : Str)) = false := by decide)
    (h1 : starEach [.Name n p1, .Name y p2] X.env = (false, eval (.Name n p1) X.env) :: starEach [.Name y p2] X.env := by rfl) (h2 : starEach [.Name y p2] X.env = (false, eval (.Name y p2) X.env) :: starEach [] X.env := by rfl) (hpl : (backTo pos (starEach [.Name y p2] X.env)).any (·.1) = false := by rfl) :
    DEe (X.suite a ((a, oe) :: pn)) i a (.Call (.Name "isinstance" p) [.Name n p1, .Name y p2] [] pos) b := by
  refine ⟨_, pe_callB (X := X.suite a ((a, oe) :: pn)) (call_isE Ex hz hf) hg hm PyProof.Rows.boot_isinstance (pa_cons (pe_var hN hv hdn hcd) (pa_cons (pe_bltn (v := .ty T) hy hmy hb rfl hnT hdy) pa_nil h2) h1) (he := h1) (hpl := hpl), fun σ H hs Q q => ?_⟩
  exact ⟨_, hs, .ty T, .type T, b, rfl, fun _ r => r, hk, q⟩

/-- try: body; except c as n: suite -/
def sTryAs (c : Str) (i : Nat) (s u : Rho → Sr) : Rho → Sr := fun ρ => match s ρ with
  | .ex c' ρ' => if c' = c ∧ i < ρ'.length then (match u (ρ'.set i none) with
    | .nx ρ2 => .nx (ρ2.set i none)
    | .bk ρ2 => .bk (ρ2.set i none)
    | .ct ρ2 => .ct (ρ2.set i none)
    | .rt d => .rt d
    | .ex _ _ => .bad
    | .bad => .bad) else .bad
  | r => r
def canSE (X : Cx) (M : Nat → Bool) (E : L2.St → XK) (i : Nat) (a : Addr) (s : Rho → Sr) : TS := fun D σ H => ∃ (F : Fx) (ρ : Rho), ER X.K M F σ H ρ ∧ σ[i]? = some (some (.ref a)) ∧ WS X M F E σ H ρ (s ρ) D
theorem canSE_ok {st : List Stmt} (h : ∀ F, DSE X M F E i a st s) : PSs X st (canSE X M E i a s) := ⟨fun pins sh σ H D I ⟨F, ρ, er, hs, w⟩ => by
  obtain ⟨t, pt, h⟩ := h F
  exact pt.run pins sh σ H D I (h σ H ρ er hs D w)⟩

theorem ER.blot {σ : L2.St} {ρ : Rho} {H : Hp} (e : ER X.K M F σ H ρ) {i : Nat} (m : M i = false) (w : Option V) : ER X.K M F (σ.set i w) H (ρ.set i none) ∧ Evo M σ H ρ (σ.set i w) H (ρ.set i none) := by
  have own : ∀ a, OwnA M (σ.set i w) (ρ.set i none) a ↔ OwnA M σ ρ a := fun a => by
    constructor
    · rintro ⟨j, x, mj, r, s⟩
      have hj : i ≠ j := fun z => by
        subst z
        rw [m] at mj
        cases mj
      rw [List.getElem?_set_ne hj] at r s
      exact ⟨j, x, mj, r, s⟩
    · rintro ⟨j, x, mj, r, s⟩
      have hj : i ≠ j := fun z => by
        subst z
        rw [m] at mj
        cases mj
      exact ⟨j, x, mj, by rw [List.getElem?_set_ne hj]; exact r, by rw [List.getElem?_set_ne hj]; exact s⟩
  have rs : ∀ lk, RS M F (σ.set i w) (ρ.set i none) lk = RS M F σ ρ lk := fun lk => by
    funext a
    unfold RS
    rw [propext (own a)]
  have back : ∀ {j : Nat} {d : PyData}, (ρ.set i none)[j]? = some (some d) → i ≠ j ∧ ρ[j]? = some (some d) := fun {j d} q => by
    have hj : i ≠ j := fun z => by
      subst z
      have hi := getSome q
      rw [List.length_set] at hi
      rw [List.getElem?_set_self hi] at q
      cases q
    rw [List.getElem?_set_ne hj] at q
    exact ⟨hj, q⟩
  refine ⟨⟨by rw [List.length_set, List.length_set]; exact e.len, e.old, e.new, fun j d q mj => ?_, fun j d q mj => ?_, fun j k d e' p mj mk q1 q2 s1 s2 => ?_⟩, fun a u q n => ⟨q, fun o => n ((own a).mp o)⟩⟩
  · obtain ⟨hj, q⟩ := back q
    obtain ⟨v, s, r⟩ := e.im j d q mj
    rw [rs]
    exact ⟨v, by rw [List.getElem?_set_ne hj]; exact s, r⟩
  · obtain ⟨hj, q⟩ := back q
    obtain ⟨p, s, z, w⟩ := e.ow j d q mj
    rw [rs]
    exact ⟨p, by rw [List.getElem?_set_ne hj]; exact s, z, w⟩
  · obtain ⟨hj, q1⟩ := back q1
    obtain ⟨hk, q2⟩ := back q2
    rw [List.getElem?_set_ne hj] at s1
    rw [List.getElem?_set_ne hk] at s2
    exact e.ap j k d e' p mj mk q1 q2 s1 s2
theorem ds_tryAs {c n : Str} {C : Addr} {i : Nat} {body suite : List Stmt} {b0 : Stmt} {np pos' : Pos} {k : Nat} (G : Gd X E k) (Ec : ErrC X.K X.mg c C) (hn : Gl X c ∧ (c == ("__debug__" : Str)) = false)
    (mi : M i = false) (hN : X.N.Nodup)
    (hb : ∀ (W : WX) (pn : List (Addr × Obj)) (xe : Value → Shared → Prop), Gd (X.tr pn xe) (fun σ cls d H => W cls d σ H) k → ∀ F, DSs (X.tr pn xe) M F (fun σ cls d H => W cls d σ H) body s)
    (hs : ∀ (a : Addr) (oe : Obj) (pn : List (Addr × Obj)) (F : Fx), Zc (.ref C) none oe → (∃ vs, oe.data = .fields vs) → DSE (X.suite a ((a, oe) :: pn)) M F E0s i a (b0 :: suite) u)
    (hi : X.N[i]? = some n := by rfl) (hln : X.env.kindOf n = some .local := by rfl) :
    DS X M F E (.Try body [.ExceptHandler (some (.Name c np)) (some n) (b0 :: suite) pos'] [] [] pos) (sTryAs c i s u) := by
  refine ⟨_, ps_try_as (tb := fun W => canS X M (fun σ cls d H => W cls d σ H) s) (ts := fun a cls d D σ H => (cls = .ref C ∧ d = none) ∧ canSE X M E0s i a u D σ H) G.stk G.frm hN hi hln ⟨hn.1, hn.2, .inl Ec.gC⟩ G.tk
    (fun W pn xe tk po => canS_ok (hb W pn xe ⟨G.room, fun σ => passAt tk σ, tk, po, G.stk, G.frm⟩)) (fun a oe cls d pn hz hf => ⟨fun pins sh σ H D I ⟨⟨e1, e2⟩, q⟩ => ?_⟩), fun σ H ρ er D w => ?_⟩
  · subst e1 e2
    exact (canSE_ok (fun F => hs a oe pn F hz hf)).run pins sh σ H D I q
  refine ⟨F, ρ, er, ?_⟩
  unfold sTryAs at w
  cases q : s ρ with
  | ex c' ρ' =>
    rw [q] at w
    have w2 : WS X M F E σ H ρ (if c' = c ∧ i < ρ'.length then (match u (ρ'.set i none) with
      | .nx ρ2 => .nx (ρ2.set i none)
      | .bk ρ2 => .bk (ρ2.set i none)
      | .ct ρ2 => .ct (ρ2.set i none)
      | .rt d => .rt d
      | .ex _ _ => .bad
      | .bad => .bad) else .bad) D := w
    clear w
    by_cases hc : c' = c ∧ i < ρ'.length
    · obtain ⟨hc, hl2⟩ := hc
      rw [if_pos ⟨hc, hl2⟩] at w2
      rw [hc]
      refine fun C' σ' H' m er' ev => ⟨true, ?_, fun _ a ha => ?_, fun z => nomatch z⟩
      · rw [Ec.gC] at m
        cases m
        exact Ec.eP
      · rw [Ec.gC] at m
        cases m
        obtain ⟨er2, ev2⟩ := er'.blot mi (some (.ref a))
        refine ⟨⟨rfl, rfl⟩, F, ρ'.set i none, er2, List.getElem?_set_self (by rw [← er'.len]; exact hl2), ?_⟩
        have w1 := ws_evo (ev.trans ev2) w2
        revert w1
        generalize u (ρ'.set i none) = r
        intro w1
        cases r with
        | ex c2 ρ2 => exact w1.elim
        | nx ρ2 => exact fun σ4 H4 er4 ev4 => w1 _ _ (er4.blot mi none).1 (ev4.trans (er4.blot mi none).2)
        | rt d => exact w1
        | bk ρ2 => exact fun σ4 H4 er4 ev4 => w1 _ _ (er4.blot mi none).1 (ev4.trans (er4.blot mi none).2)
        | ct ρ2 => exact fun σ4 H4 er4 ev4 => w1 _ _ (er4.blot mi none).1 (ev4.trans (er4.blot mi none).2)
        | bad => exact w1.elim
    · rw [if_neg hc] at w2
      exact w2.elim
  | nx ρ' =>
    rw [q] at w
    exact w
  | rt d =>
    rw [q] at w
    exact w
  | bk ρ' =>
    rw [q] at w
    exact w
  | ct ρ' =>
    rw [q] at w
    exact w
  | bad =>
    rw [q] at w
    exact w
end
end Pu

set_option Elab.async false
set_option linter.all false
set_option maxRecDepth 100000
set_option maxHeartbeats 2000000
namespace Pu
open PySem PySem.Spec PyProof.Rows L2

/-! ### a def and its mirror -/
def Has (P : Program) (w : World) (K : PySem.W.Frag) (mg : Str → Option Value) (base : Heap) (k : Nat) (x : Str) (ps : List Str) (f : List PyData → Re PyData) : Prop :=
  ∃ (fA : Addr) (fd : FuncData), FnOk P w K mg base (L2.CX P w) k fA fd ps (spD mg f K) ∧ mg x = some (.ref fA) ∧ PySem.W.keepIn K (.ref fA) = true ∧ Binds K fd ps []
def FnAt (K : PySem.W.Frag) (mg : Str → Option Value) (x : Str) (st : Stmt) : Prop := ∃ (fA : Addr) (fd : FuncData), FunD K x x (defArgs st) (defBody st) (defScope st) [] [] fA fd ∧ mg x = some (.ref fA)
section
variable {P : Program} {w : World} {K : PySem.W.Frag} {mg : Str → Option Value} {base : Heap}
theorem has_of {x : Str} {st : Stmt} {N ps : List Str} {k : Nat} (h : FnAt K mg x st) (S : FnScope N ps (defScope st)) (M : Nat → Bool) (hM : ∀ i, i < ps.length → M i = false) (s : Rho → Sr)
    (hbn : ∀ (kV doc pm : Value) (an : Option Addr) (cdv ct : Value) (us : List Value), us.length = ps.length → bindArgs (PySem.W.fnOf x x (defArgs st) (defBody st) (defScope st) .none kV doc pm an cdv ct) ⟨us, []⟩ = pure (ps.zip us))
    (hb : ∀ (fA : Addr) (cdv : Value) (A : Around) (outer : List Env) (sh : Shared) (H : Hp) (Ex : XK), Gd (cxOf (L2.CX P w) P w K mg base N x (defScope st) fA cdv A outer sh H Ex) (fun _ => Ex) k →
      ∀ F : Fx, DSs (cxOf (L2.CX P w) P w K mg base N x (defScope st) fA cdv A outer sh H Ex) M F (fun _ => Ex) (defBody st) s) :
    Has P w K mg base (k + 1) x ps (runF ps.length N.length s) := by
  obtain ⟨fA, fd, Fd, hg⟩ := h
  exact ⟨fA, fd, def_ok Fd S M hM s fun cdv A outer sh H Ex G F => hb fA cdv A outer sh H Ex G F, hg, Fd.kp, Fd.bindsN hbn⟩
end
section
variable {X : Cx} {M : Nat → Bool} {F : Fx} {E : L2.St → XK} {la fa : Bool} {a : Expr} {pos : Pos}
theorem de_fn {k : Nat} {ps : List Str} {ff : List PyData → Re PyData} {x : Str} {es : List Expr} {gs : Rho → Re (List PyData)} {p : Pos} (h : Has X.prog X.w X.K X.mg X.base k x ps ff) (hr : Room k X.A) (hx : ∀ σ, PassesAt (L2.CX X.prog X.w) X σ (E σ)) (ha : DA X M F E la (a :: es) gs)
    (hg : Gl X x := by rfl) (hdb : (x == ("__debug__" : Str)) = false := by decide) (he : starEach (a :: es) X.env = (false, eval a X.env) :: starEach es X.env := by rfl) (hpl : (backTo pos (starEach es X.env)).any (·.1) = false := by rfl) :
    DE X M F E la false (.Call (.Name x p) (a :: es) [] pos) (rCall ff gs) := by
  obtain ⟨fA, fd, G, hm, kp, bb⟩ := h
  exact de_call G hr hg hm kp bb hx ha hdb he hpl
end

/-! ### the law's end -/
theorem rpA_ints {K : PySem.W.Frag} {H : Hp} {S : Addr → Prop} : ∀ ns : List Int, RpA K H S (ns.map V.int) (ns.map PyData.int)
  | [] => .nil
  | n :: ns => .cons (.int n) (rpA_ints ns)
/-- the script as data -/
def scrD (ns : List Int) : PyData := .dict [(.none, .list (ns.map PyData.int))]
theorem end_sp {mg : Str → Option Value} {K : PySem.W.Frag} {f : List PyData → Re PyData} {ns : List Int} {H : Hp} {a : Addr} (h : f [scrD ns] = .ok (.bool true)) (hO : Only H) (hS : SqL K H a (ns.map V.int)) : spD mg f K [.ref a] H (fun v _ => v = .bl true) fun _ _ _ => False := by
  refine ⟨[scrD ns], fun _ => True, .cons (.scr ?_ (rpA_ints ns)) .nil, fun _ _ => trivial, ?_⟩
  · rcases hS with (h1 | ⟨o, h1⟩) | h1
    · rcases hO a with h2 | ⟨o, xs, h2⟩
      · rw [h1] at h2
        cases h2
      · rw [h1] at h2
        cases h2
    · exact .inl ⟨o, h1⟩
    · exact .inr fun H' => .inr h1
  · rw [h]
    intro v H' _ r
    cases r
    rfl
theorem walkP {l : PySem.W.OpenLaw} {n k : Nat} {q : Program} {loose : List Str} {XP : (Str → Option Value) → Heap → Prop} {YP : World → Heap → Prop} {d : DefRec} {x : Str} {f : List PyData → Re PyData}
    (hn : l.most = some n) (hn2 : n ≤ sizeLine) (hdf : d.params.defaults = []) (hr : Room k callerA)
    (hf : ∀ ns : List Int, ns.length ≤ n → f [scrD ns] = .ok (.bool true))
    (F : ∀ (w : World) (mg : Str → Option Value) (fa : Addr) (h : Heap), YP w h → h.Ns mainGlobals mg → mg d.name = some (.ref fa) →
      ∃ (K : PySem.W.Frag) (fd : FuncData), K.In h ∧ (∀ (s : Shared) (u : Value), BindsTo s fd ⟨[u], []⟩ [(x, u)]) ∧ ∀ base : Heap, K.In base → base.Ns mainGlobals mg → FnOk l.prog w K mg base (L2.CX l.prog w) k fa fd [x] (spD mg f K)) :
    PySem.W.WalkO q loose XP YP l.row.toRowW d [] (fun f vs => PySem.call f vs) := by
  refine Att.attach_call hn hdf fun w s0 s1 mg mb fA o pm cd doc a vs ns G Y e1 e2 e3 e4 e5 e6 e7 e8 => ?_
  obtain ⟨K, fd, KX, hb, hF⟩ := F w mg fA _ Y G.T.g e4
  refine law_call KX G.T.g G.T.b G.T.builtins G.T.nolimit e8 e5 e6 (Nat.le_trans e7 hn2) hr hF hb (fun H hO hS => end_sp (hf ns e7) hO hS) fun H e s' c => ?_
  obtain ⟨_, _, _, _, _, _, _, _, _, _, _, _, z⟩ := c
  exact z.elim
/-- the law's def, where the row calls it -/
theorem law_fn {P : Program} {w : World} {K : PySem.W.Frag} {mg : Str → Option Value} {x p : Str} {st : Stmt} {k : Nat} {f : List PyData → Re PyData} {fa : Addr} (hx : mg x = some (.ref fa)) (h : FnAt K mg x st)
    (hbn : ∀ (kV doc pm : Value) (an : Option Addr) (cdv ct : Value) (us : List Value), us.length = [p].length → bindArgs (PySem.W.fnOf x x (defArgs st) (defBody st) (defScope st) .none kV doc pm an cdv ct) ⟨us, []⟩ = pure ([p].zip us))
    (hh : ∀ base : Heap, K.In base → base.Ns mainGlobals mg → ∀ (fA : Addr) (fd : FuncData), FunD K x x (defArgs st) (defBody st) (defScope st) [] [] fA fd → mg x = some (.ref fA) → FnOk P w K mg base (L2.CX P w) k fA fd [p] (spD mg f K)) :
    ∃ fd : FuncData, (∀ (s : Shared) (u : Value), BindsTo s fd ⟨[u], []⟩ [(p, u)]) ∧ ∀ base : Heap, K.In base → base.Ns mainGlobals mg → FnOk P w K mg base (L2.CX P w) k fa fd [p] (spD mg f K) := by
  obtain ⟨fA, fd, Fd, hg⟩ := h
  have e := hx.symm.trans hg
  cases e
  have b := FunD.bindsA (ps := [p]) Fd hbn
  exact ⟨fd, fun s u => b s [u] rfl, fun base h1 h2 => hh base h1 h2 _ fd Fd hg⟩

/-! ### the head: facts of one's own beside He.Fa -/
def excB (K : PySem.W.Frag) (D : Addr) : Bool := He.eqO (PySem.W.findIn K (.ref D) "__getattribute__") (some (some (.builtin "BaseException.__getattribute__"))) && (He.eqO (PySem.W.findIn K (.ref D) "__getattr__") (some none) &&
  (decide (PySem.W.subIn K (.ref D) (.type "BaseException") = some true) && (PySem.W.hasDictIn K D && (He.eqO (PySem.W.findIn K (.ref D) "__class__") (some (some (.builtin "object.__class__"))) &&
  (He.eqO (PySem.W.specialIn K (.builtin "object.__class__") "__get__") (some (some (.builtin "getset_descriptor.__get__"))) && (decide (PySem.W.takesIn K (.builtin "object.__class__") = some true) && decide (PySem.W.mroIn K D (.type "object") = some true)))))))
theorem excB_ok {K : PySem.W.Frag} {D : Addr} (h : excB K D = true) : ExcC K D := by
  obtain ⟨h1, h⟩ := He.ba h
  obtain ⟨h2, h⟩ := He.ba h
  obtain ⟨h3, h⟩ := He.ba h
  obtain ⟨h4, h⟩ := He.ba h
  obtain ⟨h5, h⟩ := He.ba h
  obtain ⟨h6, h⟩ := He.ba h
  obtain ⟨h7, h8⟩ := He.ba h
  exact ⟨He.eqO_ok h1, He.eqO_ok h2, of_decide_eq_true h3, h4, He.eqO_ok h5, He.eqO_ok h6, of_decide_eq_true h7, of_decide_eq_true h8⟩
/-- y: isinstance of an error of x is b -/
def kitB2 (K : PySem.W.Frag) (x y : Str) (b : Bool) : Bool := decide (PySem.W.kitOne K (.ref (He.ga K x)) (.ref (He.ga K y)) = some b)
def kitT2 (K : PySem.W.Frag) (x T : Str) (t : String) (b : Bool) : Bool := decide (PySem.W.kitOne K (.ref (He.ga K x)) (.type t) = some b)
inductive Fx2 where
  | exc (x : Str)
  | kit (x y : Str) (b : Bool)
  | kitT (x : Str) (t : String) (b : Bool)
  | blt (x : Str) (id : String)
  | own (x : Str)
  | kitR (t : String) (y : Str) (b : Bool)
  | subR (t : String) (y : Str)
/-- what isinstance asks of an own class -/
def ownB (K : PySem.W.Frag) (D : Addr) : Bool := He.eqO (PySem.W.findIn K (.ref D) "__class__") (some (some (.builtin "object.__class__"))) && (He.eqO (PySem.W.specialIn K (.builtin "object.__class__") "__get__") (some (some (.builtin "getset_descriptor.__get__"))) &&
  (decide (PySem.W.takesIn K (.builtin "object.__class__") = some true) && decide (PySem.W.mroIn K D (.type "object") = some true)))
structure OwnC (K : PySem.W.Frag) (D : Addr) : Prop where
  ha : PySem.W.findIn K (.ref D) "__class__" = some (some (.builtin "object.__class__"))
  hn : PySem.W.specialIn K (.builtin "object.__class__") "__get__" = some (some (.builtin "getset_descriptor.__get__"))
  htk : PySem.W.takesIn K (.builtin "object.__class__") = some true
  hm : PySem.W.mroIn K D (.type "object") = some true
theorem ownB_ok {K : PySem.W.Frag} {D : Addr} (h : ownB K D = true) : OwnC K D := by
  obtain ⟨h1, h⟩ := He.ba h
  obtain ⟨h2, h⟩ := He.ba h
  obtain ⟨h3, h4⟩ := He.ba h
  exact ⟨He.eqO_ok h1, He.eqO_ok h2, of_decide_eq_true h3, of_decide_eq_true h4⟩
def Fx2.ok (K : PySem.W.Frag) : Fx2 → Bool
  | .exc x => excB K (He.ga K x)
  | .kit x y b => decide (PySem.W.kitOne K (.ref (He.ga K x)) (.ref (He.ga K y)) = some b)
  | .kitT x t b => decide (PySem.W.kitOne K (.ref (He.ga K x)) (.type t) = some b)
  | .blt x id => He.eqO (PySem.W.nsIn K mainGlobals x) (some (some (.builtin id)))
  | .own x => ownB K (He.ga K x)
  | .kitR t y b => decide (PySem.W.kitOne K (.type t) (.ref (He.ga K y)) = some b)
  | .subR t y => decide (PySem.W.subIn K (.type t) (.ref (He.ga K y)) = some false)
theorem blt_ok {K : PySem.W.Frag} {mg : Str → Option Value} {h : Heap} {x : Str} {id : String} (X : K.In h) (G : h.Ns mainGlobals mg) (c : (Fx2.blt x id).ok K = true) : mg x = some (.builtin id) := PySem.W.mg_of X G (He.eqO_ok c)
def obsP (fa : List He.Fa) (fx : List Fx2) (fn : List He.DefD) (K : PySem.W.Frag) : He.AlD := ((He.obsD fa fn K).1 && fx.all fun f => f.ok K, (He.obsD fa fn K).2)
def SaysP (fa : List He.Fa) (fx : List Fx2) (fn : List He.DefD) (K : PySem.W.Frag) : Prop := obsP fa fx fn K = He.valD fn
def obsPG (n : Nat) (fa : List He.Fa) (fx : List Fx2) (fn : List He.DefD) (g : Addr → Option Obj) : He.AlD := obsP fa fx fn (He.frG g (He.asD g n))
def hookP (n : Nat) (fa : List He.Fa) (fx : List Fx2) (fn : List He.DefD) : PySem.W.Hook where
  α := He.AlD
  obs := fun s => obsPG n fa fx fn s.heap.get?
  val := fun _ => He.valD fn
  says := fun _ h => ∃ K : PySem.W.Frag, K.In h ∧ SaysP fa fx fn K
  of := fun _ _ e => ⟨_, He.frG_in, e⟩
  keeps := fun _ _ _ ⟨K, hK, c⟩ k => ⟨K, PySem.W.Frag.In.keeps hK k, c⟩
theorem obsPG_eq {n : Nat} {fa : List He.Fa} {fx : List Fx2} {fn : List He.DefD} {g : Addr → Option Obj} {s : Shared} (h : ∀ a, g a = s.heap.get? a) : obsPG n fa fx fn g = (hookP n fa fx fn).obs s := by
  rw [show g = s.heap.get? from funext h] <;> rfl
theorem SaysP.d {fa : List He.Fa} {fx : List Fx2} {fn : List He.DefD} {K : PySem.W.Frag} (c : SaysP fa fx fn K) : He.SaysD fa fn K := by
  have h1 : ((He.obsD fa fn K).1 && fx.all fun f => f.ok K) = true := congrArg (fun z : He.AlD => z.1) c
  have c1 : obsP fa fx fn K = He.valD fn := c
  have h2 := congrArg (fun z : He.AlD => z.2) c1
  exact Prod.ext (He.ba h1).1 h2
theorem SaysP.x {fa : List He.Fa} {fx : List Fx2} {fn : List He.DefD} {K : PySem.W.Frag} (c : SaysP fa fx fn K) (i : Nat) {f : Fx2} (h : fx[i]? = some f := by rfl) : f.ok K = true := by
  have h1 : ((He.obsD fa fn K).1 && fx.all fun f => f.ok K) = true := congrArg (fun z : He.AlD => z.1) c
  exact List.all_eq_true.mp (He.ba h1).2 f (List.mem_of_getElem? h)
theorem errC_of {K : PySem.W.Frag} {mg : Str → Option Value} {h : Heap} {x : Str} (X : K.In h) (G : h.Ns mainGlobals mg) (h1 : (He.Fa.glo x).ok K = true) (h2 : (He.Fa.exc x).ok K = true) (h3 : (He.Fa.exm x x true).ok K = true) : ErrC K mg x (He.ga K x) := by
  obtain ⟨a, b, c, d⟩ := He.exc_ok h2
  exact ⟨He.glo_ok X G h1, a, b, c, d, He.exm_ok h3⟩
theorem fnAt_of {K : PySem.W.Frag} {mg : Str → Option Value} {h : Heap} {x : Str} {st : Stmt} {fa : List He.Fa} {fx : List Fx2} {fn : List He.DefD} (X : K.In h) (G : h.Ns mainGlobals mg) (c : SaysP fa fx fn K) (i j : Nat)
    (hd : fn[i]? = some ⟨(x, none), x, x, defArgs st, defBody st, defScope st, [], []⟩ := by rfl) (hg : fa[j]? = some (.glo x) := by rfl) : FnAt K mg x st := by
  obtain ⟨fd, Fd⟩ := c.d.def_ i hd
  exact ⟨_, fd, Fd, He.glo_ok X G (c.d.fact j hg)⟩
end Pu

set_option Elab.async false
set_option linter.all false
set_option maxRecDepth 100000
set_option maxHeartbeats 2000000
namespace Pu
open PySem PySem.Spec PyProof.Rows L2
def rB (gg : List PyData → Option PyData) (gs : Rho → Re (List PyData)) : Rho → Re PyData := fun ρ => (gs ρ).andThen fun ds => liftO (gg ds)
def rIsi (T : String) (f : Rho → Re PyData) : Rho → Re PyData := fun ρ => (f ρ).andThen fun d => liftO ((isD d T).map PyData.bool)
def iR1 (gs : Rho → Re (List PyData)) : Rho → Re (List PyData) := fun ρ => (gs ρ).andThen rg1
def iR2 (gs : Rho → Re (List PyData)) : Rho → Re (List PyData) := fun ρ => (gs ρ).andThen rg2
def sErr (c : Str) : Rho → Sr := fun ρ => .ex c ρ
def sRetN : Rho → Sr := fun _ => .rt .none
def sBrk : Rho → Sr := fun ρ => .bk ρ
def sCnt : Rho → Sr := fun ρ => .ct ρ
theorem ru {k : Nat} {A : Around} (r : Room k A) : A.units + 64 < cLine := by
  have := r.un
  omega
section
variable {X : Cx} {M : Nat → Bool} {F : Fx} {E : L2.St → XK} {la fa fr : Bool} {a b : Expr} {pos : Pos} {f : Rho → Re PyData}
theorem db {id : String} {r : List V → Hp → VK → Prop} {gg : List PyData → Option PyData} {x : Str} {es : List Expr} {gs : Rho → Re (List PyData)} {p : Pos} (hc : CallR X (.builtin id) r) (hS : SemL X.K r fr gg) (hm : X.mg x = none) (hv : bootBuiltins x = some (.builtin id))
    (ha : DA X M F E la (a :: es) gs) (hg : Gl X x := by rfl) (hn : x ≠ "__name__" := by decide) (hdb : (x == ("__debug__" : Str)) = false := by decide)
    (he : starEach (a :: es) X.env = (false, eval a X.env) :: starEach es X.env := by rfl) (hpl : (backTo pos (starEach es X.env)).any (·.1) = false := by rfl) : DE X M F E la fr (.Call (.Name x p) (a :: es) [] pos) (rB gg gs) := de_callB hc hS hg hm hv ha hn hdb he hpl
theorem dt {id : String} {r : List V → Hp → VK → Prop} {gg : List PyData → Option PyData} {x : Str} {es : List Expr} {gs : Rho → Re (List PyData)} {p : Pos} (hc : CallR X (.type id) r) (hS : SemL X.K r fr gg) (hm : X.mg x = none) (hv : bootBuiltins x = some (.type id))
    (ha : DA X M F E la (a :: es) gs) (hg : Gl X x := by rfl) (hn : x ≠ "__name__" := by decide) (hdb : (x == ("__debug__" : Str)) = false := by decide)
    (he : starEach (a :: es) X.env = (false, eval a X.env) :: starEach es X.env := by rfl) (hpl : (backTo pos (starEach es X.env)).any (·.1) = false := by rfl) : DE X M F E la fr (.Call (.Name x p) (a :: es) [] pos) (rB gg gs) := de_callTy hc hS hg hm hv ha hn hdb he hpl
end
end Pu

set_option Elab.async false
set_option linter.all false
set_option maxRecDepth 100000
set_option maxHeartbeats 2000000
/-! reckoning with the readings -/
namespace Pu
open PySem PySem.Spec PyProof.Rows L2
section
variable {α β : Type} {ρ : Rho}
@[simp] theorem re_ok (a : α) (g : α → Re β) : (Re.ok a).andThen g = g a := (rfl)
@[simp] theorem re_ex (c : Str) (g : α → Re β) : (Re.ex c : Re α).andThen g = .ex c := (rfl)
@[simp] theorem re_bad (g : α → Re β) : (Re.bad : Re α).andThen g = .bad := (rfl)
@[simp] theorem st_ok (d : PyData) (k : PyData → Sr) : (Re.ok d).st ρ k = k d := (rfl)
@[simp] theorem st_ex (c : Str) (k : PyData → Sr) : (Re.ex c).st ρ k = .ex c ρ := (rfl)
@[simp] theorem st_bad (k : PyData → Sr) : (Re.bad).st ρ k = .bad := (rfl)
@[simp] theorem stT_ok (d : Bool) (k : Bool → Sr) : (Re.ok d).stT ρ k = k d := (rfl)
@[simp] theorem stT_ex (c : Str) (k : Bool → Sr) : (Re.ex c).stT ρ k = .ex c ρ := (rfl)
@[simp] theorem stT_bad (k : Bool → Sr) : (Re.bad).stT ρ k = .bad := (rfl)
@[simp] theorem stL_ok (d : List PyData) (k : List PyData → Sr) : (Re.ok d).stL ρ k = k d := (rfl)
@[simp] theorem stL_ex (c : Str) (k : List PyData → Sr) : (Re.ex c).stL ρ k = .ex c ρ := (rfl)
@[simp] theorem stL_bad (k : List PyData → Sr) : (Re.bad).stL ρ k = .bad := (rfl)
@[simp] theorem lift_some (a : α) : liftO (some a) = Re.ok a := (rfl)
@[simp] theorem lift_none : liftO (none : Option α) = Re.bad := (rfl)
def vOf : Option (Option PyData) → Re PyData
  | some (some d) => .ok d
  | _ => .bad
@[simp] theorem vOf_some (d : PyData) : vOf (some (some d)) = .ok d := (rfl)
@[simp] theorem ap_var (i : Nat) : rVar i ρ = vOf ρ[i]? := by
  unfold rVar vOf
  rfl
@[simp] theorem ap_c (d : PyData) : rC d ρ = .ok d := (rfl)
@[simp] theorem ap_2 (g : PyData → PyData → Option PyData) (f h : Rho → Re PyData) : r2 g f h ρ = (f ρ).andThen fun x => (h ρ).andThen fun y => liftO (g x y) := (rfl)
@[simp] theorem ap_1 (g : PyData → Option PyData) (f : Rho → Re PyData) : r1 g f ρ = (f ρ).andThen fun x => liftO (g x) := (rfl)
def bOf : PyData → Re Bool
  | .bool b => .ok b
  | _ => .bad
@[simp] theorem bOf_bool (b : Bool) : bOf (.bool b) = .ok b := (rfl)
@[simp] theorem ap_asB (f : Rho → Re PyData) : asB f ρ = (f ρ).andThen bOf := by
  unfold asB
  congr 1
@[simp] theorem ap_tAnd (f g : Rho → Re Bool) : tAndR f g ρ = (f ρ).andThen fun c => if c = true then g ρ else .ok false := (rfl)
@[simp] theorem ap_tOr (f g : Rho → Re Bool) : tOrR f g ρ = (f ρ).andThen fun c => if c = true then .ok true else g ρ := (rfl)
@[simp] theorem ap_tNot (f : Rho → Re Bool) : tNotR f ρ = (f ρ).andThen fun c => .ok (!c) := (rfl)
@[simp] theorem ap_if (p : Rho → Re Bool) (f g : Rho → Re PyData) : rIf p f g ρ = (p ρ).andThen fun c => if c = true then f ρ else g ρ := (rfl)
def andB (d : PyData) (r : Re PyData) : Re PyData := match d with | .bool true => r | .bool false => .ok (.bool false) | _ => .bad
def orB (d : PyData) (r : Re PyData) : Re PyData := match d with | .bool false => r | .bool true => .ok (.bool true) | _ => .bad
@[simp] theorem andB_b (b : Bool) (r : Re PyData) : andB (.bool b) r = if b = true then r else .ok (.bool false) := by cases b <;> rfl
@[simp] theorem orB_b (b : Bool) (r : Re PyData) : orB (.bool b) r = if b = true then .ok (.bool true) else r := by cases b <;> rfl
@[simp] theorem ap_and (f g : Rho → Re PyData) : rAnd f g ρ = (f ρ).andThen fun d => andB d (g ρ) := (rfl)
@[simp] theorem ap_or (f g : Rho → Re PyData) : rOr f g ρ = (f ρ).andThen fun d => orB d (g ρ) := (rfl)
def notB : PyData → Re PyData
  | .bool b => .ok (.bool (!b))
  | _ => .bad
@[simp] theorem notB_b (b : Bool) : notB (.bool b) = .ok (.bool (!b)) := (rfl)
@[simp] theorem ap_not (f : Rho → Re PyData) : rNot f ρ = (f ρ).andThen notB := by
  unfold rNot
  congr 1
@[simp] theorem ap_nil : aNil ρ = .ok [] := (rfl)
@[simp] theorem ap_cons (f : Rho → Re PyData) (g : Rho → Re (List PyData)) : aCons f g ρ = (f ρ).andThen fun d => (g ρ).andThen fun ds => .ok (d :: ds) := (rfl)
@[simp] theorem ap_tup (g : Rho → Re (List PyData)) : rTup g ρ = (g ρ).andThen mkT := (rfl)
@[simp] theorem ap_lst (g : Rho → Re (List PyData)) : rLst g ρ = (g ρ).andThen mkL := (rfl)
@[simp] theorem ap_call (ff : List PyData → Re PyData) (g : Rho → Re (List PyData)) : rCall ff g ρ = (g ρ).andThen ff := (rfl)
@[simp] theorem ap_B (gg : List PyData → Option PyData) (g : Rho → Re (List PyData)) : rB gg g ρ = (g ρ).andThen fun ds => liftO (gg ds) := (rfl)
@[simp] theorem ap_iR1 (g : Rho → Re (List PyData)) : iR1 g ρ = (g ρ).andThen rg1 := (rfl)
@[simp] theorem ap_iR2 (g : Rho → Re (List PyData)) : iR2 g ρ = (g ρ).andThen rg2 := (rfl)
@[simp] theorem ap_iOf (h : PyData → Re (List PyData)) (f : Rho → Re PyData) : iOf h f ρ = (f ρ).andThen h := (rfl)
@[simp] theorem ap_cut (f : Rho → Re PyData) (lo hi : Rho → Re (Option Int)) : rCut f lo hi ρ = (f ρ).andThen fun d => (lo ρ).andThen fun l => (hi ρ).andThen fun h => oCut d l h := (rfl)
@[simp] theorem ap_noI : noI ρ = .ok none := (rfl)
def iV : PyData → Re (Option Int)
  | .int i => .ok (some i)
  | _ => .bad
@[simp] theorem iV_int (i : Int) : iV (.int i) = .ok (some i) := (rfl)
@[simp] theorem ap_asI (f : Rho → Re PyData) : asI f ρ = (f ρ).andThen iV := by
  unfold asI
  congr 1
def tupRg : PyData → PyData → Option PyData := fun d e => match d, e with | .int i, .int j => if rgOk i j = true then some (.tuple (upFrom i (j - i).toNat)) else none | _, _ => none
@[simp] theorem ap_tupRg (f g : Rho → Re PyData) : rTupRg f g ρ = (f ρ).andThen fun x => (g ρ).andThen fun y => liftO (tupRg x y) := (rfl)
@[simp] theorem ap_yes : yesR ρ = .ok true := (rfl)
@[simp] theorem ap_sNil : sNil ρ = .nx ρ := (rfl)
def sqS (r : Sr) (u : Rho → Sr) : Sr := match r with | .nx ρ' => u ρ' | r => r
@[simp] theorem sqS_nx (ρ' : Rho) (u : Rho → Sr) : sqS (.nx ρ') u = u ρ' := (rfl)
@[simp] theorem sqS_rt (d : PyData) (u : Rho → Sr) : sqS (.rt d) u = .rt d := (rfl)
@[simp] theorem sqS_bk (ρ' : Rho) (u : Rho → Sr) : sqS (.bk ρ') u = .bk ρ' := (rfl)
@[simp] theorem sqS_ct (ρ' : Rho) (u : Rho → Sr) : sqS (.ct ρ') u = .ct ρ' := (rfl)
@[simp] theorem sqS_ex (c : Str) (ρ' : Rho) (u : Rho → Sr) : sqS (.ex c ρ') u = .ex c ρ' := (rfl)
@[simp] theorem sqS_bad (u : Rho → Sr) : sqS .bad u = .bad := (rfl)
@[simp] theorem ap_sSeq (s u : Rho → Sr) : sSeq s u ρ = sqS (s ρ) u := by
  unfold sSeq sqS
  rfl
@[simp] theorem sqS_ite (c : Prop) [Decidable c] (a b : Sr) (u : Rho → Sr) : sqS (if c then a else b) u = if c then sqS a u else sqS b u := by
  by_cases h : c
  · rw [if_pos h, if_pos h]
  · rw [if_neg h, if_neg h]
@[simp] theorem ap_sIf (p : Rho → Re Bool) (s u : Rho → Sr) : sIf p s u ρ = (p ρ).stT ρ fun b => if b = true then s ρ else u ρ := (rfl)
@[simp] theorem ap_sRet (f : Rho → Re PyData) : sRet f ρ = (f ρ).st ρ fun d => .rt d := (rfl)
@[simp] theorem ap_sDrop (f : Rho → Re PyData) : sDrop f ρ = (f ρ).st ρ fun _ => .nx ρ := (rfl)
@[simp] theorem ap_sSet (i : Nat) (f : Rho → Re PyData) : sSet i false f ρ = (f ρ).st ρ fun d => .nx (ρ.set i (some d)) := by
  unfold sSet
  congr 1
@[simp] theorem ap_sSetO (i : Nat) (f : Rho → Re PyData) : sSetO i false f ρ = (f ρ).st ρ fun d => if i < ρ.length then .nx (ρ.set i (some d)) else .bad := by
  unfold sSetO
  congr 1
  funext d
  simp
@[simp] theorem ap_sErr (c : Str) : sErr c ρ = .ex c ρ := (rfl)
@[simp] theorem ap_sRetN : sRetN ρ = .rt .none := (rfl)
@[simp] theorem ap_sBrk : sBrk ρ = .bk ρ := (rfl)
@[simp] theorem ap_sCnt : sCnt ρ = .ct ρ := (rfl)
@[simp] theorem ap_sFor (it : Rho → Re (List PyData)) (g : PyData → Rho → Option Rho) (b : Rho → Sr) : sFor it g b ρ = (it ρ).stL ρ fun ds => sLoop g b ds ρ := (rfl)
/-- the end of a def -/
def outR : Sr → Re PyData
  | .nx _ => .ok .none
  | .rt d => .ok d
  | .ex c _ => .ex c
  | _ => .bad
@[simp] theorem outR_nx : outR (.nx ρ) = .ok .none := (rfl)
@[simp] theorem outR_rt (d : PyData) : outR (.rt d) = .ok d := (rfl)
@[simp] theorem outR_ex (c : Str) : outR (.ex c ρ) = .ex c := (rfl)
@[simp] theorem outR_ite (c : Prop) [Decidable c] (a b : Sr) : outR (if c then a else b) = if c then outR a else outR b := by
  by_cases h : c
  · rw [if_pos h, if_pos h]
  · rw [if_neg h, if_neg h]
theorem run_eq {n m : Nat} {s : Rho → Sr} {ds : List PyData} (h : ds.length = n) : runF n m s ds = outR (s (ds.map some ++ List.replicate (m - n) none)) := by
  unfold runF outR
  exact (if_pos h).trans (by rfl)
theorem run1 {m : Nat} {s : Rho → Sr} {a : PyData} : runF 1 m s [a] = outR (s (some a :: List.replicate (m - 1) none)) := run_eq rfl
theorem run2 {m : Nat} {s : Rho → Sr} {a b : PyData} : runF 2 m s [a, b] = outR (s (some a :: some b :: List.replicate (m - 2) none)) := run_eq rfl
theorem run3 {m : Nat} {s : Rho → Sr} {a b c : PyData} : runF 3 m s [a, b, c] = outR (s (some a :: some b :: some c :: List.replicate (m - 3) none)) := run_eq rfl
/-! operators -/
variable {i j : Int}
@[simp] theorem oSub_i : oSub (.int i) (.int j) = some (.int (i - j)) := (rfl)
@[simp] theorem oAdd_i : oAdd (.int i) (.int j) = some (.int (i + j)) := (rfl)
@[simp] theorem oLt_i : oLt (.int i) (.int j) = some (.bool (decide (i < j))) := (rfl)
@[simp] theorem oLe_i : oLe (.int i) (.int j) = some (.bool (decide (i ≤ j))) := (rfl)
@[simp] theorem oGt_i : oGt (.int i) (.int j) = some (.bool (decide (j < i))) := (rfl)
@[simp] theorem oGe_i : oGe (.int i) (.int j) = some (.bool (decide (j ≤ i))) := (rfl)
@[simp] theorem oNeg_i : oNeg (.int i) = some (.int (-i)) := (rfl)
theorem oMul_r (h : j.natAbs < 2 ^ 63) : oMul (.int i) (.int j) = some (.int (i * j)) := by
  show (if mulOk i j = true then some (PyData.int (i * j)) else none) = _
  rw [if_pos]
  unfold mulOk
  rw [decide_eq_true h]
  rfl
theorem oMul_l (h : i.natAbs < 2 ^ 63) : oMul (.int i) (.int j) = some (.int (i * j)) := by
  show (if mulOk i j = true then some (PyData.int (i * j)) else none) = _
  rw [if_pos]
  unfold mulOk
  rw [decide_eq_true h]
  simp
theorem oDiv_p (h : 0 < j) (h2 : j < 2 ^ 240) : oDiv (.int i) (.int j) = some (.int (i / j)) := by
  show (if divOk j = true then some (PyData.int (i / j)) else none) = _
  rw [if_pos]
  unfold divOk
  rw [decide_eq_true h, decide_eq_true h2]
  rfl
theorem oMod_p (h : 0 < j) : oMod (.int i) (.int j) = some (.int (i % j)) := by
  show (if 0 < j then some (PyData.int (i % j)) else none) = _
  rw [if_pos h]
theorem shaped_i : SeqAt.shaped (.int i) = true := rfl
theorem shaped_b {b : Bool} : SeqAt.shaped (.bool b) = true := rfl
@[simp] theorem oEq_i : oEq (.int i) (.int j) = some (.bool (decide (i = j))) := by
  unfold oEq
  rw [if_pos ⟨rfl, rfl⟩]
  unfold PyData.eqv
  rfl
@[simp] theorem oNe_i : oNe (.int i) (.int j) = some (.bool (decide (i ≠ j))) := by
  unfold oNe
  rw [if_pos ⟨rfl, rfl⟩]
  unfold PyData.eqv
  rw [show (i == j) = decide (i = j) from rfl]
  simp
@[simp] theorem oEq_b {a b : Bool} : oEq (.bool a) (.bool b) = some (.bool (a == b)) := by
  unfold oEq
  rw [if_pos ⟨rfl, rfl⟩]
  unfold PyData.eqv
  rfl
@[simp] theorem oNe_b {a b : Bool} : oNe (.bool a) (.bool b) = some (.bool (a != b)) := by
  unfold oNe
  rw [if_pos ⟨rfl, rfl⟩]
  unfold PyData.eqv
  rfl
@[simp] theorem bInt_i : bInt [.int i] = some (.int i) := (rfl)
@[simp] theorem bInt_b {b : Bool} : bInt [.bool b] = some (.int (if b = true then 1 else 0)) := by cases b <;> rfl
/-! rows of numbers as data -/
def tI (ns : List Int) : PyData := .tuple (ns.map PyData.int)
def lI (ns : List Int) : PyData := .list (ns.map PyData.int)
theorem eqvAll_i : ∀ a b : List Int, PyData.eqvAll (a.map PyData.int) (b.map PyData.int) = decide (a = b)
  | [], [] => by
    unfold PyData.eqvAll
    rfl
  | [], _ :: _ => by
    simp [PyData.eqvAll]
  | _ :: _, [] => by
    simp [PyData.eqvAll]
  | x :: a, y :: b => by
    rw [List.map_cons, List.map_cons]
    unfold PyData.eqvAll
    rw [eqvAll_i a b]
    unfold PyData.eqv
    rw [show (x == y) = decide (x = y) from rfl]
    simp
theorem canLay_i : ∀ a : List Int, PyData.canLayAll0 (a.map PyData.int) = true
  | [] => by
    unfold PyData.canLayAll0
    rfl
  | x :: a => by
    rw [List.map_cons]
    unfold PyData.canLayAll0
    rw [canLay_i a]
    rfl
theorem shaped_t (a : List Int) : SeqAt.shaped (tI a) = true := by
  have h1 : PyData.canLay0 (tI a) = true := by
    unfold tI
    unfold PyData.canLay0
    exact canLay_i a
  have h2 : (tI a).depth ≤ 64 := by
    unfold tI
    unfold PyData.depth
    have := depth_ints a
    omega
  unfold SeqAt.shaped
  rw [h1, decide_eq_true h2]
  rfl
theorem shaped_l (a : List Int) : SeqAt.shaped (lI a) = true := by
  have h1 : PyData.canLay0 (lI a) = true := by
    unfold lI
    unfold PyData.canLay0
    exact canLay_i a
  have h2 : (lI a).depth ≤ 64 := by
    unfold lI
    unfold PyData.depth
    have := depth_ints a
    omega
  unfold SeqAt.shaped
  rw [h1, decide_eq_true h2]
  rfl
@[simp] theorem oEq_t {a b : List Int} : oEq (tI a) (tI b) = some (.bool (decide (a = b))) := by
  unfold oEq
  rw [if_pos ⟨shaped_t a, shaped_t b⟩]
  unfold tI PyData.eqv
  rw [eqvAll_i]
@[simp] theorem oNe_t {a b : List Int} : oNe (tI a) (tI b) = some (.bool (decide (a ≠ b))) := by
  unfold oNe
  rw [if_pos ⟨shaped_t a, shaped_t b⟩]
  unfold tI PyData.eqv
  rw [eqvAll_i]
  simp
@[simp] theorem oEq_l {a b : List Int} : oEq (lI a) (lI b) = some (.bool (decide (a = b))) := by
  unfold oEq
  rw [if_pos ⟨shaped_l a, shaped_l b⟩]
  unfold lI PyData.eqv
  rw [eqvAll_i]
@[simp] theorem oNe_l {a b : List Int} : oNe (lI a) (lI b) = some (.bool (decide (a ≠ b))) := by
  unfold oNe
  rw [if_pos ⟨shaped_l a, shaped_l b⟩]
  unfold lI PyData.eqv
  rw [eqvAll_i]
  simp
@[simp] theorem bLen_t {a : List Int} : bLen [tI a] = some (.int a.length) := by simp [bLen, tI]
@[simp] theorem bLen_l {a : List Int} : bLen [lI a] = some (.int a.length) := by simp [bLen, lI]
@[simp] theorem bLen_s {a : List Int} : bLen [scrD a] = some (.int a.length) := by simp [bLen, scrD]
@[simp] theorem bSorted_t {a : List Int} : bSorted [tI a] = some (lI (srtZ a)) := by
  show (asInts (a.map PyData.int)).map _ = _
  rw [asInts_map]
  rfl
@[simp] theorem bSorted_l {a : List Int} : bSorted [lI a] = some (lI (srtZ a)) := by
  show (asInts (a.map PyData.int)).map _ = _
  rw [asInts_map]
  rfl
@[simp] theorem bTuple_t {a : List Int} : bTuple [tI a] = some (tI a) := (rfl)
@[simp] theorem bTuple_l {a : List Int} : bTuple [lI a] = some (tI a) := (rfl)
theorem oAdd_t {a b : List Int} (h : a.length + b.length ≤ 10000) : oAdd (tI a) (tI b) = some (tI (a ++ b)) := by
  show (if okLen ((a.map PyData.int).length + (b.map PyData.int).length) = true then some (PyData.tuple (a.map PyData.int ++ b.map PyData.int)) else none) = _
  rw [if_pos (by rw [List.length_map, List.length_map]; exact decide_eq_true h), ← List.map_append]
  rfl
/-- x[i] of numbers -/
def atZ (ns : List Int) (i : Int) : Option Int := (ixN ns.length i).bind fun j => ns[j]?
theorem atD_i (ns : List Int) (i : Int) : atD (ns.map PyData.int) i = (atZ ns i).map PyData.int := by
  unfold atD atZ
  rw [List.length_map]
  cases ixN ns.length i with
  | none => rfl
  | some j => simp
@[simp] theorem oIx_t {ns : List Int} : oIx (tI ns) (.int i) = (atZ ns i).map PyData.int := atD_i ns i
@[simp] theorem oIx_l {ns : List Int} : oIx (lI ns) (.int i) = (atZ ns i).map PyData.int := atD_i ns i
@[simp] theorem oIx_s {ns : List Int} : oIx (scrD ns) (.int i) = (atZ ns i).map PyData.int := atD_i ns i
theorem atZ_nat {ns : List Int} {k : Nat} (h : k < ns.length) : atZ ns (k : Int) = ns[k]? := by
  unfold atZ ixN
  rw [if_pos (Int.natCast_nonneg k), if_pos (by omega)]
  rfl
theorem atZ_p {ns : List Int} {i : Int} (h0 : 0 ≤ i) (h : i < ns.length) : ∃ x, atZ ns i = some x ∧ ns[i.toNat]? = some x := by
  unfold atZ ixN
  rw [if_pos h0, if_pos h]
  have : i.toNat < ns.length := by omega
  exact ⟨ns[i.toNat], List.getElem?_eq_getElem this, List.getElem?_eq_getElem this⟩
theorem mkT_i {ns : List Int} (h : ns.length ≤ 10000) : mkT (ns.map PyData.int) = .ok (tI ns) := by
  unfold mkT
  rw [if_pos (by rw [List.length_map]; exact decide_eq_true h)]
  rfl
theorem mkL_i {ns : List Int} (h : ns.length ≤ 10000) : mkL (ns.map PyData.int) = .ok (lI ns) := by
  unfold mkL
  rw [if_pos (by rw [List.length_map]; exact decide_eq_true h)]
  rfl
/-- a, a + 1, .. -/
def upI (a : Int) (n : Nat) : List Int := (List.range n).map fun (k : Nat) => a + (k : Int)
theorem upI_length (a : Int) (n : Nat) : (upI a n).length = n := by simp [upI]
theorem upFrom_i (a : Int) (n : Nat) : upFrom a n = (upI a n).map PyData.int := by
  unfold upFrom upI
  rw [List.map_map]
  rfl
theorem tupRg_i (h : rgOk i j = true) : tupRg (.int i) (.int j) = some (tI (upI i (j - i).toNat)) := by
  show (if rgOk i j = true then some (PyData.tuple (upFrom i (j - i).toNat)) else none) = _
  rw [if_pos h, upFrom_i]
  rfl
theorem rg1_n {n : Nat} (h : n < 2 ^ 62) : rg1 [.int (n : Int)] = .ok ((upI 0 n).map PyData.int) := by
  show (if small62 (n : Int) = true then Re.ok (upFrom 0 (n : Int).toNat) else .bad) = _
  rw [if_pos, upFrom_i]
  · rfl
  · unfold small62
    rw [decide_eq_true (by omega), decide_eq_true (by omega)]
    rfl
@[simp] theorem itS_t {ns : List Int} : itS (tI ns) = .ok (ns.map PyData.int) := (rfl)
@[simp] theorem itS_l {ns : List Int} : itS (lI ns) = .ok (ns.map PyData.int) := (rfl)
/-- [e(k) for k in numbers], e(k) a number -/
theorem lc_i {its : Rho → Re (List PyData)} {v : Nat} {f : Rho → Re PyData} {ns : List Int} {h : Int → Int} (hi : its ρ = .ok (ns.map PyData.int)) (hl : ns.length ≤ 10000) (hf : ∀ k ∈ ns, f ((ρ.set v none).set v (some (.int k))) = .ok (.int (h k))) :
    rLc its [v] (gSlot v) yesR f ρ = .ok (lI (ns.map h)) := by
  unfold rLc
  rw [hi, re_ok, if_pos (by rw [List.length_map]; exact decide_eq_true hl)]
  have key : ∀ ms : List Int, (∀ k ∈ ms, k ∈ ns) → lcGo (gSlot v) yesR f (ρ.set v none) (ms.map PyData.int) = some ((ms.map h).map PyData.int) := by
    intro ms
    induction ms with
    | nil => intro _; rfl
    | cons k ms ih =>
      intro hk
      have e := hf k (hk k List.mem_cons_self)
      show (match f ((ρ.set v none).set v (some (.int k))) with | .ok x => (match lcGo (gSlot v) yesR f (ρ.set v none) (ms.map PyData.int) with | some xs => some (x :: xs) | none => none) | _ => none) = _
      rw [e, ih fun k' hk' => hk k' (List.mem_cons_of_mem _ hk')]
      rfl
  show (match lcGo (gSlot v) yesR f (ρ.set v none) (ns.map PyData.int) with | some xs => Re.ok (PyData.list xs) | none => .bad) = _
  rw [key ns fun _ h => h]
  rfl
/-- a loop with an invariant: Inv k ρ ahead of the k-th turn -/
theorem loop_inv {g : PyData → Rho → Option Rho} {body : Rho → Sr} (I : Nat → Rho → Prop) : ∀ (ds : List PyData) (k0 : Nat) (ρ : Rho), I k0 ρ → (∀ k d ρ, ds[k]? = some d → I (k0 + k) ρ → ∃ ρ1, g d ρ = some ρ1 ∧ ∃ ρ2, body ρ1 = .nx ρ2 ∧ I (k0 + k + 1) ρ2) → ∃ ρ', sLoop g body ds ρ = .nx ρ' ∧ I (k0 + ds.length) ρ'
  | [], k0, ρ, h, _ => ⟨ρ, rfl, h⟩
  | d :: ds, k0, ρ, h, st => by
    obtain ⟨ρ1, e1, ρ2, e2, h2⟩ := st 0 d ρ rfl h
    obtain ⟨ρ', e3, h3⟩ := loop_inv I ds (k0 + 1) ρ2 h2 fun k d' ρ'' hk hI => by
      have := st (k + 1) d' ρ'' (by simpa using hk) (by rw [show k0 + (k + 1) = k0 + 1 + k by omega]; exact hI)
      rw [show k0 + (k + 1) + 1 = k0 + 1 + k + 1 by omega] at this
      exact this
    refine ⟨ρ', ?_, ?_⟩
    · unfold sLoop
      rw [e1]
      show (match body ρ1 with | .nx ρ2 => sLoop g body ds ρ2 | .ct ρ2 => sLoop g body ds ρ2 | .bk ρ2 => .nx ρ2 | .rt d => .rt d | .ex c ρ2 => .ex c ρ2 | .bad => .bad) = _
      rw [e2]
      exact e3
    · rw [List.length_cons, show k0 + (ds.length + 1) = k0 + 1 + ds.length by omega]
      exact h3
/-! own lists -/
def lOf : Option (Option PyData) → Option (List PyData)
  | some (some (.list ds)) => some ds
  | _ => none
@[simp] theorem lOf_l {ns : List Int} : lOf (some (some (lI ns))) = some (ns.map PyData.int) := (rfl)
@[simp] theorem lOf_d {ds : List PyData} : lOf (some (some (.list ds))) = some ds := (rfl)
theorem getL_eq (i : Nat) : getL ρ i = lOf ρ[i]? := by
  unfold getL lOf
  rfl
def appR (ρ : Rho) (i : Nat) : Option (List PyData) → Re PyData → Sr
  | some ds, r => r.st ρ fun d => if okLen (ds.length + 1) = true then .nx (ρ.set i (some (.list (ds ++ [d])))) else .bad
  | none, _ => .bad
@[simp] theorem ap_sApp (i : Nat) (f : Rho → Re PyData) : sApp i false f ρ = appR ρ i (lOf ρ[i]?) (f ρ) := by
  unfold sApp appR
  rw [getL_eq]
  cases lOf ρ[i]? with
  | none => rfl
  | some ds =>
    show (f ρ).st ρ _ = (f ρ).st ρ _
    congr 1
    funext d
    simp
theorem snoc_i (ns : List Int) (x : Int) : PyData.list (ns.map PyData.int ++ [.int x]) = lI (ns ++ [x]) := by
  unfold lI
  rw [List.map_append]
  rfl
theorem appR_i {i : Nat} {ns : List Int} {x : Int} (h : ns.length < 10000) : appR ρ i (some (ns.map PyData.int)) (.ok (.int x)) = .nx (ρ.set i (some (lI (ns ++ [x])))) := by
  show (if okLen ((ns.map PyData.int).length + 1) = true then Sr.nx (ρ.set i (some (PyData.list (ns.map PyData.int ++ [.int x])))) else .bad) = _
  rw [if_pos (by rw [List.length_map]; exact decide_eq_true h), snoc_i]
theorem ixN_p {n : Nat} {i : Int} (h : 0 ≤ i) (h2 : i < n) : ixN n i = some i.toNat := by
  unfold ixN
  rw [if_pos h, if_pos h2]
theorem erase_map {f : α → β} : ∀ (l : List α) (i : Nat), (l.map f).eraseIdx i = (l.eraseIdx i).map f
  | [], _ => rfl
  | _ :: _, 0 => rfl
  | x :: l, i + 1 => by
    rw [List.map_cons, List.eraseIdx_cons_succ, List.eraseIdx_cons_succ, List.map_cons, erase_map l i]
theorem appPop_i {i j : Nat} {f : Rho → Re PyData} {ns ms : List Int} {x z : Int} (hij : i ≠ j) (hi : ρ[i]? = some (some (lI ns))) (hj : ρ[j]? = some (some (lI ms))) (hf : f ρ = .ok (.int z)) (h0 : 0 ≤ z) (hz : z < ms.length) (hx : ms[z.toNat]? = some x) (h1 : ns.length < 10000) (h2 : ms.length ≤ 10000) :
    sAppPop i j f ρ = .nx ((ρ.set j (some (lI (ms.eraseIdx z.toNat)))).set i (some (lI (ns ++ [x])))) := by
  have e1 : getL ρ i = some (ns.map PyData.int) := by rw [getL_eq, hi]; rfl
  have e2 : getL ρ j = some (ms.map PyData.int) := by rw [getL_eq, hj]; rfl
  have e3 : popAt ρ j (.int z) = some (.int x, (ms.map PyData.int).eraseIdx z.toNat) := by
    unfold popAt
    rw [e2]
    show (if okLen (ms.map PyData.int).length = true then (match ixN (ms.map PyData.int).length z with
      | some k => (match (ms.map PyData.int)[k]? with | some y => some (y, (ms.map PyData.int).eraseIdx k) | none => none)
      | none => none) else none) = _
    rw [if_pos (by rw [List.length_map]; exact decide_eq_true h2), List.length_map, ixN_p h0 hz]
    show (match (ms.map PyData.int)[z.toNat]? with | some y => some (y, (ms.map PyData.int).eraseIdx z.toNat) | none => none) = _
    rw [List.getElem?_map, hx]
    rfl
  unfold sAppPop
  rw [e1, e2, hf]
  show (match popAt ρ j (.int z) with
    | some (y, es') => if okLen ((ns.map PyData.int).length + 1) = true ∧ i ≠ j then Sr.nx ((ρ.set j (some (PyData.list es'))).set i (some (PyData.list (ns.map PyData.int ++ [y])))) else .bad
    | none => .bad) = _
  rw [e3]
  show (if okLen ((ns.map PyData.int).length + 1) = true ∧ i ≠ j then Sr.nx ((ρ.set j (some (PyData.list ((ms.map PyData.int).eraseIdx z.toNat)))).set i (some (PyData.list (ns.map PyData.int ++ [.int x])))) else .bad) = _
  rw [if_pos ⟨by rw [List.length_map]; exact decide_eq_true h1, hij⟩, snoc_i]
  rw [erase_map]
  rfl
/-! tries -/
@[simp] theorem try_rt {c : Str} {s u : Rho → Sr} {d : PyData} (h : s ρ = .rt d) : sTry c s u ρ = .rt d := by
  unfold sTry
  rw [h]
theorem try_nx {c : Str} {s u : Rho → Sr} {ρ' : Rho} (h : s ρ = .nx ρ') : sTry c s u ρ = .nx ρ' := by
  unfold sTry
  rw [h]
def nox : Sr → Sr
  | .ex _ _ => .bad
  | r => r
@[simp] theorem nox_nx (ρ' : Rho) : nox (.nx ρ') = .nx ρ' := (rfl)
@[simp] theorem nox_rt (d : PyData) : nox (.rt d) = .rt d := (rfl)
theorem try_ex {c : Str} {s u : Rho → Sr} {ρ' : Rho} (h : s ρ = .ex c ρ') : sTry c s u ρ = nox (u ρ') := by
  unfold sTry
  rw [h]
  show (if c = c then (match u ρ' with | .ex _ _ => Sr.bad | r => r) else .bad) = _
  rw [if_pos rfl]
  unfold nox
  rfl
theorem tryAs_rt {c : Str} {i : Nat} {s u : Rho → Sr} {d : PyData} (h : s ρ = .rt d) : sTryAs c i s u ρ = .rt d := by
  unfold sTryAs
  rw [h]
theorem tryAs_nx {c : Str} {i : Nat} {s u : Rho → Sr} {ρ' : Rho} (h : s ρ = .nx ρ') : sTryAs c i s u ρ = .nx ρ' := by
  unfold sTryAs
  rw [h]
theorem tryAs_ex_rt {c : Str} {i : Nat} {s u : Rho → Sr} {ρ' : Rho} {d : PyData} (h : s ρ = .ex c ρ') (hi : i < ρ'.length) (hu : u (ρ'.set i none) = .rt d) : sTryAs c i s u ρ = .rt d := by
  unfold sTryAs
  rw [h]
  show (if c = c ∧ i < ρ'.length then _ else _) = _
  rw [if_pos ⟨rfl, hi⟩, hu]
theorem tryAs_ex_nx {c : Str} {i : Nat} {s u : Rho → Sr} {ρ' ρ2 : Rho} (h : s ρ = .ex c ρ') (hi : i < ρ'.length) (hu : u (ρ'.set i none) = .nx ρ2) : sTryAs c i s u ρ = .nx (ρ2.set i none) := by
  unfold sTryAs
  rw [h]
  show (if c = c ∧ i < ρ'.length then _ else _) = _
  rw [if_pos ⟨rfl, hi⟩, hu]
/-! steps -/
theorem go {s u : Rho → Sr} {ρ' : Rho} {R : Re PyData} (h : s ρ = .nx ρ') (k : outR (u ρ') = R) : outR (sSeq s u ρ) = R := by
  rw [ap_sSeq, h, sqS_nx]
  exact k
theorem go_rt {s u : Rho → Sr} {d : PyData} (h : s ρ = .rt d) : outR (sSeq s u ρ) = .ok d := by
  rw [ap_sSeq, h, sqS_rt]
  rfl
theorem go_ex {s u : Rho → Sr} {ρ' : Rho} {c : Str} (h : s ρ = .ex c ρ') : outR (sSeq s u ρ) = .ex c := by
  rw [ap_sSeq, h, sqS_ex]
  rfl
def mtT (o : PyData → List PyData → Option PyData) (d : PyData) (r : Re (List PyData)) : Re PyData := match d with | .tuple _ => r.andThen fun es => liftO (o d es) | _ => .bad
@[simp] theorem ap_meth (o : PyData → List PyData → Option PyData) (f : Rho → Re PyData) (g : Rho → Re (List PyData)) : rMeth o f g ρ = (f ρ).andThen fun d => mtT o d (g ρ) := by
  unfold rMeth
  congr 1
@[simp] theorem mtT_t (o : PyData → List PyData → Option PyData) {ns : List Int} {r : Re (List PyData)} : mtT o (tI ns) r = r.andThen fun es => liftO (o (tI ns) es) := (rfl)
theorem oIdx_i {ns : List Int} {z : Int} : oIdx (tI ns) [.int z] = (idxZ z ns).map fun (j : Nat) => PyData.int (j : Int) := by
  show ((asInts (ns.map PyData.int)).bind fun ns => (idxZ z ns).map fun (j : Nat) => PyData.int (j : Int)) = _
  rw [asInts_map]
  rfl
theorem idxZ_mem {z : Int} : ∀ {ns : List Int}, z ∈ ns → ∃ j, idxZ z ns = some j
  | n :: ns, h => by
    unfold idxZ
    by_cases e : n = z
    · rw [if_pos e]
      exact ⟨_, rfl⟩
    · rw [if_neg e]
      obtain ⟨j, hj⟩ := idxZ_mem ((List.mem_cons.mp h).resolve_left fun q => e q.symm)
      rw [hj]
      exact ⟨_, rfl⟩
@[simp] theorem mkT1 {a : Int} : mkT [.int a] = .ok (tI [a]) := mkT_i (ns := [a]) (by simp)
@[simp] theorem mkT2 {a b : Int} : mkT [.int a, .int b] = .ok (tI [a, b]) := mkT_i (ns := [a, b]) (by simp)
@[simp] theorem mkT3 {a b c : Int} : mkT [.int a, .int b, .int c] = .ok (tI [a, b, c]) := mkT_i (ns := [a, b, c]) (by simp)
@[simp] theorem mkT0 : mkT [] = .ok (tI []) := mkT_i (ns := []) (by simp)
@[simp] theorem mkL0 : mkL [] = .ok (lI []) := mkL_i (ns := []) (by simp)
@[simp] theorem mkL1 {a : Int} : mkL [.int a] = .ok (lI [a]) := mkL_i (ns := [a]) (by simp)
@[simp] theorem mkL2 {a b : Int} : mkL [.int a, .int b] = .ok (lI [a, b]) := mkL_i (ns := [a, b]) (by simp)
@[simp] theorem mkL3 {a b c : Int} : mkL [.int a, .int b, .int c] = .ok (lI [a, b, c]) := mkL_i (ns := [a, b, c]) (by simp)
@[simp] theorem mkL4 {a b c d : Int} : mkL [.int a, .int b, .int c, .int d] = .ok (lI [a, b, c, d]) := mkL_i (ns := [a, b, c, d]) (by simp)
@[simp] theorem mkL5 {a b c d e : Int} : mkL [.int a, .int b, .int c, .int d, .int e] = .ok (lI [a, b, c, d, e]) := mkL_i (ns := [a, b, c, d, e]) (by simp)
@[simp] theorem mkL6 {a b c d e f : Int} : mkL [.int a, .int b, .int c, .int d, .int e, .int f] = .ok (lI [a, b, c, d, e, f]) := mkL_i (ns := [a, b, c, d, e, f]) (by simp)
@[simp] theorem mkL7 {a b c d e f g : Int} : mkL [.int a, .int b, .int c, .int d, .int e, .int f, .int g] = .ok (lI [a, b, c, d, e, f, g]) := mkL_i (ns := [a, b, c, d, e, f, g]) (by simp)
@[simp] theorem mkL8 {a b c d e f g h : Int} : mkL [.int a, .int b, .int c, .int d, .int e, .int f, .int g, .int h] = .ok (lI [a, b, c, d, e, f, g, h]) := mkL_i (ns := [a, b, c, d, e, f, g, h]) (by simp)
/-- cuts of numbers -/
def cutZ (ns : List Int) (lo hi : Option Int) : List Int := (ns.drop (HT.sIx ns.length 0 lo)).take (HT.sIx ns.length ns.length hi - HT.sIx ns.length 0 lo)
@[simp] theorem oCut_t {ns : List Int} {lo hi : Option Int} : oCut (tI ns) lo hi = .ok (tI (cutZ ns lo hi)) := by
  show Re.ok (PyData.tuple (cutD (ns.map PyData.int) lo hi)) = _
  unfold cutD cutZ tI
  rw [List.length_map, List.map_take, List.map_drop]
@[simp] theorem oCut_l {ns : List Int} {lo hi : Option Int} : oCut (lI ns) lo hi = .ok (lI (cutZ ns lo hi)) := by
  show Re.ok (PyData.list (cutD (ns.map PyData.int) lo hi)) = _
  unfold cutD cutZ lI
  rw [List.length_map, List.map_take, List.map_drop]
theorem cutZ_to {ns : List Int} {k : Nat} (h : k ≤ ns.length) : cutZ ns none (some (k : Int)) = ns.take k := by
  unfold cutZ
  rw [HT.sIx_none, HT.sIx_nat]
  simp [Nat.min_eq_left h]
theorem cutZ_from {ns : List Int} {k : Nat} : cutZ ns (some (k : Int)) none = ns.drop k := by
  unfold cutZ
  rw [HT.sIx_none, HT.sIx_nat]
  by_cases h : k ≤ ns.length
  · rw [Nat.min_eq_left h, ← List.length_drop, List.take_length]
  · rw [Nat.min_eq_right (by omega), List.drop_length, List.take_nil, List.drop_eq_nil_of_le (by omega)]
theorem erase_perm : ∀ (l : List α) (i : Nat) (h : i < l.length), (l[i] :: l.eraseIdx i).Perm l
  | x :: l, 0, _ => .refl _
  | x :: l, i + 1, h => by
    have h' : i < l.length := by simpa using h
    rw [List.eraseIdx_cons_succ, List.getElem_cons_succ]
    exact (List.Perm.swap _ _ _).trans ((erase_perm l i h').cons x)
theorem up_succ (n : Nat) : (upI 0 n).map (· + 1) = upI 1 n := by
  unfold upI
  rw [List.map_map]
  refine List.map_congr_left fun k _ => ?_
  simp
  omega
end
end Pu

set_option Elab.async false
set_option linter.all false
set_option maxRecDepth 100000
set_option maxHeartbeats 2000000
/-! t[::-1] of a tuple -/
namespace HT
open PySem PySem.Spec PyProof.Rows
theorem rev_adjust (n : Nat) : Builtin.Slice.sliceAdjust none none (-1) (n : Int) = ((n : Int) - 1, -1) := by
  unfold Builtin.Slice.sliceAdjust
  simp
theorem rev_places (n : Nat) : Builtin.Slice.slicePlaces ((n : Int) - 1) (-1) (-1) = n := by
  unfold Builtin.Slice.slicePlaces
  simp
  split
  · omega
  · omega
theorem rev_pick (l : List Value) : ((List.range l.length).filterMap fun (m : Nat) => l.toArray[((l.length : Int) - 1 + (m : Int) * (-1)).toNat]?).toArray = l.reverse.toArray := by
  congr 1
  have e : ∀ k, k ≤ l.length → (List.range k).filterMap (fun (m : Nat) => l.toArray[((l.length : Int) - 1 + (m : Int) * (-1)).toNat]?) = l.reverse.take k := by
    intro k
    induction k with
    | zero => intro _; rfl
    | succ k ih =>
      intro hk
      rw [List.range_succ, List.filterMap_append, ih (by omega)]
      have h1 : ((l.length : Int) - 1 + (k : Int) * (-1)).toNat = l.length - 1 - k := by omega
      have h2 : l.toArray[((l.length : Int) - 1 + (k : Int) * (-1)).toNat]? = some l[l.length - 1 - k] := by
        rw [h1, List.getElem?_toArray, List.getElem?_eq_getElem (by omega)]
      have h3 : l.reverse[k]? = some l[l.length - 1 - k] := by
        rw [List.getElem?_reverse (by omega), List.getElem?_eq_getElem (by omega)]
      rw [List.take_add_one, h3]
      congr 1
      rw [List.filterMap_cons, h2]
      rfl
  rw [e _ (Nat.le_refl _)]
  rw [← List.length_reverse, List.take_length]
section
variable {prog : Program} {w : World} {A : Around} {E : Value → Shared → Prop} {s : Shared}
theorem rev_applied {sl : Addr} {n : Nat} {tk : Tok} {Q : Int × Int × Nat → Shared → Prop} (hs : s.heap.IsSliceOf sl .none .none (.int (-1) tk)) (h : Q ((n : Int) - 1, -1, n) s) :
    wpAny (model prog w) A (Builtin.Slice.sliceApplied (.ref sl) (pure (n : Int))) Q E s := by
  obtain ⟨ob, ho, hc, hd⟩ := id hs
  unfold Builtin.Slice.sliceApplied Builtin.Slice.sliceFields
  refine wpAny_bind (wpAny_bind (wpAny_field ho hd (x := .none) rfl (wpAny_bind (wpAny_field ho hd (x := .none) rfl (wpAny_bind (wpAny_field ho hd (x := .int (-1) tk) rfl (wpAny_pure ?_)))))))
  refine wpAny_bind (slicePart_int ?_)
  show wpAny _ _ (if ((-1 : Int) == 0) = true then _ else _) _ _ s
  rw [if_neg (by decide)]
  refine wpAny_bind (slicePart_none (wpAny_bind (slicePart_none (wpAny_bind (wpAny_pure ?_)))))
  show wpAny _ _ (match Builtin.Slice.sliceAdjust none none (-1) (n : Int) with | (lo, hi) => pure (lo, (-1 : Int), Builtin.Slice.slicePlaces lo hi (-1))) _ _ s
  rw [rev_adjust n]
  show wpAny _ _ (pure ((n : Int) - 1, (-1 : Int), Builtin.Slice.slicePlaces ((n : Int) - 1) (-1) (-1))) _ _ s
  rw [rev_places]
  exact wpAny_pure h
theorem rev_getItem {t sl : Addr} {its : List Value} {tk : Tok} {Q : Value → Shared → Prop} (ht : IsTup s.heap t its.toArray) (hs : s.heap.IsSliceOf sl .none .none (.int (-1) tk))
    (h : Q (.ref s.heap.objs.size) { s with heap := s.heap.push { cls := .type "tuple", data := .seq its.reverse.toArray } }) (hz : its.length ≤ sizeLine) : wpAny (model prog w) A (getItem (.ref t) (.ref sl)) Q E s := by
  have hok : sizeOk (.seq its.reverse.toArray) := by
    show its.reverse.toArray.size ≤ sizeLine
    rw [List.size_toArray, List.length_reverse]
    exact hz
  obtain ⟨ob, ho, hc, hd⟩ := id hs
  have ty : s.TypeIs (.ref sl) "slice" := ⟨ob, ho, hc⟩
  unfold getItem
  try with_reducible refine wpAny_holding ?_
  first | refine wpAny_bind (wpAny_pure ?_) | skip
  refine wpAny_bind (wpAny_sequenceKey ht.typeIs (by decide) ?_)
  refine wpAny_bind (wpAny_callSpecial?_slot (name := Str.ofString "__getitem__") ht.typeIs PyProof.Rows.slot_tuple_getitem (wpAny_call_entry PyProof.Rows.slot_tuple_getitem ht.typeIs entry_tuple_getitem ?_ (args_tuple_getitem _ _)))
  show wpAny _ _ (Builtin.Tuple.tupleItemsOf (.ref t) >>= _) _ _ s
  refine wpAny_bind (tupleItemsOf_ ht (wpAny_bind (wpAny_typeOf ty ?_)))
  rw [if_pos (by decide)]
  refine wpAny_bind ?_
  rw [List.size_toArray]
  refine rev_applied hs ?_
  have hno : ¬ ((((its.length : Int) - 1 == 0) && ((-1 : Int) == 1) && (its.length == its.toArray.size)) = true) := by simp
  show wpAny _ _ (if (((its.length : Int) - 1 == 0) && ((-1 : Int) == 1) && (its.length == its.toArray.size)) = true then _ else _) _ _ s
  rw [if_neg hno, rev_pick]
  first
    | exact wpAny_bind (m := Builtin.Tuple.tupleExact _) (wpAny_newObj_type (wpAny_pure ⟨_, rfl, wpAny_pure h⟩) hok)
    | exact wpAny_bind (m := Builtin.Tuple.tupleExact _) (wpAny_newObj_type (wpAny_bind (wpAny_pure (wpAny_pure ⟨_, rfl, wpAny_pure h⟩))) hok)
    | exact wpAny_bind (wpAny_bind (m := Builtin.Tuple.tupleExact _) (wpAny_newObj_type (wpAny_pure (wpAny_pure ⟨_, rfl, wpAny_pure h⟩)) hok))
    | exact wpAny_bind (wpAny_bind (m := Builtin.Tuple.tupleExact _) (wpAny_newObj_type (wpAny_pure ⟨_, rfl, wpAny_pure h⟩) hok))
end
end HT
namespace Pu
open PySem PySem.Spec PyProof.Rows L2
section
variable {X : Cx} {M : Nat → Bool} {F : Fx} {E : L2.St → XK} {la fa lb fb : Bool} {a b : Expr} {pos : Pos} {f g : Rho → Re PyData}
def tRev (K : PySem.W.Frag) (te ts : TE) : TE := fun σ H Q => te σ H fun x H1 => ts σ H1 fun y H2 => ∃ p xs, x = .ref p ∧ y = .int (-1) ∧ SqT K H2 p xs ∧ NewT Q H2 xs.reverse
theorem vals_rev : ∀ {xs : List V} {us : List Value}, Vals xs us → Vals xs.reverse us.reverse
  | _, _, .nil => .nil
  | _, _, .cons h r => by
    rw [List.reverse_cons, List.reverse_cons]
    exact (vals_rev r).append (.cons h .nil)
theorem pe_rev {te ts : TE} {p2 : Pos} (he : PE X a te) (hs : PE X b ts) : PE X (.Subscript a (.Slice none none (some b) p2) pos) (tRev X.K te ts) := by
  refine ⟨fun pins s σ H Q I h => ?_⟩
  refine Subscript_ (thn (he.run pins s σ H _ I h) fun v s1 ⟨x, H1, I1, r1, q1⟩ => ?_)
  refine wpAny_Slice ?_
  rw [evalPart_none]
  refine wpAny_pure (wpAny_pure ?_)
  rw [evalPart_some]
  refine thn (hs.run pins s1 σ H1 _ I1 q1) fun vu s3 ⟨y, H3, I3, ry, q3⟩ => ?_
  obtain ⟨p, xs, rfl, rfl, hq, q⟩ := q3
  cases r1
  obtain ⟨tk, rfl⟩ := ry
  have I4 : Inv X pins σ H3 { s3 with heap := s3.heap.push { cls := .type "slice", data := .fields #[.none, .none, .int (-1) tk] } } := I3.kept (t' := s3.toks) fun b ob q => Heap.get?_push_of_some _ q
  obtain ⟨its, r, ht, hz⟩ := I4.tuple hq
  show wpAny (model X.prog X.w) X.A (subscriptTail a (.Slice none none (some b) p2) (.ref p) (.ref s3.heap.objs.size)) (EP X pins σ Q) X.xe _
  refine tail_any (ops := [.ref p, .ref s3.heap.objs.size]) ht.typeIs PyProof.Rows.slot_tuple_getitem.lookup ?_ (by with_unfolding_all rfl)
  refine HT.rev_getItem ht (Heap.IsSliceOf.new ..) ?_ (by rw [← r.length]; exact hz)
  exact Inv.tupNew (tk := s3.toks) I4 (vals_rev r) (by rw [List.length_reverse]; exact hz) q
def oRev : PyData → PyData → Option PyData := fun d e => match d, e with | .tuple ds, .int i => if i = -1 then some (.tuple ds.reverse) else none | _, _ => none
theorem rpA_rev {K : PySem.W.Frag} {H : Hp} {S : Addr → Prop} : ∀ {vs : List V} {ds : List PyData}, RpA K H S vs ds → RpA K H S vs.reverse ds.reverse
  | _, _, .nil => .nil
  | _, _, .cons h r => by
    rw [List.reverse_cons, List.reverse_cons]
    exact (rpA_rev r).append (.cons h .nil)
theorem de_rev {p2 : Pos} (ha : DE X M F E la fa a f) (hb : DE X M F E lb fb b g) : DE X M F E (la || lb) false (.Subscript a (.Slice none none (some b) p2) pos) (r2 oRev f g) := by
  obtain ⟨ta, pa, ha⟩ := ha
  obtain ⟨tb, pb, hb⟩ := hb
  refine ⟨_, pe_rev pa pb, fun σ H ρ er Q z => ?_⟩
  refine ha σ H ρ er _ (we_step z fun d v H1 e1 s1 r1 _ z1 => ?_)
  refine hb σ H1 ρ (er.same s1) _ (we_step (lk' := lb) (fr' := fb) z1 fun e u H2 e2 s2 r2 _ z2 => ?_)
  have r1' := r1.same s2
  cases r1' with
  | tup h1 rr =>
    cases r2 with
    | int i =>
      have z2 : WE X M F E (la || lb) false σ ρ H2 (liftO (if i = -1 then some (.tuple _) else none)) Q := z2
      by_cases hi : i = -1
      · rw [if_pos hi] at z2
        subst hi
        refine ⟨_, _, rfl, rfl, h1.sq, fun p o hp hd => z2 _ _ (same_new hp) ?_ fun z => nomatch z⟩
        exact .tup (.inl ⟨o, upd_same, hd⟩) ((rpA_rev (rr.same (same_new hp))).wide fun a h => rs_or1 a h)
      · rw [if_neg hi] at z2
        exact z2.elim
    | bl _ => exact z2.elim
    | non => exact z2.elim
    | str _ => exact z2.elim
    | tup _ _ => exact z2.elim
    | lst _ _ _ => exact z2.elim
    | scr _ _ => exact z2.elim
    | dic _ _ _ _ => exact z2.elim
    | dit _ _ _ _ => exact z2.elim
    | dif _ _ _ => exact z2.elim
  | bl _ => exact z2.elim
  | non => exact z2.elim
  | int _ => exact z2.elim
  | str _ => exact z2.elim
  | lst _ _ _ => exact z2.elim
  | scr _ _ => exact z2.elim
  | dic _ _ _ _ => exact z2.elim
  | dit _ _ _ _ => exact z2.elim
  | dif _ _ _ => exact z2.elim
@[simp] theorem oRev_t {ns : List Int} : oRev (tI ns) (.int (-1)) = some (tI ns.reverse) := by
  show some (PyData.tuple (ns.map PyData.int).reverse) = _
  rw [← List.map_reverse]
  rfl
end
end Pu

set_option Elab.async false
set_option linter.all false
set_option maxRecDepth 100000
set_option maxHeartbeats 2000000
namespace Pu
open PySem PySem.Spec PyProof.Rows L2
section
variable {α β : Type} {ρ : Rho} {i j : Int}
def lnkT : Option PyData → Re Bool → Re Bool
  | some (.bool true), r => r
  | some (.bool false), _ => .ok false
  | _, _ => .bad
@[simp] theorem lnkT_b (b : Bool) (r : Re Bool) : lnkT (some (.bool b)) r = if b = true then r else .ok false := by cases b <;> rfl
@[simp] theorem asR_b (b : Bool) : asR (some (.bool b)) = .ok b := (rfl)
@[simp] theorem ap_chT (f : Rho → Re PyData) (g : PyData → Rho → Re Bool) : rChT f g ρ = (f ρ).andThen fun d => g d ρ := (rfl)
@[simp] theorem ap_linkT (gg : PyData → PyData → Option PyData) (g : Rho → Re PyData) (k : PyData → Rho → Re Bool) (d : PyData) : cLinkT gg g k d ρ = (g ρ).andThen fun e => lnkT (gg d e) (k e ρ) := by
  unfold cLinkT
  congr 1
  funext e
  rcases gg d e with _ | v
  · rfl
  · cases v with
    | bool b => cases b <;> rfl
    | _ => rfl
@[simp] theorem ap_lastT (gg : PyData → PyData → Option PyData) (g : Rho → Re PyData) (d : PyData) : cLastT gg g d ρ = (g ρ).andThen fun e => asR (gg d e) := (rfl)
@[simp] theorem ap_ch (f : Rho → Re PyData) (g : PyData → Rho → Re PyData) : rCh f g ρ = (f ρ).andThen fun d => g d ρ := (rfl)
@[simp] theorem ap_last (gg : PyData → PyData → Option PyData) (g : Rho → Re PyData) (d : PyData) : cLast gg g d ρ = (g ρ).andThen fun e => liftO (gg d e) := (rfl)
def asgR : Option Rho → Sr
  | some ρ => .nx ρ
  | none => .bad
@[simp] theorem asgR_some : asgR (some ρ) = .nx ρ := (rfl)
@[simp] theorem ap_sAsg (g : PyData → Rho → Option Rho) (f : Rho → Re PyData) : sAsg false g f ρ = (f ρ).st ρ fun d => asgR (g d ρ) := by
  unfold sAsg
  congr 1
@[simp] theorem gSeq3 (g : List PyData → Rho → Option Rho) (a b c : PyData) : gSeqD 3 g (.tuple [a, b, c]) ρ = g [a, b, c] ρ := (rfl)
@[simp] theorem gSeq2 (g : List PyData → Rho → Option Rho) (a b : PyData) : gSeqD 2 g (.tuple [a, b]) ρ = g [a, b] ρ := (rfl)
@[simp] theorem gMore_c (g : PyData → Rho → Option Rho) (h : List PyData → Rho → Option Rho) (d : PyData) (ds : List PyData) : gMore g h (d :: ds) ρ = (g d ρ).bind (h ds) := (rfl)
@[simp] theorem gNone_n : gNone [] ρ = some ρ := (rfl)
@[simp] theorem gSlot_n (k : Nat) (d : PyData) : gSlot k d ρ = some (ρ.set k (some d)) := (rfl)
@[simp] theorem bLen_d (ds : List PyData) : bLen [.tuple ds] = some (.int ds.length) := (rfl)
@[simp] theorem bLen_dl (ds : List PyData) : bLen [.list ds] = some (.int ds.length) := (rfl)
@[simp] theorem bTuple_dl (ds : List PyData) : bTuple [.list ds] = some (.tuple ds) := (rfl)
@[simp] theorem bTuple_d (ds : List PyData) : bTuple [.tuple ds] = some (.tuple ds) := (rfl)
@[simp] theorem bList_t {ns : List Int} : bList [tI ns] = some (lI ns) := (rfl)
@[simp] theorem bList_l {ns : List Int} : bList [lI ns] = some (lI ns) := (rfl)
@[simp] theorem itS_d (ds : List PyData) : itS (.tuple ds) = .ok ds := (rfl)
@[simp] theorem itS_dl (ds : List PyData) : itS (.list ds) = .ok ds := (rfl)
@[simp] theorem oIx_d (ds : List PyData) : oIx (.tuple ds) (.int i) = atD ds i := (rfl)
@[simp] theorem oIx_dl (ds : List PyData) : oIx (.list ds) (.int i) = atD ds i := (rfl)
theorem atD_nat {ds : List PyData} {k : Nat} (h : k < ds.length) : atD ds (k : Int) = ds[k]? := by
  unfold atD ixN
  rw [if_pos (Int.natCast_nonneg k), if_pos (by omega)]
  rfl
@[simp] theorem atD_0 (a : PyData) (ds : List PyData) : atD (a :: ds) 0 = some a := atD_nat (k := 0) (by simp)
@[simp] theorem atD_1 (a b : PyData) (ds : List PyData) : atD (a :: b :: ds) 1 = some b := (atD_nat (k := 1) (by simp)).trans (by simp)
@[simp] theorem atD_2 (a b c : PyData) (ds : List PyData) : atD (a :: b :: c :: ds) 2 = some c := (atD_nat (k := 2) (by simp)).trans (by simp)
@[simp] theorem atZ_0 (a : Int) (ds : List Int) : atZ (a :: ds) 0 = some a := atZ_nat (k := 0) (by simp)
@[simp] theorem atZ_1 (a b : Int) (ds : List Int) : atZ (a :: b :: ds) 1 = some b := (atZ_nat (k := 1) (by simp)).trans (by simp)
@[simp] theorem atZ_2 (a b c : Int) (ds : List Int) : atZ (a :: b :: c :: ds) 2 = some c := (atZ_nat (k := 2) (by simp)).trans (by simp)
@[simp] theorem atZ_3 (a b c d : Int) (ds : List Int) : atZ (a :: b :: c :: d :: ds) 3 = some d := (atZ_nat (k := 3) (by simp)).trans (by simp)
@[simp] theorem atZ_4 (a b c d e : Int) (ds : List Int) : atZ (a :: b :: c :: d :: e :: ds) 4 = some e := (atZ_nat (k := 4) (by simp)).trans (by simp)
@[simp] theorem atZ_5 (a b c d e f : Int) (ds : List Int) : atZ (a :: b :: c :: d :: e :: f :: ds) 5 = some f := (atZ_nat (k := 5) (by simp)).trans (by simp)
@[simp] theorem bAbs_i : bAbs [.int i] = some (.int (if i < 0 then -i else i)) := (rfl)
@[simp] theorem bMin2_i : bMin2 [.int i, .int j] = some (.int (if j < i then j else i)) := (rfl)
@[simp] theorem bMax2_i : bMax2 [.int i, .int j] = some (.int (if j > i then j else i)) := (rfl)
@[simp] theorem isN_t {ns : List Int} : oIsN (tI ns) .none = some (.bool false) := (rfl)
@[simp] theorem isN_n : oIsN .none .none = some (.bool true) := (rfl)
@[simp] theorem notN_t {ns : List Int} : oNotN (tI ns) .none = some (.bool true) := (rfl)
@[simp] theorem notN_n : oNotN .none .none = some (.bool false) := (rfl)
@[simp] theorem oNe_nn : oNe .none .none = some (.bool false) := by
  unfold oNe
  rw [if_pos ⟨rfl, rfl⟩]
  unfold PyData.eqv
  rfl
@[simp] theorem oEq_nn : oEq .none .none = some (.bool true) := by
  unfold oEq
  rw [if_pos ⟨rfl, rfl⟩]
  unfold PyData.eqv
  rfl
theorem oNe_s {a b : Str} (ha : SeqAt.shaped (.str a) = true) (hb : SeqAt.shaped (.str b) = true) : oNe (.str a) (.str b) = some (.bool (a != b)) := by
  unfold oNe
  rw [if_pos ⟨ha, hb⟩]
  unfold PyData.eqv
  rfl
theorem oEq_s {a b : Str} (ha : SeqAt.shaped (.str a) = true) (hb : SeqAt.shaped (.str b) = true) : oEq (.str a) (.str b) = some (.bool (a == b)) := by
  unfold oEq
  rw [if_pos ⟨ha, hb⟩]
  unfold PyData.eqv
  rfl
theorem oAdd_d {a b : List PyData} (h : a.length + b.length ≤ 10000) : oAdd (.tuple a) (.tuple b) = some (.tuple (a ++ b)) := by
  show (if okLen (a.length + b.length) = true then some (PyData.tuple (a ++ b)) else none) = _
  rw [if_pos (show okLen _ = true from decide_eq_true h)]
theorem oAdd_dl {a b : List PyData} (h : a.length + b.length ≤ 10000) : oAdd (.list a) (.list b) = some (.list (a ++ b)) := by
  show (if okLen (a.length + b.length) = true then some (PyData.list (a ++ b)) else none) = _
  rw [if_pos (show okLen _ = true from decide_eq_true h)]
theorem mkT_d {ds : List PyData} (h : ds.length ≤ 10000) : mkT ds = .ok (.tuple ds) := by
  unfold mkT
  rw [if_pos (show okLen _ = true from decide_eq_true h)]
theorem mkL_d {ds : List PyData} (h : ds.length ≤ 10000) : mkL ds = .ok (.list ds) := by
  unfold mkL
  rw [if_pos (show okLen _ = true from decide_eq_true h)]
theorem appR_d {k : Nat} {ds : List PyData} {d : PyData} (h : ds.length < 10000) : appR ρ k (some ds) (.ok d) = .nx (ρ.set k (some (.list (ds ++ [d])))) := by
  show (if okLen (ds.length + 1) = true then Sr.nx (ρ.set k (some (PyData.list (ds ++ [d])))) else .bad) = _
  rw [if_pos (show okLen _ = true from decide_eq_true h)]
theorem small_ok (h1 : -1000000 ≤ i) (h2 : i ≤ 1000000) : small62 i = true := by
  unfold small62
  rw [decide_eq_true (by omega), decide_eq_true (by omega)]
  rfl
theorem rg2_i (h1 : -1000000 ≤ i) (h2 : i ≤ 1000000) (h3 : -1000000 ≤ j) (h4 : j ≤ 1000000) : rg2 [.int i, .int j] = .ok ((upI i (j - i).toNat).map PyData.int) := by
  show (if small62 i = true ∧ small62 j = true then Re.ok (upFrom i (j - i).toNat) else .bad) = _
  rw [if_pos ⟨small_ok h1 h2, small_ok h3 h4⟩, upFrom_i]
/-- x[e] = v of an own list of numbers -/
theorem put_i {k : Nat} {f g : Rho → Re PyData} {ns : List Int} {x z : Int} (hk : ρ[k]? = some (some (lI ns))) (hf : f ρ = .ok (.int x)) (hg : g ρ = .ok (.int z)) (h0 : 0 ≤ z) (h1 : z < ns.length) : sPut k false f g ρ = .nx (ρ.set k (some (lI (ns.set z.toNat x)))) := by
  have e1 : getL ρ k = some (ns.map PyData.int) := by rw [getL_eq, hk]; rfl
  unfold sPut
  rw [hf, st_ok, e1]
  show (g ρ).st ρ _ = _
  rw [hg, st_ok]
  show (match ixN (ns.map PyData.int).length z with
    | some m => if (false = true → imm (.int x) = true) then Sr.nx (ρ.set k (some (.list ((ns.map PyData.int).set m (.int x))))) else .bad
    | none => .bad) = _
  rw [List.length_map, ixN_p h0 h1]
  show (if (false = true → imm (.int x) = true) then Sr.nx (ρ.set k (some (PyData.list ((ns.map PyData.int).set z.toNat (.int x))))) else .bad) = _
  rw [if_pos (fun z => nomatch z), ← List.map_set]
  rfl
theorem up_get {a : Int} {n k : Nat} {y : Int} (h : (upI a n)[k]? = some y) : y = a + k ∧ k < n := by
  have hk : k < n := by
    have := getSome h
    rwa [upI_length] at this
  unfold upI at h
  rw [List.getElem?_map, List.getElem?_range hk] at h
  have q : a + (k : Int) = y := Option.some.inj h
  exact ⟨q.symm, hk⟩
theorem loop_nx {g : PyData → Rho → Option Rho} {b : Rho → Sr} {d : PyData} {ds : List PyData} {ρ1 ρ2 : Rho} (h : g d ρ = some ρ1) (h2 : b ρ1 = .nx ρ2) : sLoop g b (d :: ds) ρ = sLoop g b ds ρ2 := by
  show (match g d ρ with
    | none => Sr.bad
    | some ρ1 => match b ρ1 with
      | .nx ρ2 => sLoop g b ds ρ2
      | .ct ρ2 => sLoop g b ds ρ2
      | .bk ρ2 => .nx ρ2
      | .rt d => .rt d
      | .ex c ρ2 => .ex c ρ2
      | .bad => .bad) = _
  rw [h]
  show (match b ρ1 with
    | .nx ρ2 => sLoop g b ds ρ2
    | .ct ρ2 => sLoop g b ds ρ2
    | .bk ρ2 => .nx ρ2
    | .rt d => .rt d
    | .ex c ρ2 => .ex c ρ2
    | .bad => .bad) = _
  rw [h2]
theorem loop_ex {g : PyData → Rho → Option Rho} {b : Rho → Sr} {d : PyData} {ds : List PyData} {ρ1 ρ2 : Rho} {c : Str} (h : g d ρ = some ρ1) (h2 : b ρ1 = .ex c ρ2) : sLoop g b (d :: ds) ρ = .ex c ρ2 := by
  show (match g d ρ with
    | none => Sr.bad
    | some ρ1 => match b ρ1 with
      | .nx ρ2 => sLoop g b ds ρ2
      | .ct ρ2 => sLoop g b ds ρ2
      | .bk ρ2 => .nx ρ2
      | .rt d => .rt d
      | .ex c ρ2 => .ex c ρ2
      | .bad => .bad) = _
  rw [h]
  show (match b ρ1 with
    | .nx ρ2 => sLoop g b ds ρ2
    | .ct ρ2 => sLoop g b ds ρ2
    | .bk ρ2 => .nx ρ2
    | .rt d => .rt d
    | .ex c ρ2 => .ex c ρ2
    | .bad => .bad) = _
  rw [h2]
@[simp] theorem loop_nil {g : PyData → Rho → Option Rho} {b : Rho → Sr} : sLoop g b [] ρ = .nx ρ := (rfl)
end
end Pu

set_option Elab.async false
set_option linter.all false
set_option maxRecDepth 100000
set_option maxHeartbeats 2000000
/-! dicts whose keys are whole numbers -/
namespace Pu
open PySem PySem.Spec PyProof.Rows L2
def keyI (i : Int) : PyData → Bool
  | .int j => decide (j = i)
  | _ => false
def lookI (kvs : List (PyData × PyData)) (i : Int) : Option PyData := (kvs.find? fun p => keyI i p.1).map (·.2)
def dicD (kvs : List (PyData × PyData)) : PyData := .dict ((.bool true, .none) :: kvs)
def kvsOf : PyData → Option (List (PyData × PyData))
  | .dict ((.bool true, .none) :: kvs) => some kvs
  | _ => none
theorem key_kD (i : Int) (k : Key) : keyI i (kD k) = decide (k = .inl i) := by
  cases k with
  | inl j =>
    show decide (j = i) = decide ((Sum.inl j : Key) = .inl i)
    by_cases h : j = i
    · rw [decide_eq_true h, decide_eq_true (by rw [h])]
    · rw [decide_eq_false h, decide_eq_false fun e => h (Sum.inl.inj e)]
  | inr s => rfl
theorem look_of {K : PySem.W.Frag} {H : Hp} {S : Addr → Prop} (i : Int) : ∀ {ks : List Key} {xs : List V} {ds : List PyData}, ks.length = xs.length → RpA K H S xs ds →
    match lookI ((ks.map kD).zip ds) i with
    | some z => ∃ v, valV (ks.zip xs) (.inl i) = some v ∧ Rp K H S v z
    | none => valV (ks.zip xs) (.inl i) = none
  | [], _, _, _, _ => by
    simp [lookI, valV]
  | k :: ks, [], _, h, _ => by simp at h
  | k :: ks, x :: xs, _, h, .cons (d := d) (ds := ds) r rr => by
    have ih := look_of i (ks := ks) (xs := xs) (by simpa using h) rr
    rw [List.map_cons, List.zip_cons_cons, List.zip_cons_cons]
    by_cases e : k = .inl i
    · have h1 : lookI ((kD k, d) :: (ks.map kD).zip ds) i = some d := by
        unfold lookI
        rw [List.find?_cons, key_kD, decide_eq_true e]
        rfl
      rw [h1]
      exact ⟨x, valV_pos e, r⟩
    · have h1 : lookI ((kD k, d) :: (ks.map kD).zip ds) i = lookI ((ks.map kD).zip ds) i := by
        unfold lookI
        rw [List.find?_cons, key_kD, decide_eq_false e]
      rw [h1, valV_neg e]
      exact ih
section
variable {X : Cx} {M : Nat → Bool} {F : Fx} {E : L2.St → XK} {σ : L2.St} {ρ : Rho} {H H' H1 : Hp} {D : Ends} {la fa lb fb : Bool} {a b : Expr} {pos : Pos} {f g : Rho → Re PyData}
/-! ### d[k] -/
def oDGet : PyData → PyData → Option PyData := fun d e => match kvsOf d, e with | some kvs, .int i => lookI kvs i | _, _ => none
theorem oDGet_some {d e z : PyData} (h : oDGet d e = some z) : ∃ kvs i, d = dicD kvs ∧ e = .int i ∧ lookI kvs i = some z := by
  unfold oDGet kvsOf at h
  split at h
  · rename_i kvs i q
    split at q
    · cases q
      exact ⟨_, _, rfl, rfl, h⟩
    · cases q
  · cases h
theorem kv_i (i : Int) : V.int i = kV (Sum.inl i) := rfl
theorem de_dget (hu : X.A.units + 64 < cLine) (ha : DE X M F E la fa a f) (hb : DE X M F E lb fb b g) (hs : NoSl b := by intro _ _; rfl) : DE X M F E (la || lb) false (.Subscript a b pos) (r2 oDGet f g) := by
  obtain ⟨ta, pa, ha⟩ := ha
  obtain ⟨tb, pb, hb⟩ := hb
  refine ⟨_, pe_dget (by omega) pa pb hs, fun σ H ρ er Q z => ?_⟩
  refine ha σ H ρ er _ (we_step z fun d v H1 e1 s1 r1 _ z1 => ?_)
  refine hb σ H1 ρ (er.same s1) _ (we_step (lk' := lb) (fr' := fb) z1 fun e u H2 e2 s2 r2 _ z2 => ?_)
  have z3 : WE X M F E (la || lb) false σ ρ H2 (liftO (oDGet d e)) Q := z2
  clear z2
  cases q : oDGet d e with
  | none =>
    rw [q] at z3
    exact z3.elim
  | some z =>
    rw [q] at z3
    obtain ⟨kvs, i, rfl, rfl, hl⟩ := oDGet_some q
    have r1' := r1.same s2
    cases r2
    generalize hd : dicD kvs = dd at r1'
    cases r1' with
    | dic h1 h2 h3 h4 =>
      unfold dicD at hd
      cases hd
      have lo := look_of i h3 h4
      rw [hl] at lo
      obtain ⟨v', hv, rv⟩ := lo
      refine ⟨_, v', rfl, ?_, z3 _ H2 (Same.refl _) (rv.wide fun a h => rs_or1 a h) fun z => nomatch z⟩
      have g := DGet.k (k := Sum.inl i) h1
      rw [hv] at g
      exact g
    | scr _ _ => cases hd
    | dit _ _ _ _ => cases hd
    | dif h1 h3 h4 =>
      unfold dicD at hd
      cases hd
      have lo := look_of i h3 h4
      rw [hl] at lo
      obtain ⟨v', hv, rv⟩ := lo
      refine ⟨_, v', rfl, ?_, z3 _ H2 (Same.refl _) (rv.wide fun a h => rs_or1 a h) fun z => nomatch z⟩
      exact .inl ⟨_, Sum.inl i, .inr ⟨_, h1⟩, rfl, hv.symm⟩
    | bl _ => cases hd
    | non => cases hd
    | int _ => cases hd
    | str _ => cases hd
    | tup _ _ => cases hd
    | lst _ _ _ => cases hd
/-! ### {} of the frame's own -/
theorem de_dnew : DE X M F E false true (.Dict [] [] pos) (rC (dicD [])) := by
  refine ⟨_, pe_dnewK, fun σ H ρ er Q z => ?_⟩
  intro p hp
  refine z (.ref p) _ (same_new hp) (.dic (ks := []) (xs := []) (ds := []) upd_same ?_ rfl .nil) fun _ => ⟨p, rfl, hp, .dic (ks := []) (xs := []) (ds := []) upd_same rfl .nil⟩
  exact er.freshS p hp
/-! ### d[k] = v, k new -/
def sPutD (i : Nat) (lk : Bool) (f g : Rho → Re PyData) : Rho → Sr := fun ρ => (f ρ).st ρ fun d => (match ρ[i]? with
  | some (some dd) => (g ρ).st ρ fun e => (match kvsOf dd, e with
    | some kvs, .int n => if okLen (kvs.length + 1) = true ∧ lookI kvs n = none ∧ (lk = true → imm d = true) then .nx (ρ.set i (some (dicD (kvs ++ [(.int n, d)])))) else .bad
    | _, _ => .bad)
  | _ => .bad)
theorem ER.dicO (er : ER X.K M F σ H ρ) {i : Nat} {dd : PyData} {kvs : List (PyData × PyData)} (m : M i = true) (h : ρ[i]? = some (some dd)) (hk : kvsOf dd = some kvs) : ∃ (pp : Addr) (ks : List Key) (xs : List V) (ds : List PyData), σ[i]? = some (some (.ref pp)) ∧ H pp = some (.dK (ks.zip xs)) ∧ ks.length = xs.length ∧ RpA X.K H (RS M F σ ρ false) xs ds ∧ kvs = (ks.map kD).zip ds := by
  obtain ⟨pp, hs, _, w⟩ := er.ow i _ h m
  cases w with
  | lst e r => cases hk
  | dic e l r =>
    cases hk
    exact ⟨pp, _, _, _, hs, e, l, r, rfl⟩
  | dit e l r => cases hk
theorem zip_len {ks : List Key} {xs : List V} {ds : List PyData} (l : ks.length = xs.length) (r : xs.length = ds.length) : ((ks.map kD).zip ds).length = (ks.zip xs).length := by
  rw [List.length_zip, List.length_zip, List.length_map]
  omega
theorem ds_dput {i : Nat} {x : Str} {p1 p2 : Pos} (hu : X.A.units + 64 < cLine) (m : M i = true) (h : DE X M F E la fa a f) (hg : DE X M F E lb fb b g) (hN : X.N[i]? = some x := by rfl) (hv : Vis X.env.scope x := by first | exact Or.inl rfl | exact Or.inr (Or.inl rfl) | exact Or.inr (Or.inr rfl)) (hd : (x == ("__debug__" : Str)) = false := by decide)
    (hcd : (x == ("__classdict__" : Str)) = false := by decide) (hs : swapsWith a (some (.Subscript (.Name x p1) b p2)) pos.line X.env = pure false := by rfl) :
    DS X M F E (.Assign [.Subscript (.Name x p1) b p2] a pos) (sPutD i la f g) := by
  obtain ⟨ta, pa, h⟩ := h
  obtain ⟨tb, pb, hg⟩ := hg
  refine ⟨_, ps_dput (by omega) (pe_var hN hv hd hcd) pb pa hs, fun σ H ρ er D w => ?_⟩
  refine h σ H ρ er _ (ws_step er w fun d v H1 e1 s1 r1 _ w1 => ?_)
  have er1 := er.same s1
  cases q : ρ[i]? with
  | none =>
    rw [q] at w1
    exact w1.elim
  | some o =>
    cases o with
    | none =>
      rw [q] at w1
      exact w1.elim
    | some dd =>
      rw [q] at w1
      obtain ⟨pp, sp, _, w0⟩ := er1.ow i dd q m
      refine ⟨.ref pp, sp, ?_⟩
      refine hg σ H1 ρ er1 _ (ws_step (lk := lb) (fr := fb) er1 w1 fun e u H2 e2 s2 r2 _ w2 => ?_)
      have er2 := er1.same s2
      cases qk : kvsOf dd with
      | none =>
        rw [qk] at w2
        exact w2.elim
      | some kvs =>
        rw [qk] at w2
        cases r2 with
        | int n =>
          have w2 : WS X M F E σ H2 ρ (if okLen (kvs.length + 1) = true ∧ lookI kvs n = none ∧ (la = true → imm d = true) then .nx (ρ.set i (some (dicD (kvs ++ [(.int n, d)])))) else .bad) D := w2
          by_cases c : okLen (kvs.length + 1) = true ∧ lookI kvs n = none ∧ (la = true → imm d = true)
          · rw [if_pos c] at w2
            obtain ⟨c1, c2, c3⟩ := c
            obtain ⟨pp', ks, xs, ds, sp', hx, l, rr, ek⟩ := er2.dicO m q qk
            rw [sp] at sp'
            cases sp'
            have lo := look_of n l rr
            rw [← ek, c2] at lo
            have hlen : (ks.zip xs).length < sizeLine := by
              have := of_decide_eq_true c1
              rw [ek, zip_len l rr.length] at this
              exact Nat.lt_of_lt_of_le (Nat.lt_of_succ_le this) (by decide)
            have ez : putK (ks.zip xs) (.inl n) v = (ks ++ [(Sum.inl n : Key)]).zip (xs ++ [v]) := by
              rw [putK_new v lo, List.zip_append l]
              rfl
            have ed : dicD (kvs ++ [(.int n, d)]) = .dict ((.bool true, .none) :: ((ks ++ [(.inl n : Key)]).map kD).zip (ds ++ [d])) := by
              rw [ek, List.map_append, List.zip_append (by rw [List.length_map, l, rr.length])]
              rfl
            have rA := rr.append (.cons (rp_lk (r1.same s2) c3) .nil)
            obtain ⟨er3, ev3⟩ := er2.put (o := .dK ((ks ++ [(Sum.inl n : Key)]).zip (xs ++ [v]))) (d' := dicD (kvs ++ [(.int n, d)])) m q sp (by
              rw [ed]
              refine .dic upd_same (by rw [List.length_append, List.length_append, l]; rfl) (rA.keep (fun a u qa xa => ?_) fun _ _ x _ => x)
              rw [upd_ne]
              · exact qa
              · intro za
                subst za
                rcases xa with xa | xa
                · exact xa.2 rfl ⟨i, dd, m, q, sp⟩
                · rw [hx] at qa
                  cases qa
                  exact xa trivial)
            refine ⟨_, _, rfl, DPut.k (k := Sum.inl n) hx hlen, ?_⟩
            rw [ez]
            exact w2 σ _ er3 ev3
          · rw [if_neg c] at w2
            exact w2.elim
        | bl _ => exact w2.elim
        | non => exact w2.elim
        | str _ => exact w2.elim
        | tup _ _ => exact w2.elim
        | lst _ _ _ => exact w2.elim
        | scr _ _ => exact w2.elim
        | dic _ _ _ _ => exact w2.elim
        | dit _ _ _ _ => exact w2.elim
        | dif _ _ _ => exact w2.elim
end
end Pu

set_option Elab.async false
set_option linter.all false
set_option maxRecDepth 100000
set_option maxHeartbeats 2000000
namespace Pu
open PySem PySem.Spec PyProof.Rows L2
section
variable {X : Cx} {M : Nat → Bool} {F : Fx} {E : L2.St → XK} {σ σ1 : L2.St} {ρ ρ1 : Rho} {H H' H1 : Hp} {D : Ends} {K : PySem.W.Frag}
/-! ### sorted(d), list(d) -/
theorem ints_keys : ∀ {ks : List Key} {ns : List Int}, ks.map kD = ns.map PyData.int → ks = ns.map Sum.inl
  | [], [], _ => rfl
  | [], _ :: _, h => by cases h
  | _ :: _, [], h => by cases h
  | k :: ks, n :: ns, h => by
    rw [List.map_cons, List.map_cons] at h
    obtain ⟨h1, h2⟩ := List.cons.inj h
    rw [List.map_cons, ints_keys h2]
    cases k with
    | inl j =>
      have e : PyData.int j = .int n := h1
      cases e
      rfl
    | inr s => cases h1
def keysOf (kvs : List (PyData × PyData)) : Option (List Int) := asInts (kvs.map (·.1))
def bSortD : List PyData → Option PyData := fun ds => match ds with
  | [d] => (kvsOf d).bind fun kvs => (keysOf kvs).bind fun ns => if ns.length < 64 then some (.list ((srtZ ns).map PyData.int)) else none
  | _ => none
def bListD : List PyData → Option PyData := fun ds => match ds with
  | [d] => (kvsOf d).bind fun kvs => (keysOf kvs).bind fun ns => some (.list (ns.map PyData.int))
  | _ => none
theorem zip_fst : ∀ {α β : Type} (ks : List α) (ds : List β), ks.length = ds.length → (ks.zip ds).map (·.1) = ks
  | _, _, [], [], _ => rfl
  | _, _, _ :: ks, _ :: ds, h => by
    rw [List.zip_cons_cons, List.map_cons, zip_fst ks ds (by simpa using h)]
  | _, _, [], _ :: _, h => by simp at h
  | _, _, _ :: _, [], h => by simp at h
theorem dic_in {S : Addr → Prop} {v : V} {d : PyData} {kvs : List (PyData × PyData)} {ns : List Int} (r : Rp K H S v d) (hk : kvsOf d = some kvs) (hn : keysOf kvs = some ns) : ∃ (a : Addr) (ks : List Key) (xs : List V), v = .ref a ∧ Rd H a (.dK (ks.zip xs)) ∧ (ks.zip xs).map (·.1) = ns.map Sum.inl := by
  cases r with
  | dic h1 h2 h3 h4 =>
    cases hk
    unfold keysOf at hn
    have e := asInts_eq hn
    rw [zip_fst _ _ (by rw [List.length_map, h3, h4.length])] at e
    exact ⟨_, _, _, rfl, .inl h1, by rw [zip_fst _ _ h3, ints_keys e]⟩
  | scr _ _ => cases hk
  | dit _ _ _ _ => cases hk
  | dif h1 h3 h4 =>
    cases hk
    unfold keysOf at hn
    have e := asInts_eq hn
    rw [zip_fst _ _ (by rw [List.length_map, h3, h4.length])] at e
    exact ⟨_, _, _, rfl, .inr ⟨_, h1⟩, by rw [zip_fst _ _ h3, ints_keys e]⟩
  | bl _ => cases hk
  | non => cases hk
  | int _ => cases hk
  | str _ => cases hk
  | tup _ _ => cases hk
  | lst _ _ _ => cases hk
theorem s_sortD : SemL K (fun xs H Q => ∃ (a : Addr) (kvs : List (Key × V)) (ks : List Int), xs = [.ref a] ∧ Rd H a (.dK kvs) ∧ kvs.map (·.1) = ks.map Sum.inl ∧ ks.length < 64 ∧
    ∀ (ys : List Int) (p : Addr), ys.Perm ks → ys.Pairwise (· ≤ ·) → H p = none → Q (.ref p) (upd H p (.lst (ys.map V.int)))) true bSortD := fun S H xs ds z Q new r q k => by
  unfold bSortD at q
  split at q
  · obtain ⟨kvs, e1, q⟩ := Option.bind_eq_some_iff.mp q
    obtain ⟨ns, e2, q⟩ := Option.bind_eq_some_iff.mp q
    by_cases c : ns.length < 64
    · rw [if_pos c] at q
      cases q
      cases r with
      | cons r1 r2 =>
        cases r2
        obtain ⟨a, ks, xs, rfl, hx, hm⟩ := dic_in r1 e1 e2
        refine ⟨a, _, ns, rfl, hx, hm, c, fun ys p hp hs hn => ?_⟩
        rw [srtZ_uniq hp hs]
        exact k _ _ (same_new hn) (.lst upd_same (new p hn) (RpA.ints _)) fun _ => frs_lst hn (RpA.ints _)
    · rw [if_neg c] at q
      cases q
  · cases q
theorem kV_ints : ∀ ns : List Int, (ns.map (Sum.inl (β := Str))).map kV = ns.map V.int
  | [] => rfl
  | n :: ns => by
    rw [List.map_cons, List.map_cons, kV_ints ns]
    rfl
theorem s_listD : SemL K (fun xs H Q => ∃ (a : Addr) (kvs : List (Key × V)), xs = [.ref a] ∧ Rd H a (.dK kvs) ∧ ∀ p, H p = none → Q (.ref p) (upd H p (.lst (kvs.map fun kv => kV kv.1)))) true bListD := fun S H xs ds z Q new r q k => by
  unfold bListD at q
  split at q
  · obtain ⟨kvs, e1, q⟩ := Option.bind_eq_some_iff.mp q
    obtain ⟨ns, e2, q⟩ := Option.bind_eq_some_iff.mp q
    cases q
    cases r with
    | cons r1 r2 =>
      cases r2
      obtain ⟨a, ks, xs, rfl, hx, hm⟩ := dic_in r1 e1 e2
      refine ⟨a, _, rfl, hx, fun p hn => ?_⟩
      have e : (ks.zip xs).map (fun kv => kV kv.1) = ns.map V.int := by
        rw [← kV_ints, ← hm, List.map_map]
        rfl
      rw [e]
      exact k _ _ (same_new hn) (.lst upd_same (new p hn) (RpA.ints _)) fun _ => frs_lst hn (RpA.ints _)
  · cases q
/-! ### {k: v for ..} -/
def dcGo (g : PyData → Rho → Option Rho) (t : Rho → Re Bool) (fk f : Rho → Re PyData) (ρ : Rho) : List PyData → List (PyData × PyData) → Option (List (PyData × PyData))
  | [], acc => some acc
  | d :: ds, acc => match g d ρ with
    | none => none
    | some ρ1 => match t ρ1 with
      | .ok true => (match fk ρ1 with | .ok (.int n) => (match f ρ1 with | .ok z => if okLen (acc.length + 1) = true ∧ lookI acc n = none then dcGo g t fk f ρ ds (acc ++ [(.int n, z)]) else none | _ => none) | _ => none)
      | .ok false => dcGo g t fk f ρ ds acc
      | _ => none
def rDc (its : Rho → Re (List PyData)) (vs : List Nat) (g : PyData → Rho → Option Rho) (t : Rho → Re Bool) (fk f : Rho → Re PyData) : Rho → Re PyData := fun ρ => (its ρ).andThen fun ds => if okLen ds.length = true then (match dcGo g t fk f (wipeR ρ vs) ds [] with | some kvs => .ok (dicD kvs) | none => .bad) else .bad
theorem dc_run {ts vs : List Nat} {wi : TI} {its : Rho → Re (List PyData)} {gg : PyData → Rho → Option Rho} {tt : Rho → Re Bool} {fk f : Rho → Re PyData} {lk fr lk1 fr1 : Bool} (hi : ∀ σ H ρ, ER X.K M F σ H ρ → ∀ R, WI X M F E σ ρ H (its ρ) R → wi σ H R)
    (hv : ∀ i ∈ vs, M i = false) (hts : ∀ i ∈ ts, i ∈ vs) (er : ER X.K M F σ H ρ) {Q : VK} (w : WE X M F E lk true σ ρ H (rDc its vs gg tt fk f ρ) Q) : tDc wi (canG X M ts gg) (canT X M E0s tt) (canE X M E0s lk1 fr1 fk) (canE X M E0s lk fr f) vs σ H Q := by
  refine hi σ H ρ er _ ?_
  unfold rDc at w
  cases q : its ρ with
  | ex c =>
    rw [q] at w
    exact w
  | bad =>
    rw [q] at w
    exact w
  | ok ds =>
    rw [q] at w
    have w : WE X M F E lk true σ ρ H (if okLen ds.length = true then (match dcGo gg tt fk f (wipeR ρ vs) ds [] with | some kvs => .ok (dicD kvs) | none => .bad) else .bad) Q := w
    by_cases hz : okLen ds.length = true
    · rw [if_pos hz] at w
      cases q2 : dcGo gg tt fk f (wipeR ρ vs) ds [] with
      | none =>
        rw [q2] at w
        exact w.elim
      | some tot =>
        rw [q2] at w
        refine fun J H1 sm wk Dd hD => ?_
        have er1 := er.same sm
        refine ⟨fun i m H2 => m = ds.length - i ∧ i ≤ ds.length ∧ Same H1 H2 ∧ ∃ (ks : List Key) (xs : List V) (accd : List PyData), H2 Dd = some (.dK (ks.zip xs)) ∧ ks.length = xs.length ∧ RpA X.K H2 (fun a => RS M F σ ρ lk a ∧ a ≠ Dd) xs accd ∧ xs.length ≤ i ∧ dcGo gg tt fk f (wipeR ρ vs) (ds.drop i) ((ks.map kD).zip accd) = some tot,
          ⟨ds.length, by simp, Nat.zero_le _, same_new hD, [], [], [], upd_same, rfl, .nil, Nat.le_refl _, q2⟩, ?_⟩
        rintro i m H2 ⟨rfl, hi', sm2, ks, xs, accd, e1, lz, r1, l1, g1⟩
        have kp : Kp (fun a => RS M F σ ρ false a ∧ H1 a ≠ none) H1 H2 := kp_same sm2
        by_cases hlt : i < ds.length
        · obtain ⟨go, yl⟩ := (wk H2 kp i).1 _ (List.getElem?_eq_getElem hlt)
          refine .inr ⟨go, fun H3 => ds.length - (i + 1) = ds.length - (i + 1) ∧ i + 1 ≤ ds.length ∧ Same H1 H3 ∧ ∃ (ks : List Key) (xs : List V) (accd : List PyData), H3 Dd = some (.dK (ks.zip xs)) ∧ ks.length = xs.length ∧ RpA X.K H3 (fun a => RS M F σ ρ lk a ∧ a ≠ Dd) xs accd ∧ xs.length ≤ i + 1 ∧ dcGo gg tt fk f (wipeR ρ vs) (ds.drop (i + 1)) ((ks.map kD).zip accd) = some tot, fun H3 x => ⟨ds.length - (i + 1), by omega, x⟩, fun x H3 y => ?_⟩
          obtain ⟨s3, rx⟩ := yl x H3 y
          rw [drop_get (List.getElem?_eq_getElem hlt)] at g1
          have g1 : (match gg ds[i] (wipeR ρ vs) with
            | none => none
            | some ρ1 => match tt ρ1 with
              | .ok true => (match fk ρ1 with | .ok (.int n) => (match f ρ1 with | .ok z => if okLen (((ks.map kD).zip accd).length + 1) = true ∧ lookI ((ks.map kD).zip accd) n = none then dcGo gg tt fk f (wipeR ρ vs) (ds.drop (i + 1)) (((ks.map kD).zip accd) ++ [(.int n, z)]) else none | _ => none) | _ => none)
              | .ok false => dcGo gg tt fk f (wipeR ρ vs) (ds.drop (i + 1)) ((ks.map kD).zip accd)
              | _ => none) = some tot := g1
          cases q3 : gg ds[i] (wipeR ρ vs) with
          | none =>
            rw [q3] at g1
            cases g1
          | some ρ1 =>
            rw [q3] at g1
            have g1 : (match tt ρ1 with
              | .ok true => (match fk ρ1 with | .ok (.int n) => (match f ρ1 with | .ok z => if okLen (((ks.map kD).zip accd).length + 1) = true ∧ lookI ((ks.map kD).zip accd) n = none then dcGo gg tt fk f (wipeR ρ vs) (ds.drop (i + 1)) (((ks.map kD).zip accd) ++ [(.int n, z)]) else none | _ => none) | _ => none)
              | .ok false => dcGo gg tt fk f (wipeR ρ vs) (ds.drop (i + 1)) ((ks.map kD).zip accd)
              | _ => none) = some tot := g1
            obtain ⟨erw, rsw⟩ := er1.wipe (vs := vs) hv
            have s13 : Same H1 H3 := sm2.trans s3
            have e3 : H3 Dd = some (.dK (ks.zip xs)) := s3 _ _ e1
            have erb := erw.blk hD s13 e3
            have rx' : Rp X.K H3 (RS M (inBlk F Dd) (wipe σ vs) (wipeR ρ vs) false) x ds[i] := rx.wide fun a z => by
              have := rsw false
              refine ⟨⟨z.1.1, fun zz => ?_⟩, ?_⟩
              · rw [zz] at z
                exact z.2 hD
              · have z1 : RS M F (wipe σ vs) (wipeR ρ vs) false a := by
                  rw [this]
                  exact z.1
                exact z1.2
            refine ⟨inBlk F Dd, wipeR ρ vs, ds[i], ρ1, erb, rx', q3, fun σ4 er4 ev4 wp4 ow4 => ⟨?_, ?_⟩⟩
            · rw [wp4 vs hts]
              exact (show wipe (wipe σ vs) vs = wipe σ vs from by
                have : ∀ (l : List Nat) (τ : L2.St), (∀ i ∈ l, i < τ.length → τ[i]? = some none) → wipe τ l = τ := by
                  intro l
                  induction l with
                  | nil => intro τ _; rfl
                  | cons v l ih =>
                    intro τ h
                    show (wipe τ l).set v none = τ
                    rw [ih τ fun i hi => h i (List.mem_cons_of_mem _ hi)]
                    by_cases hv : v < τ.length
                    · have := h v List.mem_cons_self hv
                      obtain ⟨h1, h2⟩ := List.getElem?_eq_some_iff.mp this
                      rw [← h2, List.set_getElem_self]
                    · rw [List.set_eq_of_length_le (by omega)]
                refine this vs _ fun i hi hl => ?_
                have mem : ∀ (l : List Nat) (i : Nat), i ∈ l → i < (wipe σ l).length → (wipe σ l)[i]? = some none := by
                  intro l
                  induction l with
                  | nil => intro i h; cases h
                  | cons v l ih =>
                    intro i h hl
                    show ((wipe σ l).set v none)[i]? = some none
                    have hl' : i < (wipe σ l).length := by
                      have hl2 : i < ((wipe σ l).set v none).length := hl
                      rwa [List.length_set] at hl2
                    by_cases e : v = i
                    · subst e
                      rw [List.getElem?_set_self hl']
                    · rw [List.getElem?_set_ne e]
                      exact ih i ((List.mem_cons.mp h).resolve_left fun z => e z.symm) hl'
                exact mem vs i hi hl)
            · refine ⟨inBlk F Dd, ρ1, er4, ?_⟩
              cases q4 : tt ρ1 with
              | ex c =>
                rw [q4] at g1
                cases g1
              | bad =>
                rw [q4] at g1
                cases g1
              | ok bb =>
                rw [q4] at g1
                cases bb with
                | false =>
                  refine fun H5 s5 => ?_
                  show (if false = true then _ else _)
                  rw [if_neg Bool.false_ne_true]
                  exact ⟨rfl, hlt, s13.trans s5, ks, xs, accd, s5 _ _ e3, lz, r1.same (s3.trans s5), by omega, g1⟩
                | true =>
                  refine fun H5 s5 => ?_
                  show (if true = true then _ else _)
                  rw [if_pos rfl]
                  have g1 : (match fk ρ1 with | .ok (.int n) => (match f ρ1 with | .ok z => if okLen (((ks.map kD).zip accd).length + 1) = true ∧ lookI ((ks.map kD).zip accd) n = none then dcGo gg tt fk f (wipeR ρ vs) (ds.drop (i + 1)) (((ks.map kD).zip accd) ++ [(.int n, z)]) else none | _ => none) | _ => none) = some tot := g1
                  cases qk : fk ρ1 with
                  | ex c =>
                    rw [qk] at g1
                    cases g1
                  | bad =>
                    rw [qk] at g1
                    cases g1
                  | ok kd =>
                    rw [qk] at g1
                    have kint : ∃ n, kd = .int n := by
                      cases kd with
                      | int n => exact ⟨n, rfl⟩
                      | _ => cases g1
                    obtain ⟨n, rfl⟩ := kint
                    have g1 : (match f ρ1 with | .ok z => if okLen (((ks.map kD).zip accd).length + 1) = true ∧ lookI ((ks.map kD).zip accd) n = none then dcGo gg tt fk f (wipeR ρ vs) (ds.drop (i + 1)) ((ks.map kD).zip accd ++ [(.int n, z)]) else none | _ => none) = some tot := g1
                    refine ⟨inBlk F Dd, ρ1, er4.same s5, ?_⟩
                    rw [qk]
                    refine fun kv H5' s5' rk _ => ?_
                    cases rk with
                    | int _ =>
                      cases q5 : f ρ1 with
                      | ex c =>
                        rw [q5] at g1
                        cases g1
                      | bad =>
                        rw [q5] at g1
                        cases g1
                      | ok xd =>
                        rw [q5] at g1
                        have g1 : (if okLen (((ks.map kD).zip accd).length + 1) = true ∧ lookI ((ks.map kD).zip accd) n = none then dcGo gg tt fk f (wipeR ρ vs) (ds.drop (i + 1)) ((ks.map kD).zip accd ++ [(.int n, xd)]) else none) = some tot := g1
                        by_cases cc : okLen (((ks.map kD).zip accd).length + 1) = true ∧ lookI ((ks.map kD).zip accd) n = none
                        · rw [if_pos cc] at g1
                          refine ⟨inBlk F Dd, ρ1, (er4.same s5).same s5', ?_⟩
                          rw [q5]
                          refine fun v H6 s6 r6 _ => ?_
                          have e6 : H6 Dd = some (.dK (ks.zip xs)) := s6 _ _ (s5' _ _ (s5 _ _ e3))
                          have lo := look_of n lz r1
                          rw [cc.2] at lo
                          have acl : (ks.zip xs).length < sizeLine := by
                            have := of_decide_eq_true cc.1
                            rw [zip_len lz r1.length] at this
                            exact Nat.lt_of_lt_of_le (Nat.lt_of_succ_le this) (by decide)
                          have ez : putK (ks.zip xs) (Sum.inl n : Key) v = (ks ++ [(Sum.inl n : Key)]).zip (xs ++ [v]) := by
                            rw [putK_new v lo, List.zip_append lz]
                            rfl
                          have ed : (ks.map kD).zip accd ++ [(PyData.int n, xd)] = ((ks ++ [(Sum.inl n : Key)]).map kD).zip (accd ++ [xd]) := by
                            rw [List.map_append, List.zip_append (by rw [List.length_map, lz, r1.length])]
                            rfl
                          rw [ed] at g1
                          refine ⟨ks.zip xs, Sum.inl n, rfl, e6, acl, rfl, hlt, fun a u qa => ?_, ks ++ [(Sum.inl n : Key)], xs ++ [v], accd ++ [xd], ?_, ?_, ?_, ?_, g1⟩
                          · rw [upd_ne (ne_of_none qa hD)]
                            exact s6 _ _ (s5' _ _ (s5 _ _ (s13 _ _ qa)))
                          · rw [ez]
                            exact upd_same
                          · rw [List.length_append, List.length_append, lz]
                            rfl
                          · rw [ez]
                            have kpD : Kp (fun a => RS M F σ ρ lk a ∧ a ≠ Dd) H6 (upd H6 Dd (.dK ((ks ++ [(Sum.inl n : Key)]).zip (xs ++ [v])))) := fun a u qa xa => by
                              rw [upd_ne]
                              · exact qa
                              · intro za
                                subst za
                                rcases xa with xa | xa
                                · exact xa.2 rfl
                                · rw [e6] at qa
                                  cases qa
                                  exact xa trivial
                            have rA : RpA X.K H6 (fun a => RS M F σ ρ lk a ∧ a ≠ Dd) xs accd := r1.same (((s3.trans s5).trans s5').trans s6)
                            have rV : Rp X.K H6 (fun a => RS M F σ ρ lk a ∧ a ≠ Dd) v xd := r6.wide fun a za => by
                              refine ⟨⟨za.1.1, fun zl => fun o => ?_⟩, za.1.2⟩
                              have rw0 := rsw false
                              obtain ⟨hh0, hs0, uu, hu⟩ := er1.own o
                              have nb : ¬ OwnA M (wipe σ vs) (wipeR ρ vs) a → False := fun nn => by
                                have : RS M F (wipe σ vs) (wipeR ρ vs) false a := ⟨hs0, fun _ => nn⟩
                                rw [rw0] at this
                                exact this.2 rfl o
                              refine za.2 zl ?_
                              by_cases ob : OwnA M (wipe σ vs) (wipeR ρ vs) a
                              · exact ow4 a ob
                              · exact (nb ob).elim
                            exact (rA.append (.cons rV .nil)).keep kpD fun _ _ x _ => x
                          · rw [List.length_append]
                            show xs.length + 1 ≤ i + 1
                            omega
                        · rw [if_neg cc] at g1
                          cases g1
        · have ei : i = ds.length := by omega
          subst ei
          rw [List.drop_length] at g1
          have g1 : some ((ks.map kD).zip accd) = some tot := g1
          cases g1
          refine .inl ⟨(wk H2 kp _).2 rfl, w (.ref Dd) H2 (sm.trans sm2) (.dic e1 ?_ lz (r1.wide fun a x => x.1)) fun _ => ⟨Dd, rfl, sm.free hD, .dic e1 lz r1⟩⟩
          exact er1.freshS _ hD
    · rw [if_neg hz] at w
      exact w.elim
theorem de_dc {kx vx tg iter : Expr} {ifs : List Expr} {scope : Scope} {own : List (Str × Nat)} {ts : List Nat} {pos : Pos} (vs : List Nat) {its : Rho → Re (List PyData)} {gg : PyData → Rho → Option Rho} {tt : Rho → Re Bool} {fk f : Rho → Re PyData} {lk fr lk1 fr1 : Bool}
    (hc : X.calm = true) (hN : X.N.Nodup) (hi : DI X M F E tg iter its) (ok : BlkOk X.N X.env.scope scope own) (hv : ∀ i ∈ vs, M i = false)
    (hg : ∀ (s : Shared) (H : Hp) (C : Addr) (cl : List (Str × Addr)) (fp : List Addr) (F : Fx), DG (X.blk s H scope (compEnvC scope cl C X.env) fp) M F tg ts gg)
    (ht : ∀ (s : Shared) (H : Hp) (C : Addr) (cl : List (Str × Addr)) (fp : List Addr), DTs (X.blk s H scope (compEnvC scope cl C X.env) fp) M E0s ifs tt)
    (hk : ∀ (s : Shared) (H : Hp) (C : Addr) (cl : List (Str × Addr)) (fp : List Addr) (F : Fx), DE (X.blk s H scope (compEnvC scope cl C X.env) fp) M F E0s lk1 fr1 kx fk)
    (he : ∀ (s : Shared) (H : Hp) (C : Addr) (cl : List (Str × Addr)) (fp : List Addr) (F : Fx), DE (X.blk s H scope (compEnvC scope cl C X.env) fp) M F E0s lk fr vx f)
    (hvs : own.map (·.2) = vs := by rfl) (hts : ∀ i ∈ ts, i ∈ vs := by decide) (hs : ∀ x, foldedSetIterable iter X.env x = pure x := by intro _; rfl) :
    DE X M F E lk true (.DictComp kx vx [⟨tg, iter, ifs, 0⟩] scope pos) (rDc its vs gg tt fk f) := by
  subst hvs
  obtain ⟨wi, pw, hi⟩ := hi
  exact ⟨_, pe_dc (g := canG X M ts gg) (tt := canT X M E0s tt) (tk := canE X M E0s lk1 fr1 fk) (tv := canE X M E0s lk fr f) hc hN pw ok (fun s H C cl fp => canG_ok (hg s H C cl fp)) (fun s H C cl fp => ht s H C cl fp) (fun s H C cl fp => canE_ok (hk s H C cl fp)) (fun s H C cl fp => canE_ok (he s H C cl fp)) hs, fun σ H ρ er Q w => dc_run hi hv hts er w⟩
end
end Pu

set_option Elab.async false
set_option linter.all false
set_option maxRecDepth 100000
set_option maxHeartbeats 2000000
namespace Pu
open PySem PySem.Spec PyProof.Rows L2
section
variable {α β : Type} {ρ : Rho} {i j : Int}
@[simp] theorem imm_i : imm (.int i) = true := by
  unfold imm
  rfl
def appRT (ρ : Rho) (i : Nat) : Option (List PyData) → Re PyData → Sr
  | some ds, r => r.st ρ fun d => if okLen (ds.length + 1) = true ∧ imm d = true then .nx (ρ.set i (some (.list (ds ++ [d])))) else .bad
  | none, _ => .bad
@[simp] theorem ap_sAppT (i : Nat) (f : Rho → Re PyData) : sApp i true f ρ = appRT ρ i (lOf ρ[i]?) (f ρ) := by
  unfold sApp appRT
  rw [getL_eq]
  cases lOf ρ[i]? with
  | none => rfl
  | some ds =>
    show (f ρ).st ρ _ = (f ρ).st ρ _
    congr 1
    funext d
    simp
theorem appRT_i {k : Nat} {ns : List Int} {x : Int} (h : ns.length < 10000) : appRT ρ k (some (ns.map PyData.int)) (.ok (.int x)) = .nx (ρ.set k (some (lI (ns ++ [x])))) := by
  show (if okLen ((ns.map PyData.int).length + 1) = true ∧ imm (.int x) = true then Sr.nx (ρ.set k (some (PyData.list (ns.map PyData.int ++ [.int x])))) else .bad) = _
  rw [if_pos ⟨by rw [List.length_map]; exact decide_eq_true h, imm_i⟩, snoc_i]
@[simp] theorem ap_sSetT (k : Nat) (f : Rho → Re PyData) : sSet k true f ρ = (f ρ).st ρ fun d => if imm d = true then .nx (ρ.set k (some d)) else .bad := by
  unfold sSet
  congr 1
  funext d
  simp
/-! dicts: the keys ks, k ↦ h k -/
def fD (ks : List Int) (h : Int → Int) : PyData := dicD (ks.map fun k => (PyData.int k, PyData.int (h k)))
theorem look_f {ks : List Int} {h : Int → Int} : ∀ {ks : List Int}, i ∈ ks → lookI (ks.map fun k => (PyData.int k, PyData.int (h k))) i = some (.int (h i))
  | k :: ks, m => by
    rw [List.map_cons]
    unfold lookI
    rw [List.find?_cons]
    by_cases e : k = i
    · subst e
      show Option.map _ (match decide (k = k) with | true => some _ | false => _) = _
      rw [decide_eq_true rfl]
      rfl
    · show Option.map _ (match decide (k = i) with | true => some _ | false => _) = _
      rw [decide_eq_false e]
      exact look_f (h := h) (ks := []) ((List.mem_cons.mp m).resolve_left fun q => e q.symm)
theorem look_no {h : Int → Int} : ∀ {ks : List Int}, i ∉ ks → lookI (ks.map fun k => (PyData.int k, PyData.int (h k))) i = none
  | [], _ => rfl
  | k :: ks, m => by
    rw [List.map_cons]
    unfold lookI
    rw [List.find?_cons]
    have e : ¬ k = i := fun e => m (by rw [e]; exact List.mem_cons_self)
    show Option.map _ (match decide (k = i) with | true => some _ | false => _) = _
    rw [decide_eq_false e]
    exact look_no fun q => m (List.mem_cons_of_mem _ q)
theorem dget_f {ks : List Int} {h : Int → Int} (m : i ∈ ks) : oDGet (fD ks h) (.int i) = some (.int (h i)) := by
  show lookI (ks.map fun k => (PyData.int k, PyData.int (h k))) i = _
  exact look_f (ks := []) m
theorem keys_f {ks : List Int} {h : Int → Int} : keysOf (ks.map fun k => (PyData.int k, PyData.int (h k))) = some ks := by
  unfold keysOf
  rw [List.map_map]
  exact asInts_map ks
theorem sortD_f {ks : List Int} {h : Int → Int} (hl : ks.length < 64) : bSortD [fD ks h] = some (lI (srtZ ks)) := by
  show (keysOf (ks.map fun k => (PyData.int k, PyData.int (h k)))).bind _ = _
  rw [keys_f, Option.bind_some, if_pos hl]
  rfl
theorem listD_f {ks : List Int} {h : Int → Int} : bListD [fD ks h] = some (lI ks) := by
  show (keysOf (ks.map fun k => (PyData.int k, PyData.int (h k)))).bind _ = _
  rw [keys_f]
  rfl
/-- {k: h(k) for k in ks} -/
theorem dc_i {its : Rho → Re (List PyData)} {v : Nat} {fk f : Rho → Re PyData} {ks : List Int} {h : Int → Int} (hi : its ρ = .ok (ks.map PyData.int)) (hl : ks.length < 10000) (nd : ks.Nodup) (hk : ∀ k ∈ ks, fk ((ρ.set v none).set v (some (.int k))) = .ok (.int k)) (hf : ∀ k ∈ ks, f ((ρ.set v none).set v (some (.int k))) = .ok (.int (h k))) :
    rDc its [v] (gSlot v) yesR fk f ρ = .ok (fD ks h) := by
  unfold rDc
  rw [hi, re_ok, if_pos (by rw [List.length_map]; exact decide_eq_true (Nat.le_of_lt hl))]
  have key : ∀ ms as : List Int, as ++ ms = ks → dcGo (gSlot v) yesR fk f (ρ.set v none) (ms.map PyData.int) (as.map fun k => (PyData.int k, PyData.int (h k))) = some (ks.map fun k => (PyData.int k, PyData.int (h k))) := by
    intro ms
    induction ms with
    | nil =>
      intro as e
      rw [List.append_nil] at e
      rw [e]
      rfl
    | cons k ms ih =>
      intro as e
      have mk : k ∈ ks := by rw [← e]; simp
      have nk : k ∉ as := by
        rw [← e] at nd
        intro q
        exact (List.nodup_append.mp nd).2.2 k q k List.mem_cons_self rfl
      have la : as.length < 10000 := by
        have := congrArg List.length e
        rw [List.length_append] at this
        omega
      show (match fk ((ρ.set v none).set v (some (.int k))) with | .ok (.int n) => (match f ((ρ.set v none).set v (some (.int k))) with | .ok z => if okLen ((as.map fun k => (PyData.int k, PyData.int (h k))).length + 1) = true ∧ lookI (as.map fun k => (PyData.int k, PyData.int (h k))) n = none then dcGo (gSlot v) yesR fk f (ρ.set v none) (ms.map PyData.int) ((as.map fun k => (PyData.int k, PyData.int (h k))) ++ [(PyData.int n, z)]) else none | _ => none) | _ => none) = _
      rw [hk k mk, hf k mk]
      show (if okLen ((as.map fun k => (PyData.int k, PyData.int (h k))).length + 1) = true ∧ lookI (as.map fun k => (PyData.int k, PyData.int (h k))) k = none then dcGo (gSlot v) yesR fk f (ρ.set v none) (ms.map PyData.int) ((as.map fun k => (PyData.int k, PyData.int (h k))) ++ [(PyData.int k, PyData.int (h k))]) else none) = _
      rw [if_pos ⟨by rw [List.length_map]; exact decide_eq_true la, look_no nk⟩]
      have := ih (as ++ [k]) (by rw [List.append_assoc]; exact e)
      rw [List.map_append] at this
      exact this
  show (match dcGo (gSlot v) yesR fk f (ρ.set v none) (ks.map PyData.int) [] with | some kvs => Re.ok (dicD kvs) | none => .bad) = _
  rw [show ([] : List (PyData × PyData)) = ([] : List Int).map fun k => (PyData.int k, PyData.int (h k)) from rfl, key ks [] rfl]
  rfl
/-- d[k] = v of an own dict -/
theorem putD_i {k : Nat} {lk : Bool} {f g : Rho → Re PyData} {ks : List Int} {h : Int → Int} {n : Int} (hk : ρ[k]? = some (some (fD ks h))) (hf : f ρ = .ok (.int (h n))) (hg : g ρ = .ok (.int n)) (hn : n ∉ ks) (hl : ks.length < 10000) : sPutD k lk f g ρ = .nx (ρ.set k (some (fD (ks ++ [n]) h))) := by
  unfold sPutD
  rw [hf, st_ok, hk]
  show (g ρ).st ρ _ = _
  rw [hg, st_ok]
  show (if okLen ((ks.map fun k => (PyData.int k, PyData.int (h k))).length + 1) = true ∧ lookI (ks.map fun k => (PyData.int k, PyData.int (h k))) n = none ∧ (lk = true → imm (.int (h n)) = true) then Sr.nx (ρ.set k (some (dicD ((ks.map fun k => (PyData.int k, PyData.int (h k))) ++ [(PyData.int n, PyData.int (h n))])))) else .bad) = _
  rw [if_pos ⟨by rw [List.length_map]; exact decide_eq_true hl, look_no hn, fun _ => imm_i⟩]
  unfold fD
  rw [List.map_append]
  rfl
/-! while -/
theorem while_go {p : Rho → Re Bool} {b : Rho → Sr} {n : Nat} {ρ2 : Rho} (h : p ρ = .ok true) (h2 : b ρ = .nx ρ2) : sWhile p b (n + 1) ρ = sWhile p b n ρ2 := by
  show ((p ρ).stT ρ fun c => if c = true then (match b ρ with
      | .nx ρ2 => sWhile p b n ρ2
      | .ct ρ2 => sWhile p b n ρ2
      | .bk ρ2 => .nx ρ2
      | .rt d => .rt d
      | .ex c ρ2 => .ex c ρ2
      | .bad => .bad) else .nx ρ) = _
  rw [h, stT_ok, if_pos rfl, h2]
theorem while_end {p : Rho → Re Bool} {b : Rho → Sr} {n : Nat} (h : p ρ = .ok false) : sWhile p b (n + 1) ρ = .nx ρ := by
  show ((p ρ).stT ρ fun c => if c = true then _ else Sr.nx ρ) = _
  rw [h, stT_ok, if_neg Bool.false_ne_true]
end
end Pu

set_option Elab.async false
set_option linter.all false
set_option maxRecDepth 100000
set_option maxHeartbeats 2000000
/-! rings of a permutation -/
namespace Pu
open PySem PySem.Spec PyProof.Rows L2
def itZ (f : Int → Int) : Nat → Int → Int
  | 0, s => s
  | n + 1, s => f (itZ f n s)
theorem itZ_add (f : Int → Int) (m n : Nat) (s : Int) : itZ f (m + n) s = itZ f m (itZ f n s) := by
  induction m with
  | zero => rw [Nat.zero_add]; rfl
  | succ m ih =>
    rw [show m + 1 + n = (m + n) + 1 by omega]
    show f (itZ f (m + n) s) = f (itZ f m (itZ f n s))
    rw [ih]
structure Pm (f : Int → Int) (ks : List Int) : Prop where
  nd : ks.Nodup
  to : ∀ k ∈ ks, f k ∈ ks
  inj : ∀ k ∈ ks, ∀ l ∈ ks, f k = f l → k = l
section
variable {f : Int → Int} {ks : List Int}
theorem Pm.it (P : Pm f ks) (n : Nat) {s : Int} (h : s ∈ ks) : itZ f n s ∈ ks := by
  induction n with
  | zero => exact h
  | succ n ih => exact P.to _ ih
theorem Pm.itInj (P : Pm f ks) (n : Nat) {s t : Int} (h : s ∈ ks) (h2 : t ∈ ks) (e : itZ f n s = itZ f n t) : s = t := by
  induction n with
  | zero => exact e
  | succ n ih => exact ih (P.inj _ (P.it n h) _ (P.it n h2) e)
theorem php : ∀ (l ks : List Int), l.Nodup → (∀ x ∈ l, x ∈ ks) → l.length ≤ ks.length
  | [], _, _, _ => Nat.zero_le _
  | x :: l, ks, nd, h => by
    obtain ⟨n1, n2⟩ := List.nodup_cons.mp nd
    have hx := h x List.mem_cons_self
    have := php l (ks.erase x) n2 fun y hy => (List.mem_erase_of_ne (fun e => n1 (by rw [← e]; exact hy))).mpr (h y (List.mem_cons_of_mem _ hy))
    rw [List.length_erase_of_mem hx] at this
    have : 0 < ks.length := List.length_pos_of_mem hx
    rw [List.length_cons]
    omega
theorem least {P : Nat → Prop} (n : Nat) (h : P n) : ∃ m, m ≤ n ∧ P m ∧ ∀ k, k < m → ¬ P k := by
  induction n using Nat.strongRecOn with
  | _ n ih =>
    by_cases c : ∃ k, k < n ∧ P k
    · obtain ⟨k, hk, pk⟩ := c
      obtain ⟨m, h1, h2, h3⟩ := ih k hk pk
      exact ⟨m, by omega, h2, h3⟩
    · exact ⟨n, Nat.le_refl _, h, fun k hk pk => c ⟨k, hk, pk⟩⟩
/-- m is the number of turns that lead s back -/
def IsPer (f : Int → Int) (s : Int) (m : Nat) : Prop := 0 < m ∧ itZ f m s = s ∧ ∀ k, 0 < k → k < m → itZ f k s ≠ s
theorem Pm.per (P : Pm f ks) {s : Int} (h : s ∈ ks) : ∃ m, m ≤ ks.length ∧ IsPer f s m := by
  have key : ∃ i j, i < j ∧ j ≤ ks.length ∧ itZ f i s = itZ f j s := by
    by_cases c : ∃ i j, i < j ∧ j ≤ ks.length ∧ itZ f i s = itZ f j s
    · exact c
    · have nd : ((List.range (ks.length + 1)).map fun k => itZ f k s).Nodup := by
        refine List.pairwise_iff_getElem.mpr fun i j hi hj hij e => c ⟨i, j, hij, ?_, ?_⟩
        · rw [List.length_map, List.length_range] at hj
          omega
        · rw [List.getElem_map, List.getElem_map, List.getElem_range, List.getElem_range] at e
          exact e
      have := php _ ks nd fun x hx => by
        obtain ⟨k, _, rfl⟩ := List.mem_map.mp hx
        exact P.it k h
      rw [List.length_map, List.length_range] at this
      omega
  obtain ⟨i, j, hij, hj, e⟩ := key
  have e2 : itZ f (j - i) s = s := by
    refine P.itInj i (P.it _ h) h ?_
    rw [← itZ_add, show i + (j - i) = j by omega]
    exact e.symm
  obtain ⟨m, h1, ⟨h2, h3⟩, h4⟩ := least (P := fun m => 0 < m ∧ itZ f m s = s) (j - i) ⟨by omega, e2⟩
  exact ⟨m, by omega, h2, h3, fun k k0 km e => h4 k km ⟨k0, e⟩⟩
open Classical in
/-- .. -/
noncomputable def pd (f : Int → Int) (s : Int) : Nat := if h : ∃ m, IsPer f s m then h.choose else 0
theorem Pm.isPer (P : Pm f ks) {s : Int} (h : s ∈ ks) : IsPer f s (pd f s) ∧ pd f s ≤ ks.length := by
  obtain ⟨m, hm, hp⟩ := P.per h
  have ex : ∃ m, IsPer f s m := ⟨m, hp⟩
  have e : IsPer f s (pd f s) := by
    unfold pd
    rw [dif_pos ex]
    exact ex.choose_spec
  refine ⟨e, ?_⟩
  by_cases c : pd f s ≤ m
  · omega
  · exact absurd hp.2.1 (e.2.2 m hp.1 (by omega))
/-- s and its followers -/
def orb (f : Int → Int) (s : Int) (m : Nat) : List Int := (List.range m).map fun k => itZ f k s
theorem orb_length (s : Int) (m : Nat) : (orb f s m).length = m := by simp [orb]
theorem orb_get {s : Int} {m k : Nat} (h : k < m) : (orb f s m)[k]? = some (itZ f k s) := by
  unfold orb
  rw [List.getElem?_map, List.getElem?_range h]
  rfl
theorem orb_succ (s : Int) (m : Nat) : orb f s (m + 1) = orb f s m ++ [itZ f m s] := by
  unfold orb
  rw [List.range_succ, List.map_append]
  rfl
noncomputable def ringZ (f : Int → Int) (s : Int) : List Int := orb f s (pd f s)
theorem it_mod {s : Int} {m : Nat} (h : itZ f m s = s) (q r : Nat) : itZ f (m * q + r) s = itZ f r s := by
  induction q with
  | zero => rw [Nat.mul_zero, Nat.zero_add]
  | succ q ih =>
    rw [show m * (q + 1) + r = (m * q + r) + m by rw [Nat.mul_succ]; omega, itZ_add, h]
    exact ih
theorem Pm.mem_ring (P : Pm f ks) {s x : Int} (h : s ∈ ks) : x ∈ ringZ f s ↔ ∃ n, x = itZ f n s := by
  obtain ⟨⟨p0, p1, p2⟩, _⟩ := P.isPer h
  unfold ringZ orb
  constructor
  · intro hx
    obtain ⟨k, _, rfl⟩ := List.mem_map.mp hx
    exact ⟨k, rfl⟩
  · rintro ⟨n, rfl⟩
    refine List.mem_map.mpr ⟨n % pd f s, List.mem_range.mpr (Nat.mod_lt _ p0), ?_⟩
    have := it_mod p1 (n / pd f s) (n % pd f s)
    rw [Nat.div_add_mod] at this
    exact this.symm
theorem Pm.ring_in (P : Pm f ks) {s x : Int} (h : s ∈ ks) (hx : x ∈ ringZ f s) : x ∈ ks := by
  obtain ⟨n, rfl⟩ := (P.mem_ring h).mp hx
  exact P.it n h
theorem Pm.ring_self (P : Pm f ks) {s : Int} (h : s ∈ ks) : s ∈ ringZ f s := (P.mem_ring h).mpr ⟨0, rfl⟩
theorem Pm.ring_back (P : Pm f ks) {s x : Int} (h : s ∈ ks) (hx : x ∈ ringZ f s) : s ∈ ringZ f x := by
  obtain ⟨⟨p0, p1, p2⟩, _⟩ := P.isPer h
  have hk := P.ring_in h hx
  obtain ⟨n, rfl⟩ := (P.mem_ring h).mp hx
  refine (P.mem_ring hk).mpr ⟨pd f s * n - n, ?_⟩
  rw [← itZ_add, Nat.sub_add_cancel (Nat.le_mul_of_pos_left n p0)]
  have := it_mod p1 n 0
  rw [Nat.add_zero] at this
  exact this.symm
theorem Pm.ring_trans (P : Pm f ks) {s x y : Int} (h : s ∈ ks) (hx : x ∈ ringZ f s) (hy : y ∈ ringZ f x) : y ∈ ringZ f s := by
  obtain ⟨n, rfl⟩ := (P.mem_ring h).mp hx
  obtain ⟨m, rfl⟩ := (P.mem_ring (P.it n h)).mp hy
  exact (P.mem_ring h).mpr ⟨m + n, by rw [itZ_add]⟩
theorem Pm.ring_nd (P : Pm f ks) {s : Int} (h : s ∈ ks) : (ringZ f s).Nodup := by
  obtain ⟨⟨p0, p1, p2⟩, _⟩ := P.isPer h
  unfold ringZ orb
  refine List.pairwise_iff_getElem.mpr fun i j hi hj hij e => ?_
  rw [List.length_map, List.length_range] at hi hj
  rw [List.getElem_map, List.getElem_map, List.getElem_range, List.getElem_range] at e
  refine p2 (j - i) (by omega) (by omega) (P.itInj i (P.it _ h) h ?_)
  rw [← itZ_add, show i + (j - i) = j by omega]
  exact e.symm
/-- the least of a list -/
def mnZ : List Int → Int
  | [] => 0
  | x :: xs => minZ x xs
theorem mnZ_in {l : List Int} (h : l ≠ []) : mnZ l ∈ l ∧ ∀ y ∈ l, mnZ l ≤ y := by
  cases l with
  | nil => exact absurd rfl h
  | cons x xs => exact minZ_mem xs x
theorem mn_eq {l m : List Int} (hl : l ≠ []) (hm : m ≠ []) (h : ∀ x, x ∈ l ↔ x ∈ m) : mnZ l = mnZ m := by
  obtain ⟨a1, a2⟩ := mnZ_in hl
  obtain ⟨b1, b2⟩ := mnZ_in hm
  have h1 := a2 _ ((h _).mpr b1)
  have h2 := b2 _ ((h _).mp a1)
  omega
theorem Pm.ring_ne (P : Pm f ks) {s : Int} (h : s ∈ ks) : ringZ f s ≠ [] := fun e => by
  have := P.ring_self h
  rw [e] at this
  cases this
theorem Pm.ring_same (P : Pm f ks) {s x : Int} (h : s ∈ ks) (hx : x ∈ ringZ f s) (y : Int) : y ∈ ringZ f s ↔ y ∈ ringZ f x :=
  ⟨fun hy => P.ring_trans (P.ring_in h hx) (P.ring_back h hx) hy, fun hy => P.ring_trans h hx hy⟩
/-- the first ones of the rings -/
noncomputable def heads (f : Int → Int) (ks : List Int) : List Int := ks.filter fun s => decide (mnZ (ringZ f s) = s)
theorem mem_heads {s : Int} : s ∈ heads f ks ↔ s ∈ ks ∧ mnZ (ringZ f s) = s := by
  unfold heads
  rw [List.mem_filter, decide_eq_true_eq]
theorem Pm.rings_perm (P : Pm f ks) : ((heads f ks).flatMap (ringZ f)).Perm ks := by
  refine (List.perm_ext_iff_of_nodup ?_ P.nd).mpr fun x => ?_
  · refine List.pairwise_flatMap.mpr ⟨fun s hs => P.ring_nd (mem_heads.mp hs).1, ?_⟩
    refine List.Pairwise.imp_of_mem ?_ (List.Pairwise.filter _ P.nd)
    intro s t hs ht ne x hx y hy e
    obtain ⟨s1, s2⟩ := mem_heads.mp hs
    obtain ⟨t1, t2⟩ := mem_heads.mp ht
    subst e
    have e1 := mn_eq (P.ring_ne s1) (P.ring_ne (P.ring_in s1 hx)) (P.ring_same s1 hx)
    have e2 := mn_eq (P.ring_ne t1) (P.ring_ne (P.ring_in t1 hy)) (P.ring_same t1 hy)
    exact ne (by rw [← s2, ← t2, e1, e2])
  · rw [List.mem_flatMap]
    constructor
    · rintro ⟨s, hs, hx⟩
      exact P.ring_in (mem_heads.mp hs).1 hx
    · intro hx
      obtain ⟨m1, m2⟩ := mnZ_in (P.ring_ne hx)
      have hs := P.ring_in hx m1
      refine ⟨mnZ (ringZ f x), mem_heads.mpr ⟨hs, ?_⟩, P.ring_back hx m1⟩
      exact (mn_eq (P.ring_ne hx) (P.ring_ne hs) (P.ring_same hx m1)).symm
theorem bMin_t {l : List Int} (h : l ≠ []) : bMinA [tI l] = some (.int (mnZ l)) := by
  cases l with
  | nil => exact absurd rfl h
  | cons x xs =>
    show (match asInts ((x :: xs).map PyData.int) with | some (n :: ns) => some (PyData.int (minZ n ns)) | _ => none) = _
    rw [asInts_map]
    rfl
end
end Pu

set_option Elab.async false
set_option linter.all false
set_option maxRecDepth 100000
set_option maxHeartbeats 2000000
namespace Pu
open PySem PySem.Spec PyProof.Rows L2
section
variable {X : Cx} {M : Nat → Bool} {F : Fx} {E : L2.St → XK} {σ : L2.St} {ρ : Rho} {H H' H1 : Hp} {D : Ends} {la fa lb fb : Bool} {a b : Expr} {pos : Pos} {f g : Rho → Re PyData}
/-- x.insert(e, v) -/
def sIns (i : Nat) (lk : Bool) (f g : Rho → Re PyData) : Rho → Sr := fun ρ => match getL ρ i with
  | some ds => (f ρ).st ρ fun d => (g ρ).st ρ fun e => (match d with
    | .int n => if okLen (ds.length + 1) = true ∧ 0 ≤ n ∧ n < 2 ^ 63 ∧ (lk = true → imm e = true) then .nx (ρ.set i (some (.list (ds.take n.toNat ++ [e] ++ ds.drop n.toNat)))) else .bad
    | _ => .bad)
  | none => .bad
theorem ds_ins {i : Nat} {x : Str} {p1 p2 p3 : Pos} (m : M i = true) (h : DE X M F E la fa a f) (k : DE X M F E lb fb b g) (hN : X.N[i]? = some x := by rfl) (hv : Vis X.env.scope x := by first | exact Or.inl rfl | exact Or.inr (Or.inl rfl) | exact Or.inr (Or.inr rfl)) (hd : (x == ("__debug__" : Str)) = false := by decide)
    (hcd : (x == ("__classdict__" : Str)) = false := by decide)
    (hs : swapsWith (.Call (.Attribute (.Name x p1) "insert" p2) [a, b] [] p3) none pos.line X.env = pure false := by rfl) (hbase : attributeBase (.Name x p1) "insert" X.env (eval (.Name x p1) X.env) = eval (.Name x p1) X.env := by rfl)
    (hfew : ((backTo p3 (starEach (a :: [b]) X.env)).all (fun x => !x.1) && (backToKw p3 (keywordEach [] X.env)).all (fun x => x.1.isSome) && decide ((a :: ([b] : List Expr)).length + ([] : List Keyword).length + (if ([] : List Keyword).isEmpty then 0 else 1) < 30)) = true := by rfl)
    (hline : (p2.endLine == p3.line) = true := by rfl) (hst : starEach (a :: [b]) X.env = (false, eval a X.env) :: starEach [b] X.env := by rfl) (hst2 : starEach (b :: []) X.env = (false, eval b X.env) :: starEach [] X.env := by rfl) (hplain : (backTo p3 (starEach [b] X.env)).any (·.1) = false := by rfl) :
    DS X M F E (.Expr (.Call (.Attribute (.Name x p1) "insert" p2) [a, b] [] p3) pos) (sIns i lb f g) := by
  obtain ⟨t, pa, h⟩ := h
  obtain ⟨u, pb, k⟩ := k
  refine ⟨_, ps_expr (pe_bm PySem.F.plainAttrs_list PySem.F.slot_list_insert PySem.F.type_list_insert mt_insert (pe_var hN hv hd hcd) (pa_cons pa (pa_cons pb pa_nil hst2) hst) hbase hfew hline hst hplain) hs, fun σ H ρ er D w => ?_⟩
  unfold sIns at w
  cases hl : getL ρ i with
  | none =>
    rw [hl] at w
    exact w.elim
  | some ds =>
    rw [hl] at w
    obtain ⟨pp, xs, hs', hx, rx⟩ := er.lst m hl
    refine ⟨.ref pp, hs', sq_l hx, h σ H ρ er _ (ws_step er w fun d v H1 e1 s1 r1 _ w1 => ?_)⟩
    have er1 := er.same s1
    refine k σ H1 ρ er1 _ (ws_step er1 w1 fun e y H2 e2 s2 r2 _ w2 => ?_)
    have er2 := er1.same s2
    cases r1 with
    | int n =>
      have w2 : WS X M F E σ H2 ρ (if okLen (ds.length + 1) = true ∧ 0 ≤ n ∧ n < 2 ^ 63 ∧ (lb = true → imm e = true) then .nx (ρ.set i (some (.list (ds.take n.toNat ++ [e] ++ ds.drop n.toNat)))) else .bad) D := w2
      by_cases c : okLen (ds.length + 1) = true ∧ 0 ≤ n ∧ n < 2 ^ 63 ∧ (lb = true → imm e = true)
      · rw [if_pos c] at w2
        obtain ⟨c1, c2, c3, c4⟩ := c
        have hx2 := s2 _ _ (s1 _ _ hx)
        have hz : xs.length < sizeLine := by
          have := of_decide_eq_true c1
          rw [rx.length]
          exact Nat.lt_of_lt_of_le (Nat.lt_of_succ_le this) (by decide)
        have rx2 := (rx.same s1).same s2
        obtain ⟨er3, ev3⟩ := er2.putL m hl hs' hx2 (((rx2.take n.toNat).append (.cons (rp_lk r2 c4) .nil)).append (rx2.drop n.toNat))
        exact ⟨pp, xs, n, y, rfl, rfl, hx2, hz, c2, c3, w2 σ _ er3 ev3⟩
      · rw [if_neg c] at w2
        exact w2.elim
    | bl _ => exact w2.elim
    | non => exact w2.elim
    | str _ => exact w2.elim
    | tup _ _ => exact w2.elim
    | lst _ _ _ => exact w2.elim
    | scr _ _ => exact w2.elim
    | dic _ _ _ _ => exact w2.elim
    | dit _ _ _ _ => exact w2.elim
    | dif _ _ _ => exact w2.elim
end
end Pu

set_option Elab.async false
set_option linter.all false
set_option maxRecDepth 100000
set_option maxHeartbeats 2000000
/-! rings, when two places are exchanged; the way back -/
namespace Pu
open PySem PySem.Spec PyProof.Rows L2
section
variable {f f' : Int → Int} {ks : List Int}
theorem heads_nd (P : Pm f ks) : (heads f ks).Nodup := List.Pairwise.filter _ P.nd
theorem Pm.mn_ring (P : Pm f ks) {s x : Int} (h : s ∈ ks) (hx : x ∈ ringZ f s) : mnZ (ringZ f s) = mnZ (ringZ f x) := mn_eq (P.ring_ne h) (P.ring_ne (P.ring_in h hx)) (P.ring_same h hx)
theorem heads_swap (P : Pm f ks) (P' : Pm f' ks) {i j : Int} (hi : i ∈ ks) (h : ∀ x ∈ ks, f x ≠ i → f x ≠ j → f' x = f x) : (heads f ks).length ≤ (heads f' ks).length + 1 := by
  have same : ∀ s ∈ ks, i ∉ ringZ f s → j ∉ ringZ f s → ∀ n, itZ f' n s = itZ f n s := fun s hs h1 h2 n => by
    induction n with
    | zero => rfl
    | succ n ih =>
      show f' (itZ f' n s) = f (itZ f n s)
      rw [ih]
      have m : f (itZ f n s) ∈ ringZ f s := (P.mem_ring hs).mpr ⟨n + 1, rfl⟩
      exact h _ (P.it n hs) (fun e => h1 (e ▸ m)) fun e => h2 (e ▸ m)
  have mem : ∀ s ∈ ks, i ∉ ringZ f s → j ∉ ringZ f s → ∀ x, x ∈ ringZ f' s ↔ x ∈ ringZ f s := fun s hs h1 h2 x => by
    rw [P.mem_ring hs, P'.mem_ring hs]
    constructor
    · rintro ⟨n, rfl⟩
      exact ⟨n, same s hs h1 h2 n⟩
    · rintro ⟨n, rfl⟩
      exact ⟨n, (same s hs h1 h2 n).symm⟩
  let A := (heads f ks).filter fun s => decide (i ∉ ringZ f s ∧ j ∉ ringZ f s)
  have mA : ∀ s, s ∈ A ↔ s ∈ heads f ks ∧ i ∉ ringZ f s ∧ j ∉ ringZ f s := fun s => by
    show s ∈ (heads f ks).filter _ ↔ _
    rw [List.mem_filter, decide_eq_true_eq]
  have nA : A.Nodup := List.Pairwise.filter _ (heads_nd P)
  obtain ⟨m1, m2⟩ := mnZ_in (P'.ring_ne hi)
  have hh := P'.ring_in hi m1
  have ih : i ∈ ringZ f' (mnZ (ringZ f' i)) := P'.ring_back hi m1
  have hhd : mnZ (ringZ f' i) ∈ heads f' ks := mem_heads.mpr ⟨hh, (P'.mn_ring hi m1).symm⟩
  have l1 : A.length + 1 ≤ (heads f' ks).length := by
    have := php (mnZ (ringZ f' i) :: A) (heads f' ks) (List.nodup_cons.mpr ⟨fun q => ?_, nA⟩) fun x hx => ?_
    · rwa [List.length_cons] at this
    · obtain ⟨q1, q2, q3⟩ := (mA _).mp q
      exact q2 ((mem _ (mem_heads.mp q1).1 q2 q3 i).mp ih)
    · rcases List.mem_cons.mp hx with rfl | hx
      · exact hhd
      · obtain ⟨q1, q2, q3⟩ := (mA _).mp hx
        obtain ⟨q4, q5⟩ := mem_heads.mp q1
        refine mem_heads.mpr ⟨q4, ?_⟩
        rw [mn_eq (P'.ring_ne q4) (P.ring_ne q4) (mem x q4 q2 q3)]
        exact q5
  have l2 : (heads f ks).length ≤ A.length + 2 := by
    have := php (heads f ks) (A ++ [mnZ (ringZ f i), mnZ (ringZ f j)]) (heads_nd P) fun x hx => ?_
    · rw [List.length_append] at this
      exact this
    · obtain ⟨q4, q5⟩ := mem_heads.mp hx
      rw [List.mem_append]
      by_cases c : i ∈ ringZ f x
      · refine .inr ?_
        rw [← q5, P.mn_ring q4 c]
        exact List.mem_cons_self
      · by_cases c2 : j ∈ ringZ f x
        · refine .inr (List.mem_cons_of_mem _ ?_)
          rw [← q5, P.mn_ring q4 c2]
          exact List.mem_cons_self
        · exact .inl ((mA x).mpr ⟨hx, c, c2⟩)
  omega
/-- the way back has the same rings -/
theorem heads_inv (P : Pm f ks) (P' : Pm f' ks) (h : ∀ x ∈ ks, f' (f x) = x) : heads f' ks = heads f ks := by
  have itb : ∀ n s, s ∈ ks → itZ f' n (itZ f n s) = s := fun n => by
    induction n with
    | zero => exact fun s _ => rfl
    | succ n ih =>
      intro s hs
      have e : itZ f (n + 1) s = itZ f n (f s) := itZ_add f n 1 s
      rw [e]
      show f' (itZ f' n (itZ f n (f s))) = s
      rw [ih (f s) (P.to s hs)]
      exact h s hs
  have mem : ∀ s ∈ ks, ∀ x, x ∈ ringZ f s → x ∈ ringZ f' s := fun s hs x hx => by
    have hk := P.ring_in hs hx
    obtain ⟨n, rfl⟩ := (P.mem_ring hs).mp hx
    refine P'.ring_back hk ((P'.mem_ring hk).mpr ⟨n, ?_⟩)
    exact (itb n s hs).symm
  have mem2 : ∀ s ∈ ks, ∀ x, x ∈ ringZ f' s → x ∈ ringZ f s := fun s hs x hx => by
    have hk := P'.ring_in hs hx
    obtain ⟨n, rfl⟩ := (P'.mem_ring hs).mp hx
    have it2 : ∀ n s, s ∈ ks → itZ f n (itZ f' n s) = s := fun n => by
      induction n with
      | zero => exact fun s _ => rfl
      | succ n ih =>
        intro s hs
        have e : itZ f' (n + 1) s = itZ f' n (f' s) := itZ_add f' n 1 s
        rw [e]
        show f (itZ f n (itZ f' n (f' s))) = s
        rw [ih (f' s) (P'.to s hs)]
        refine P'.inj _ (P.to _ (P'.to s hs)) _ hs ?_
        exact h _ (P'.to s hs)
    refine P.ring_back hk ((P.mem_ring hk).mpr ⟨n, ?_⟩)
    exact (it2 n s hs).symm
  unfold heads
  refine List.filter_congr fun s hs => ?_
  rw [mn_eq (P'.ring_ne hs) (P.ring_ne hs) fun x => ⟨mem2 s hs x, mem s hs x⟩]
theorem heads_id (P : Pm f ks) (h : ∀ x ∈ ks, f x = x) : heads f ks = ks := by
  unfold heads
  refine List.filter_eq_self.mpr fun s hs => decide_eq_true ?_
  have it : ∀ n, itZ f n s = s := fun n => by
    induction n with
    | zero => rfl
    | succ n ih =>
      show f (itZ f n s) = s
      rw [ih]
      exact h s hs
  obtain ⟨m1, _⟩ := mnZ_in (P.ring_ne hs)
  obtain ⟨n, e⟩ := (P.mem_ring hs).mp m1
  rw [e, it]
end
end Pu

set_option Elab.async false
set_option linter.all false
set_option maxRecDepth 100000
set_option maxHeartbeats 2000000
/-! two plain rows: where a piece of the first stands in the second -/
namespace Pu
open PySem PySem.Spec PyProof.Rows L2
theorem up_nodup (a : Int) (n : Nat) : (upI a n).Nodup := by
  unfold upI
  refine List.pairwise_map.mpr (List.pairwise_lt_range.imp fun h => ?_)
  omega
theorem up_mem {a x : Int} {n : Nat} : x ∈ upI a n ↔ a ≤ x ∧ x < a + n := by
  unfold upI
  rw [List.mem_map]
  constructor
  · rintro ⟨k, hk, rfl⟩
    have := List.mem_range.mp hk
    omega
  · intro h
    exact ⟨(x - a).toNat, List.mem_range.mpr (by omega), by omega⟩
/-- two plain rows of n pieces -/
structure Two (n : Nat) (a b : List Int) : Prop where
  pa : a.Perm (upI 1 n)
  pb : b.Perm (upI 1 n)
section
variable {n : Nat} {a b : List Int}
theorem Two.la (T : Two n a b) : a.length = n := by rw [T.pa.length_eq, upI_length]
theorem Two.lb (T : Two n a b) : b.length = n := by rw [T.pb.length_eq, upI_length]
theorem Two.nb (T : Two n a b) : b.Nodup := T.pb.symm.nodup (up_nodup 1 n)
theorem Two.na (T : Two n a b) : a.Nodup := T.pa.symm.nodup (up_nodup 1 n)
theorem Two.back (T : Two n a b) : Two n b a := ⟨T.pb, T.pa⟩
/-- the place in b of the piece at p of a -/
def gZ (a b : List Int) (p : Int) : Int := ((idxZ ((atZ a p).getD 0) b).getD 0 : Nat)
theorem Two.at (T : Two n a b) {p : Int} (hp : p ∈ upI 0 n) : ∃ x, atZ a p = some x ∧ a[p.toNat]? = some x ∧ gZ a b p ∈ upI 0 n ∧ atZ b (gZ a b p) = some x := by
  have la := T.la
  obtain ⟨h1, h2⟩ := up_mem.mp hp
  obtain ⟨x, e1, e2⟩ := atZ_p (ns := a) h1 (by omega)
  have hx : x ∈ b := T.pb.mem_iff.mpr (T.pa.mem_iff.mp (List.mem_of_getElem? e2))
  obtain ⟨j, ej⟩ := idxZ_mem hx
  have gj := (idxZ_some ej).1
  have hj := getSome gj
  have lb := T.lb
  have eg : gZ a b p = (j : Int) := by
    unfold gZ
    rw [e1]
    show (((idxZ x b).getD 0 : Nat) : Int) = j
    rw [ej]
    rfl
  refine ⟨x, e1, e2, ?_, ?_⟩
  · rw [eg]
    exact up_mem.mpr (by omega)
  · rw [eg, atZ_nat hj]
    exact gj
theorem atZ_inj {l : List Int} (nd : l.Nodup) {p q x : Int} (hp : p ∈ upI 0 l.length) (hq : q ∈ upI 0 l.length) (e1 : atZ l p = some x) (e2 : atZ l q = some x) : p = q := by
  obtain ⟨h1, h2⟩ := up_mem.mp hp
  obtain ⟨h3, h4⟩ := up_mem.mp hq
  obtain ⟨y, a1, a2⟩ := atZ_p (ns := l) h1 (by omega)
  obtain ⟨z, b1, b2⟩ := atZ_p (ns := l) h3 (by omega)
  rw [e1] at a1
  rw [e2] at b1
  cases a1
  cases b1
  obtain ⟨i1, j1⟩ := List.getElem?_eq_some_iff.mp a2
  obtain ⟨i2, j2⟩ := List.getElem?_eq_some_iff.mp b2
  have := (List.getElem_inj (h₀ := i1) (h₁ := i2) nd).mp (j1.trans j2.symm)
  omega
theorem Two.g_eq (T : Two n a b) {p q x : Int} (hp : p ∈ upI 0 n) (hq : q ∈ upI 0 n) (e1 : atZ a p = some x) (e2 : atZ b q = some x) : gZ a b p = q := by
  obtain ⟨y, a1, _, a3, a4⟩ := T.at hp
  rw [e1] at a1
  cases a1
  have lb := T.lb
  exact atZ_inj T.nb (by rw [lb]; exact a3) (by rw [lb]; exact hq) a4 e2
theorem Two.pm (T : Two n a b) : Pm (gZ a b) (upI 0 n) := by
  refine ⟨up_nodup 0 n, fun p hp => (T.at hp).choose_spec.2.2.1, fun p hp q hq e => ?_⟩
  obtain ⟨x, a1, _, a3, a4⟩ := T.at hp
  obtain ⟨y, b1, _, b3, b4⟩ := T.at hq
  rw [e] at a4
  rw [a4] at b4
  cases b4
  have la := T.la
  exact atZ_inj T.na (by rw [la]; exact hp) (by rw [la]; exact hq) a1 b1
theorem Two.inv (T : Two n a b) : ∀ p ∈ upI 0 n, gZ b a (gZ a b p) = p := fun p hp => by
  obtain ⟨x, a1, _, a3, a4⟩ := T.at hp
  exact T.back.g_eq a3 hp a4 a1
/-- places i and j exchanged -/
def swZ (r : List Int) (i j : Int) : List Int := (r.set i.toNat ((atZ r j).getD 0)).set j.toNat ((atZ r i).getD 0)
theorem swZ_len (r : List Int) (i j : Int) : (swZ r i j).length = r.length := by
  unfold swZ
  rw [List.length_set, List.length_set]
theorem swZ_at {r : List Int} {i j p : Int} (hi : i ∈ upI 0 r.length) (hj : j ∈ upI 0 r.length) (hp : p ∈ upI 0 r.length) (hij : i ≠ j) : atZ (swZ r i j) p = if p = j then atZ r i else if p = i then atZ r j else atZ r p := by
  obtain ⟨h1, h2⟩ := up_mem.mp hi
  obtain ⟨h3, h4⟩ := up_mem.mp hj
  obtain ⟨h5, h6⟩ := up_mem.mp hp
  obtain ⟨x, e1, e2⟩ := atZ_p (ns := r) h1 (by omega)
  obtain ⟨y, e3, e4⟩ := atZ_p (ns := r) h3 (by omega)
  obtain ⟨z, e5, e6⟩ := atZ_p (ns := r) h5 (by omega)
  have hl := swZ_len r i j
  have get : ∀ (l : List Int) (q : Int), 0 ≤ q → q < l.length → atZ l q = l[q.toNat]? := fun l q a b => by
    obtain ⟨w, f1, f2⟩ := atZ_p (ns := l) a b
    rw [f1, f2]
  rw [get (swZ r i j) p h5 (by omega)]
  unfold swZ
  by_cases c : p = j
  · rw [if_pos c]
    subst c
    rw [List.getElem?_set_self (by rw [List.length_set]; omega), e1]
    rfl
  · rw [if_neg c, List.getElem?_set_ne (by omega)]
    by_cases c2 : p = i
    · rw [if_pos c2]
      subst c2
      rw [List.getElem?_set_self (by omega), e3]
      rfl
    · rw [if_neg c2, List.getElem?_set_ne (by omega), e5, e6]
theorem ext_at {l m : List Int} (h : l.length = m.length) (e : ∀ p ∈ upI 0 l.length, atZ l p = atZ m p) : l = m := List.ext_getElem? fun k => by
  by_cases c : k < l.length
  · have := e (k : Int) (up_mem.mpr (by omega))
    rwa [atZ_nat c, atZ_nat (by omega)] at this
  · rw [List.getElem?_eq_none (by omega), List.getElem?_eq_none (by omega)]
theorem atZ_mem {r : List Int} {p x : Int} (hp : p ∈ upI 0 r.length) (e : atZ r p = some x) : x ∈ r := by
  obtain ⟨h1, h2⟩ := up_mem.mp hp
  obtain ⟨y, e1, e2⟩ := atZ_p (ns := r) h1 (by omega)
  rw [e] at e1
  cases e1
  exact List.mem_of_getElem? e2
theorem mem_atZ {r : List Int} {x : Int} (h : x ∈ r) : ∃ p, p ∈ upI 0 r.length ∧ atZ r p = some x := by
  obtain ⟨k, hk, e⟩ := List.mem_iff_getElem.mp h
  refine ⟨(k : Int), up_mem.mpr (by omega), ?_⟩
  rw [atZ_nat hk, List.getElem?_eq_getElem hk, e]
theorem swZ_perm {r : List Int} (nd : r.Nodup) {i j : Int} (hi : i ∈ upI 0 r.length) (hj : j ∈ upI 0 r.length) (hij : i ≠ j) : (swZ r i j).Perm r := by
  have hl := swZ_len r i j
  have key : ∀ x, x ∈ swZ r i j ↔ x ∈ r := fun x => by
    constructor
    · intro h
      obtain ⟨p, hp, e⟩ := mem_atZ h
      rw [hl] at hp
      rw [swZ_at hi hj hp hij] at e
      split at e
      · exact atZ_mem hi e
      · split at e
        · exact atZ_mem hj e
        · exact atZ_mem hp e
    · intro h
      obtain ⟨p, hp, e⟩ := mem_atZ h
      by_cases c : p = j
      · subst c
        refine atZ_mem (p := i) (by rw [hl]; exact hi) ?_
        rw [swZ_at hi hj hi hij, if_neg hij, if_pos rfl]
        exact e
      · by_cases c2 : p = i
        · subst c2
          refine atZ_mem (p := j) (by rw [hl]; exact hj) ?_
          rw [swZ_at hi hj hj hij, if_pos rfl]
          exact e
        · refine atZ_mem (p := p) (by rw [hl]; exact hp) ?_
          rw [swZ_at hi hj hp hij, if_neg c, if_neg c2]
          exact e
  have nd2 : (swZ r i j).Nodup := by
    refine List.pairwise_iff_getElem.mpr fun k m hk hm hkm e => ?_
    have ek : atZ (swZ r i j) (k : Int) = some (swZ r i j)[k] := by rw [atZ_nat hk, List.getElem?_eq_getElem hk]
    have em : atZ (swZ r i j) (m : Int) = some (swZ r i j)[m] := by rw [atZ_nat hm, List.getElem?_eq_getElem hm]
    rw [e] at ek
    have mk : (k : Int) ∈ upI 0 r.length := up_mem.mpr (by omega)
    have mm : (m : Int) ∈ upI 0 r.length := up_mem.mpr (by omega)
    rw [swZ_at hi hj mk hij] at ek
    rw [swZ_at hi hj mm hij] at em
    have inj := fun {p q x : Int} hp hq e1 e2 => atZ_inj (x := x) (p := p) (q := q) nd hp hq e1 e2
    split at ek <;> split at em <;> (try split at ek) <;> (try split at em) <;> first
      | (have := inj hi hi ek em; omega) | (have := inj hi hj ek em; omega) | (have := inj hi mm ek em; omega) | (have := inj hj hi ek em; omega) | (have := inj hj hj ek em; omega) | (have := inj hj mm ek em; omega)
      | (have := inj mk hi ek em; omega) | (have := inj mk hj ek em; omega) | (have := inj mk mm ek em; omega)
  exact (List.perm_ext_iff_of_nodup nd2 nd).mpr key
/-- the least number of swaps -/
noncomputable def lsZ (n : Nat) (a b : List Int) : Nat := n - (heads (gZ a b) (upI 0 n)).length
theorem heads_le (f : Int → Int) (n : Nat) : (heads f (upI 0 n)).length ≤ n := by
  have := List.length_filter_le (fun s => decide (mnZ (ringZ f s) = s)) (upI 0 n)
  rw [upI_length] at this
  exact this
theorem Two.ls_back (T : Two n a b) : lsZ n b a = lsZ n a b := by
  unfold lsZ
  rw [heads_inv T.pm T.back.pm T.inv]
theorem ls_self {r : List Int} (h : r.Perm (upI 1 n)) : lsZ n r r = 0 := by
  have T : Two n r r := ⟨h, h⟩
  unfold lsZ
  rw [heads_id T.pm fun p hp => ?_]
  · rw [upI_length]
    omega
  · obtain ⟨x, a1, _, _, _⟩ := T.at hp
    exact T.g_eq hp hp a1 a1
theorem Two.swap (T : Two n a b) {i j : Int} (hi : i ∈ upI 0 n) (hj : j ∈ upI 0 n) (hij : i ≠ j) : Two n a (swZ b i j) ∧ lsZ n a (swZ b i j) ≤ lsZ n a b + 1 := by
  have lb := T.lb
  have hi' : i ∈ upI 0 b.length := by rw [lb]; exact hi
  have hj' : j ∈ upI 0 b.length := by rw [lb]; exact hj
  have T' : Two n a (swZ b i j) := ⟨T.pa, (swZ_perm T.nb hi' hj' hij).trans T.pb⟩
  refine ⟨T', ?_⟩
  have := heads_swap T.pm T'.pm hi (j := j) fun p hp h1 h2 => by
    obtain ⟨x, a1, _, a3, a4⟩ := T.at hp
    refine T'.g_eq hp a3 a1 ?_
    rw [swZ_at hi' hj' (by rw [lb]; exact a3) hij, if_neg h2, if_neg h1]
    exact a4
  have h2 := heads_le (gZ a b) n
  unfold lsZ
  omega
end
end Pu

set_option Elab.async false
set_option linter.all false
set_option maxRecDepth 100000
set_option maxHeartbeats 2000000
/-! a script of swaps along the rings -/
namespace Pu
open PySem PySem.Spec PyProof.Rows L2
theorem orb_cons (f : Int → Int) (s : Int) {m : Nat} (h : 0 < m) : orb f s m = s :: (List.range (m - 1)).map fun q => itZ f (q + 1) s := by
  obtain ⟨k, rfl⟩ : ∃ k, m = k + 1 := ⟨m - 1, by omega⟩
  unfold orb
  rw [List.range_succ_eq_map, List.map_cons, List.map_map]
  rfl
/-- the places behind the first one -/
noncomputable def tailZ (f : Int → Int) (s : Int) : List Int := (List.range (pd f s - 1)).map fun q => itZ f (q + 1) s
noncomputable def scrZ (f : Int → Int) (gs : List Int) : List (Int × Int) := gs.flatMap fun s => (tailZ f s).map fun x => (s, x)
def runZ (r : List Int) (ps : List (Int × Int)) : List Int := ps.foldl (fun r p => swZ r p.1 p.2) r
theorem runZ_app (r : List Int) (ps qs : List (Int × Int)) : runZ r (ps ++ qs) = runZ (runZ r ps) qs := by
  unfold runZ
  rw [List.foldl_append]
section
variable {n : Nat} {a b : List Int}
/-- the rows while the ring of s is gone along: done is done -/
def Mid (n : Nat) (a b : List Int) (done : List Int) (s : Int) (k : Nat) (r : List Int) : Prop := r.length = n ∧ ∀ p ∈ upI 0 n, (p ∈ done ∨ (∃ q, 1 ≤ q ∧ q < k ∧ p = itZ (gZ a b) q s) → atZ r p = atZ b p) ∧ (¬ (p ∈ done ∨ (∃ q, 1 ≤ q ∧ q < k ∧ p = itZ (gZ a b) q s)) → atZ r p = if p = s then atZ a (itZ (gZ a b) (k - 1) s) else atZ a p)
theorem Two.it_inj (T : Two n a b) {s : Int} (hs : s ∈ upI 0 n) {i j : Nat} (hi : i < pd (gZ a b) s) (hj : j < pd (gZ a b) s) (e : itZ (gZ a b) i s = itZ (gZ a b) j s) : i = j := by
  have nd := T.pm.ring_nd hs
  have l : (ringZ (gZ a b) s).length = pd (gZ a b) s := orb_length s _
  have h1 : (ringZ (gZ a b) s)[i]? = some (itZ (gZ a b) i s) := orb_get hi
  have h2 : (ringZ (gZ a b) s)[j]? = some (itZ (gZ a b) j s) := orb_get hj
  obtain ⟨i1, j1⟩ := List.getElem?_eq_some_iff.mp h1
  obtain ⟨i2, j2⟩ := List.getElem?_eq_some_iff.mp h2
  exact (List.getElem_inj (h₀ := i1) (h₁ := i2) nd).mp (j1.trans (e.trans j2.symm))
theorem Two.mid_step (T : Two n a b) {done : List Int} {s : Int} (hs : s ∈ upI 0 n) (hd : ∀ x ∈ ringZ (gZ a b) s, x ∉ done) {k : Nat} (k1 : 1 ≤ k) (k2 : k < pd (gZ a b) s) {r : List Int} (M : Mid n a b done s k r) : Mid n a b done s (k + 1) (swZ r s (itZ (gZ a b) k s)) := by
  obtain ⟨hl, M⟩ := M
  have P := T.pm
  have p0 := (P.isPer hs).1.1
  have hx := P.it k hs
  have ne : s ≠ itZ (gZ a b) k s := fun e => by
    have := T.it_inj hs (i := 0) (j := k) p0 k2 e
    omega
  have inr : ∀ q, itZ (gZ a b) q s ∈ ringZ (gZ a b) s := fun q => (P.mem_ring hs).mpr ⟨q, rfl⟩
  have s1 : atZ r s = atZ a (itZ (gZ a b) (k - 1) s) := by
    have := (M s hs).2 (fun h => ?_)
    · rw [if_pos rfl] at this
      exact this
    · rcases h with h | ⟨q, q1, q2, q3⟩
      · exact hd s (inr 0) h
      · have := T.it_inj hs (i := 0) (j := q) p0 (by omega) q3
        omega
  have s2 : atZ r (itZ (gZ a b) k s) = atZ a (itZ (gZ a b) k s) := by
    have := (M _ hx).2 (fun h => ?_)
    · rw [if_neg (fun e => ne e.symm)] at this
      exact this
    · rcases h with h | ⟨q, q1, q2, q3⟩
      · exact hd _ (inr k) h
      · have := T.it_inj hs (i := k) (j := q) k2 (by omega) q3
        omega
  have s3 : atZ a (itZ (gZ a b) (k - 1) s) = atZ b (itZ (gZ a b) k s) := by
    obtain ⟨x, a1, _, _, a4⟩ := T.at (P.it (k - 1) hs)
    have e : gZ a b (itZ (gZ a b) (k - 1) s) = itZ (gZ a b) k s := by
      show itZ (gZ a b) (k - 1 + 1) s = _
      rw [Nat.sub_add_cancel k1]
    rw [e] at a4
    rw [a1, a4]
  refine ⟨by rw [swZ_len, hl], fun p hp => ?_⟩
  rw [swZ_at (by rw [hl]; exact hs) (by rw [hl]; exact hx) (by rw [hl]; exact hp) ne]
  by_cases c : p = itZ (gZ a b) k s
  · rw [if_pos c, s1, s3]
    exact ⟨fun _ => by rw [c], fun h => absurd (.inr ⟨k, k1, Nat.lt_succ_self k, c⟩) h⟩
  · rw [if_neg c]
    by_cases c2 : p = s
    · rw [if_pos c2, s2]
      refine ⟨fun h => ?_, fun _ => by rw [if_pos c2]; rfl⟩
      subst c2
      rcases h with h | ⟨q, q1, q2, q3⟩
      · exact absurd h (hd p (inr 0))
      · have := T.it_inj hs (i := 0) (j := q) p0 (by omega) q3
        omega
    · rw [if_neg c2]
      obtain ⟨m1, m2⟩ := M p hp
      refine ⟨fun h => m1 ?_, fun h => ?_⟩
      · rcases h with h | ⟨q, q1, q2, q3⟩
        · exact .inl h
        · refine .inr ⟨q, q1, ?_, q3⟩
          by_cases e : q = k
          · subst e
            exact absurd q3 c
          · omega
      · rw [if_neg c2]
        have := m2 fun h' => h (by
          rcases h' with h' | ⟨q, q1, q2, q3⟩
          · exact .inl h'
          · exact .inr ⟨q, q1, by omega, q3⟩)
        rw [if_neg c2] at this
        exact this
def Part (n : Nat) (a b : List Int) (done r : List Int) : Prop := r.length = n ∧ ∀ p ∈ upI 0 n, (p ∈ done → atZ r p = atZ b p) ∧ (p ∉ done → atZ r p = atZ a p)
theorem Two.ring_run (T : Two n a b) {done : List Int} {s : Int} (hs : s ∈ upI 0 n) (hd : ∀ x ∈ ringZ (gZ a b) s, x ∉ done) {r : List Int} (M : Part n a b done r) : Part n a b (done ++ ringZ (gZ a b) s) (runZ r ((tailZ (gZ a b) s).map fun x => (s, x))) := by
  have P := T.pm
  obtain ⟨⟨p0, p1, p2⟩, _⟩ := P.isPer hs
  have inr : ∀ q, itZ (gZ a b) q s ∈ ringZ (gZ a b) s := fun q => (P.mem_ring hs).mpr ⟨q, rfl⟩
  have key : ∀ t, t < pd (gZ a b) s → Mid n a b done s (t + 1) (runZ r (((List.range t).map fun q => itZ (gZ a b) (q + 1) s).map fun x => (s, x))) := by
    intro t
    induction t with
    | zero =>
      intro _
      refine ⟨M.1, fun p hp => ⟨fun h => ?_, fun h => ?_⟩⟩
      · rcases h with h | ⟨q, q1, q2, _⟩
        · exact (M.2 p hp).1 h
        · omega
      · have := (M.2 p hp).2 fun q => h (.inl q)
        by_cases c : p = s
        · rw [if_pos c]
          subst c
          exact this
        · rw [if_neg c]
          exact this
    | succ t ih =>
      intro ht
      rw [List.range_succ, List.map_append, List.map_append, runZ_app]
      exact T.mid_step hs hd (by omega) ht (ih (by omega))
  obtain ⟨hl, K⟩ := key (pd (gZ a b) s - 1) (by omega)
  refine ⟨hl, fun p hp => ⟨fun h => ?_, fun h => ?_⟩⟩
  · by_cases c : p = s
    · subst c
      by_cases c2 : p ∈ done
      · exact absurd c2 (hd p (inr 0))
      · have := (K p hp).2 fun q => by
          rcases q with q | ⟨q, q1, q2, q3⟩
          · exact c2 q
          · have := T.it_inj hp (i := 0) (j := q) p0 (by omega) q3
            omega
        rw [if_pos rfl] at this
        rw [show (runZ r ((tailZ (gZ a b) p).map fun x => (p, x))) = runZ r (((List.range (pd (gZ a b) p - 1)).map fun q => itZ (gZ a b) (q + 1) p).map fun x => (p, x)) from rfl, this]
        rw [show pd (gZ a b) p - 1 + 1 - 1 = pd (gZ a b) p - 1 by omega]
        obtain ⟨x, a1, _, _, a4⟩ := T.at (P.it (pd (gZ a b) p - 1) hp)
        have e : gZ a b (itZ (gZ a b) (pd (gZ a b) p - 1) p) = p := by
          show itZ (gZ a b) (pd (gZ a b) p - 1 + 1) p = p
          rw [Nat.sub_add_cancel p0]
          exact p1
        rw [e] at a4
        rw [a1, a4]
    · refine (K p hp).1 ?_
      rcases List.mem_append.mp h with h | h
      · exact .inl h
      · obtain ⟨q, hq, rfl⟩ := List.mem_map.mp (show p ∈ (List.range (pd (gZ a b) s)).map fun k => itZ (gZ a b) k s from h)
        have := List.mem_range.mp hq
        refine .inr ⟨q, ?_, by omega, rfl⟩
        cases q with
        | zero => exact absurd rfl c
        | succ q => omega
  · have h1 : p ∉ done := fun q => h (List.mem_append.mpr (.inl q))
    have h2 : p ∉ ringZ (gZ a b) s := fun q => h (List.mem_append.mpr (.inr q))
    have := (K p hp).2 fun q => by
      rcases q with q | ⟨q, _, _, rfl⟩
      · exact h1 q
      · exact h2 (inr q)
    rw [if_neg fun e => h2 (by rw [e]; exact inr 0)] at this
    exact this
theorem Two.scr_run (T : Two n a b) : runZ a (scrZ (gZ a b) (heads (gZ a b) (upI 0 n))) = b := by
  have P := T.pm
  have hk : ∀ s ∈ heads (gZ a b) (upI 0 n), s ∈ upI 0 n := fun s h => (mem_heads.mp h).1
  have nd : ((heads (gZ a b) (upI 0 n)).flatMap (ringZ (gZ a b))).Nodup := P.rings_perm.symm.nodup P.nd
  have key : ∀ (l m : List Int), l ++ m = heads (gZ a b) (upI 0 n) → ∀ r, Part n a b (l.flatMap (ringZ (gZ a b))) r → Part n a b ((l ++ m).flatMap (ringZ (gZ a b))) (runZ r (scrZ (gZ a b) m)) := by
    intro l m
    induction m generalizing l with
    | nil =>
      intro _ r M
      rw [List.append_nil]
      exact M
    | cons s m ih =>
      intro e r M
      have hs := hk s (by rw [← e]; simp)
      have hd : ∀ x ∈ ringZ (gZ a b) s, x ∉ l.flatMap (ringZ (gZ a b)) := fun x hx q => by
        rw [← e, List.flatMap_append, List.flatMap_cons] at nd
        exact (List.nodup_append.mp nd).2.2 x q x (List.mem_append.mpr (.inl hx)) rfl
      have M2 := T.ring_run hs hd M
      have e2 : l.flatMap (ringZ (gZ a b)) ++ ringZ (gZ a b) s = (l ++ [s]).flatMap (ringZ (gZ a b)) := by
        rw [List.flatMap_append]
        simp
      rw [e2] at M2
      have := ih (l ++ [s]) (by rw [List.append_assoc]; exact e) _ M2
      rw [List.append_assoc] at this
      have e3 : scrZ (gZ a b) (s :: m) = ((tailZ (gZ a b) s).map fun x => (s, x)) ++ scrZ (gZ a b) m := rfl
      rw [e3, runZ_app]
      exact this
  have la := T.la
  have lb := T.lb
  obtain ⟨hl, F⟩ := key [] (heads (gZ a b) (upI 0 n)) rfl a ⟨la, fun p hp => ⟨fun h => (nomatch h), fun _ => rfl⟩⟩
  refine ext_at (by rw [hl, lb]) fun p hp => (F p (by rw [hl] at hp; exact hp)).1 ?_
  rw [hl] at hp
  exact P.rings_perm.mem_iff.mpr hp
/-- each swap of the script is one -/
theorem Two.scr_ok (T : Two n a b) : ∀ p ∈ scrZ (gZ a b) (heads (gZ a b) (upI 0 n)), p.1 ∈ upI 0 n ∧ p.2 ∈ upI 0 n ∧ p.1 < p.2 := by
  intro p hp
  have P := T.pm
  obtain ⟨s, hs, hp⟩ := List.mem_flatMap.mp hp
  obtain ⟨x, hx, rfl⟩ := List.mem_map.mp hp
  obtain ⟨q, hq, rfl⟩ := List.mem_map.mp hx
  have hq := List.mem_range.mp hq
  obtain ⟨h1, h2⟩ := mem_heads.mp hs
  have p0 := (P.isPer h1).1.1
  refine ⟨h1, P.it _ h1, ?_⟩
  have m := (mnZ_in (P.ring_ne h1)).2 _ ((P.mem_ring h1).mpr ⟨q + 1, rfl⟩)
  rw [h2] at m
  have ne : s ≠ itZ (gZ a b) (q + 1) s := fun e => by
    have := T.it_inj h1 (i := 0) (j := q + 1) p0 (by omega) e
    omega
  show s < itZ (gZ a b) (q + 1) s
  omega
theorem Two.scr_len (T : Two n a b) : (scrZ (gZ a b) (heads (gZ a b) (upI 0 n))).length = lsZ n a b := by
  have P := T.pm
  have key : ∀ gs : List Int, (∀ s ∈ gs, s ∈ upI 0 n) → (scrZ (gZ a b) gs).length + gs.length = (gs.flatMap (ringZ (gZ a b))).length := by
    intro gs
    induction gs with
    | nil => intro _; rfl
    | cons s gs ih =>
      intro h
      have hs := h s List.mem_cons_self
      have p0 := (P.isPer hs).1.1
      have i1 := ih fun t ht => h t (List.mem_cons_of_mem _ ht)
      have e3 : scrZ (gZ a b) (s :: gs) = ((tailZ (gZ a b) s).map fun x => (s, x)) ++ scrZ (gZ a b) gs := rfl
      have l1 : (ringZ (gZ a b) s).length = pd (gZ a b) s := orb_length s _
      have l2 : (tailZ (gZ a b) s).length = pd (gZ a b) s - 1 := by simp [tailZ]
      rw [e3, List.flatMap_cons, List.length_append, List.length_append, List.length_map, List.length_cons, l1, l2]
      omega
  have h1 := key (heads (gZ a b) (upI 0 n)) fun s h => (mem_heads.mp h).1
  rw [P.rings_perm.length_eq, upI_length] at h1
  unfold lsZ
  omega
end
end Pu

set_option Elab.async false
set_option linter.all false
set_option maxRecDepth 100000
set_option maxHeartbeats 2000000
/-! x, *ys = t of a tuple -/
namespace HT
open PySem PySem.Spec PyProof.Rows
section
variable {prog : Program} {w : World} {A : Around} {E : Value → Shared → Prop} {s : Shared}
theorem walk_from (hh : A.handled = none) (I ax : Addr) (hne : ax ≠ I) (its : Array Value) (k : Nat) (hk : k ≤ its.size) :
    Walks prog w A I [I, ax] [I] (its.size - k) (fun i v => its[k + i]? = some v) (fun i h => h.IsTupleIter I ax (k + i) ∧ h.IsTuple ax its) where
  sub := fun b hb => by
    rw [List.mem_singleton.mp hb]
    exact List.mem_cons_self
  frame := fun _ _ _ st q => ⟨st.1.at fun o e => q I List.mem_cons_self o e, st.2.at fun o e => q ax (List.mem_cons_of_mem _ List.mem_cons_self) o e⟩
  item := fun i s Q E hi st hQ => by
    have hlt : k + i < its.size := by omega
    refine wpAny_pyNext_tuple_item st.1 st.2 (x := its[k + i]) (by simp [hlt]) fun h' it' sb => ?_
    exact hQ _ h' s.toks (by simp [hlt]) ⟨it', st.2.extBut sb.extBut hne⟩ fun b o hb e => sb.extBut b o (fun z => hb (List.mem_singleton.mpr z)) e
  done := fun s Q E st hQ => wpAny_pyNext_tuple_end hh st.1 st.2 (by simp; omega) fun h' ex => hQ h' s.toks fun b o hb e => ex b o (fun z => hb (List.mem_singleton.mpr z)) e
  self := fun _ _ _ _ st hQ => wpAny_pyIter_tupleiter st.1 hQ
theorem star_items {t : Addr} {x : Value} {its : List Value} {Q : List Value → Shared → Prop} (hh : A.handled = none) (ht : IsTup s.heap t (x :: its).toArray) (hz : its.length ≤ sizeLine)
    (hQ : ∀ (h' : Heap) (tk : Nat), (∀ b o, s.heap.get? b = some o → h'.get? b = some o) → Q [x, .ref h'.objs.size] { s with heap := h'.push { cls := .type "list", data := .seq its.toArray }, toks := tk }) :
    wpAny (model prog w) A (unpackItems (.ref t) 2 (some 1)) Q E s := by
  have hlt : t ≠ s.heap.objs.size := by
    obtain ⟨o, ho, _⟩ := ht
    exact Nat.ne_of_lt (Heap.lt_size ho)
  unfold unpackItems
  refine wpAny_bind ?_
  unfold notIterableAtAll
  refine wpAny_bind (wpAny_specialOf ht.typeIs slot_tuple_iter.lookup ?_)
  refine wpAny_pure ?_
  simp only [Bool.false_eq_true, if_false]
  refine wpAny_bind (wpAny_holding (iter_tuple ht ?_))
  refine wpAny_bind (wpAny_holding (draw_tuple hlt 1 0 _ _ ⟨_, Heap.get?_push_size _ rfl, rfl, rfl⟩ (ht.push _) (by simp) fun h1 hit1 sb1 => ?_))
  have hall : List.take 1 (List.drop 0 (x :: its).toArray.toList) = [x] := rfl
  rw [hall]
  rw [if_neg (by simp)]
  have ht1 : IsTup h1 t (x :: its).toArray := (ht.push _).extBut sb1.extBut hlt
  have W := walk_from (prog := prog) (w := w) (A := A.in1) hh s.heap.objs.size t hlt (x :: its).toArray 1 (by simp)
  have hlen : (x :: its).toArray.size - 1 = its.length := by simp
  have hI : s.heap.objs.size < h1.objs.size := by
    obtain ⟨o, ho, _⟩ := hit1
    exact Heap.lt_size ho
  have ht1' : t < h1.objs.size := by
    obtain ⟨o, ho, _⟩ := ht1
    exact Heap.lt_size ho
  refine wpAny_bind (wpAny_holding ?_)
  refine wpAny_collect_iter (T := "tuple_iterator") (.inr (.inr (.inr rfl))) W.toS (fun i s st => by
    obtain ⟨o, e1, e2, _⟩ := st.1
    exact ⟨o, e1, e2⟩) (St := fun i s => _) ⟨hit1, ht1⟩ (fun b hb => ?_) List.mem_cons_self (fun s' acc mv io => ?_) (by rw [hlen]; exact hz)
  · rcases List.mem_cons.mp hb with rfl | hb
    · exact hI
    · rw [List.mem_singleton.mp hb]
      exact ht1'
  · have ea : acc.toList = its := by
      obtain ⟨i1, i2⟩ := io
      rw [hlen] at i1
      refine List.ext_getElem? fun j => ?_
      by_cases c : j < its.length
      · have hj : j < acc.size := by omega
        have e1 : acc[j]? = some acc[j] := by simp [hj]
        have e2 : (x :: its).toArray[1 + j]? = some acc[j] := i2 j _ e1
        have e3 : (x :: its).toArray[1 + j]? = its[j]? := by
          rw [List.getElem?_toArray, Nat.add_comm, List.getElem?_cons_succ]
        rw [e3] at e2
        rw [e2, Array.getElem?_toList, e1]
      · rw [List.getElem?_eq_none (by rw [Array.length_toList]; omega), List.getElem?_eq_none (by omega)]
    rw [ea]
    show wpAny _ _ (if its.length < 0 then _ else _) _ _ s'
    rw [if_neg (Nat.not_lt_zero _)]
    show wpAny _ _ (newList (its.take (its.length - 0)) >>= fun l => pure ([x] ++ [l] ++ its.drop (its.length - 0))) _ _ s'
    rw [Nat.sub_zero, List.take_length, List.drop_length]
    refine wpAny_bind (wpAny_newObj_type ?_ (by show its.toArray.size ≤ sizeLine; rw [List.size_toArray]; exact hz))
    refine wpAny_pure ?_
    obtain ⟨m1, m2, m3, m4, m5⟩ := mv
    obtain ⟨hp, gn, dr, tk, os⟩ := s'
    have m2 : gn = s.gens := m2
    have m3 : dr = s.drawn := m3
    have m4 : os = s.os := m4
    subst m2 m3 m4
    have hk : ∀ b o, s.heap.get? b = some o → hp.get? b = some o := fun b o e => by
      have hb : b ≠ s.heap.objs.size := Nat.ne_of_lt (Heap.lt_size e)
      exact m1 b o (fun z => hb (List.mem_singleton.mp z)) (sb1.extBut b o hb (Heap.get?_push_of_some _ e))
    exact hQ hp tk hk
end
end HT
namespace Pu
open PySem PySem.Spec PyProof.Rows L2
section
variable {X : Cx} {M : Nat → Bool} {F : Fx} {E : L2.St → XK} {la fa : Bool} {a : Expr} {pos : Pos} {f : Rho → Re PyData}
def gStar (K : PySem.W.Frag) (t0 t1 : TG) : TG := fun v σ H Q => ∃ p x xs, v = .ref p ∧ SqT K H p (x :: xs) ∧ ∀ l, H l = none → t0 x σ (upd H l (.lst xs)) fun σ1 H1 => t1 (.ref l) σ1 H1 Q
theorem pg_star {e0 e1 : Expr} {k : Nat} {p1 : Pos} {t0 t1 : TG} (hc : X.calm = true) (h0 : PG X e0 t0) (h1 : PG X e1 t1) (he : assignEach [e0, .Starred e1 p1] X.env = [(false, assign e0 X.env), (true, assign e1 X.env)] := by rfl) : PG X (.Tuple [e0, .Starred e1 p1] k pos) (gStar X.K t0 t1) := by
  refine ⟨fun pins s σ H v u Q I r hw => ?_⟩
  obtain ⟨p, x, xs, rfl, hq, hw⟩ := hw
  cases r
  obtain ⟨its, rv, ht, hz⟩ := I.tuple hq
  cases rv with
  | cons rx rxs =>
    rename_i y ys
    rw [PyProof.Rows.assign_Tuple]
    refine wpAny_bind (wpAny_standAt ?_)
    unfold unpack
    rw [he]
    refine wpAny_bind (wpAny_holding (HT.star_items (I.ok.hd hc) ht (by have := rxs.length; rw [List.length_cons] at hz; omega) fun h' tk hk => ?_))
    have I1 : Inv X pins σ H { s with heap := h', toks := tk } := I.kept (t' := tk) hk
    have hf : H h'.objs.size = none := I1.hok.fresh (Nat.le_refl _)
    have I2 : Inv X pins σ (upd H h'.objs.size (.lst xs)) { s with heap := h'.push { cls := .type "list", data := .seq ys.toArray }, toks := tk } := by
      refine I1.laid (t' := tk) (fun b u e => Heap.get?_push_of_some _ e) (Nat.le_refl _) ?_
      exact ⟨by rw [List.length_cons] at hz; omega, ys, 0, rxs, Heap.get?_push_size _ rfl⟩
    refine assignInOrder_cons (thn (h0.run pins _ σ _ x y _ I2 rx (hw _ hf)) ?_)
    rintro _ s1 ⟨σ1, H1, J, q⟩
    refine assignInOrder_cons (thn (h1.run pins s1 σ1 H1 (.ref h'.objs.size) (.ref h'.objs.size) _ J rfl q) ?_)
    rintro _ s2 ⟨σ2, H2, J2, q2⟩
    exact assignInOrder_nil ⟨σ2, H2, J2, q2⟩
/-- x, *ys = e -/
def sStar (i j : Nat) (f : Rho → Re PyData) : Rho → Sr := fun ρ => (f ρ).st ρ fun d => (match d with | .tuple (x :: xs) => .nx ((ρ.set i (some x)).set j (some (.list xs))) | _ => .bad)
theorem ds_star {i j : Nat} {x y : Str} {q0 q1 p1 q2 : Pos} {k : Nat} (mi : M i = false) (mj : M j = false) (hN : X.N.Nodup) (hc : X.calm = true) (h : DE X M F E false fa a f)
    (hi : X.N[i]? = some x := by rfl) (hj : X.N[j]? = some y := by rfl) (hx : Loc X.env.scope x := by first | exact Or.inl rfl | exact Or.inr rfl) (hy : Loc X.env.scope y := by first | exact Or.inl rfl | exact Or.inr rfl)
    (hfx : X.fn x = true ∨ X.env.scope.names.lookup x = some .local := by first | exact .inl rfl | exact .inr rfl) (hfy : X.fn y = true ∨ X.env.scope.names.lookup y = some .local := by first | exact .inl rfl | exact .inr rfl)
    (h1 : (assignEach [.Tuple [.Name x q0, .Starred (.Name y q1) p1] k q2] X.env).map (·.2) = [assign (.Tuple [.Name x q0, .Starred (.Name y q1) p1] k q2) X.env] := by rfl)
    (hs : swapsWithSole [.Tuple [.Name x q0, .Starred (.Name y q1) p1] k q2] a pos.line X.env = pure false := by rfl) (hw : swappedStores [.Tuple [.Name x q0, .Starred (.Name y q1) p1] k q2] a X.env = pure none := by rfl)
    (he : assignEach [.Name x q0, .Starred (.Name y q1) p1] X.env = [(false, assign (.Name x q0) X.env), (true, assign (.Name y q1) X.env)] := by rfl) :
    DS X M F E (.Assign [.Tuple [.Name x q0, .Starred (.Name y q1) p1] k q2] a pos) (sStar i j f) := by
  obtain ⟨t, pa, h⟩ := h
  refine ⟨_, ps_asg pa (pg_star hc (pg_name hN hi hx hfx) (pg_name hN hj hy hfy) he) hs hw (h1 := h1), fun σ H ρ er D w => ?_⟩
  refine h σ H ρ er _ (ws_step er w fun d v H1 e sm r _ w1 => ?_)
  have er1 := er.same sm
  cases r with
  | tup h1 rr =>
    cases rr with
    | nil => exact w1.elim
    | cons r1 r2 =>
      rename_i aa v0 vs0 d0 ds0 ff
      refine ⟨aa, v0, vs0, rfl, h1.sq, fun l hl => ?_⟩
      have s2 : Same H1 (upd H1 l (.lst vs0)) := same_new hl
      have fr : RS M F σ ρ false l := er1.freshS l hl
      have er3 : ER X.K M F (σ.set i (some v0)) (upd H1 l (.lst vs0)) (ρ.set i (some d0)) := (er1.same s2).set mi (r1.same s2)
      have cv : ∀ q, RS M F σ ρ false q → RS M F (σ.set i (some v0)) (ρ.set i (some d0)) false q := fun q z => ⟨z.1, fun _ o => z.2 rfl ((own_set mi).mp o)⟩
      have rl : Rp X.K (upd H1 l (.lst vs0)) (RS M F (σ.set i (some v0)) (ρ.set i (some d0)) false) (.ref l) (.list ds0) := .lst upd_same (cv l fr) ((r2.same s2).wide cv)
      have w2 : WS X M F E σ H1 ρ (.nx ((ρ.set i (some d0)).set j (some (.list ds0)))) D := w1
      refine w2 _ _ (er3.set mj rl) ?_
      exact (Evo.same s2).trans fun b u q n => ⟨q, fun o => n ((own_set mi).mp ((own_set mj).mp o))⟩
  | bl _ => exact w1.elim
  | non => exact w1.elim
  | int _ => exact w1.elim
  | str _ => exact w1.elim
  | lst _ _ _ => exact w1.elim
  | scr _ _ => exact w1.elim
  | dic _ _ _ _ => exact w1.elim
  | dit _ _ _ _ => exact w1.elim
  | dif _ _ _ => exact w1.elim
end
end Pu

set_option Elab.async false
set_option linter.all false
set_option maxRecDepth 100000
set_option maxHeartbeats 2000000
/-! x[e1], x[e2] = (v1, v2) on a list of the frame's own, numbers -/
namespace Pu
open PySem PySem.Spec PyProof.Rows L2
section
variable {X : Cx} {M : Nat → Bool} {F : Fx} {E : L2.St → XK} {σ : L2.St} {ρ : Rho} {H : Hp} {D : Ends} {la lb lc fb fc : Bool} {b c : Expr} {pos : Pos} {g1 g2 : Rho → Re PyData} {gs : Rho → Re (List PyData)}
theorem ws_stepLA {lk : Bool} {r : Re (List PyData)} {g : List PyData → Sr} {K : List V → Hp → Prop} (er : ER X.K M F σ H ρ) (w : WS X M F E σ H ρ (r.stL ρ g) D)
    (h : ∀ d v H', r = .ok d → Same H H' → RpA X.K H' (RS M F σ ρ lk) v d → WS X M F E σ H' ρ (g d) D → K v H') : WA X M F E lk σ ρ H r K := by
  cases r with
  | ok d => exact fun v H' s r => h d v H' rfl s r (ws_evo (Evo.same s) w)
  | ex c => exact fun C H' m s => w C σ H' m (er.same s) (Evo.same s)
  | bad => exact w
theorem sub_run {i : Nat} {t2 : TE} {fb : Bool} {z : Int} (m : M i = true) (h2 : ∀ σ H ρ, ER X.K M F σ H ρ → ∀ Q, WE X M F E lb fb σ ρ H (g1 ρ) Q → t2 σ H Q) (er : ER X.K M F σ H ρ) (w : WS X M F E σ H ρ (sPut i false (rC (.int z)) g1 ρ) D) :
    gSub (tVar i) t2 rSetL (.int z) σ H D.nx := by
  have w1 : WS X M F E σ H ρ (match getL ρ i with
    | some ds => (g1 ρ).st ρ fun e => (match e with
      | .int n => (match ixN ds.length n with
        | some k => if (false = true → imm (.int z) = true) then .nx (ρ.set i (some (.list (ds.set k (.int z))))) else .bad
        | none => .bad)
      | _ => .bad)
    | none => .bad) D := w
  cases hl : getL ρ i with
  | none =>
    rw [hl] at w1
    exact w1.elim
  | some ds =>
    rw [hl] at w1
    obtain ⟨pp, xs, hs', hx, rx⟩ := er.lst m hl
    refine ⟨.ref pp, hs', h2 σ H ρ er _ (ws_step er w1 fun d2 v2 H2 e2 sm2 r2 _ w2 => ?_)⟩
    cases r2 with
    | int n =>
      have w2 : WS X M F E σ H2 ρ (match ixN ds.length n with
        | some k => if (false = true → imm (.int z) = true) then .nx (ρ.set i (some (.list (ds.set k (.int z))))) else .bad
        | none => .bad) D := w2
      cases hk : ixN ds.length n with
      | none =>
        rw [hk] at w2
        exact w2.elim
      | some k =>
        rw [hk] at w2
        have w2 : WS X M F E σ H2 ρ (if (false = true → imm (.int z) = true) then .nx (ρ.set i (some (.list (ds.set k (.int z))))) else .bad) D := w2
        rw [if_pos fun z => nomatch z] at w2
        have er2 := er.same sm2
        obtain ⟨er3, ev3⟩ := er2.putL m hl hs' (sm2 _ _ hx) (RpA.set (.int z) k (rx.same sm2))
        exact ⟨pp, xs, n, k, rfl, rfl, sm2 _ _ hx, by rw [rx.length]; exact hk, w2 σ _ er3 ev3⟩
    | bl _ => exact w2.elim
    | non => exact w2.elim
    | str _ => exact w2.elim
    | tup _ _ => exact w2.elim
    | lst _ _ _ => exact w2.elim
    | scr _ _ => exact w2.elim
    | dic _ _ _ _ => exact w2.elim
    | dit _ _ _ _ => exact w2.elim
    | dif _ _ _ => exact w2.elim
def sPut2 (i : Nat) (gs : Rho → Re (List PyData)) (g1 g2 : Rho → Re PyData) : Rho → Sr := fun ρ => (gs ρ).stL ρ fun ds => (match ds with
  | [.int y, .int z] => sSeq (sPut i false (rC (.int y)) g1) (sPut i false (rC (.int z)) g2) ρ
  | _ => .bad)
theorem put2_shape {i : Nat} (ds : List PyData) (w : WS X M F E σ H ρ (match ds with
  | [.int y, .int z] => sSeq (sPut i false (rC (.int y)) g1) (sPut i false (rC (.int z)) g2) ρ
  | _ => .bad) D) : ∃ y z, ds = [.int y, .int z] := by
  split at w
  · exact ⟨_, _, rfl⟩
  · exact w.elim
theorem ds_put2 {i : Nat} {x : Str} {q1 q2 p1 p2 p3 p4 : Pos} {k k2 : Nat} {va vb : Expr} (m : M i = true) (hc : X.calm = true) (hv2 : DA X M F E la [va, vb] gs) (hb : DE X M F E lb fb b g1) (hc2 : DE X M F E lc fc c g2) (hN : X.N[i]? = some x := by rfl) (hv : Vis X.env.scope x := by first | exact Or.inl rfl | exact Or.inr (Or.inl rfl) | exact Or.inr (Or.inr rfl)) (hd : (x == ("__debug__" : Str)) = false := by decide)
    (hcd : (x == ("__classdict__" : Str)) = false := by decide)
    (h1 : (assignEach [.Tuple [.Subscript (.Name x p1) b p2, .Subscript (.Name x p3) c p4] k q1] X.env).map (·.2) = [assign (.Tuple [.Subscript (.Name x p1) b p2, .Subscript (.Name x p3) c p4] k q1) X.env] := by rfl)
    (hs : swapsWithSole [.Tuple [.Subscript (.Name x p1) b p2, .Subscript (.Name x p3) c p4] k q1] (.Tuple [va, vb] k2 q2) pos.line X.env = pure false := by rfl) (hw : swappedStores [.Tuple [.Subscript (.Name x p1) b p2, .Subscript (.Name x p3) c p4] k q1] (.Tuple [va, vb] k2 q2) X.env = pure none := by rfl)
    (ha1 : ∀ v, assign (.Subscript (.Name x p1) b p2) X.env v = (do
      let ov ← holding [v] (eval (.Name x p1) X.env); let iv ← holding [v, ov] (eval b X.env); standAt p2; holding [v, ov, iv] (setItem ov iv v); release [v, ov, iv] []) := by intro _; rfl)
    (ha2 : ∀ v, assign (.Subscript (.Name x p3) c p4) X.env v = (do
      let ov ← holding [v] (eval (.Name x p3) X.env); let iv ← holding [v, ov] (eval c X.env); standAt p4; holding [v, ov, iv] (setItem ov iv v); release [v, ov, iv] []) := by intro _; rfl) :
    DS X M F E (.Assign [.Tuple [.Subscript (.Name x p1) b p2, .Subscript (.Name x p3) c p4] k q1] (.Tuple [va, vb] k2 q2) pos) (sPut2 i gs g1 g2) := by
  obtain ⟨ta, pa, hv2⟩ := hv2
  obtain ⟨tb, pb, hb⟩ := hb
  obtain ⟨tc, pc, hc2⟩ := hc2
  refine ⟨_, ps_asg (pe_tupF pa) (pg_tup hc (pgs_cons (pg_sub (pe_var hN hv hd hcd) pb set_list ha1) (pgs_cons (pg_sub (pe_var hN hv hd hcd) pc set_list ha2) pgs_nil))) hs hw (h1 := h1), fun σ H ρ er D w => ?_⟩
  refine hv2 σ H ρ er _ (ws_stepLA (lk := la) er w fun ds vs H1 e sm r w1 => ?_)
  have er1 := er.same sm
  have sh := put2_shape ds w1
  obtain ⟨y, z, rfl⟩ := sh
  have w1 : WS X M F E σ H1 ρ (sSeq (sPut i false (rC (.int y)) g1) (sPut i false (rC (.int z)) g2) ρ) D := w1
  cases r with
  | cons ra rr =>
    cases rr with
    | cons rb rr =>
      cases rr
      cases ra
      cases rb
      refine ⟨by show 2 ≤ sizeLine; decide, fun p o hp hd0 => ?_⟩
      refine ⟨p, _, rfl, .inl (.inr ⟨o, upd_same⟩), rfl, ?_⟩
      have s2 : Same H1 (upd H1 p (.frz o (.tup [.int y, .int z]))) := same_new hp
      have er2 := er1.same s2
      have w2 := ws_evo (Evo.same s2) w1
      refine ⟨_, _, rfl, ?_⟩
      unfold sSeq at w2
      refine sub_run (D := ⟨fun σ' H' => _, D.rt, D.bk, D.ct⟩) m hb er2 ?_
      cases q : sPut i false (rC (.int y)) g1 ρ with
      | nx ρ' =>
        rw [q] at w2
        refine fun σ' H' er' ev => ?_
        refine ⟨_, _, rfl, ?_⟩
        refine sub_run (D := ⟨fun σ' H' => _, D.rt, D.bk, D.ct⟩) m hc2 er' ?_
        have w3 : WS X M F E σ' H' ρ' (sPut i false (rC (.int z)) g2 ρ') D := ws_evo ev w2
        revert w3
        generalize sPut i false (rC (.int z)) g2 ρ' = rr
        intro w3
        cases rr with
        | nx ρ2 => exact fun σ2 H2 er2 ev2 => ⟨rfl, w3 σ2 H2 er2 ev2⟩
        | rt d => exact w3
        | bk ρ2 => exact w3
        | ct ρ2 => exact w3
        | ex c ρ2 => exact w3
        | bad => exact w3
      | rt d =>
        rw [q] at w2
        exact w2
      | bk ρ' =>
        rw [q] at w2
        exact w2
      | ct ρ' =>
        rw [q] at w2
        exact w2
      | ex c ρ' =>
        rw [q] at w2
        exact w2
      | bad =>
        rw [q] at w2
        exact w2
end
end Pu

set_option Elab.async false
set_option linter.all false
set_option maxRecDepth 100000
set_option maxHeartbeats 2000000
/-! a table of the module: words and numbers -/
namespace Pu
open PySem PySem.Spec PyProof.Rows L2
def TabC (K : PySem.W.Frag) (mg : Str → Option Value) (w : World) (x : Str) (kvs : List (Str × Int)) : Prop :=
  (∃ es n, KDict K w (He.ga K x) es n) ∧ mg x = some (.ref (He.ga K x)) ∧ (∀ z, z ∉ kvs.map (·.1) → PySem.W.nsIn K (He.ga K x) z = some none) ∧ ∀ q ∈ kvs, ∃ t, PySem.W.nsIn K (He.ga K x) q.1 = some (some (.int q.2 t))
theorem dicW_none {K : PySem.W.Frag} {w : World} {a : Addr} {ks : List Str} {z : Str} (h : He.dicW K a = some (He.keysIn w.params ks)) (hz : z ∉ ks) : PySem.W.nsIn K a z = some none := by
  obtain ⟨es, n, D⟩ := He.dicW_ok h
  unfold He.dicW at h
  rw [D.at_] at h
  have h2 : es.toList.map He.keyOf = He.keysIn w.params ks := by
    have h1 : (match decide (("dict" : String) = "dict") && ((#[] : Array _).isEmpty && !(a == sysModules)) with
      | true => some (es.toList.map He.keyOf)
      | false => none) = some (He.keysIn w.params ks) := h
    rw [D.low] at h1
    exact Option.some.inj h1
  have key : ∀ e ∈ es.toList, ∃ k t, e.key = .str k t ∧ k ∈ ks := fun e he => by
    obtain ⟨k, t, e1, _⟩ := D.lit.all e he
    refine ⟨k, t, e1, ?_⟩
    have m : He.keyOf e ∈ He.keysIn w.params ks := by
      rw [← h2]
      exact List.mem_map.mpr ⟨e, he, rfl⟩
    unfold He.keysIn at m
    obtain ⟨k', hk', e2⟩ := List.mem_map.mp m
    unfold He.keyOf at e2
    rw [e1] at e2
    have e3 : some (k', PyData.keyHash w.params k') = some (k, e.hash) := e2
    have e4 := congrArg Prod.fst (Option.some.inj e3)
    have e5 : k' = k := e4
    rw [← e5]
    exact hk'
  unfold PySem.W.nsIn
  rw [D.at_]
  show (match es.toList.find? (·.key.isStr z) with
      | some e => some (some e.val)
      | none => if es.toList.any (·.refKey) then none else some none) = some none
  have f : es.toList.find? (·.key.isStr z) = none := by
    rw [List.find?_eq_none]
    intro e he q
    obtain ⟨k, t, e1, hk⟩ := key e he
    rw [e1] at q
    have : k = z := by simpa [Value.isStr] using q
    exact hz (this ▸ hk)
  rw [f]
  have g : es.toList.any (·.refKey) = false := by
    rw [List.any_eq_false]
    intro e he
    obtain ⟨k, t, e1, hk⟩ := key e he
    unfold DictEntry.refKey
    rw [e1]
    simp
  rw [g]
  rfl
theorem look_none {z : Str} : ∀ {kvs : List (Str × Int)}, kvs.lookup z = none → z ∉ kvs.map (·.1)
  | [], _ => fun h => nomatch h
  | (k, v) :: kvs, h => by
    rw [List.lookup_cons] at h
    split at h
    · cases h
    · rename_i e
      intro m
      rcases List.mem_cons.mp m with q | q
      · subst q
        simp at e
      · exact look_none h q
theorem look_mem {z : Str} {i : Int} : ∀ {kvs : List (Str × Int)}, kvs.lookup z = some i → (z, i) ∈ kvs
  | (k, v) :: kvs, h => by
    rw [List.lookup_cons] at h
    split at h
    · rename_i e
      cases h
      rw [eq_of_beq e]
      exact List.mem_cons_self
    · exact List.mem_cons_of_mem _ (look_mem h)
def tabIn (kvs : List (Str × Int)) (neg : Bool) : PyData → Option PyData := fun d => match d with
  | .str z => some (.bool (if (kvs.lookup z).isSome then !neg else neg))
  | _ => none
def tabGet (kvs : List (Str × Int)) : PyData → Option PyData := fun d => match d with
  | .str z => (kvs.lookup z).map PyData.int
  | _ => none
section
variable {X : Cx} {M : Nat → Bool} {F : Fx} {E : L2.St → XK} {la fa : Bool} {a : Expr} {pos : Pos} {f : Rho → Re PyData}
theorem de_inTab {x : Str} {p : Pos} {kvs : List (Str × Int)} (T : TabC X.K X.mg X.w x kvs) (ha : DE X M F E la fa a f) (hg : Gl X x := by rfl) (hd : (x == ("__debug__" : Str)) = false := by decide) (hm : behindInMarks .In (.Name x p) = false := by rfl) : DE X M F E la false (.Compare a [.In] [.Name x p] pos) (r1 (tabIn kvs false) f) := by
  obtain ⟨⟨es, n, D⟩, g, T⟩ := T
  obtain ⟨t, pa, h⟩ := ha
  refine ⟨_, pe_cmpR (op_in_kd D) pa (pe_glob (v := .ref (He.ga X.K x)) hg g rfl hd) hm, fun σ H ρ er Q w => ?_⟩
  refine h σ H ρ er _ (we_step w fun d v H1 e s1 r1 _ w1 => ?_)
  cases r1 with
  | str z =>
    have w1 : WE X M F E la false σ ρ H1 (liftO (some (.bool (if (kvs.lookup z).isSome then !false else false)))) Q := w1
    cases q : kvs.lookup z with
    | none =>
      rw [q] at w1
      exact ⟨z, _, rfl, rfl, T.1 z (look_none q), w1 _ H1 (Same.refl _) (.bl false) fun z => nomatch z⟩
    | some i =>
      rw [q] at w1
      obtain ⟨tk, e2⟩ := T.2 _ (look_mem q)
      exact ⟨z, _, rfl, rfl, e2, w1 _ H1 (Same.refl _) (.bl true) fun z => nomatch z⟩
  | bl _ => exact w1.elim
  | non => exact w1.elim
  | int _ => exact w1.elim
  | tup _ _ => exact w1.elim
  | lst _ _ _ => exact w1.elim
  | scr _ _ => exact w1.elim
  | dic _ _ _ _ => exact w1.elim
  | dit _ _ _ _ => exact w1.elim
  | dif _ _ _ => exact w1.elim
theorem de_notInTab {x : Str} {p : Pos} {kvs : List (Str × Int)} (T : TabC X.K X.mg X.w x kvs) (ha : DE X M F E la fa a f) (hg : Gl X x := by rfl) (hd : (x == ("__debug__" : Str)) = false := by decide) (hm : behindInMarks .NotIn (.Name x p) = false := by rfl) : DE X M F E la false (.Compare a [.NotIn] [.Name x p] pos) (r1 (tabIn kvs true) f) := by
  obtain ⟨⟨es, n, D⟩, g, T⟩ := T
  obtain ⟨t, pa, h⟩ := ha
  refine ⟨_, pe_cmpR (op_notIn_kd D) pa (pe_glob (v := .ref (He.ga X.K x)) hg g rfl hd) hm, fun σ H ρ er Q w => ?_⟩
  refine h σ H ρ er _ (we_step w fun d v H1 e s1 r1 _ w1 => ?_)
  cases r1 with
  | str z =>
    have w1 : WE X M F E la false σ ρ H1 (liftO (some (.bool (if (kvs.lookup z).isSome then !true else true)))) Q := w1
    cases q : kvs.lookup z with
    | none =>
      rw [q] at w1
      exact ⟨z, _, rfl, rfl, T.1 z (look_none q), w1 _ H1 (Same.refl _) (.bl true) fun z => nomatch z⟩
    | some i =>
      rw [q] at w1
      obtain ⟨tk, e2⟩ := T.2 _ (look_mem q)
      exact ⟨z, _, rfl, rfl, e2, w1 _ H1 (Same.refl _) (.bl false) fun z => nomatch z⟩
  | bl _ => exact w1.elim
  | non => exact w1.elim
  | int _ => exact w1.elim
  | tup _ _ => exact w1.elim
  | lst _ _ _ => exact w1.elim
  | scr _ _ => exact w1.elim
  | dic _ _ _ _ => exact w1.elim
  | dit _ _ _ _ => exact w1.elim
  | dif _ _ _ => exact w1.elim
theorem dt_notInTab {x : Str} {p : Pos} {kvs : List (Str × Int)} (T : TabC X.K X.mg X.w x kvs) (ha : DE X M F E la fa a f) (hg : Gl X x := by rfl) (hd : (x == ("__debug__" : Str)) = false := by decide) (hm : behindInMarks .NotIn (.Name x p) = false := by rfl) : DT X M F E (.Compare a [.NotIn] [.Name x p] pos) (asB (r1 (tabIn kvs true) f)) := by
  obtain ⟨⟨es, n, D⟩, g, T'⟩ := id T
  obtain ⟨t, pa, h⟩ := id ha
  refine ⟨_, pt_cmpR (op_notIn_kd D) pa (pe_glob (v := .ref (He.ga X.K x)) hg g rfl hd) hm, fun σ H ρ er Q w => ?_⟩
  refine wt_asB (lk := la) (fr := false) (h := r1 (tabIn kvs true) f) (fun σ H ρ er Q w => ?_) er w
  refine h σ H ρ er _ (we_step w fun d v H1 e s1 r1 _ w1 => ?_)
  cases r1 with
  | str z =>
    have w1 : WE X M F E la false σ ρ H1 (liftO (some (.bool (if (kvs.lookup z).isSome then !true else true)))) Q := w1
    cases q : kvs.lookup z with
    | none =>
      rw [q] at w1
      exact ⟨z, _, rfl, rfl, T'.1 z (look_none q), w1 _ H1 (Same.refl _) (.bl true) fun z => nomatch z⟩
    | some i =>
      rw [q] at w1
      obtain ⟨tk, e2⟩ := T'.2 _ (look_mem q)
      exact ⟨z, _, rfl, rfl, e2, w1 _ H1 (Same.refl _) (.bl false) fun z => nomatch z⟩
  | bl _ => exact w1.elim
  | non => exact w1.elim
  | int _ => exact w1.elim
  | tup _ _ => exact w1.elim
  | lst _ _ _ => exact w1.elim
  | scr _ _ => exact w1.elim
  | dic _ _ _ _ => exact w1.elim
  | dit _ _ _ _ => exact w1.elim
  | dif _ _ _ => exact w1.elim
theorem de_getTab {x : Str} {p : Pos} {kvs : List (Str × Int)} (T : TabC X.K X.mg X.w x kvs) (ha : DE X M F E la fa a f) (hg : Gl X x := by rfl) (hd : (x == ("__debug__" : Str)) = false := by decide) (hs : PlainIx a := by intro _ _; rfl) : DE X M F E la false (.Subscript (.Name x p) a pos) (r1 (tabGet kvs) f) := by
  obtain ⟨⟨es, n, D⟩, g, T⟩ := T
  obtain ⟨t, pa, h⟩ := ha
  refine ⟨_, pe_ix ix_kdict (pe_glob (v := .ref (He.ga X.K x)) hg g rfl hd) pa hs, fun σ H ρ er Q w => ?_⟩
  refine h σ H ρ er _ (we_step w fun d v H1 e s1 r1 _ w1 => ?_)
  cases r1 with
  | str z =>
    have w1 : WE X M F E la false σ ρ H1 (liftO ((kvs.lookup z).map PyData.int)) Q := w1
    cases q : kvs.lookup z with
    | none =>
      rw [q] at w1
      exact w1.elim
    | some i =>
      rw [q] at w1
      obtain ⟨tk, e2⟩ := T.2 _ (look_mem q)
      exact ⟨_, z, .int i, rfl, rfl, ⟨es, n, _, D.at_, D.lit, e2, ⟨tk, rfl⟩⟩, w1 _ H1 (Same.refl _) (.int i) fun z => nomatch z⟩
  | bl _ => exact w1.elim
  | non => exact w1.elim
  | int _ => exact w1.elim
  | tup _ _ => exact w1.elim
  | lst _ _ _ => exact w1.elim
  | scr _ _ => exact w1.elim
  | dic _ _ _ _ => exact w1.elim
  | dit _ _ _ _ => exact w1.elim
  | dif _ _ _ => exact w1.elim
end
/-! the head with tables -/
def obsT2 (fa : List He.Fa) (fx : List Fx2) (fn : List He.DefD) (ts : List (Str × List (Str × Int))) (K : PySem.W.Frag) : He.AlT := (((obsP fa fx fn K).1 && ts.all fun t => He.valsB K (He.ga K t.1) (t.2.map fun q => (q.1, .int q.2)), (obsP fa fx fn K).2), ts.map fun t => He.dicW K (He.ga K t.1))
def valT2 (fn : List He.DefD) (ts : List (Str × List (Str × Int))) (w : World) : He.AlT := (He.valD fn, ts.map fun t => some (He.keysIn w.params (t.2.map (·.1))))
def SaysT2 (fa : List He.Fa) (fx : List Fx2) (fn : List He.DefD) (ts : List (Str × List (Str × Int))) (w : World) (K : PySem.W.Frag) : Prop := obsT2 fa fx fn ts K = valT2 fn ts w
def obsT2G (n : Nat) (fa : List He.Fa) (fx : List Fx2) (fn : List He.DefD) (ts : List (Str × List (Str × Int))) (g : Addr → Option Obj) : He.AlT := obsT2 fa fx fn ts (He.frG g (He.asD g n))
def hookT2 (n : Nat) (fa : List He.Fa) (fx : List Fx2) (fn : List He.DefD) (ts : List (Str × List (Str × Int))) : PySem.W.Hook where
  α := He.AlT
  obs := fun s => obsT2G n fa fx fn ts s.heap.get?
  val := fun w => valT2 fn ts w
  says := fun w h => ∃ K : PySem.W.Frag, K.In h ∧ SaysT2 fa fx fn ts w K
  of := fun _ _ e => ⟨_, He.frG_in, e⟩
  keeps := fun _ _ _ ⟨K, hK, c⟩ k => ⟨K, PySem.W.Frag.In.keeps hK k, c⟩
section
variable {fa : List He.Fa} {fx : List Fx2} {fn : List He.DefD} {ts : List (Str × List (Str × Int))} {w : World} {K : PySem.W.Frag}
theorem obsT2G_eq {n : Nat} {g : Addr → Option Obj} {s : Shared} (h : ∀ a, g a = s.heap.get? a) : obsT2G n fa fx fn ts g = (hookT2 n fa fx fn ts).obs s := by
  rw [show g = s.heap.get? from funext h] <;> rfl
theorem SaysT2.p (c : SaysT2 fa fx fn ts w K) : SaysP fa fx fn K := by
  have c1 : obsT2 fa fx fn ts K = valT2 fn ts w := c
  have h1 : ((obsP fa fx fn K).1 && ts.all fun t => He.valsB K (He.ga K t.1) (t.2.map fun q => (q.1, .int q.2))) = true := congrArg (fun z : He.AlT => z.1.1) c1
  have h2 := congrArg (fun z : He.AlT => z.1.2) c1
  exact Prod.ext (He.ba h1).1 h2
theorem SaysT2.tab {mg : Str → Option Value} {h : Heap} (X : K.In h) (G : h.Ns mainGlobals mg) (c : SaysT2 fa fx fn ts w K) (i j : Nat) {x : Str} {kvs : List (Str × Int)} (ht : ts[i]? = some (x, kvs) := by rfl) (hg : fa[j]? = some (.glo x) := by rfl) : TabC K mg w x kvs := by
  have c1 : obsT2 fa fx fn ts K = valT2 fn ts w := c
  have h1 : ((obsP fa fx fn K).1 && ts.all fun t => He.valsB K (He.ga K t.1) (t.2.map fun q => (q.1, .int q.2))) = true := congrArg (fun z : He.AlT => z.1.1) c1
  have h3 : (ts.map fun t => He.dicW K (He.ga K t.1)) = ts.map fun t => some (He.keysIn w.params (t.2.map (·.1))) := congrArg (fun z : He.AlT => z.2) c1
  have e2 : (ts.map fun t => He.dicW K (He.ga K t.1))[i]? = (ts.map fun t => some (He.keysIn w.params (t.2.map (·.1))))[i]? := by rw [h3]
  rw [List.getElem?_map, List.getElem?_map, ht] at e2
  have v := List.all_eq_true.mp (He.ba h1).2 _ (List.mem_of_getElem? ht)
  refine ⟨He.dicW_ok (Option.some.inj e2), He.glo_ok X G (c.p.d.fact j hg), fun z hz => dicW_none (Option.some.inj e2) hz, fun q hq => ?_⟩
  obtain ⟨u, e, r⟩ := He.valsB_ok v (List.mem_map.mpr ⟨q, hq, rfl⟩)
  obtain ⟨t, rfl⟩ : ∃ t, u = .int q.2 t := r
  exact ⟨t, e⟩
end
end Pu

set_option Elab.async false
set_option linter.all false
set_option maxRecDepth 100000
set_option maxHeartbeats 2000000
/-! reckoning, more: star, exchanges, unpacked lists, words -/
namespace Pu
open PySem PySem.Spec PyProof.Rows L2
section
variable {ρ : Rho} {i j : Int}
def starR (ρ : Rho) (k m : Nat) : PyData → Sr
  | .tuple (x :: xs) => .nx ((ρ.set k (some x)).set m (some (.list xs)))
  | _ => .bad
@[simp] theorem starR_t (k m : Nat) (x : PyData) (xs : List PyData) : starR ρ k m (.tuple (x :: xs)) = .nx ((ρ.set k (some x)).set m (some (.list xs))) := (rfl)
@[simp] theorem ap_star (k m : Nat) (f : Rho → Re PyData) : sStar k m f ρ = (f ρ).st ρ (starR ρ k m) := by
  unfold sStar
  congr 1
@[simp] theorem gSeq2l (g : List PyData → Rho → Option Rho) (a b : PyData) : gSeqD 2 g (.list [a, b]) ρ = g [a, b] ρ := (rfl)
@[simp] theorem gSeq4l (g : List PyData → Rho → Option Rho) (a b c d : PyData) : gSeqD 4 g (.list [a, b, c, d]) ρ = g [a, b, c, d] ρ := (rfl)
@[simp] theorem gSeq4 (g : List PyData → Rho → Option Rho) (a b c d : PyData) : gSeqD 4 g (.tuple [a, b, c, d]) ρ = g [a, b, c, d] ρ := (rfl)
@[simp] theorem gSeq2tI (g : List PyData → Rho → Option Rho) (a b : Int) : gSeqD 2 g (tI [a, b]) ρ = g [.int a, .int b] ρ := (rfl)
@[simp] theorem gSeq2lI (g : List PyData → Rho → Option Rho) (a b : Int) : gSeqD 2 g (lI [a, b]) ρ = g [.int a, .int b] ρ := (rfl)
@[simp] theorem gSeq4tI (g : List PyData → Rho → Option Rho) (a b c d : Int) : gSeqD 4 g (tI [a, b, c, d]) ρ = g [.int a, .int b, .int c, .int d] ρ := (rfl)
@[simp] theorem gSeq4lI (g : List PyData → Rho → Option Rho) (a b c d : Int) : gSeqD 4 g (lI [a, b, c, d]) ρ = g [.int a, .int b, .int c, .int d] ρ := (rfl)
theorem lI_eq (ns : List Int) : PyData.list (ns.map PyData.int) = lI ns := rfl
theorem tI_eq (ns : List Int) : PyData.tuple (ns.map PyData.int) = tI ns := rfl
theorem li1 {a : Int} : PyData.list [.int a] = lI [a] := rfl
theorem li2 {a b : Int} : PyData.list [.int a, .int b] = lI [a, b] := rfl
theorem li4 {a b c d : Int} : PyData.list [.int a, .int b, .int c, .int d] = lI [a, b, c, d] := rfl
/-- x[i], x[j] = (y, z) -/
theorem put2_i {k : Nat} {gs : Rho → Re (List PyData)} {g1 g2 : Rho → Re PyData} {ns : List Int} {y z a b : Int} (hk : ρ[k]? = some (some (lI ns))) (hs : gs ρ = .ok [.int y, .int z]) (h1 : g1 ρ = .ok (.int a)) (h2 : g2 (ρ.set k (some (lI (ns.set a.toNat y)))) = .ok (.int b))
    (a0 : 0 ≤ a) (a1 : a < ns.length) (b0 : 0 ≤ b) (b1 : b < ns.length) : sPut2 k gs g1 g2 ρ = .nx (ρ.set k (some (lI ((ns.set a.toNat y).set b.toNat z)))) := by
  unfold sPut2
  rw [hs, stL_ok]
  show sSeq (sPut k false (rC (.int y)) g1) (sPut k false (rC (.int z)) g2) ρ = _
  have hkl : k < ρ.length := by
    rw [List.getElem?_eq_some_iff] at hk
    exact hk.1
  rw [ap_sSeq, put_i hk (ap_c _) h1 a0 a1, sqS_nx, put_i (ρ := ρ.set k (some (lI (ns.set a.toNat y)))) (ns := ns.set a.toNat y) (by rw [List.getElem?_set_self hkl]) (ap_c _) h2 b0 (by rw [List.length_set]; exact b1), List.set_set]
@[simp] theorem nat_nlt (i : Nat) : ((i : Int) < 0) = False := eq_false (by omega)
def lnkE : Option PyData → Re PyData → Re PyData
  | some (.bool true), r => r
  | some (.bool false), _ => .ok (.bool false)
  | _, _ => .bad
@[simp] theorem lnkE_b (b : Bool) (r : Re PyData) : lnkE (some (.bool b)) r = if b = true then r else .ok (.bool false) := by cases b <;> rfl
@[simp] theorem ap_link (gg : PyData → PyData → Option PyData) (g : Rho → Re PyData) (k : PyData → Rho → Re PyData) (d : PyData) : cLink gg g k d ρ = (g ρ).andThen fun e => lnkE (gg d e) (k e ρ) := by
  unfold cLink
  congr 1
  funext e
  rcases gg d e with _ | v
  · rfl
  · cases v with
    | bool b => cases b <;> rfl
    | _ => rfl
theorem run4 {m : Nat} {s : Rho → Sr} {a b c d : PyData} : runF 4 m s [a, b, c, d] = outR (s (some a :: some b :: some c :: some d :: List.replicate (m - 4) none)) := run_eq rfl
theorem run5 {m : Nat} {s : Rho → Sr} {a b c d e : PyData} : runF 5 m s [a, b, c, d, e] = outR (s (some a :: some b :: some c :: some d :: some e :: List.replicate (m - 5) none)) := run_eq rfl
theorem run0 {m : Nat} {s : Rho → Sr} : runF 0 m s [] = outR (s (List.replicate m none)) := run_eq rfl
@[simp] theorem ap_isi {T : String} {f : Rho → Re PyData} : rIsi T f ρ = (f ρ).andThen fun d => liftO ((isD d T).map PyData.bool) := (rfl)
@[simp] theorem isi_tup {ds : List PyData} : isD (.tuple ds) "tuple" = some true := by
  show kitB "tuple" "tuple" = some true
  decide +kernel
@[simp] theorem isi_tI {ns : List Int} : isD (tI ns) "tuple" = some true := isi_tup
@[simp] theorem isi_int {z : Int} : isD (.int z) "int" = some true := by
  show kitB "int" "int" = some true
  decide +kernel
@[simp] theorem isi_intb {z : Int} : isD (.int z) "bool" = some false := by
  show kitB "int" "bool" = some false
  decide +kernel
/-! words -/
theorem shp (x : Str) (h : SeqAt.shaped (.str x) = true := by decide +kernel) : SeqAt.shaped (.str x) = true := h
@[simp] theorem wq_swap_swap : oEq (.str ("swap" : Str)) (.str ("swap" : Str)) = some (.bool true) := by
  rw [oEq_s (shp _) (shp _)]
  simp
@[simp] theorem wn_swap_swap : oNe (.str ("swap" : Str)) (.str ("swap" : Str)) = some (.bool false) := by
  rw [oNe_s (shp _) (shp _)]
  simp
@[simp] theorem wq_swap_next : oEq (.str ("swap" : Str)) (.str ("next" : Str)) = some (.bool false) := by
  rw [oEq_s (shp _) (shp _)]
  congr 1
@[simp] theorem wn_swap_next : oNe (.str ("swap" : Str)) (.str ("next" : Str)) = some (.bool true) := by
  rw [oNe_s (shp _) (shp _)]
  congr 1
@[simp] theorem wq_swap_take : oEq (.str ("swap" : Str)) (.str ("take" : Str)) = some (.bool false) := by
  rw [oEq_s (shp _) (shp _)]
  congr 1
@[simp] theorem wn_swap_take : oNe (.str ("swap" : Str)) (.str ("take" : Str)) = some (.bool true) := by
  rw [oNe_s (shp _) (shp _)]
  congr 1
@[simp] theorem wq_swap_flip : oEq (.str ("swap" : Str)) (.str ("flip" : Str)) = some (.bool false) := by
  rw [oEq_s (shp _) (shp _)]
  congr 1
@[simp] theorem wn_swap_flip : oNe (.str ("swap" : Str)) (.str ("flip" : Str)) = some (.bool true) := by
  rw [oNe_s (shp _) (shp _)]
  congr 1
@[simp] theorem wq_swap_blocks : oEq (.str ("swap" : Str)) (.str ("blocks" : Str)) = some (.bool false) := by
  rw [oEq_s (shp _) (shp _)]
  congr 1
@[simp] theorem wn_swap_blocks : oNe (.str ("swap" : Str)) (.str ("blocks" : Str)) = some (.bool true) := by
  rw [oNe_s (shp _) (shp _)]
  congr 1
@[simp] theorem wq_swap_turn : oEq (.str ("swap" : Str)) (.str ("turn" : Str)) = some (.bool false) := by
  rw [oEq_s (shp _) (shp _)]
  congr 1
@[simp] theorem wn_swap_turn : oNe (.str ("swap" : Str)) (.str ("turn" : Str)) = some (.bool true) := by
  rw [oNe_s (shp _) (shp _)]
  congr 1
@[simp] theorem wq_next_swap : oEq (.str ("next" : Str)) (.str ("swap" : Str)) = some (.bool false) := by
  rw [oEq_s (shp _) (shp _)]
  congr 1
@[simp] theorem wn_next_swap : oNe (.str ("next" : Str)) (.str ("swap" : Str)) = some (.bool true) := by
  rw [oNe_s (shp _) (shp _)]
  congr 1
@[simp] theorem wq_next_next : oEq (.str ("next" : Str)) (.str ("next" : Str)) = some (.bool true) := by
  rw [oEq_s (shp _) (shp _)]
  simp
@[simp] theorem wn_next_next : oNe (.str ("next" : Str)) (.str ("next" : Str)) = some (.bool false) := by
  rw [oNe_s (shp _) (shp _)]
  simp
@[simp] theorem wq_next_take : oEq (.str ("next" : Str)) (.str ("take" : Str)) = some (.bool false) := by
  rw [oEq_s (shp _) (shp _)]
  congr 1
@[simp] theorem wn_next_take : oNe (.str ("next" : Str)) (.str ("take" : Str)) = some (.bool true) := by
  rw [oNe_s (shp _) (shp _)]
  congr 1
@[simp] theorem wq_next_flip : oEq (.str ("next" : Str)) (.str ("flip" : Str)) = some (.bool false) := by
  rw [oEq_s (shp _) (shp _)]
  congr 1
@[simp] theorem wn_next_flip : oNe (.str ("next" : Str)) (.str ("flip" : Str)) = some (.bool true) := by
  rw [oNe_s (shp _) (shp _)]
  congr 1
@[simp] theorem wq_next_blocks : oEq (.str ("next" : Str)) (.str ("blocks" : Str)) = some (.bool false) := by
  rw [oEq_s (shp _) (shp _)]
  congr 1
@[simp] theorem wn_next_blocks : oNe (.str ("next" : Str)) (.str ("blocks" : Str)) = some (.bool true) := by
  rw [oNe_s (shp _) (shp _)]
  congr 1
@[simp] theorem wq_next_turn : oEq (.str ("next" : Str)) (.str ("turn" : Str)) = some (.bool false) := by
  rw [oEq_s (shp _) (shp _)]
  congr 1
@[simp] theorem wn_next_turn : oNe (.str ("next" : Str)) (.str ("turn" : Str)) = some (.bool true) := by
  rw [oNe_s (shp _) (shp _)]
  congr 1
@[simp] theorem wq_take_swap : oEq (.str ("take" : Str)) (.str ("swap" : Str)) = some (.bool false) := by
  rw [oEq_s (shp _) (shp _)]
  congr 1
@[simp] theorem wn_take_swap : oNe (.str ("take" : Str)) (.str ("swap" : Str)) = some (.bool true) := by
  rw [oNe_s (shp _) (shp _)]
  congr 1
@[simp] theorem wq_take_next : oEq (.str ("take" : Str)) (.str ("next" : Str)) = some (.bool false) := by
  rw [oEq_s (shp _) (shp _)]
  congr 1
@[simp] theorem wn_take_next : oNe (.str ("take" : Str)) (.str ("next" : Str)) = some (.bool true) := by
  rw [oNe_s (shp _) (shp _)]
  congr 1
@[simp] theorem wq_take_take : oEq (.str ("take" : Str)) (.str ("take" : Str)) = some (.bool true) := by
  rw [oEq_s (shp _) (shp _)]
  simp
@[simp] theorem wn_take_take : oNe (.str ("take" : Str)) (.str ("take" : Str)) = some (.bool false) := by
  rw [oNe_s (shp _) (shp _)]
  simp
@[simp] theorem wq_take_flip : oEq (.str ("take" : Str)) (.str ("flip" : Str)) = some (.bool false) := by
  rw [oEq_s (shp _) (shp _)]
  congr 1
@[simp] theorem wn_take_flip : oNe (.str ("take" : Str)) (.str ("flip" : Str)) = some (.bool true) := by
  rw [oNe_s (shp _) (shp _)]
  congr 1
@[simp] theorem wq_take_blocks : oEq (.str ("take" : Str)) (.str ("blocks" : Str)) = some (.bool false) := by
  rw [oEq_s (shp _) (shp _)]
  congr 1
@[simp] theorem wn_take_blocks : oNe (.str ("take" : Str)) (.str ("blocks" : Str)) = some (.bool true) := by
  rw [oNe_s (shp _) (shp _)]
  congr 1
@[simp] theorem wq_take_turn : oEq (.str ("take" : Str)) (.str ("turn" : Str)) = some (.bool false) := by
  rw [oEq_s (shp _) (shp _)]
  congr 1
@[simp] theorem wn_take_turn : oNe (.str ("take" : Str)) (.str ("turn" : Str)) = some (.bool true) := by
  rw [oNe_s (shp _) (shp _)]
  congr 1
@[simp] theorem wq_flip_swap : oEq (.str ("flip" : Str)) (.str ("swap" : Str)) = some (.bool false) := by
  rw [oEq_s (shp _) (shp _)]
  congr 1
@[simp] theorem wn_flip_swap : oNe (.str ("flip" : Str)) (.str ("swap" : Str)) = some (.bool true) := by
  rw [oNe_s (shp _) (shp _)]
  congr 1
@[simp] theorem wq_flip_next : oEq (.str ("flip" : Str)) (.str ("next" : Str)) = some (.bool false) := by
  rw [oEq_s (shp _) (shp _)]
  congr 1
@[simp] theorem wn_flip_next : oNe (.str ("flip" : Str)) (.str ("next" : Str)) = some (.bool true) := by
  rw [oNe_s (shp _) (shp _)]
  congr 1
@[simp] theorem wq_flip_take : oEq (.str ("flip" : Str)) (.str ("take" : Str)) = some (.bool false) := by
  rw [oEq_s (shp _) (shp _)]
  congr 1
@[simp] theorem wn_flip_take : oNe (.str ("flip" : Str)) (.str ("take" : Str)) = some (.bool true) := by
  rw [oNe_s (shp _) (shp _)]
  congr 1
@[simp] theorem wq_flip_flip : oEq (.str ("flip" : Str)) (.str ("flip" : Str)) = some (.bool true) := by
  rw [oEq_s (shp _) (shp _)]
  simp
@[simp] theorem wn_flip_flip : oNe (.str ("flip" : Str)) (.str ("flip" : Str)) = some (.bool false) := by
  rw [oNe_s (shp _) (shp _)]
  simp
@[simp] theorem wq_flip_blocks : oEq (.str ("flip" : Str)) (.str ("blocks" : Str)) = some (.bool false) := by
  rw [oEq_s (shp _) (shp _)]
  congr 1
@[simp] theorem wn_flip_blocks : oNe (.str ("flip" : Str)) (.str ("blocks" : Str)) = some (.bool true) := by
  rw [oNe_s (shp _) (shp _)]
  congr 1
@[simp] theorem wq_flip_turn : oEq (.str ("flip" : Str)) (.str ("turn" : Str)) = some (.bool false) := by
  rw [oEq_s (shp _) (shp _)]
  congr 1
@[simp] theorem wn_flip_turn : oNe (.str ("flip" : Str)) (.str ("turn" : Str)) = some (.bool true) := by
  rw [oNe_s (shp _) (shp _)]
  congr 1
@[simp] theorem wq_blocks_swap : oEq (.str ("blocks" : Str)) (.str ("swap" : Str)) = some (.bool false) := by
  rw [oEq_s (shp _) (shp _)]
  congr 1
@[simp] theorem wn_blocks_swap : oNe (.str ("blocks" : Str)) (.str ("swap" : Str)) = some (.bool true) := by
  rw [oNe_s (shp _) (shp _)]
  congr 1
@[simp] theorem wq_blocks_next : oEq (.str ("blocks" : Str)) (.str ("next" : Str)) = some (.bool false) := by
  rw [oEq_s (shp _) (shp _)]
  congr 1
@[simp] theorem wn_blocks_next : oNe (.str ("blocks" : Str)) (.str ("next" : Str)) = some (.bool true) := by
  rw [oNe_s (shp _) (shp _)]
  congr 1
@[simp] theorem wq_blocks_take : oEq (.str ("blocks" : Str)) (.str ("take" : Str)) = some (.bool false) := by
  rw [oEq_s (shp _) (shp _)]
  congr 1
@[simp] theorem wn_blocks_take : oNe (.str ("blocks" : Str)) (.str ("take" : Str)) = some (.bool true) := by
  rw [oNe_s (shp _) (shp _)]
  congr 1
@[simp] theorem wq_blocks_flip : oEq (.str ("blocks" : Str)) (.str ("flip" : Str)) = some (.bool false) := by
  rw [oEq_s (shp _) (shp _)]
  congr 1
@[simp] theorem wn_blocks_flip : oNe (.str ("blocks" : Str)) (.str ("flip" : Str)) = some (.bool true) := by
  rw [oNe_s (shp _) (shp _)]
  congr 1
@[simp] theorem wq_blocks_blocks : oEq (.str ("blocks" : Str)) (.str ("blocks" : Str)) = some (.bool true) := by
  rw [oEq_s (shp _) (shp _)]
  simp
@[simp] theorem wn_blocks_blocks : oNe (.str ("blocks" : Str)) (.str ("blocks" : Str)) = some (.bool false) := by
  rw [oNe_s (shp _) (shp _)]
  simp
@[simp] theorem wq_blocks_turn : oEq (.str ("blocks" : Str)) (.str ("turn" : Str)) = some (.bool false) := by
  rw [oEq_s (shp _) (shp _)]
  congr 1
@[simp] theorem wn_blocks_turn : oNe (.str ("blocks" : Str)) (.str ("turn" : Str)) = some (.bool true) := by
  rw [oNe_s (shp _) (shp _)]
  congr 1
@[simp] theorem wq_turn_swap : oEq (.str ("turn" : Str)) (.str ("swap" : Str)) = some (.bool false) := by
  rw [oEq_s (shp _) (shp _)]
  congr 1
@[simp] theorem wn_turn_swap : oNe (.str ("turn" : Str)) (.str ("swap" : Str)) = some (.bool true) := by
  rw [oNe_s (shp _) (shp _)]
  congr 1
@[simp] theorem wq_turn_next : oEq (.str ("turn" : Str)) (.str ("next" : Str)) = some (.bool false) := by
  rw [oEq_s (shp _) (shp _)]
  congr 1
@[simp] theorem wn_turn_next : oNe (.str ("turn" : Str)) (.str ("next" : Str)) = some (.bool true) := by
  rw [oNe_s (shp _) (shp _)]
  congr 1
@[simp] theorem wq_turn_take : oEq (.str ("turn" : Str)) (.str ("take" : Str)) = some (.bool false) := by
  rw [oEq_s (shp _) (shp _)]
  congr 1
@[simp] theorem wn_turn_take : oNe (.str ("turn" : Str)) (.str ("take" : Str)) = some (.bool true) := by
  rw [oNe_s (shp _) (shp _)]
  congr 1
@[simp] theorem wq_turn_flip : oEq (.str ("turn" : Str)) (.str ("flip" : Str)) = some (.bool false) := by
  rw [oEq_s (shp _) (shp _)]
  congr 1
@[simp] theorem wn_turn_flip : oNe (.str ("turn" : Str)) (.str ("flip" : Str)) = some (.bool true) := by
  rw [oNe_s (shp _) (shp _)]
  congr 1
@[simp] theorem wq_turn_blocks : oEq (.str ("turn" : Str)) (.str ("blocks" : Str)) = some (.bool false) := by
  rw [oEq_s (shp _) (shp _)]
  congr 1
@[simp] theorem wn_turn_blocks : oNe (.str ("turn" : Str)) (.str ("blocks" : Str)) = some (.bool true) := by
  rw [oNe_s (shp _) (shp _)]
  congr 1
@[simp] theorem wq_turn_turn : oEq (.str ("turn" : Str)) (.str ("turn" : Str)) = some (.bool true) := by
  rw [oEq_s (shp _) (shp _)]
  simp
@[simp] theorem wn_turn_turn : oNe (.str ("turn" : Str)) (.str ("turn" : Str)) = some (.bool false) := by
  rw [oNe_s (shp _) (shp _)]
  simp
@[simp] theorem wq_no_swap : oEq (.str ("" : Str)) (.str ("swap" : Str)) = some (.bool false) := by
  rw [oEq_s (shp _) (shp _)]
  congr 1
@[simp] theorem wn_no_swap : oNe (.str ("" : Str)) (.str ("swap" : Str)) = some (.bool true) := by
  rw [oNe_s (shp _) (shp _)]
  congr 1
@[simp] theorem wq_no_next : oEq (.str ("" : Str)) (.str ("next" : Str)) = some (.bool false) := by
  rw [oEq_s (shp _) (shp _)]
  congr 1
@[simp] theorem wn_no_next : oNe (.str ("" : Str)) (.str ("next" : Str)) = some (.bool true) := by
  rw [oNe_s (shp _) (shp _)]
  congr 1
@[simp] theorem wq_no_take : oEq (.str ("" : Str)) (.str ("take" : Str)) = some (.bool false) := by
  rw [oEq_s (shp _) (shp _)]
  congr 1
@[simp] theorem wn_no_take : oNe (.str ("" : Str)) (.str ("take" : Str)) = some (.bool true) := by
  rw [oNe_s (shp _) (shp _)]
  congr 1
@[simp] theorem wq_no_flip : oEq (.str ("" : Str)) (.str ("flip" : Str)) = some (.bool false) := by
  rw [oEq_s (shp _) (shp _)]
  congr 1
@[simp] theorem wn_no_flip : oNe (.str ("" : Str)) (.str ("flip" : Str)) = some (.bool true) := by
  rw [oNe_s (shp _) (shp _)]
  congr 1
@[simp] theorem wq_no_blocks : oEq (.str ("" : Str)) (.str ("blocks" : Str)) = some (.bool false) := by
  rw [oEq_s (shp _) (shp _)]
  congr 1
@[simp] theorem wn_no_blocks : oNe (.str ("" : Str)) (.str ("blocks" : Str)) = some (.bool true) := by
  rw [oNe_s (shp _) (shp _)]
  congr 1
@[simp] theorem wq_no_turn : oEq (.str ("" : Str)) (.str ("turn" : Str)) = some (.bool false) := by
  rw [oEq_s (shp _) (shp _)]
  congr 1
@[simp] theorem wn_no_turn : oNe (.str ("" : Str)) (.str ("turn" : Str)) = some (.bool true) := by
  rw [oNe_s (shp _) (shp _)]
  congr 1
theorem bMinA_l1 {a : Int} : bMinA [lI [a]] = some (.int a) := rfl
theorem bMaxA_l1 {a : Int} : bMaxA [lI [a]] = some (.int a) := rfl
end
end Pu

set_option Elab.async false
set_option linter.all false
set_option maxRecDepth 100000
set_option maxHeartbeats 2000000
/-! the five kinds of moves of plain rows -/
namespace Pu
open PySem PySem.Spec PyProof.Rows L2
inductive Mv where
  | swap (i j : Nat)
  | next (i : Nat)
  | take (i j : Nat)
  | flip (i j : Nat)
  | blocks (i j k l : Nat)
def Mv.ok (n : Nat) : Mv → Prop
  | .swap i j => i < j ∧ j < n
  | .next i => i + 1 < n
  | .take i j => i < n ∧ j < n ∧ i ≠ j
  | .flip i j => i < j ∧ j < n
  | .blocks i j k l => i < j ∧ j ≤ k ∧ k < l ∧ l ≤ n
def Mv.D : Mv → PyData
  | .swap i j => .tuple [.str "swap", .int i, .int j]
  | .next i => .tuple [.str "next", .int i]
  | .take i j => .tuple [.str "take", .int i, .int j]
  | .flip i j => .tuple [.str "flip", .int i, .int j]
  | .blocks i j k l => .tuple [.str "blocks", .int i, .int j, .int k, .int l]
def Mv.kind : Mv → Str
  | .swap _ _ => "swap"
  | .next _ => "next"
  | .take _ _ => "take"
  | .flip _ _ => "flip"
  | .blocks _ _ _ _ => "blocks"
def takeZ (r : List Int) (i j : Nat) : List Int := (r.take i ++ r.drop (i + 1)).take j ++ (r.drop i).take 1 ++ (r.take i ++ r.drop (i + 1)).drop j
def flipZ (r : List Int) (i j : Nat) : List Int := r.take i ++ ((r.take (j + 1)).drop i).reverse ++ r.drop (j + 1)
def blkZ (r : List Int) (i j k l : Nat) : List Int := r.take i ++ (r.take l).drop k ++ (r.take k).drop j ++ (r.take j).drop i ++ r.drop l
def Mv.F (r : List Int) : Mv → List Int
  | .swap i j => swZ r i j
  | .next i => swZ r i ((i : Int) + 1)
  | .take i j => takeZ r i j
  | .flip i j => flipZ r i j
  | .blocks i j k l => blkZ r i j k l
theorem cut2 {r : List Int} {i j : Nat} (h : i ≤ j) : r.take i ++ (r.take j).drop i = r.take j := by
  have e : r.take i = (r.take j).take i := by rw [List.take_take, Nat.min_eq_left h]
  rw [e, List.take_append_drop]
theorem cut1 {r : List Int} {i : Nat} {x : Int} (h : r[i]? = some x) : (r.drop i).take 1 = [x] := by
  have hi : i < r.length := by
    obtain ⟨h1, _⟩ := List.getElem?_eq_some_iff.mp h
    exact h1
  rw [List.drop_eq_getElem_cons hi]
  obtain ⟨h1, h2⟩ := List.getElem?_eq_some_iff.mp h
  rw [h2]
  rfl
theorem take_perm {r : List Int} {i j : Nat} (h : i < r.length) : (takeZ r i j).Perm r := by
  obtain ⟨x, hx⟩ : ∃ x, r[i]? = some x := ⟨r[i], List.getElem?_eq_getElem h⟩
  unfold takeZ
  rw [cut1 hx]
  have e : r = r.take i ++ [x] ++ r.drop (i + 1) := by
    obtain ⟨h1, h2⟩ := List.getElem?_eq_some_iff.mp hx
    rw [List.append_assoc, List.singleton_append, ← h2, ← List.drop_eq_getElem_cons h1, List.take_append_drop]
  generalize hq : r.take i ++ r.drop (i + 1) = q
  have p1 : (q.take j ++ [x] ++ q.drop j).Perm (x :: q) := by
    rw [List.append_assoc, List.singleton_append]
    refine List.perm_middle.trans ?_
    rw [List.take_append_drop]
  refine p1.trans ?_
  rw [← hq]
  refine List.perm_middle.symm.trans ?_
  rw [← List.singleton_append, ← List.append_assoc, ← e]
theorem flip_perm {r : List Int} {i j : Nat} (h : i ≤ j) : (flipZ r i j).Perm r := by
  unfold flipZ
  refine (((List.reverse_perm _).append_left _).append_right _).trans ?_
  rw [cut2 (by omega), List.take_append_drop]
theorem blk_perm {r : List Int} {i j k l : Nat} (h1 : i ≤ j) (h2 : j ≤ k) (h3 : k ≤ l) : (blkZ r i j k l).Perm r := by
  unfold blkZ
  have e : r = r.take i ++ ((r.take j).drop i ++ (r.take k).drop j ++ (r.take l).drop k) ++ r.drop l := by
    rw [← List.append_assoc, ← List.append_assoc, cut2 h1, cut2 h2, cut2 h3, List.take_append_drop]
  refine List.Perm.trans ?_ (List.Perm.of_eq e.symm)
  refine List.Perm.append_right _ ?_
  rw [List.append_assoc, List.append_assoc]
  refine List.Perm.append_left _ ?_
  rw [← List.append_assoc]
  generalize (r.take j).drop i = a
  generalize (r.take k).drop j = b
  generalize (r.take l).drop k = c
  refine List.perm_append_comm.trans ?_
  rw [List.append_assoc]
  exact List.Perm.append_left _ List.perm_append_comm
theorem Mv.perm {n : Nat} {m : Mv} {r : List Int} (h : m.ok n) (hr : r.length = n) (nd : r.Nodup) : (m.F r).Perm r := by
  cases m with
  | swap i j =>
    obtain ⟨h1, h2⟩ := h
    exact swZ_perm nd (up_mem.mpr (by omega)) (up_mem.mpr (by omega)) (by omega)
  | next i =>
    have h : i + 1 < n := h
    exact swZ_perm nd (up_mem.mpr (by omega)) (up_mem.mpr (by omega)) (by omega)
  | take i j => exact take_perm (by rw [hr]; exact h.1)
  | flip i j => exact flip_perm (by have := h.1; omega)
  | blocks i j k l =>
    obtain ⟨h1, h2, h3, h4⟩ := h
    exact blk_perm (by omega) h2 (by omega)
theorem atZ_map (f : Int → Int) (r : List Int) (i : Int) : atZ (r.map f) i = (atZ r i).map f := by
  unfold atZ
  rw [List.length_map]
  cases ixN r.length i with
  | none => rfl
  | some j => simp
theorem swZ_map (f : Int → Int) {r : List Int} {i j : Int} (hi : i ∈ upI 0 r.length) (hj : j ∈ upI 0 r.length) : swZ (r.map f) i j = (swZ r i j).map f := by
  obtain ⟨h1, h2⟩ := up_mem.mp hi
  obtain ⟨h3, h4⟩ := up_mem.mp hj
  obtain ⟨x, e1, _⟩ := atZ_p (ns := r) h1 (by omega)
  obtain ⟨y, e2, _⟩ := atZ_p (ns := r) h3 (by omega)
  unfold swZ
  rw [atZ_map, atZ_map, e1, e2, List.map_set, List.map_set]
  rfl
theorem Mv.map {n : Nat} {m : Mv} {r : List Int} (f : Int → Int) (h : m.ok n) (hr : r.length = n) : m.F (r.map f) = (m.F r).map f := by
  cases m with
  | swap i j =>
    obtain ⟨h1, h2⟩ := h
    exact swZ_map f (up_mem.mpr (by omega)) (up_mem.mpr (by omega))
  | next i =>
    have h : i + 1 < n := h
    exact swZ_map f (up_mem.mpr (by omega)) (up_mem.mpr (by omega))
  | take i j => simp [Mv.F, takeZ, List.map_take, List.map_drop]
  | flip i j => simp [Mv.F, flipZ, List.map_take, List.map_drop]
  | blocks i j k l => simp [Mv.F, blkZ, List.map_take, List.map_drop]
theorem Mv.len {n : Nat} {m : Mv} {r : List Int} (h : m.ok n) (hr : r.length = n) (nd : r.Nodup) : (m.F r).length = n := by
  rw [(m.perm h hr nd).length_eq, hr]
theorem srt4 (x y z w : Int) {N : Int} (b0 : 0 ≤ x ∧ x < N) (b1 : 0 ≤ y ∧ y < N) (b2 : 0 ≤ z ∧ z < N) (b3 : 0 ≤ w ∧ w < N) : ∃ a b c d : Nat, srtZ [x, y, z, w] = [(a : Int), (b : Int), (c : Int), (d : Int)] ∧ a ≤ b ∧ b ≤ c ∧ c ≤ d ∧ (d : Int) < N := by
  have hp := srtZ_perm [x, y, z, w]
  have hs := srtZ_sorted [x, y, z, w]
  have hl := hp.length_eq
  have hm : ∀ v ∈ srtZ [x, y, z, w], 0 ≤ v ∧ v < N := fun v hv => by
    have := hp.mem_iff.mp hv
    simp at this
    rcases this with rfl | rfl | rfl | rfl
    · exact b0
    · exact b1
    · exact b2
    · exact b3
  generalize srtZ [x, y, z, w] = l at *
  match l, hl with
  | [p, q, r, s], _ =>
    have m1 := hm p (by simp)
    have m2 := hm q (by simp)
    have m3 := hm r (by simp)
    have m4 := hm s (by simp)
    simp at hs
    refine ⟨p.toNat, q.toNat, r.toNat, s.toNat, ?_, by omega, by omega, by omega, by omega⟩
    rw [Int.toNat_of_nonneg m1.1, Int.toNat_of_nonneg m2.1, Int.toNat_of_nonneg m3.1, Int.toNat_of_nonneg m4.1]
theorem cutZ_mid {r : List Int} {i j : Nat} : cutZ r (some (i : Int)) (some (j : Int)) = (r.take j).drop i := by
  unfold cutZ
  rw [HT.sIx_nat, HT.sIx_nat, List.drop_take]
  by_cases hi : i ≤ r.length
  · rw [Nat.min_eq_left hi]
    by_cases hj : j ≤ r.length
    · rw [Nat.min_eq_left hj]
    · rw [show min j r.length = r.length by omega, List.take_of_length_le (by rw [List.length_drop]; omega), List.take_of_length_le (by rw [List.length_drop]; omega)]
  · rw [show min i r.length = r.length by omega, List.drop_length, List.take_nil, List.drop_eq_nil_of_le (by omega), List.take_nil]
theorem cutZ_mid1 {r : List Int} {i j : Nat} : cutZ r (some (i : Int)) (some ((j : Int) + 1)) = (r.take (j + 1)).drop i := cutZ_mid (j := j + 1)
theorem cutZ_to1 {r : List Int} {k : Nat} (h : k + 1 ≤ r.length) : cutZ r none (some ((k : Int) + 1)) = r.take (k + 1) := cutZ_to (k := k + 1) h
theorem cutZ_from1 {r : List Int} {k : Nat} : cutZ r (some ((k : Int) + 1)) none = r.drop (k + 1) := cutZ_from (k := k + 1)
end Pu

set_option Elab.async false
set_option linter.all false
set_option maxRecDepth 100000
set_option maxHeartbeats 2000000
/-! the relative row of two plain rows -/
namespace Pu
open PySem PySem.Spec PyProof.Rows L2
def relZ (a b : List Int) : List Int := a.map fun x => (((idxZ x b).getD 0 : Nat) : Int) + 1
theorem idx_self {b : List Int} (nd : b.Nodup) {k : Nat} (h : k < b.length) : idxZ b[k] b = some k := by
  obtain ⟨j, ej⟩ := idxZ_mem (List.getElem_mem h)
  have gj := (idxZ_some ej).1
  obtain ⟨i1, j1⟩ := List.getElem?_eq_some_iff.mp gj
  have := (List.getElem_inj (h₀ := i1) (h₁ := h) nd).mp j1
  rw [ej, this]
theorem rel_self {n : Nat} {b : List Int} (nd : b.Nodup) (lb : b.length = n) : relZ b b = upI 1 n := by
  refine List.ext_getElem? fun k => ?_
  unfold relZ upI
  rw [List.getElem?_map, List.getElem?_map]
  by_cases c : k < n
  · rw [List.getElem?_eq_getElem (by omega), List.getElem?_range c, Option.map_some, Option.map_some, idx_self nd (by omega)]
    show some (((k : Nat) : Int) + 1) = some (1 + (k : Int))
    rw [Int.add_comm]
  · rw [List.getElem?_eq_none (by omega), List.getElem?_eq_none (by rw [List.length_range]; omega)]
    rfl
section
variable {n : Nat} {a b : List Int}
theorem rel_perm (T : Two n a b) : (relZ a b).Perm (upI 1 n) := by
  rw [← rel_self T.nb T.lb]
  exact (T.pa.trans T.pb.symm).map _
theorem rel_len (T : Two n a b) : (relZ a b).length = n := by
  unfold relZ
  rw [List.length_map, T.la]
theorem rel_at (T : Two n a b) {k : Nat} (h : k < n) : ∃ (x : Int) (j : Nat), a[k]? = some x ∧ b[j]? = some x ∧ j < n ∧ (relZ a b)[k]? = some ((j : Int) + 1) := by
  have la := T.la
  have lb := T.lb
  have hx : a[k] ∈ b := T.pb.mem_iff.mpr (T.pa.mem_iff.mp (List.getElem_mem _))
  obtain ⟨j, ej⟩ := idxZ_mem hx
  have gj := (idxZ_some ej).1
  refine ⟨a[k], j, List.getElem?_eq_getElem _, gj, by rw [← lb]; exact getSome gj, ?_⟩
  unfold relZ
  rw [List.getElem?_map, List.getElem?_eq_getElem (by omega : k < a.length), Option.map_some, ej]
  rfl
theorem rel_sorted (T : Two n a b) : relZ a b = upI 1 n ↔ a = b := by
  have la := T.la
  have lb := T.lb
  constructor
  · intro h
    refine List.ext_getElem? fun k => ?_
    by_cases c : k < n
    · obtain ⟨x, j, e1, e2, e3, e4⟩ := rel_at T c
      rw [h] at e4
      unfold upI at e4
      rw [List.getElem?_map, List.getElem?_range c] at e4
      have q : (1 : Int) + (k : Int) = (j : Int) + 1 := Option.some.inj e4
      have : j = k := by omega
      subst this
      rw [e1, e2]
    · rw [List.getElem?_eq_none (by omega), List.getElem?_eq_none (by omega)]
  · rintro rfl
    exact rel_self T.nb lb
end
theorem flipZ_get {r : List Int} {i j : Nat} (h1 : i ≤ j) (h2 : j < r.length) (m : Nat) : (flipZ r i j)[m]? = if i ≤ m ∧ m < j + 1 then r[i + j - m]? else r[m]? := by
  unfold flipZ
  have l1 : (r.take i).length = i := by rw [List.length_take]; omega
  have l2 : ((r.take (j + 1)).drop i).reverse.length = j + 1 - i := by
    rw [List.length_reverse, List.length_drop, List.length_take]
    omega
  by_cases a : m < i
  · rw [if_neg (by omega), List.append_assoc, List.getElem?_append_left (by omega), List.getElem?_take, if_pos a]
  · by_cases b : m < j + 1
    · rw [if_pos ⟨by omega, b⟩, List.append_assoc, List.getElem?_append_right (by omega), l1, List.getElem?_append_left (by omega)]
      rw [List.getElem?_reverse (by rw [List.length_drop, List.length_take]; omega), List.getElem?_drop, List.length_drop, List.length_take, Nat.min_eq_left (by omega), List.getElem?_take, if_pos (by omega)]
      rw [show i + (j + 1 - i - 1 - (m - i)) = i + j - m by omega]
    · rw [if_neg (by omega), List.getElem?_append_right (by rw [List.length_append]; omega), List.length_append, l1, l2, List.getElem?_drop]
      congr 1
      omega
section
variable {ρ : Rho}
theorem pop_i {k : Nat} {f : Rho → Re PyData} {ns : List Int} {z : Int} (hk : ρ[k]? = some (some (lI ns))) (hf : f ρ = .ok (.int z)) (h0 : 0 ≤ z) (h1 : z < ns.length) (h2 : ns.length ≤ 10000) : sPop k f ρ = .nx (ρ.set k (some (lI (ns.eraseIdx z.toNat)))) := by
  have e1 : getL ρ k = some (ns.map PyData.int) := by rw [getL_eq, hk]; rfl
  have hz : z.toNat < ns.length := by omega
  have e3 : popAt ρ k (.int z) = some (.int ns[z.toNat], (ns.map PyData.int).eraseIdx z.toNat) := by
    unfold popAt
    rw [e1]
    show (if okLen (ns.map PyData.int).length = true then (match ixN (ns.map PyData.int).length z with
      | some k => (match (ns.map PyData.int)[k]? with | some y => some (y, (ns.map PyData.int).eraseIdx k) | none => none)
      | none => none) else none) = _
    rw [if_pos (by rw [List.length_map]; exact decide_eq_true h2), List.length_map, ixN_p h0 h1]
    show (match (ns.map PyData.int)[z.toNat]? with | some y => some (y, (ns.map PyData.int).eraseIdx z.toNat) | none => none) = _
    rw [List.getElem?_map, List.getElem?_eq_getElem hz]
    rfl
  unfold sPop
  rw [e1, hf]
  show (match popAt ρ k (.int z) with
    | some (_, es') => Sr.nx (ρ.set k (some (.list es')))
    | none => .bad) = _
  rw [e3, erase_map]
  rfl
theorem ins_i {k : Nat} {f g : Rho → Re PyData} {ns : List Int} {z x : Int} (hk : ρ[k]? = some (some (lI ns))) (hf : f ρ = .ok (.int z)) (hg : g ρ = .ok (.int x)) (h0 : 0 ≤ z) (h1 : z < 1000000) (h2 : ns.length < 10000) : sIns k false f g ρ = .nx (ρ.set k (some (lI (ns.take z.toNat ++ [x] ++ ns.drop z.toNat)))) := by
  have e1 : getL ρ k = some (ns.map PyData.int) := by rw [getL_eq, hk]; rfl
  unfold sIns
  rw [e1, hf]
  show (g ρ).st ρ _ = _
  rw [hg]
  show (if okLen ((ns.map PyData.int).length + 1) = true ∧ 0 ≤ z ∧ z < 2 ^ 63 ∧ (false = true → imm (.int x) = true) then Sr.nx (ρ.set k (some (.list ((ns.map PyData.int).take z.toNat ++ [.int x] ++ (ns.map PyData.int).drop z.toNat)))) else .bad) = _
  rw [if_pos ⟨by rw [List.length_map]; exact decide_eq_true h2, h0, by omega, fun z => nomatch z⟩]
  unfold lI
  simp [List.map_take, List.map_drop]
end
end Pu

set_option Elab.async false
set_option linter.all false
set_option maxRecDepth 100000
set_option maxHeartbeats 2000000
namespace Pu
open PySem PySem.Spec PyProof.Rows L2
/-- a word and numbers -/
def mvR (w : Str) (ns : List Int) : PyData := .tuple (.str w :: ns.map PyData.int)
def words5 : List Str := ["swap", "next", "take", "flip", "blocks"]
def words7 : List Str := ["swap", "next", "take", "flip", "blocks", "turn", ""]
/-- a loop with an invariant, which may be left by break -/
theorem loop_brk {g : PyData → Rho → Option Rho} {body : Rho → Sr} (I : Nat → Rho → Prop) : ∀ (ds : List PyData) (k0 : Nat) (ρ : Rho), I k0 ρ → (∀ k d ρ, ds[k]? = some d → I (k0 + k) ρ → ∃ ρ1, g d ρ = some ρ1 ∧ ∃ ρ2, (body ρ1 = .nx ρ2 ∨ body ρ1 = .bk ρ2) ∧ I (k0 + k + 1) ρ2) →
    ∃ ρ' k', sLoop g body ds ρ = .nx ρ' ∧ k' ≤ k0 + ds.length ∧ I k' ρ'
  | [], k0, ρ, h, _ => ⟨ρ, k0, rfl, Nat.le_refl _, h⟩
  | d :: ds, k0, ρ, h, st => by
    obtain ⟨ρ1, e1, ρ2, e2, h2⟩ := st 0 d ρ rfl h
    rcases e2 with e2 | e2
    · obtain ⟨ρ', k', e3, h4, h3⟩ := loop_brk I ds (k0 + 1) ρ2 h2 fun k d' ρ'' hk hI => by
        have := st (k + 1) d' ρ'' (by simpa using hk) (by rw [show k0 + (k + 1) = k0 + 1 + k by omega]; exact hI)
        rw [show k0 + (k + 1) + 1 = k0 + 1 + k + 1 by omega] at this
        exact this
      exact ⟨ρ', k', (loop_nx e1 e2).trans e3, by rw [List.length_cons]; omega, h3⟩
    · refine ⟨ρ2, k0 + 1, ?_, by rw [List.length_cons]; omega, h2⟩
      show (match g d ρ with
        | none => Sr.bad
        | some ρ1 => match body ρ1 with
          | .nx ρ2 => sLoop g body ds ρ2
          | .ct ρ2 => sLoop g body ds ρ2
          | .bk ρ2 => .nx ρ2
          | .rt d => .rt d
          | .ex c ρ2 => .ex c ρ2
          | .bad => .bad) = _
      rw [e1]
      show (match body ρ1 with
        | .nx ρ2 => sLoop g body ds ρ2
        | .ct ρ2 => sLoop g body ds ρ2
        | .bk ρ2 => .nx ρ2
        | .rt d => .rt d
        | .ex c ρ2 => .ex c ρ2
        | .bad => .bad) = _
      rw [e2]
section
variable {ρ : Rho}
theorem seq_nx {s u : Rho → Sr} {ρ' : Rho} {R : Sr} (h : s ρ = .nx ρ') (k : u ρ' = R) : sSeq s u ρ = R := by
  rw [ap_sSeq, h, sqS_nx]
  exact k
theorem cutD_to {ds : List PyData} {k : Nat} (h : k ≤ ds.length) : cutD ds none (some (k : Int)) = ds.take k := by
  unfold cutD
  rw [HT.sIx_none, HT.sIx_nat]
  simp [Nat.min_eq_left h]
theorem cutD_from {ds : List PyData} {k : Nat} : cutD ds (some (k : Int)) none = ds.drop k := by
  unfold cutD
  rw [HT.sIx_none, HT.sIx_nat]
  by_cases h : k ≤ ds.length
  · rw [Nat.min_eq_left h, ← List.length_drop, List.take_length]
  · rw [Nat.min_eq_right (by omega), List.drop_length, List.take_nil, List.drop_eq_nil_of_le (by omega)]
@[simp] theorem oCut_d {ds : List PyData} {lo hi : Option Int} : oCut (.tuple ds) lo hi = .ok (.tuple (cutD ds lo hi)) := (rfl)
@[simp] theorem oCut_dl {ds : List PyData} {lo hi : Option Int} : oCut (.list ds) lo hi = .ok (.list (cutD ds lo hi)) := (rfl)
@[simp] theorem bList_d (ds : List PyData) : bList [.tuple ds] = some (.list ds) := (rfl)
@[simp] theorem bList_dl (ds : List PyData) : bList [.list ds] = some (.list ds) := (rfl)
@[simp] theorem cut1_d (a : PyData) (ds : List PyData) : cutD (a :: ds) (some 1) none = ds := (cutD_from (k := 1)).trans (by simp)
end
end Pu

set_option Elab.async false
set_option linter.all false
set_option maxRecDepth 100000
set_option maxHeartbeats 2000000
/-! list comprehensions of two clauses -/
namespace Pu
open PySem PySem.Spec PyProof.Rows L2
section
variable {X : Cx} {M : Nat → Bool} {F : Fx} {E : L2.St → XK} {σ σ1 : L2.St} {ρ ρ1 : Rho} {H H' H1 : Hp}
def canI (X : Cx) (M : Nat → Bool) (E : L2.St → XK) (f : Rho → Re (List PyData)) : TI := fun σ H R => ∃ (F : Fx) (ρ : Rho), ER X.K M F σ H ρ ∧ WI X M F E σ ρ H (f ρ) R
theorem canI_ok {tg it : Expr} {f : Rho → Re (List PyData)} (h : ∀ F, DI X M F E tg it f) : PI X tg it (canI X M E f) := ⟨fun pins s σ H R I ⟨F, ρ, er, w⟩ => by
  obtain ⟨t, pt, h⟩ := h F
  exact pt.run pins s σ H R I (h σ H ρ er R w)⟩
theorem own_set1 {i : Nat} (m : M i = false) (a : Addr) : OwnA M (σ.set i none) (ρ.set i none) a ↔ OwnA M σ ρ a := by
  constructor
  · rintro ⟨j, x, mj, r, s⟩
    have hj : i ≠ j := fun z => by
      subst z
      rw [m] at mj
      cases mj
    rw [List.getElem?_set_ne hj] at r s
    exact ⟨j, x, mj, r, s⟩
  · rintro ⟨j, x, mj, r, s⟩
    have hj : i ≠ j := fun z => by
      subst z
      rw [m] at mj
      cases mj
    exact ⟨j, x, mj, by rw [List.getElem?_set_ne hj]; exact r, by rw [List.getElem?_set_ne hj]; exact s⟩
theorem own_wipe : ∀ {vs : List Nat}, (∀ i ∈ vs, M i = false) → ∀ a, OwnA M (wipe σ vs) (wipeR ρ vs) a ↔ OwnA M σ ρ a
  | [], _, _ => Iff.rfl
  | v :: vs, h, a => (own_set1 (σ := wipe σ vs) (ρ := wipeR ρ vs) (h v List.mem_cons_self) a).trans (own_wipe (fun i hi => h i (List.mem_cons_of_mem _ hi)) a)
theorem wipe_same : ∀ (l : List Nat) (τ : L2.St), (∀ i ∈ l, i < τ.length → τ[i]? = some none) → wipe τ l = τ
  | [], _, _ => rfl
  | v :: l, τ, h => by
    show (wipe τ l).set v none = τ
    rw [wipe_same l τ fun i hi => h i (List.mem_cons_of_mem _ hi)]
    by_cases hv : v < τ.length
    · have := h v List.mem_cons_self hv
      obtain ⟨h1, h2⟩ := List.getElem?_eq_some_iff.mp this
      rw [← h2, List.set_getElem_self]
    · rw [List.set_eq_of_length_le (by omega)]
theorem wipe_get (σ : L2.St) : ∀ (l : List Nat) (i : Nat), i ∈ l → i < (wipe σ l).length → (wipe σ l)[i]? = some none
  | [], i, h, _ => nomatch h
  | v :: l, i, h, hl => by
    show ((wipe σ l).set v none)[i]? = some none
    have hl' : i < (wipe σ l).length := by
      have hl2 : i < ((wipe σ l).set v none).length := hl
      rwa [List.length_set] at hl2
    by_cases e : v = i
    · subst e
      rw [List.getElem?_set_self hl']
    · rw [List.getElem?_set_ne e]
      exact wipe_get σ l i ((List.mem_cons.mp h).resolve_left fun z => e z.symm) hl'
theorem wipe_wipe (σ : L2.St) (vs : List Nat) : wipe (wipe σ vs) vs = wipe σ vs := wipe_same vs _ fun i hi hl => wipe_get σ vs i hi hl
theorem ER.blk2 {Dd : Addr} (e : ER X.K M (inBlk F Dd) σ H ρ) {acc : List V} (hD : H Dd = some (.lst acc)) (sm : ∀ a u, a ≠ Dd → H a = some u → H' a = some u) (hD' : H' Dd ≠ none) : ER X.K M (inBlk F Dd) σ H' ρ := by
  have kp : Kp (RS M (inBlk F Dd) σ ρ false) H H' := fun a u q x => sm a u (by
    rintro rfl
    rcases x with x | x
    · exact x.1.2 rfl
    · rw [hD] at q
      cases q
      exact x trivial) q
  refine ⟨e.len, (fun a u q => nomatch q), fun a q => ?_, fun i d r m => ?_, fun i d r m => ?_, e.ap⟩
  · have na : a ≠ Dd := fun z => hD' (z ▸ q)
    refine e.new a ?_
    cases h : H a with
    | none => rfl
    | some u =>
      rw [sm a u na h] at q
      cases q
  · obtain ⟨v, s, rp⟩ := e.im i d r m
    exact ⟨v, s, rp.keep kp fun _ _ x _ => x⟩
  · obtain ⟨p, s, z, w⟩ := e.ow i d r m
    exact ⟨p, s, z, w.keep kp (fun _ _ x _ => x) fun u q => sm p u z.2.2 q⟩
def lcGo2 (g : PyData → Rho → Option Rho) (t : Rho → Re Bool) (its1 : Rho → Re (List PyData)) (vs1 : List Nat) (g1 : PyData → Rho → Option Rho) (t1 : Rho → Re Bool) (f : Rho → Re PyData) (ρ : Rho) : List PyData → Option (List PyData)
  | [] => some []
  | d :: ds => match g d ρ with
    | none => none
    | some ρ1 => match t ρ1 with
      | .ok true => (match its1 ρ1 with
        | .ok es => (match lcGo g1 t1 f (wipeR ρ1 vs1) es with
          | some xs => (match lcGo2 g t its1 vs1 g1 t1 f ρ ds with | some ys => some (xs ++ ys) | none => none)
          | none => none)
        | _ => none)
      | .ok false => lcGo2 g t its1 vs1 g1 t1 f ρ ds
      | _ => none
def rLc2 (its : Rho → Re (List PyData)) (vs : List Nat) (g : PyData → Rho → Option Rho) (t : Rho → Re Bool) (its1 : Rho → Re (List PyData)) (vs1 : List Nat) (g1 : PyData → Rho → Option Rho) (t1 : Rho → Re Bool) (f : Rho → Re PyData) : Rho → Re PyData := fun ρ => (its ρ).andThen fun ds => match lcGo2 g t its1 vs1 g1 t1 f (wipeR ρ vs) ds with | some xs => if okLen xs.length = true then .ok (.list xs) else .bad | none => .bad
theorem lc2_run {ts vs ts1 vs1 : List Nat} {wi : TI} {its its1 : Rho → Re (List PyData)} {gg gg1 : PyData → Rho → Option Rho} {tt tt1 : Rho → Re Bool} {f : Rho → Re PyData} {lk fr : Bool} (hi : ∀ σ H ρ, ER X.K M F σ H ρ → ∀ R, WI X M F E σ ρ H (its ρ) R → wi σ H R)
    (hv : ∀ i ∈ vs, M i = false) (hv1 : ∀ i ∈ vs1, M i = false) (hts : ∀ i ∈ ts, i ∈ vs) (hts1 : ∀ i ∈ ts1, i ∈ vs1) (er : ER X.K M F σ H ρ) {Q : VK} (w : WE X M F E lk true σ ρ H (rLc2 its vs gg tt its1 vs1 gg1 tt1 f ρ) Q) :
    tLc2 wi (canG X M ts gg) (canT X M E0s tt) (canI X M E0s its1) (canG X M ts1 gg1) (canT X M E0s tt1) (canE X M E0s lk fr f) vs vs1 σ H Q := by
  refine hi σ H ρ er _ ?_
  unfold rLc2 at w
  cases q : its ρ with
  | ex c =>
    rw [q] at w
    exact w
  | bad =>
    rw [q] at w
    exact w
  | ok ds =>
    rw [q] at w
    have w : WE X M F E lk true σ ρ H (match lcGo2 gg tt its1 vs1 gg1 tt1 f (wipeR ρ vs) ds with | some xs => if okLen xs.length = true then Re.ok (.list xs) else .bad | none => .bad) Q := w
    cases q2 : lcGo2 gg tt its1 vs1 gg1 tt1 f (wipeR ρ vs) ds with
    | none =>
      rw [q2] at w
      exact w.elim
    | some tot =>
      rw [q2] at w
      have w : WE X M F E lk true σ ρ H (if okLen tot.length = true then Re.ok (.list tot) else .bad) Q := w
      by_cases hz : okLen tot.length = true
      · rw [if_pos hz] at w
        refine fun J H1 sm wk Dd hD => ?_
        have er1 := er.same sm
        refine ⟨fun i m H2 => m = ds.length - i ∧ i ≤ ds.length ∧ Same H1 H2 ∧ ∃ acc accd rst, H2 Dd = some (.lst acc) ∧ RpA X.K H2 (fun a => RS M F σ ρ lk a ∧ a ≠ Dd) acc accd ∧ lcGo2 gg tt its1 vs1 gg1 tt1 f (wipeR ρ vs) (ds.drop i) = some rst ∧ tot = accd ++ rst,
          ⟨ds.length, by simp, Nat.zero_le _, same_new hD, [], [], tot, upd_same, .nil, q2, rfl⟩, ?_⟩
        rintro i m H2 ⟨rfl, hi', sm2, acc, accd, rst, e1, r1, g1, t1⟩
        have kp : Kp (fun a => RS M F σ ρ false a ∧ H1 a ≠ none) H1 H2 := kp_same sm2
        by_cases hlt : i < ds.length
        · obtain ⟨go, yl⟩ := (wk H2 kp i).1 _ (List.getElem?_eq_getElem hlt)
          refine .inr ⟨go, fun H3 => Same H1 H3 ∧ ∃ acc accd rst, H3 Dd = some (.lst acc) ∧ RpA X.K H3 (fun a => RS M F σ ρ lk a ∧ a ≠ Dd) acc accd ∧ lcGo2 gg tt its1 vs1 gg1 tt1 f (wipeR ρ vs) (ds.drop (i + 1)) = some rst ∧ tot = accd ++ rst, fun H3 x => ⟨ds.length - (i + 1), by omega, rfl, by omega, x⟩, fun x H3 y => ?_⟩
          obtain ⟨s3, rx⟩ := yl x H3 y
          rw [drop_get (List.getElem?_eq_getElem hlt)] at g1
          have g1 : (match gg ds[i] (wipeR ρ vs) with
            | none => none
            | some ρ1 => match tt ρ1 with
              | .ok true => (match its1 ρ1 with
                | .ok es => (match lcGo gg1 tt1 f (wipeR ρ1 vs1) es with
                  | some xs => (match lcGo2 gg tt its1 vs1 gg1 tt1 f (wipeR ρ vs) (ds.drop (i + 1)) with | some ys => some (xs ++ ys) | none => none)
                  | none => none)
                | _ => none)
              | .ok false => lcGo2 gg tt its1 vs1 gg1 tt1 f (wipeR ρ vs) (ds.drop (i + 1))
              | _ => none) = some rst := g1
          cases q3 : gg ds[i] (wipeR ρ vs) with
          | none =>
            rw [q3] at g1
            cases g1
          | some ρ1 =>
            rw [q3] at g1
            have g1 : (match tt ρ1 with
              | .ok true => (match its1 ρ1 with
                | .ok es => (match lcGo gg1 tt1 f (wipeR ρ1 vs1) es with
                  | some xs => (match lcGo2 gg tt its1 vs1 gg1 tt1 f (wipeR ρ vs) (ds.drop (i + 1)) with | some ys => some (xs ++ ys) | none => none)
                  | none => none)
                | _ => none)
              | .ok false => lcGo2 gg tt its1 vs1 gg1 tt1 f (wipeR ρ vs) (ds.drop (i + 1))
              | _ => none) = some rst := g1
            obtain ⟨erw, rsw⟩ := er1.wipe (vs := vs) hv
            have s13 : Same H1 H3 := sm2.trans s3
            have e3 : H3 Dd = some (.lst acc) := s3 _ _ e1
            have erb := erw.blk hD s13 e3
            have rx' : Rp X.K H3 (RS M (inBlk F Dd) (wipe σ vs) (wipeR ρ vs) false) x ds[i] := rx.wide fun a z => by
              have := rsw false
              refine ⟨⟨z.1.1, fun zz => ?_⟩, ?_⟩
              · rw [zz] at z
                exact z.2 hD
              · have z1 : RS M F (wipe σ vs) (wipeR ρ vs) false a := by
                  rw [this]
                  exact z.1
                exact z1.2
            refine ⟨inBlk F Dd, wipeR ρ vs, ds[i], ρ1, erb, rx', q3, fun σ4 er4 ev4 wp4 ow4 => ⟨?_, ?_⟩⟩
            · rw [wp4 vs hts]
              exact wipe_wipe σ vs
            · refine ⟨inBlk F Dd, ρ1, er4, ?_⟩
              cases q4 : tt ρ1 with
              | ex c =>
                rw [q4] at g1
                cases g1
              | bad =>
                rw [q4] at g1
                cases g1
              | ok bb =>
                rw [q4] at g1
                cases bb with
                | false =>
                  refine fun H5 s5 => ?_
                  show (if false = true then _ else _)
                  rw [if_neg Bool.false_ne_true]
                  exact ⟨s13.trans s5, acc, accd, rst, s5 _ _ e3, r1.same (s3.trans s5), g1, t1⟩
                | true =>
                  refine fun H5 s5 => ?_
                  show (if true = true then _ else _)
                  rw [if_pos rfl]
                  have g1 : (match its1 ρ1 with
                    | .ok es => (match lcGo gg1 tt1 f (wipeR ρ1 vs1) es with
                      | some xs => (match lcGo2 gg tt its1 vs1 gg1 tt1 f (wipeR ρ vs) (ds.drop (i + 1)) with | some ys => some (xs ++ ys) | none => none)
                      | none => none)
                    | _ => none) = some rst := g1
                  cases q5 : its1 ρ1 with
                  | ex c =>
                    rw [q5] at g1
                    cases g1
                  | bad =>
                    rw [q5] at g1
                    cases g1
                  | ok es =>
                    rw [q5] at g1
                    have g1 : (match lcGo gg1 tt1 f (wipeR ρ1 vs1) es with
                      | some xs => (match lcGo2 gg tt its1 vs1 gg1 tt1 f (wipeR ρ vs) (ds.drop (i + 1)) with | some ys => some (xs ++ ys) | none => none)
                      | none => none) = some rst := g1
                    cases q6 : lcGo gg1 tt1 f (wipeR ρ1 vs1) es with
                    | none =>
                      rw [q6] at g1
                      cases g1
                    | some xs =>
                      rw [q6] at g1
                      have g1 : (match lcGo2 gg tt its1 vs1 gg1 tt1 f (wipeR ρ vs) (ds.drop (i + 1)) with | some ys => some (xs ++ ys) | none => none) = some rst := g1
                      cases q7 : lcGo2 gg tt its1 vs1 gg1 tt1 f (wipeR ρ vs) (ds.drop (i + 1)) with
                      | none =>
                        rw [q7] at g1
                        cases g1
                      | some ys =>
                        rw [q7] at g1
                        have g1 : some (xs ++ ys) = some rst := g1
                        cases g1
                        refine ⟨inBlk F Dd, ρ1, er4.same s5, ?_⟩
                        rw [q5]
                        refine fun J1 H6 s6 wk1 => ?_
                        have e6 : H6 Dd = some (.lst acc) := s6 _ _ (s5 _ _ e3)
                        have er6 := (er4.same s5).same s6
                        refine ⟨fun j k H' => k = es.length - j ∧ j ≤ es.length ∧ Same H1 H' ∧ (∀ a u, a ≠ Dd → H6 a = some u → H' a = some u) ∧ ∃ acc accd rst, H' Dd = some (.lst acc) ∧ RpA X.K H' (fun a => RS M F σ ρ lk a ∧ a ≠ Dd) acc accd ∧ lcGo gg1 tt1 f (wipeR ρ1 vs1) (es.drop j) = some rst ∧ tot = accd ++ (rst ++ ys),
                          ⟨es.length, by simp, Nat.zero_le _, s13.trans (s5.trans s6), fun a u _ q => q, acc, accd, xs, e6, r1.same (s3.trans (s5.trans s6)), q6, t1⟩, ?_⟩
                        rintro j k H7 ⟨rfl, hj', sm7, sb7, acc7, accd7, rst7, e7, r7, g7, t7⟩
                        have kp7 : Kp (fun a => RS M (inBlk F Dd) σ4 ρ1 false a ∧ H6 a ≠ none) H6 H7 := fun a u qa xa => sb7 a u (by
                          rintro rfl
                          rcases xa with xa | xa
                          · exact xa.1.1.2 rfl
                          · rw [e6] at qa
                            cases qa
                            exact xa trivial) qa
                        by_cases hlt7 : j < es.length
                        · obtain ⟨go7, yl7⟩ := (wk1 H7 kp7 j).1 _ (List.getElem?_eq_getElem hlt7)
                          refine .inr ⟨go7, fun H8 => Same H1 H8 ∧ (∀ a u, a ≠ Dd → H6 a = some u → H8 a = some u) ∧ ∃ acc accd rst, H8 Dd = some (.lst acc) ∧ RpA X.K H8 (fun a => RS M F σ ρ lk a ∧ a ≠ Dd) acc accd ∧ lcGo gg1 tt1 f (wipeR ρ1 vs1) (es.drop (j + 1)) = some rst ∧ tot = accd ++ (rst ++ ys), fun H8 x => ⟨es.length - (j + 1), by omega, rfl, by omega, x⟩, fun x8 H8 y8 => ?_⟩
                          obtain ⟨s8, rx8⟩ := yl7 x8 H8 y8
                          have er7 : ER X.K M (inBlk F Dd) σ4 H7 ρ1 := er6.blk2 e6 sb7 (by rw [e7]; exact nofun)
                          have er8 := er7.same s8
                          obtain ⟨erw8, rsw8⟩ := er8.wipe (vs := vs1) hv1
                          have rx8' : Rp X.K H8 (RS M (inBlk F Dd) (wipe σ4 vs1) (wipeR ρ1 vs1) false) x8 es[j] := rx8.wide fun a z => by
                            rw [rsw8 false]
                            exact z.1
                          rw [drop_get (List.getElem?_eq_getElem hlt7)] at g7
                          have g7 : (match gg1 es[j] (wipeR ρ1 vs1) with
                            | none => none
                            | some ρ2 => match tt1 ρ2 with
                              | .ok true => (match f ρ2 with | .ok x => (match lcGo gg1 tt1 f (wipeR ρ1 vs1) (es.drop (j + 1)) with | some xs => some (x :: xs) | none => none) | _ => none)
                              | .ok false => lcGo gg1 tt1 f (wipeR ρ1 vs1) (es.drop (j + 1))
                              | _ => none) = some rst7 := g7
                          cases q8 : gg1 es[j] (wipeR ρ1 vs1) with
                          | none =>
                            rw [q8] at g7
                            cases g7
                          | some ρ2 =>
                            rw [q8] at g7
                            have g7 : (match tt1 ρ2 with
                              | .ok true => (match f ρ2 with | .ok x => (match lcGo gg1 tt1 f (wipeR ρ1 vs1) (es.drop (j + 1)) with | some xs => some (x :: xs) | none => none) | _ => none)
                              | .ok false => lcGo gg1 tt1 f (wipeR ρ1 vs1) (es.drop (j + 1))
                              | _ => none) = some rst7 := g7
                            refine ⟨inBlk F Dd, wipeR ρ1 vs1, es[j], ρ2, erw8, rx8', q8, fun σ5 er5 ev5 wp5 ow5 => ⟨?_, ?_⟩⟩
                            · rw [wp5 vs1 hts1]
                              exact wipe_wipe σ4 vs1
                            · refine ⟨inBlk F Dd, ρ2, er5, ?_⟩
                              cases q9 : tt1 ρ2 with
                              | ex c =>
                                rw [q9] at g7
                                cases g7
                              | bad =>
                                rw [q9] at g7
                                cases g7
                              | ok bb =>
                                rw [q9] at g7
                                cases bb with
                                | false =>
                                  refine fun H9 s9 => ?_
                                  show (if false = true then _ else _)
                                  rw [if_neg Bool.false_ne_true]
                                  exact ⟨sm7.trans (s8.trans s9), fun a u n q => s9 _ _ (s8 _ _ (sb7 a u n q)), acc7, accd7, rst7, s9 _ _ (s8 _ _ e7), r7.same (s8.trans s9), g7, t7⟩
                                | true =>
                                  refine fun H9 s9 => ?_
                                  show (if true = true then _ else _)
                                  rw [if_pos rfl]
                                  have g7 : (match f ρ2 with | .ok x => (match lcGo gg1 tt1 f (wipeR ρ1 vs1) (es.drop (j + 1)) with | some xs => some (x :: xs) | none => none) | _ => none) = some rst7 := g7
                                  cases q10 : f ρ2 with
                                  | ex c =>
                                    rw [q10] at g7
                                    cases g7
                                  | bad =>
                                    rw [q10] at g7
                                    cases g7
                                  | ok xd =>
                                    rw [q10] at g7
                                    have g7 : (match lcGo gg1 tt1 f (wipeR ρ1 vs1) (es.drop (j + 1)) with | some xs => some (xd :: xs) | none => none) = some rst7 := g7
                                    cases q11 : lcGo gg1 tt1 f (wipeR ρ1 vs1) (es.drop (j + 1)) with
                                    | none =>
                                      rw [q11] at g7
                                      cases g7
                                    | some zs =>
                                      rw [q11] at g7
                                      have g7 : some (xd :: zs) = some rst7 := g7
                                      cases g7
                                      refine ⟨inBlk F Dd, ρ2, er5.same s9, ?_⟩
                                      rw [q10]
                                      refine fun v H10 s10 r10 _ => ?_
                                      have e9 : H9 Dd = some (.lst acc7) := s9 _ _ (s8 _ _ e7)
                                      have e10 : H10 Dd = some (.lst acc7) := s10 _ _ e9
                                      have acl : acc7.length < sizeLine := by
                                        have h1 := of_decide_eq_true hz
                                        have h2 := r7.length
                                        rw [t7, List.length_append, List.length_append, List.length_cons] at h1
                                        exact Nat.lt_of_lt_of_le (show acc7.length < 10001 by omega) (by decide)
                                      have s7t : Same H7 H10 := s8.trans (s9.trans s10)
                                      refine ⟨acc7, e10, acl, fun a u qa => ?_, fun a u na qa => ?_, acc7 ++ [v], accd7 ++ [xd], zs, upd_same, ?_, rfl, ?_⟩
                                      · rw [upd_ne (ne_of_none qa hD)]
                                        exact s7t _ _ (sm7 _ _ qa)
                                      · rw [upd_ne na]
                                        exact s7t _ _ (sb7 a u na qa)
                                      · have kpD : Kp (fun a => RS M F σ ρ lk a ∧ a ≠ Dd) H10 (upd H10 Dd (.lst (acc7 ++ [v]))) := fun a u qa xa => by
                                          rw [upd_ne]
                                          · exact qa
                                          · intro za
                                            subst za
                                            rcases xa with xa | xa
                                            · exact xa.2 rfl
                                            · rw [e10] at qa
                                              cases qa
                                              exact xa trivial
                                        have rA : RpA X.K H10 (fun a => RS M F σ ρ lk a ∧ a ≠ Dd) acc7 accd7 := r7.same s7t
                                        have rV : Rp X.K H10 (fun a => RS M F σ ρ lk a ∧ a ≠ Dd) v xd := r10.wide fun a za => by
                                          refine ⟨⟨za.1.1, fun zl => fun o => ?_⟩, za.1.2⟩
                                          exact za.2 zl (ow5 a ((own_wipe hv1 a).mpr (ow4 a ((own_wipe hv a).mpr o))))
                                        exact (rA.append (.cons rV .nil)).keep kpD fun _ _ x _ => x
                                      · rw [t7, List.append_assoc]
                                        rfl
                        · have ej : j = es.length := by omega
                          subst ej
                          rw [List.drop_length] at g7
                          have g7 : some ([] : List PyData) = some rst7 := g7
                          cases g7
                          exact .inl ⟨(wk1 H7 kp7 _).2 rfl, sm7, acc7, accd7, ys, e7, r7, rfl, t7⟩
        · have ei : i = ds.length := by omega
          subst ei
          rw [List.drop_length] at g1
          have g1 : some ([] : List PyData) = some rst := g1
          cases g1
          rw [List.append_nil] at t1
          subst t1
          refine .inl ⟨(wk H2 kp _).2 rfl, w (.ref Dd) H2 (sm.trans sm2) (.lst e1 ?_ (r1.wide fun a x => x.1)) fun _ => ⟨Dd, rfl, sm.free hD, .lst e1 r1⟩⟩
          exact er1.freshS _ hD
      · rw [if_neg hz] at w
        exact w.elim
variable {elt tg iter tg1 iter1 : Expr} {ifs ifs1 : List Expr} {scope : Scope} {own : List (Str × Nat)} {ts ts1 vs1 : List Nat} {pos : Pos} {its its1 : Rho → Re (List PyData)} {gg gg1 : PyData → Rho → Option Rho} {tt tt1 : Rho → Re Bool} {f : Rho → Re PyData} {lk fr : Bool}
theorem de_lc2 (vs : List Nat) (hc : X.calm = true) (hN : X.N.Nodup) (hi : DI X M F E tg iter its) (ok : BlkOk X.N X.env.scope scope own) (hv : ∀ i ∈ vs, M i = false) (hvv : ∀ i ∈ vs1, i ∈ vs)
    (hg : ∀ (s : Shared) (H : Hp) (C : Addr) (cl : List (Str × Addr)) (fp : List Addr) (F : Fx), DG (X.blk s H scope (compEnvC scope cl C X.env) fp) M F tg ts gg)
    (ht : ∀ (s : Shared) (H : Hp) (C : Addr) (cl : List (Str × Addr)) (fp : List Addr), DTs (X.blk s H scope (compEnvC scope cl C X.env) fp) M E0s ifs tt)
    (hi1 : ∀ (s : Shared) (H : Hp) (C : Addr) (cl : List (Str × Addr)) (fp : List Addr) (F : Fx), DI (X.blk s H scope (compEnvC scope cl C X.env) fp) M F E0s tg1 iter1 its1)
    (hg1 : ∀ (s : Shared) (H : Hp) (C : Addr) (cl : List (Str × Addr)) (fp : List Addr) (F : Fx), DG (X.blk s H scope (compEnvC scope cl C X.env) fp) M F tg1 ts1 gg1)
    (ht1 : ∀ (s : Shared) (H : Hp) (C : Addr) (cl : List (Str × Addr)) (fp : List Addr), DTs (X.blk s H scope (compEnvC scope cl C X.env) fp) M E0s ifs1 tt1)
    (he : ∀ (s : Shared) (H : Hp) (C : Addr) (cl : List (Str × Addr)) (fp : List Addr) (F : Fx), DE (X.blk s H scope (compEnvC scope cl C X.env) fp) M F E0s lk fr elt f)
    (hvs : own.map (·.2) = vs := by rfl) (hts : ∀ i ∈ ts, i ∈ vs := by decide) (hts1 : ∀ i ∈ ts1, i ∈ vs1 := by decide) (hs : ∀ x, foldedSetIterable iter X.env x = pure x := by intro _; rfl) (hs1 : ∀ env x, foldedSetIterable iter1 env x = pure x := by intro _ _; rfl) :
    DE X M F E lk true (.ListComp elt [⟨tg, iter, ifs, 0⟩, ⟨tg1, iter1, ifs1, 0⟩] scope pos) (rLc2 its vs gg tt its1 vs1 gg1 tt1 f) := by
  subst hvs
  obtain ⟨wi, pw, hi⟩ := hi
  exact ⟨_, pe_lc2 (g := canG X M ts gg) (tt := canT X M E0s tt) (wi1 := canI X M E0s its1) (g1 := canG X M ts1 gg1) (tt1 := canT X M E0s tt1) (te := canE X M E0s lk fr f) hc hN pw ok hvv (fun s H C cl fp => canG_ok (hg s H C cl fp)) (fun s H C cl fp => ht s H C cl fp)
    (fun s H C cl fp => canI_ok (hi1 s H C cl fp)) (fun s H C cl fp => canG_ok (hg1 s H C cl fp)) (fun s H C cl fp => ht1 s H C cl fp) (fun s H C cl fp => canE_ok (he s H C cl fp)) hs hs1, fun σ H ρ er Q w => lc2_run hi hv (fun i h => hv i (hvv i h)) hts hts1 er w⟩
end
end Pu

set_option Elab.async false
set_option linter.all false
set_option maxRecDepth 100000
set_option maxHeartbeats 2000000
/-! x += e, x -= e of whole numbers -/
namespace Pu
open PySem PySem.Spec PyProof.Rows L2
section
variable {X : Cx} {M : Nat → Bool} {F : Fx} {E : L2.St → XK} {σ σ1 : L2.St} {ρ : Rho} {H H' H1 : Hp} {la fa : Bool} {a : Expr} {f : Rho → Re PyData} {pos : Pos}
def augR (op : Int → Int → Int) (ρ : Rho) (i : Nat) : Option (Option PyData) → Re PyData → Sr
  | some (some (.int x)), r => r.st ρ fun d => (match d with | .int y => .nx (ρ.set i (some (.int (op x y)))) | _ => .bad)
  | _, _ => .bad
def sAug (i : Nat) (op : Int → Int → Int) (f : Rho → Re PyData) : Rho → Sr := fun ρ => augR op ρ i ρ[i]? (f ρ)
theorem ds_aug {i : Nat} {x : Str} {pos' : Pos} {o : Operator} {op : Int → Int → Int} (ho : PIp X o (ipI op)) (m : M i = false) (hN : X.N.Nodup) (h : DE X M F E la fa a f) (hi : X.N[i]? = some x := by rfl) (hx : Loc X.env.scope x := by first | exact Or.inl rfl | exact Or.inr rfl)
    (hf : X.fn x = true ∨ X.env.scope.names.lookup x = some .local := by first | exact .inl rfl | exact .inr rfl) :
    DS X M F E (.AugAssign (.Name x pos') o a pos) (sAug i op f) := by
  obtain ⟨t, p, h⟩ := h
  refine ⟨_, ps_aug hN hi hx p ho hf, fun σ H ρ er D w => ?_⟩
  have w0 : WS X M F E σ H ρ (augR op ρ i ρ[i]? (f ρ)) D := w
  cases q : ρ[i]? with
  | none =>
    rw [q] at w0
    exact w0.elim
  | some r =>
    rw [q] at w0
    cases r with
    | none => exact w0.elim
    | some d =>
      cases d with
      | int z =>
        obtain ⟨v, hv, rv⟩ := er.im i _ q m
        cases rv
        have w0 : WS X M F E σ H ρ ((f ρ).st ρ fun d => (match d with | .int y => .nx (ρ.set i (some (.int (op z y)))) | _ => .bad)) D := w0
        refine ⟨_, hv, h σ H ρ er _ (ws_step er w0 fun d v H1 e sm r _ w1 => ?_)⟩
        cases r with
        | int y => exact ⟨z, y, rfl, rfl, w1 _ H1 ((er.same sm).set m (.int _)) fun a u q n => ⟨q, fun o => n ((own_set m).mp o)⟩⟩
        | bl _ => exact w1.elim
        | non => exact w1.elim
        | str _ => exact w1.elim
        | tup _ _ => exact w1.elim
        | lst _ _ _ => exact w1.elim
        | scr _ _ => exact w1.elim
        | dic _ _ _ _ => exact w1.elim
        | dit _ _ _ _ => exact w1.elim
        | dif _ _ _ => exact w1.elim
      | _ => exact w0.elim
@[simp] theorem augR_i (op : Int → Int → Int) (i : Nat) (x y : Int) : augR op ρ i (some (some (.int x))) (.ok (.int y)) = .nx (ρ.set i (some (.int (op x y)))) := (rfl)
@[simp] theorem ap_sAug (i : Nat) (op : Int → Int → Int) (f : Rho → Re PyData) : sAug i op f ρ = augR op ρ i ρ[i]? (f ρ) := (rfl)
end
end Pu

set_option Elab.async false
set_option linter.all false
set_option maxRecDepth 100000
set_option maxHeartbeats 2000000
/-! pairs of places in the wrong order -/
namespace Pu
open PySem PySem.Spec PyProof.Rows L2
theorem phpA {α : Type} [DecidableEq α] : ∀ (l ks : List α), l.Nodup → (∀ x ∈ l, x ∈ ks) → l.length ≤ ks.length
  | [], _, _, _ => Nat.zero_le _
  | x :: l, ks, nd, h => by
    obtain ⟨n1, n2⟩ := List.nodup_cons.mp nd
    have hx := h x List.mem_cons_self
    have := phpA l (ks.erase x) n2 fun y hy => (List.mem_erase_of_ne (fun e => n1 (by rw [← e]; exact hy))).mpr (h y (List.mem_cons_of_mem _ hy))
    rw [List.length_erase_of_mem hx] at this
    have : 0 < ks.length := List.length_pos_of_mem hx
    rw [List.length_cons]
    omega
theorem injLe {α β : Type} [DecidableEq β] {l : List α} {k : List β} (φ : α → β) (nd : l.Nodup) (h : ∀ x ∈ l, φ x ∈ k) (inj : ∀ x ∈ l, ∀ y ∈ l, φ x = φ y → x = y) : l.length ≤ k.length := by
  have := phpA (l.map φ) k (by
    refine List.pairwise_map.mpr ?_
    exact nd.imp_of_mem fun {a b} ha hb hne e => hne (inj a ha b hb e)) fun y hy => by
      obtain ⟨x, hx, rfl⟩ := List.mem_map.mp hy
      exact h x hx
  rwa [List.length_map] at this
/-- the pairs p < q below n with f q < f p -/
def ivs (f : Int → Int) (n : Nat) : List (Int × Int) := (upI 0 n).flatMap fun p => ((upI (p + 1) ((n : Int) - (p + 1)).toNat).filter fun q => decide (f q < f p)).map fun q => (p, q)
def iv (f : Int → Int) (n : Nat) : Nat := (ivs f n).length
section
variable {f g : Int → Int} {n : Nat}
theorem mem_ivs {z : Int × Int} : z ∈ ivs f n ↔ 0 ≤ z.1 ∧ z.1 < z.2 ∧ z.2 < n ∧ f z.2 < f z.1 := by
  unfold ivs
  rw [List.mem_flatMap]
  constructor
  · rintro ⟨p, hp, h⟩
    obtain ⟨q, hq, rfl⟩ := List.mem_map.mp h
    obtain ⟨h1, h2⟩ := List.mem_filter.mp hq
    have a := up_mem.mp hp
    have b := up_mem.mp h1
    have c := of_decide_eq_true h2
    exact ⟨a.1, by omega, by omega, c⟩
  · rintro ⟨h1, h2, h3, h4⟩
    refine ⟨z.1, up_mem.mpr (by omega), List.mem_map.mpr ⟨z.2, List.mem_filter.mpr ⟨up_mem.mpr (by omega), decide_eq_true h4⟩, rfl⟩⟩
theorem ivs_nd : (ivs f n).Nodup := by
  unfold ivs
  refine List.pairwise_flatMap.mpr ⟨fun p _ => ?_, ?_⟩
  · refine List.pairwise_map.mpr ?_
    refine ((up_nodup _ _).filter _).imp fun h e => h ?_
    exact congrArg Prod.snd e
  · refine (up_nodup 0 n).imp fun {a b} h x hx y hy e => h ?_
    obtain ⟨q, _, rfl⟩ := List.mem_map.mp hx
    obtain ⟨q', _, rfl⟩ := List.mem_map.mp hy
    exact congrArg Prod.fst e
theorem iv_congr (h : ∀ p : Int, 0 ≤ p → p < n → f p = g p) : iv f n = iv g n := by
  have key : ∀ {f g : Int → Int}, (∀ p : Int, 0 ≤ p → p < n → f p = g p) → iv f n ≤ iv g n := fun {f g} h => phpA _ _ ivs_nd fun z hz => by
    obtain ⟨h1, h2, h3, h4⟩ := mem_ivs.mp hz
    refine mem_ivs.mpr ⟨h1, h2, h3, ?_⟩
    rw [← h _ (by omega) h3, ← h _ h1 (by omega)]
    exact h4
  exact Nat.le_antisymm (key h) (key fun p a b => (h p a b).symm)
/-- places i and i + 1 exchanged -/
def tau (i p : Int) : Int := if p = i then i + 1 else if p = i + 1 then i else p
theorem tau_tau (i p : Int) : tau i (tau i p) = p := by
  unfold tau
  by_cases h : p = i
  · rw [if_pos h, if_neg (by omega), if_pos rfl, h]
  · by_cases h2 : p = i + 1
    · rw [if_neg h, if_pos h2, if_pos rfl, h2]
    · rw [if_neg h, if_neg h2, if_neg h, if_neg h2]
theorem tau_b {i p : Int} (hi : 0 ≤ i) (hn : i + 1 < n) (h0 : 0 ≤ p) (h1 : p < n) : 0 ≤ tau i p ∧ tau i p < n := by
  unfold tau
  split
  · omega
  · split <;> omega
theorem tau_lt {i p q : Int} (h : p < q) (hn : ¬ (p = i ∧ q = i + 1)) : tau i p < tau i q := by
  unfold tau
  by_cases a : p = i
  · by_cases b : q = i + 1
    · exact absurd ⟨a, b⟩ hn
    · rw [if_pos a, if_neg (by omega), if_neg b]
      omega
  · by_cases c : p = i + 1
    · rw [if_neg a, if_pos c, if_neg (by omega), if_neg (by omega)]
      omega
    · rw [if_neg a, if_neg c]
      by_cases d : q = i
      · rw [if_pos d]
        omega
      · by_cases e : q = i + 1
        · rw [if_neg d, if_pos e]
          omega
        · rw [if_neg d, if_neg e]
          exact h
theorem iv_tau {i : Int} (hi : 0 ≤ i) (hn : i + 1 < n) (h : ∀ p : Int, 0 ≤ p → p < n → g p = f (tau i p)) : ((ivs g n).erase (i, i + 1)).length ≤ ((ivs f n).erase (i, i + 1)).length := by
  refine injLe (fun z => (tau i z.1, tau i z.2)) (ivs_nd.erase _) (fun z hz => ?_) fun x hx y hy e => ?_
  · have nd : (ivs g n).Nodup := ivs_nd
    obtain ⟨ne, hz⟩ := (List.Nodup.mem_erase_iff nd).mp hz
    obtain ⟨h1, h2, h3, h4⟩ := mem_ivs.mp hz
    have nn : ¬ (z.1 = i ∧ z.2 = i + 1) := fun q => ne (Prod.ext q.1 q.2)
    have b1 := tau_b hi hn h1 (show z.1 < n by omega)
    have b2 := tau_b hi hn (show 0 ≤ z.2 by omega) h3
    have lt := tau_lt h2 nn
    refine (List.Nodup.mem_erase_iff ivs_nd).mpr ⟨fun q => ?_, mem_ivs.mpr ⟨b1.1, lt, b2.2, ?_⟩⟩
    · have q1 : tau i z.1 = i := congrArg Prod.fst q
      have q2 : tau i z.2 = i + 1 := congrArg Prod.snd q
      have r1 := congrArg (tau i) q1
      have r2 := congrArg (tau i) q2
      rw [tau_tau] at r1 r2
      have e1 : tau i i = i + 1 := by unfold tau; rw [if_pos rfl]
      have e2 : tau i (i + 1) = i := by unfold tau; rw [if_neg (by omega), if_pos rfl]
      omega
    · show f (tau i z.2) < f (tau i z.1)
      rw [← h _ h1 (by omega), ← h _ (by omega) h3]
      exact h4
  · have e1 : tau i x.1 = tau i y.1 := congrArg Prod.fst e
    have e2 : tau i x.2 = tau i y.2 := congrArg Prod.snd e
    have r1 := congrArg (tau i) e1
    have r2 := congrArg (tau i) e2
    rw [tau_tau, tau_tau] at r1 r2
    exact Prod.ext r1 r2
theorem iv_step {i : Int} (hi : 0 ≤ i) (hn : i + 1 < n) (h : ∀ p : Int, 0 ≤ p → p < n → g p = f (tau i p)) : iv g n ≤ iv f n + 1 := by
  have k := iv_tau hi hn h
  rw [List.length_erase] at k
  have l := List.length_erase (a := (i, i + 1)) (l := ivs f n)
  unfold iv
  split at k <;> split at l <;> omega
theorem iv_down {i : Int} (hi : 0 ≤ i) (hn : i + 1 < n) (h : ∀ p : Int, 0 ≤ p → p < n → g p = f (tau i p)) (hd : f (i + 1) < f i) : iv f n = iv g n + 1 := by
  have h' : ∀ p : Int, 0 ≤ p → p < n → f p = g (tau i p) := fun p a b => by
    have := tau_b hi hn a b
    rw [h _ this.1 this.2, tau_tau]
  have k1 := iv_tau hi hn h
  have k2 := iv_tau hi hn h'
  have m : (i, i + 1) ∈ ivs f n := mem_ivs.mpr ⟨hi, by simp; omega, hn, hd⟩
  have nm : (i, i + 1) ∉ ivs g n := fun q => by
    obtain ⟨_, _, _, h4⟩ := mem_ivs.mp q
    have e1 : tau i i = i + 1 := by unfold tau; rw [if_pos rfl]
    have e2 : tau i (i + 1) = i := by unfold tau; rw [if_neg (by omega), if_pos rfl]
    have h4 : g (i + 1) < g i := h4
    rw [h _ (by omega) hn, h _ hi (by omega), e1, e2] at h4
    omega
  have p := List.length_pos_of_mem m
  rw [List.length_erase_of_mem m, List.erase_of_not_mem nm] at k1 k2
  unfold iv
  omega
theorem iv_mono (h : ∀ p q : Int, 0 ≤ p → p < q → q < n → f p ≤ f q) : iv f n = 0 := by
  unfold iv
  rw [List.length_eq_zero_iff]
  refine List.eq_nil_iff_forall_not_mem.mpr fun z hz => ?_
  obtain ⟨h1, h2, h3, h4⟩ := mem_ivs.mp hz
  have := h _ _ h1 h2 h3
  omega
theorem iv_inv (hf : ∀ p : Int, 0 ≤ p → p < n → 0 ≤ f p ∧ f p < n ∧ g (f p) = p) (hg : ∀ p : Int, 0 ≤ p → p < n → 0 ≤ g p ∧ g p < n ∧ f (g p) = p) : iv f n = iv g n := by
  have key : ∀ {f g : Int → Int}, (∀ p : Int, 0 ≤ p → p < n → 0 ≤ f p ∧ f p < n ∧ g (f p) = p) → (∀ p : Int, 0 ≤ p → p < n → 0 ≤ g p ∧ g p < n ∧ f (g p) = p) → iv f n ≤ iv g n := fun {f g} hf hg => by
    refine injLe (fun z => (f z.2, f z.1)) ivs_nd (fun z hz => ?_) fun x hx y hy e => ?_
    · obtain ⟨h1, h2, h3, h4⟩ := mem_ivs.mp hz
      have a1 := hf z.1 h1 (by omega)
      have a2 := hf z.2 (by omega) h3
      refine mem_ivs.mpr ⟨a2.1, h4, a1.2.1, ?_⟩
      show g (f z.1) < g (f z.2)
      omega
    · obtain ⟨x1, x2, x3, _⟩ := mem_ivs.mp hx
      obtain ⟨y1, y2, y3, _⟩ := mem_ivs.mp hy
      have e1 : f x.2 = f y.2 := congrArg Prod.fst e
      have e2 : f x.1 = f y.1 := congrArg Prod.snd e
      have a1 := (hf x.1 x1 (by omega)).2.2
      have a2 := (hf x.2 (by omega) x3).2.2
      have b1 := (hf y.1 y1 (by omega)).2.2
      have b2 := (hf y.2 (by omega) y3).2.2
      rw [e1] at a2
      rw [e2] at a1
      exact Prod.ext (by omega) (by omega)
  exact Nat.le_antisymm (key hf hg) (key hg hf)
theorem iv_le : iv f n ≤ n * n := by
  have : (ivs f n).length ≤ ((upI 0 n).flatMap fun p => (upI 0 n).map fun q => (p, q)).length := phpA _ _ ivs_nd fun z hz => by
    obtain ⟨h1, h2, h3, _⟩ := mem_ivs.mp hz
    exact List.mem_flatMap.mpr ⟨z.1, up_mem.mpr (by omega), List.mem_map.mpr ⟨z.2, up_mem.mpr (by omega), rfl⟩⟩
  rw [List.length_flatMap] at this
  simp only [List.length_map, upI_length] at this
  have e : ((upI 0 n).map fun _ => n).sum = n * n := by
    rw [List.map_const', List.sum_replicate_nat, upI_length]
  rw [e] at this
  exact this
end
end Pu

set_option Elab.async false
set_option linter.all false
set_option maxRecDepth 100000
set_option maxHeartbeats 2000000
/-! comprehensions of numbers with a test; scripts of moves -/
namespace Pu
open PySem PySem.Spec PyProof.Rows L2
section
variable {ρ : Rho}
theorem lcGo_f {v : Nat} {t : Rho → Re Bool} {f : Rho → Re PyData} {P : Int → Bool} {e : Int → PyData} : ∀ ms : List Int, (∀ q ∈ ms, t (ρ.set v (some (.int q))) = .ok (P q)) → (∀ q ∈ ms, P q = true → f (ρ.set v (some (.int q))) = .ok (e q)) →
    lcGo (gSlot v) t f ρ (ms.map PyData.int) = some ((ms.filter P).map e)
  | [], _, _ => rfl
  | q :: ms, ht, hf => by
    have ih := lcGo_f ms (fun x hx => ht x (List.mem_cons_of_mem _ hx)) fun x hx => hf x (List.mem_cons_of_mem _ hx)
    have h1 := ht q List.mem_cons_self
    show (match t (ρ.set v (some (.int q))) with
      | .ok true => (match f (ρ.set v (some (.int q))) with | .ok x => (match lcGo (gSlot v) t f ρ (ms.map PyData.int) with | some xs => some (x :: xs) | none => none) | _ => none)
      | .ok false => lcGo (gSlot v) t f ρ (ms.map PyData.int)
      | _ => none) = _
    rw [h1, ih, List.filter_cons]
    cases hp : P q with
    | true =>
      rw [hf q List.mem_cons_self hp]
      rfl
    | false => rfl
/-- [e(q) for q in numbers if P(q)] -/
theorem lc_f {its : Rho → Re (List PyData)} {v : Nat} {t : Rho → Re Bool} {f : Rho → Re PyData} {ms : List Int} {P : Int → Bool} {e : Int → PyData} (hi : its ρ = .ok (ms.map PyData.int)) (hl : ms.length ≤ 10000)
    (ht : ∀ q ∈ ms, t ((ρ.set v none).set v (some (.int q))) = .ok (P q)) (hf : ∀ q ∈ ms, P q = true → f ((ρ.set v none).set v (some (.int q))) = .ok (e q)) : rLc its [v] (gSlot v) t f ρ = .ok (.list ((ms.filter P).map e)) := by
  unfold rLc
  rw [hi, re_ok, if_pos (by rw [List.length_map]; exact decide_eq_true hl)]
  show (match lcGo (gSlot v) t f (ρ.set v none) (ms.map PyData.int) with | some xs => Re.ok (PyData.list xs) | none => .bad) = _
  rw [lcGo_f ms ht hf]
theorem lcGo2_f {u v : Nat} {t : Rho → Re Bool} {f : Rho → Re PyData} {its1 : Rho → Re (List PyData)} {P : Int → Int → Bool} {e : Int → Int → PyData} {ms : Int → List Int} : ∀ ns : List Int, (∀ p ∈ ns, its1 (ρ.set u (some (.int p))) = .ok ((ms p).map PyData.int)) →
    (∀ p ∈ ns, ∀ q ∈ ms p, t (((ρ.set u (some (.int p))).set v none).set v (some (.int q))) = .ok (P p q)) → (∀ p ∈ ns, ∀ q ∈ ms p, P p q = true → f (((ρ.set u (some (.int p))).set v none).set v (some (.int q))) = .ok (e p q)) →
    lcGo2 (gSlot u) yesR its1 [v] (gSlot v) t f ρ (ns.map PyData.int) = some (ns.flatMap fun p => ((ms p).filter (P p)).map (e p))
  | [], _, _, _ => rfl
  | p :: ns, hi, ht, hf => by
    have ih := lcGo2_f ns (fun x hx => hi x (List.mem_cons_of_mem _ hx)) (fun x hx => ht x (List.mem_cons_of_mem _ hx)) fun x hx => hf x (List.mem_cons_of_mem _ hx)
    show (match its1 (ρ.set u (some (.int p))) with
      | .ok es => (match lcGo (gSlot v) t f ((ρ.set u (some (.int p))).set v none) es with
        | some xs => (match lcGo2 (gSlot u) yesR its1 [v] (gSlot v) t f ρ (ns.map PyData.int) with | some ys => some (xs ++ ys) | none => none)
        | none => none)
      | _ => none) = _
    rw [hi p List.mem_cons_self]
    show (match lcGo (gSlot v) t f ((ρ.set u (some (.int p))).set v none) ((ms p).map PyData.int) with
        | some xs => (match lcGo2 (gSlot u) yesR its1 [v] (gSlot v) t f ρ (ns.map PyData.int) with | some ys => some (xs ++ ys) | none => none)
        | none => none) = _
    rw [lcGo_f (ms p) (ht p List.mem_cons_self) (hf p List.mem_cons_self), ih]
    rfl
end
/-! scripts -/
def runM (r : List Int) (ms : List Mv) : List Int := ms.foldl (fun r m => m.F r) r
section
variable {n : Nat} {a b r : List Int} {ms : List Mv}
theorem runM_app (r : List Int) (ms ks : List Mv) : runM r (ms ++ ks) = runM (runM r ms) ks := by
  unfold runM
  rw [List.foldl_append]
theorem mv_perm {m : Mv} (h : r.Perm (upI 1 n)) (ok : m.ok n) : (m.F r).Perm (upI 1 n) := by
  have hl : r.length = n := by rw [h.length_eq, upI_length]
  exact (m.perm ok hl (h.symm.nodup (up_nodup 1 n))).trans h
theorem runM_perm : ∀ {ms : List Mv} {r : List Int}, r.Perm (upI 1 n) → (∀ m ∈ ms, m.ok n) → (runM r ms).Perm (upI 1 n)
  | [], _, h, _ => h
  | m :: ms, r, h, ok => runM_perm (ms := ms) (mv_perm h (ok m List.mem_cons_self)) fun q hq => ok q (List.mem_cons_of_mem _ hq)
theorem Mv.lenF {m : Mv} {r : List Int} (h : m.ok n) (hr : r.length = n) : (m.F r).length = n := by
  cases m with
  | swap i j => exact (swZ_len _ _ _).trans hr
  | next i => exact (swZ_len _ _ _).trans hr
  | take i j => exact ((take_perm (by rw [hr]; exact h.1)).length_eq).trans hr
  | flip i j => exact ((flip_perm (by have := h.1; omega)).length_eq).trans hr
  | blocks i j k l =>
    obtain ⟨h1, h2, h3, h4⟩ := h
    exact ((blk_perm (by omega) h2 (by omega)).length_eq).trans hr
theorem runM_map (f : Int → Int) : ∀ {ms : List Mv} {r : List Int}, r.length = n → (∀ m ∈ ms, m.ok n) → runM (r.map f) ms = (runM r ms).map f
  | [], _, _, _ => rfl
  | m :: ms, r, h, ok => by
    have o := ok m List.mem_cons_self
    show runM (m.F (r.map f)) ms = (runM (m.F r) ms).map f
    rw [m.map f o h]
    exact runM_map f (ms := ms) (m.lenF o h) fun q hq => ok q (List.mem_cons_of_mem _ hq)
/-- what sorts the relative row leads from the first row to the second -/
theorem runM_sorts (T : Two n a b) (ok : ∀ m ∈ ms, m.ok n) (h : runM (relZ a b) ms = upI 1 n) : runM a ms = b := by
  have T' : Two n (runM a ms) b := ⟨runM_perm T.pa ok, T.pb⟩
  refine (rel_sorted T').mp ?_
  rw [← h]
  unfold relZ
  rw [runM_map _ T.la ok]
theorem mv_places {m : Mv} (h : m.ok n) : ∃ ps : List Int, m.D = mvR m.kind ps ∧ 1 ≤ ps.length ∧ ps.length ≤ 4 ∧ ∀ q ∈ ps, 0 ≤ q ∧ q ≤ n := by
  cases m with
  | swap i j =>
    obtain ⟨h1, h2⟩ := h
    exact ⟨[i, j], rfl, by simp, by simp, fun q hq => by
      simp at hq
      rcases hq with rfl | rfl <;> omega⟩
  | next i =>
    have h : i + 1 < n := h
    exact ⟨[i], rfl, by simp, by simp, fun q hq => by
      simp at hq
      subst hq
      omega⟩
  | take i j =>
    obtain ⟨h1, h2, _⟩ := h
    exact ⟨[i, j], rfl, by simp, by simp, fun q hq => by
      simp at hq
      rcases hq with rfl | rfl <;> omega⟩
  | flip i j =>
    obtain ⟨h1, h2⟩ := h
    exact ⟨[i, j], rfl, by simp, by simp, fun q hq => by
      simp at hq
      rcases hq with rfl | rfl <;> omega⟩
  | blocks i j k l =>
    obtain ⟨h1, h2, h3, h4⟩ := h
    exact ⟨[i, j, k, l], rfl, by simp, by simp, fun q hq => by
      simp at hq
      rcases hq with rfl | rfl | rfl | rfl <;> omega⟩
end
end Pu

set_option Elab.async false
set_option linter.all false
set_option maxRecDepth 100000
set_option maxHeartbeats 2000000
/-! neighbors exchanged, by the values of a row -/
namespace Pu
open PySem PySem.Spec PyProof.Rows L2
def valZ (r : List Int) (p : Int) : Int := (atZ r p).getD 0
section
variable {n : Nat} {a b r : List Int}
theorem val_at {p : Int} (hp : p ∈ upI 0 r.length) : atZ r p = some (valZ r p) := by
  obtain ⟨h1, h2⟩ := up_mem.mp hp
  obtain ⟨x, e1, _⟩ := atZ_p (ns := r) h1 (by omega)
  unfold valZ
  rw [e1]
  rfl
theorem at_tau {i p : Int} (hi : 0 ≤ i) (hn : i + 1 < r.length) (h0 : 0 ≤ p) (h1 : p < r.length) : atZ (swZ r i (i + 1)) p = atZ r (tau i p) := by
  rw [swZ_at (up_mem.mpr (by omega)) (up_mem.mpr (by omega)) (up_mem.mpr (by omega)) (by omega)]
  unfold tau
  by_cases c : p = i + 1
  · rw [if_pos c, if_neg (by omega), if_pos c]
  · rw [if_neg c]
    by_cases d : p = i
    · rw [if_pos d, if_pos d]
    · rw [if_neg d, if_neg d, if_neg c]
theorem val_tau {i p : Int} (hi : 0 ≤ i) (hn : i + 1 < r.length) (h0 : 0 ≤ p) (h1 : p < r.length) : valZ (swZ r i (i + 1)) p = valZ r (tau i p) := by
  unfold valZ
  rw [at_tau hi hn h0 h1]
theorem g_tau {i p : Int} (hi : 0 ≤ i) (hn : i + 1 < r.length) (h0 : 0 ≤ p) (h1 : p < r.length) : gZ (swZ r i (i + 1)) a p = gZ r a (tau i p) := by
  unfold gZ
  rw [at_tau hi hn h0 h1]
theorem rel_val (T : Two n a b) {p : Int} (h0 : 0 ≤ p) (h1 : p < n) : valZ (relZ a b) p = gZ a b p + 1 := by
  have la := T.la
  obtain ⟨x, e1, e2⟩ := atZ_p (ns := a) h0 (by omega)
  unfold valZ gZ relZ
  rw [atZ_map, e1]
  rfl
theorem iv_shift {f g : Int → Int} (h : ∀ p : Int, 0 ≤ p → p < n → f p = g p + 1) : iv f n = iv g n := by
  have e : iv f n = iv (fun p => g p + 1) n := iv_congr h
  rw [e]
  unfold iv ivs
  congr 2
  funext p
  congr 2
  funext q
  show decide (g q + 1 < g p + 1) = decide (g q < g p)
  exact decide_eq_decide.mpr ⟨fun h => by omega, fun h => by omega⟩
theorem iv_rel (T : Two n a b) : iv (valZ (relZ a b)) n = iv (gZ a b) n := iv_shift fun p h0 h1 => rel_val T h0 h1
theorem iv_back (T : Two n a b) : iv (gZ b a) n = iv (gZ a b) n := by
  have k : ∀ {a b : List Int}, Two n a b → ∀ p : Int, 0 ≤ p → p < n → 0 ≤ gZ a b p ∧ gZ a b p < n ∧ gZ b a (gZ a b p) = p := fun T p h0 h1 => by
    obtain ⟨x, _, _, h3, _⟩ := T.at (p := p) (up_mem.mpr (by omega))
    have := up_mem.mp h3
    exact ⟨by omega, by omega, T.inv p (up_mem.mpr (by omega))⟩
  exact iv_inv (k T.back) (k T)
theorem iv_self (h : r.Perm (upI 1 n)) : iv (gZ r r) n = 0 := by
  have T : Two n r r := ⟨h, h⟩
  refine iv_mono fun p q h0 h1 h2 => ?_
  have e : ∀ p : Int, 0 ≤ p → p < n → gZ r r p = p := fun p h0 h1 => by
    obtain ⟨x, a1, _, _, _⟩ := T.at (p := p) (up_mem.mpr (by omega))
    exact T.g_eq (up_mem.mpr (by omega)) (up_mem.mpr (by omega)) a1 a1
  rw [e p h0 (by omega), e q (by omega) h2]
  omega
theorem next_step (T : Two n a b) {i : Nat} (h : i + 1 < n) : Two n a ((Mv.next i).F b) ∧ iv (gZ a ((Mv.next i).F b)) n ≤ iv (gZ a b) n + 1 := by
  have T' : Two n a ((Mv.next i).F b) := ⟨T.pa, mv_perm T.pb h⟩
  refine ⟨T', ?_⟩
  rw [← iv_back T', ← iv_back T]
  have lb := T.lb
  exact iv_step (i := i) (by omega) (by omega) fun p h0 h1 => g_tau (by omega) (by omega) h0 (by omega)
/-- the first e numbers ascend -/
def asc (r : List Int) (e : Int) : Prop := ∀ i j : Int, 0 ≤ i → i < j → j < e → valZ r i < valZ r j
/-- .. but for that at p, which is less than those behind it -/
def hole (r : List Int) (p e : Int) : Prop := (∀ i j : Int, 0 ≤ i → i < j → j ≤ e → i ≠ p → j ≠ p → valZ r i < valZ r j) ∧ ∀ j : Int, p < j → j ≤ e → valZ r p < valZ r j
theorem hole_start {e : Int} (h : asc r e) : hole r e e := ⟨fun i j h0 h1 h2 _ h4 => h i j h0 h1 (by omega), fun j h1 h2 => by omega⟩
theorem hole_end {p e : Int} (hp : 0 ≤ p) (h : hole r p e) (hd : p = 0 ∨ valZ r (p - 1) < valZ r p) : asc r (e + 1) := fun i j h0 h1 h2 => by
  obtain ⟨k1, k2⟩ := h
  by_cases ei : i = p
  · subst ei
    exact k2 j h1 (by omega)
  · by_cases ej : j = p
    · subst ej
      rcases hd with hd | hd
      · omega
      · by_cases c : i = j - 1
        · subst c
          exact hd
        · have := k1 i (j - 1) h0 (by omega) (by omega) (by omega) (by omega)
          omega
    · exact k1 i j h0 h1 (by omega) ei ej
theorem hole_step {p e : Int} (hp : 0 < p) (he : p ≤ e) (hl : e < r.length) (h : hole r p e) (hd : valZ r p < valZ r (p - 1)) : hole (swZ r (p - 1) p) (p - 1) e := by
  obtain ⟨k1, k2⟩ := h
  have v : ∀ x : Int, 0 ≤ x → x < r.length → valZ (swZ r (p - 1) p) x = valZ r (tau (p - 1) x) := fun x h0 h1 => by
    have := val_tau (r := r) (i := p - 1) (p := x) (by omega) (by omega) h0 h1
    rwa [show p - 1 + 1 = p by omega] at this
  have t0 : tau (p - 1) (p - 1) = p := by
    unfold tau
    rw [if_pos rfl]
    omega
  have t1 : tau (p - 1) p = p - 1 := by
    unfold tau
    rw [if_neg (by omega), if_pos (by omega)]
  have t2 : ∀ x : Int, x ≠ p - 1 → x ≠ p → tau (p - 1) x = x := fun x a b => by
    unfold tau
    rw [if_neg a, if_neg (by omega)]
  refine ⟨fun i j h0 h1 h2 h3 h4 => ?_, fun j h1 h2 => ?_⟩
  · rw [v i h0 (by omega), v j (by omega) (by omega)]
    by_cases ei : i = p
    · subst ei
      rw [t1, t2 j (by omega) (by omega)]
      exact k1 _ _ (by omega) (by omega) h2 (by omega) (by omega)
    · rw [t2 i h3 ei]
      by_cases ej : j = p
      · subst ej
        rw [t1]
        exact k1 _ _ h0 (by omega) (by omega) (by omega) (by omega)
      · rw [t2 j h4 ej]
        exact k1 _ _ h0 h1 h2 ei ej
  · rw [v (p - 1) (by omega) (by omega), v j (by omega) (by omega), t0]
    by_cases ej : j = p
    · subst ej
      rw [t1]
      exact hd
    · rw [t2 j (by omega) ej]
      exact k2 j (by omega) h2
theorem asc_sorted (h : r.Perm (upI 1 n)) (ha : asc r n) : r = upI 1 n ∧ iv (valZ r) n = 0 := by
  have hl : r.length = n := by rw [h.length_eq, upI_length]
  constructor
  · have e1 := srtZ_uniq h (List.pairwise_iff_getElem.mpr fun i j hi hj hij => by
      have := ha (i : Int) (j : Int) (by omega) (by omega) (by omega)
      unfold valZ at this
      rw [atZ_nat hi, atZ_nat hj, List.getElem?_eq_getElem hi, List.getElem?_eq_getElem hj] at this
      exact Int.le_of_lt this)
    have e2 := srtZ_uniq (.refl (upI 1 n)) (by
      unfold upI
      refine List.pairwise_map.mpr ?_
      exact List.pairwise_lt_range.imp fun h => by omega)
    rw [e1, ← e2]
  · exact iv_mono fun p q h0 h1 h2 => Int.le_of_lt (ha p q h0 h1 h2)
end
theorem kind_swap {m : Mv} (h : m.kind = "swap") : ∃ i j : Nat, m = .swap i j := by
  cases m with
  | swap i j => exact ⟨i, j, rfl⟩
  | next i => exact absurd h (show ¬ (("next" : Str) = "swap") by decide)
  | take i j => exact absurd h (show ¬ (("take" : Str) = "swap") by decide)
  | flip i j => exact absurd h (show ¬ (("flip" : Str) = "swap") by decide)
  | blocks i j k l => exact absurd h (show ¬ (("blocks" : Str) = "swap") by decide)
theorem kind_next {m : Mv} (h : m.kind = "next") : ∃ i : Nat, m = .next i := by
  cases m with
  | swap i j => exact absurd h (show ¬ (("swap" : Str) = "next") by decide)
  | next i => exact ⟨i, rfl⟩
  | take i j => exact absurd h (show ¬ (("take" : Str) = "next") by decide)
  | flip i j => exact absurd h (show ¬ (("flip" : Str) = "next") by decide)
  | blocks i j k l => exact absurd h (show ¬ (("blocks" : Str) = "next") by decide)
theorem kind_take {m : Mv} (h : m.kind = "take") : ∃ i j : Nat, m = .take i j := by
  cases m with
  | swap i j => exact absurd h (show ¬ (("swap" : Str) = "take") by decide)
  | next i => exact absurd h (show ¬ (("next" : Str) = "take") by decide)
  | take i j => exact ⟨i, j, rfl⟩
  | flip i j => exact absurd h (show ¬ (("flip" : Str) = "take") by decide)
  | blocks i j k l => exact absurd h (show ¬ (("blocks" : Str) = "take") by decide)
theorem kind_flip {m : Mv} (h : m.kind = "flip") : ∃ i j : Nat, m = .flip i j := by
  cases m with
  | swap i j => exact absurd h (show ¬ (("swap" : Str) = "flip") by decide)
  | next i => exact absurd h (show ¬ (("next" : Str) = "flip") by decide)
  | take i j => exact absurd h (show ¬ (("take" : Str) = "flip") by decide)
  | flip i j => exact ⟨i, j, rfl⟩
  | blocks i j k l => exact absurd h (show ¬ (("blocks" : Str) = "flip") by decide)
theorem kind_blocks {m : Mv} (h : m.kind = "blocks") : ∃ i j k l : Nat, m = .blocks i j k l := by
  cases m with
  | swap i j => exact absurd h (show ¬ (("swap" : Str) = "blocks") by decide)
  | next i => exact absurd h (show ¬ (("next" : Str) = "blocks") by decide)
  | take i j => exact absurd h (show ¬ (("take" : Str) = "blocks") by decide)
  | flip i j => exact absurd h (show ¬ (("flip" : Str) = "blocks") by decide)
  | blocks i j k l => exact ⟨i, j, k, l, rfl⟩
theorem val_ne {n : Nat} {r : List Int} (h : r.Perm (upI 1 n)) {p q : Int} (hp : p ∈ upI 0 n) (hq : q ∈ upI 0 n) (ne : p ≠ q) : valZ r p ≠ valZ r q := fun e => by
  have hl : r.length = n := by rw [h.length_eq, upI_length]
  have e1 := val_at (r := r) (p := p) (by rw [hl]; exact hp)
  have e2 := val_at (r := r) (p := q) (by rw [hl]; exact hq)
  rw [e] at e1
  exact ne (atZ_inj (h.symm.nodup (up_nodup 1 n)) (by rw [hl]; exact hp) (by rw [hl]; exact hq) e1 e2)
end Pu

set_option Elab.async false
set_option linter.all false
set_option maxRecDepth 100000
set_option maxHeartbeats 2000000
/-! block rings: by pieces; the way back; an exchange of blocks changes their number by two at most -/
namespace Pu
open PySem PySem.Spec PyProof.Rows L2
/-! rings of functions that are alike -/
section
variable {f f' : Int → Int} {ks ks' : List Int}
theorem conj_it {φ : Int → Int} (P : Pm f ks) (h : ∀ x ∈ ks, φ (f x) = f' (φ x)) {s : Int} (hs : s ∈ ks) : ∀ m, φ (itZ f m s) = itZ f' m (φ s)
  | 0 => rfl
  | m + 1 => by
    show φ (f (itZ f m s)) = f' (itZ f' m (φ s))
    rw [h _ (P.it m hs), conj_it P h hs m]
theorem heads_conj_le {φ : Int → Int} (P : Pm f ks) (P' : Pm f' ks') (hm : ∀ x ∈ ks, φ x ∈ ks') (inj : ∀ x ∈ ks, ∀ y ∈ ks, φ x = φ y → x = y) (h : ∀ x ∈ ks, φ (f x) = f' (φ x)) : (heads f ks).length ≤ (heads f' ks').length := by
  refine injLe (fun s => mnZ (ringZ f' (φ s))) (heads_nd P) (fun s hs => ?_) fun s hs t ht e => ?_
  · have hk := hm s (mem_heads.mp hs).1
    obtain ⟨m1, _⟩ := mnZ_in (P'.ring_ne hk)
    exact mem_heads.mpr ⟨P'.ring_in hk m1, (P'.mn_ring hk m1).symm⟩
  · obtain ⟨s1, s2⟩ := mem_heads.mp hs
    obtain ⟨t1, t2⟩ := mem_heads.mp ht
    have hks := hm s s1
    have hkt := hm t t1
    obtain ⟨a1, _⟩ := mnZ_in (P'.ring_ne hks)
    obtain ⟨b1, _⟩ := mnZ_in (P'.ring_ne hkt)
    have e : mnZ (ringZ f' (φ s)) = mnZ (ringZ f' (φ t)) := e
    rw [← e] at b1
    have c1 := P'.ring_trans hks a1 (P'.ring_back hkt b1)
    obtain ⟨m, em⟩ := (P'.mem_ring hks).mp c1
    rw [← conj_it P h s1 m] at em
    have et := inj t t1 _ (P.it m s1) em
    have hr : t ∈ ringZ f s := (P.mem_ring s1).mpr ⟨m, et⟩
    rw [← s2, P.mn_ring s1 hr, t2]
theorem heads_conj {φ ψ : Int → Int} (P : Pm f ks) (P' : Pm f' ks') (hm : ∀ x ∈ ks, φ x ∈ ks') (hm' : ∀ y ∈ ks', ψ y ∈ ks) (i1 : ∀ x ∈ ks, ψ (φ x) = x) (i2 : ∀ y ∈ ks', φ (ψ y) = y) (h : ∀ x ∈ ks, φ (f x) = f' (φ x)) : (heads f ks).length = (heads f' ks').length := by
  refine Nat.le_antisymm (heads_conj_le P P' hm (fun x hx y hy e => ?_) h) (heads_conj_le (φ := ψ) P' P hm' (fun x hx y hy e => ?_) fun y hy => ?_)
  · rw [← i1 x hx, ← i1 y hy, e]
  · rw [← i2 x hx, ← i2 y hy, e]
  · have := h (ψ y) (hm' y hy)
    rw [i2 y hy] at this
    rw [← this, i1 _ (P.to _ (hm' y hy))]
/-- u and v exchanged -/
def sw2 (u v x : Int) : Int := if x = u then v else if x = v then u else x
theorem sw2_sw2 (u v x : Int) : sw2 u v (sw2 u v x) = x := by
  unfold sw2
  by_cases a : x = u
  · rw [if_pos a]
    by_cases b : v = u
    · rw [if_pos b, b, a]
    · rw [if_neg b, if_pos rfl, a]
  · rw [if_neg a]
    by_cases b : x = v
    · rw [if_pos b, if_pos rfl, b]
    · rw [if_neg b, if_neg a, if_neg b]
theorem sw2_mem {u v x : Int} (hu : u ∈ ks) (hv : v ∈ ks) (hx : x ∈ ks) : sw2 u v x ∈ ks := by
  unfold sw2
  split
  · exact hv
  · split
    · exact hu
    · exact hx
theorem Pm.sw (P : Pm f ks) {u v : Int} (hu : u ∈ ks) (hv : v ∈ ks) : Pm (fun x => sw2 u v (f x)) ks := by
  refine ⟨P.nd, fun x hx => sw2_mem hu hv (P.to x hx), fun x hx y hy e => ?_⟩
  have e' : sw2 u v (f x) = sw2 u v (f y) := e
  have := congrArg (sw2 u v) e'
  rw [sw2_sw2, sw2_sw2] at this
  exact P.inj x hx y hy this
theorem heads_sw (P : Pm f ks) {u v : Int} (hu : u ∈ ks) (hv : v ∈ ks) : (heads f ks).length ≤ (heads (fun x => sw2 u v (f x)) ks).length + 1 :=
  heads_swap P (P.sw hu hv) hu (j := v) fun x _ h1 h2 => by
    show sw2 u v (f x) = f x
    unfold sw2
    rw [if_neg h1, if_neg h2]
theorem heads_congr (P : Pm f ks) (P' : Pm f' ks) (h : ∀ x ∈ ks, f x = f' x) : (heads f ks).length = (heads f' ks).length :=
  heads_conj (φ := id) (ψ := id) P P' (fun _ h => h) (fun _ h => h) (fun _ _ => rfl) (fun _ _ => rfl) h
/-- x is taken out of its ring -/
theorem heads_split (P : Pm f ks) {x : Int} (hx : x ∈ ks) (ne : f x ≠ x) : (heads f ks).length + 1 ≤ (heads (fun y => sw2 (f x) x (f y)) ks).length := by
  have hfx := P.to x hx
  have P' := P.sw hfx hx
  have fix : (fun y => sw2 (f x) x (f y)) x = x := by
    show sw2 (f x) x (f x) = x
    unfold sw2
    rw [if_pos rfl]
  have near : ∀ z ∈ ks, sw2 (f x) x (f z) ∈ ringZ f z := fun z hz => by
    unfold sw2
    by_cases c : f z = f x
    · rw [if_pos c]
      have := P.inj z hz x hx c
      subst this
      exact P.ring_self hz
    · rw [if_neg c]
      by_cases d : f z = x
      · rw [if_pos d]
        refine (P.mem_ring hz).mpr ⟨2, ?_⟩
        show f x = f (f z)
        rw [d]
      · rw [if_neg d]
        exact (P.mem_ring hz).mpr ⟨1, rfl⟩
  have sub : ∀ z ∈ ks, ∀ w, w ∈ ringZ (fun y => sw2 (f x) x (f y)) z → w ∈ ringZ f z := fun z hz w hw => by
    obtain ⟨m, rfl⟩ := (P'.mem_ring hz).mp hw
    clear hw
    induction m with
    | zero => exact P.ring_self hz
    | succ m ih => exact P.ring_trans hz ih (near _ (P'.it m hz))
  have fixit : ∀ m, itZ (fun y => sw2 (f x) x (f y)) m x = x := fun m => by
    induction m with
    | zero => rfl
    | succ m ih =>
      show (fun y => sw2 (f x) x (f y)) (itZ (fun y => sw2 (f x) x (f y)) m x) = x
      rw [ih]
      exact fix
  have alone : ∀ w, w ∈ ringZ (fun y => sw2 (f x) x (f y)) x → w = x := fun w hw => by
    obtain ⟨m, rfl⟩ := (P'.mem_ring hx).mp hw
    exact fixit m
  have out : ∀ z ∈ ks, z ≠ x → x ∉ ringZ (fun y => sw2 (f x) x (f y)) z := fun z hz hne hm => hne (alone z (P'.ring_back hz hm))
  have hxh : x ∈ heads (fun y => sw2 (f x) x (f y)) ks := by
    obtain ⟨m1, _⟩ := mnZ_in (P'.ring_ne hx)
    exact mem_heads.mpr ⟨hx, alone _ m1⟩
  let e : Int → Int := fun s => if s = x then f x else s
  have he : ∀ s ∈ ks, e s ∈ ks ∧ e s ≠ x ∧ e s ∈ ringZ f s := fun s hs => by
    show (if s = x then f x else s) ∈ ks ∧ (if s = x then f x else s) ≠ x ∧ (if s = x then f x else s) ∈ ringZ f s
    by_cases c : s = x
    · rw [if_pos c]
      subst c
      exact ⟨hfx, ne, (P.mem_ring hs).mpr ⟨1, rfl⟩⟩
    · rw [if_neg c]
      exact ⟨hs, c, P.ring_self hs⟩
  have main : ((heads f ks).map fun s => mnZ (ringZ (fun y => sw2 (f x) x (f y)) (e s))).length ≤ ((heads (fun y => sw2 (f x) x (f y)) ks).erase x).length := by
    refine phpA _ _ ?_ fun w hw => ?_
    · refine List.pairwise_map.mpr ((heads_nd P).imp_of_mem fun {s t} hs ht hne q => hne ?_)
      obtain ⟨s1, s2⟩ := mem_heads.mp hs
      obtain ⟨t1, t2⟩ := mem_heads.mp ht
      obtain ⟨a1, a2, a3⟩ := he s s1
      obtain ⟨b1, b2, b3⟩ := he t t1
      obtain ⟨m1, _⟩ := mnZ_in (P'.ring_ne a1)
      obtain ⟨m2, _⟩ := mnZ_in (P'.ring_ne b1)
      have c1 := P.ring_trans s1 a3 (sub _ a1 _ m1)
      have c2 := P.ring_trans t1 b3 (sub _ b1 _ m2)
      rw [← q] at c2
      have c3 := P.ring_trans s1 c1 (P.ring_back t1 c2)
      rw [← s2, P.mn_ring s1 c3, t2]
    · obtain ⟨s, hs, rfl⟩ := List.mem_map.mp hw
      obtain ⟨s1, s2⟩ := mem_heads.mp hs
      obtain ⟨a1, a2, a3⟩ := he s s1
      obtain ⟨m1, _⟩ := mnZ_in (P'.ring_ne a1)
      refine (List.Nodup.mem_erase_iff (heads_nd P')).mpr ⟨fun q => out _ a1 a2 (by
        have m1' := m1
        rw [q] at m1'
        exact m1'), mem_heads.mpr ⟨P'.ring_in a1 m1, (P'.mn_ring a1 m1).symm⟩⟩
  rw [List.length_map, List.length_erase_of_mem hxh] at main
  have := List.length_pos_of_mem hxh
  omega
end
/-! rows with 0 ahead and n + 1 behind -/
def posZ (l : List Int) (y : Int) : Int := ((idxZ y l).getD 0 : Nat)
structure Fu (n : Nat) (l : List Int) : Prop where
  pm : l.Perm (upI 0 (n + 2))
  h0 : valZ l 0 = 0
  hN : valZ l ((n : Int) + 1) = (n : Int) + 1
section
variable {n : Nat} {l l' : List Int}
theorem Fu.len (h : Fu n l) : l.length = n + 2 := by rw [h.pm.length_eq, upI_length]
theorem Fu.nd (h : Fu n l) : l.Nodup := h.pm.symm.nodup (up_nodup 0 _)
theorem Fu.at (h : Fu n l) {p : Int} (h0 : 0 ≤ p) (h1 : p < n + 2) : atZ l p = some (valZ l p) := val_at (up_mem.mpr (by have := h.len; omega))
theorem Fu.val (h : Fu n l) {p : Int} (h0 : 0 ≤ p) (h1 : p < n + 2) : 0 ≤ valZ l p ∧ valZ l p < n + 2 := by
  have hl := h.len
  have e := h.at h0 h1
  have := up_mem.mp (h.pm.mem_iff.mp (atZ_mem (up_mem.mpr (by omega)) e))
  omega
theorem Fu.inj (h : Fu n l) {p q : Int} (h0 : 0 ≤ p) (h1 : p < n + 2) (h2 : 0 ≤ q) (h3 : q < n + 2) (e : valZ l p = valZ l q) : p = q := by
  have hl := h.len
  have e1 := h.at h0 h1
  have e2 := h.at h2 h3
  rw [e] at e1
  exact atZ_inj h.nd (up_mem.mpr (by omega)) (up_mem.mpr (by omega)) e1 e2
theorem Fu.pos (h : Fu n l) {y : Int} (h0 : 0 ≤ y) (h1 : y < n + 2) : 0 ≤ posZ l y ∧ posZ l y < n + 2 ∧ valZ l (posZ l y) = y := by
  have hl := h.len
  have hm : y ∈ l := h.pm.mem_iff.mpr (up_mem.mpr (by omega))
  obtain ⟨j, ej⟩ := idxZ_mem hm
  have gj := (idxZ_some ej).1
  have hj := getSome gj
  have e : posZ l y = (j : Int) := by
    unfold posZ
    rw [ej]
    rfl
  rw [e]
  refine ⟨by omega, by omega, ?_⟩
  unfold valZ
  rw [atZ_nat hj, gj]
  rfl
theorem Fu.pos_val (h : Fu n l) {p : Int} (h0 : 0 ≤ p) (h1 : p < n + 2) : posZ l (valZ l p) = p := by
  have v := h.val h0 h1
  obtain ⟨a, b, c⟩ := h.pos v.1 v.2
  exact h.inj a b h0 h1 c
theorem Fu.pos_of (h : Fu n l) {p y : Int} (h0 : 0 ≤ p) (h1 : p < n + 2) (e : valZ l p = y) : posZ l y = p := by
  rw [← e]
  exact h.pos_val h0 h1
/-- the piece left of the piece x + 1 -/
def hP (l : List Int) (x : Int) : Int := valZ l (posZ l (x + 1) - 1)
/-- .. by places -/
def hI (l : List Int) (k : Int) : Int := posZ l (valZ l (k - 1) + 1)
theorem Fu.pos1 (h : Fu n l) {x : Int} (h0 : 0 ≤ x) (h1 : x ≤ n) : 1 ≤ posZ l (x + 1) ∧ posZ l (x + 1) ≤ n + 1 ∧ valZ l (posZ l (x + 1)) = x + 1 := by
  obtain ⟨a, b, c⟩ := h.pos (y := x + 1) (by omega) (by omega)
  refine ⟨?_, by omega, c⟩
  by_cases z : posZ l (x + 1) = 0
  · rw [z, h.h0] at c
    omega
  · omega
theorem Fu.val1 (h : Fu n l) {p : Int} (h0 : 0 ≤ p) (h1 : p ≤ n) : 0 ≤ valZ l p ∧ valZ l p ≤ n := by
  have v := h.val h0 (show p < n + 2 by omega)
  refine ⟨v.1, ?_⟩
  by_cases z : valZ l p = (n : Int) + 1
  · have := h.inj h0 (show p < n + 2 by omega) (show 0 ≤ (n : Int) + 1 by omega) (by omega) (z.trans h.hN.symm)
    omega
  · omega
theorem Fu.pmP (h : Fu n l) : Pm (hP l) (upI 0 (n + 1)) := by
  refine ⟨up_nodup 0 _, fun x hx => ?_, fun x hx y hy e => ?_⟩
  · have hx := up_mem.mp hx
    obtain ⟨a, b, c⟩ := h.pos1 (x := x) (by omega) (by omega)
    have v := h.val1 (p := posZ l (x + 1) - 1) (by omega) (by omega)
    exact up_mem.mpr (by unfold hP; omega)
  · have hx := up_mem.mp hx
    have hy := up_mem.mp hy
    obtain ⟨a, b, c⟩ := h.pos1 (x := x) (by omega) (by omega)
    obtain ⟨a', b', c'⟩ := h.pos1 (x := y) (by omega) (by omega)
    have := h.inj (p := posZ l (x + 1) - 1) (q := posZ l (y + 1) - 1) (by omega) (by omega) (by omega) (by omega) e
    have e2 : posZ l (x + 1) = posZ l (y + 1) := by omega
    rw [e2] at c
    omega
theorem Fu.pmI (h : Fu n l) : Pm (hI l) (upI 1 (n + 1)) := by
  refine ⟨up_nodup 1 _, fun k hk => ?_, fun x hx y hy e => ?_⟩
  · have hk := up_mem.mp hk
    have v := h.val1 (p := k - 1) (by omega) (by omega)
    obtain ⟨a, b, c⟩ := h.pos1 (x := valZ l (k - 1)) v.1 v.2
    exact up_mem.mpr (by unfold hI; omega)
  · have hx := up_mem.mp hx
    have hy := up_mem.mp hy
    have v := h.val1 (p := x - 1) (by omega) (by omega)
    have w := h.val1 (p := y - 1) (by omega) (by omega)
    obtain ⟨_, _, c⟩ := h.pos1 (x := valZ l (x - 1)) v.1 v.2
    obtain ⟨_, _, c'⟩ := h.pos1 (x := valZ l (y - 1)) w.1 w.2
    have e : posZ l (valZ l (x - 1) + 1) = posZ l (valZ l (y - 1) + 1) := e
    rw [e] at c
    have := h.inj (p := x - 1) (q := y - 1) (by omega) (by omega) (by omega) (by omega) (by omega)
    omega
/-- how many block rings -/
noncomputable def cB (n : Nat) (l : List Int) : Nat := (heads (hP l) (upI 0 (n + 1))).length
theorem Fu.cI (h : Fu n l) : (heads (hI l) (upI 1 (n + 1))).length = cB n l := by
  refine heads_conj (φ := fun k => valZ l (k - 1)) (ψ := fun x => posZ l x + 1) h.pmI h.pmP (fun k hk => ?_) (fun x hx => ?_) (fun k hk => ?_) (fun x hx => ?_) fun k hk => ?_
  · have hk := up_mem.mp hk
    have v := h.val1 (p := k - 1) (by omega) (by omega)
    exact up_mem.mpr (by omega)
  · have hx := up_mem.mp hx
    obtain ⟨a, b, c⟩ := h.pos (y := x) (by omega) (by omega)
    have : posZ l x ≠ (n : Int) + 1 := fun z => by
      rw [z, h.hN] at c
      omega
    exact up_mem.mpr (by omega)
  · have hk := up_mem.mp hk
    have := h.pos_val (p := k - 1) (by omega) (by omega)
    show posZ l (valZ l (k - 1)) + 1 = k
    omega
  · have hx := up_mem.mp hx
    obtain ⟨a, b, c⟩ := h.pos (y := x) (by omega) (by omega)
    show valZ l (posZ l x + 1 - 1) = x
    rw [show posZ l x + 1 - 1 = posZ l x by omega]
    exact c
  · rfl
theorem cB_le (n : Nat) (l : List Int) : cB n l ≤ n + 1 := heads_le (hP l) (n + 1)
/-- the way back -/
theorem cB_back (h : Fu n l) (h' : Fu n l') (e : ∀ p : Int, 0 ≤ p → p < n + 2 → valZ l' p = posZ l p) : cB n l' = cB n l := by
  have e2 : ∀ y : Int, 0 ≤ y → y < n + 2 → posZ l' y = valZ l y := fun y h0 h1 => by
    have v := h.val h0 h1
    refine h'.pos_of v.1 v.2 ?_
    rw [e _ v.1 v.2, h.pos_val h0 h1]
  let k : Int → Int := fun x => valZ l (posZ l x + 1) - 1
  have pk : ∀ x ∈ upI 0 (n + 1), 0 ≤ posZ l x ∧ posZ l x ≤ n ∧ valZ l (posZ l x) = x := fun x hx => by
    have hx := up_mem.mp hx
    obtain ⟨a, b, c⟩ := h.pos (y := x) (by omega) (by omega)
    have : posZ l x ≠ (n : Int) + 1 := fun z => by
      rw [z, h.hN] at c
      omega
    exact ⟨a, by omega, c⟩
  have kv : ∀ x ∈ upI 0 (n + 1), 0 ≤ k x ∧ k x ≤ n := fun x hx => by
    obtain ⟨a, b, c⟩ := pk x hx
    have v := h.val (p := posZ l x + 1) (by omega) (by omega)
    have : valZ l (posZ l x + 1) ≠ 0 := fun z => by
      have := h.inj (p := posZ l x + 1) (q := 0) (by omega) (by omega) (by omega) (by omega) (z.trans h.h0.symm)
      omega
    show 0 ≤ valZ l (posZ l x + 1) - 1 ∧ valZ l (posZ l x + 1) - 1 ≤ n
    omega
  have Pk : Pm k (upI 0 (n + 1)) := by
    refine ⟨up_nodup 0 _, fun x hx => up_mem.mpr (by have := kv x hx; omega), fun x hx y hy q => ?_⟩
    obtain ⟨a, b, c⟩ := pk x hx
    obtain ⟨a', b', c'⟩ := pk y hy
    have q : valZ l (posZ l x + 1) - 1 = valZ l (posZ l y + 1) - 1 := q
    have := h.inj (p := posZ l x + 1) (q := posZ l y + 1) (by omega) (by omega) (by omega) (by omega) (by omega)
    have e3 : posZ l x = posZ l y := by omega
    rw [← c, ← c', e3]
  have inv : ∀ x ∈ upI 0 (n + 1), k (hP l x) = x := fun x hx => by
    have hx := up_mem.mp hx
    obtain ⟨a, b, c⟩ := h.pos1 (x := x) (by omega) (by omega)
    show valZ l (posZ l (valZ l (posZ l (x + 1) - 1)) + 1) - 1 = x
    rw [h.pos_val (by omega) (by omega), show posZ l (x + 1) - 1 + 1 = posZ l (x + 1) by omega, c]
    omega
  have h1 := heads_inv h.pmP Pk inv
  have h2 : (heads k (upI 0 (n + 1))).length = (heads (hP l') (upI 0 (n + 1))).length := by
    refine heads_conj (φ := posZ l) (ψ := valZ l) Pk h'.pmP (fun x hx => ?_) (fun x hx => ?_) (fun x hx => (pk x hx).2.2) (fun x hx => ?_) fun x hx => ?_
    · obtain ⟨a, b, _⟩ := pk x hx
      exact up_mem.mpr (by omega)
    · have hx := up_mem.mp hx
      have v := h.val1 (p := x) (by omega) (by omega)
      exact up_mem.mpr (by omega)
    · have hx := up_mem.mp hx
      exact h.pos_val (by omega) (by omega)
    · obtain ⟨a, b, c⟩ := pk x hx
      have kx := kv x hx
      show posZ l (k x) = valZ l' (posZ l' (posZ l x + 1) - 1)
      rw [e2 _ (by omega) (by omega), e _ (by show 0 ≤ k x; omega) (by show k x < (n : Int) + 2; omega)]
  unfold cB
  rw [← h2, h1]
theorem cB_sorted (h : Fu n (upI 0 (n + 2))) : cB n (upI 0 (n + 2)) = n + 1 := by
  have v : ∀ p : Int, 0 ≤ p → p < n + 2 → valZ (upI 0 (n + 2)) p = p := fun p h0 h1 => by
    obtain ⟨x, e1, e2⟩ := atZ_p (ns := upI 0 (n + 2)) h0 (by rw [upI_length]; omega)
    have := up_get e2
    unfold valZ
    rw [e1]
    show x = p
    omega
  unfold cB
  rw [heads_id h.pmP fun x hx => ?_, upI_length]
  have hx := up_mem.mp hx
  have p1 := h.pos_of (p := x + 1) (by omega) (by omega) (v _ (by omega) (by omega))
  unfold hP
  rw [p1, v _ (by omega) (by omega)]
  omega
end
end Pu

set_option Elab.async false
set_option linter.all false
set_option maxRecDepth 100000
set_option maxHeartbeats 2000000
/-! exchanges of blocks and the block rings -/
namespace Pu
open PySem PySem.Spec PyProof.Rows L2
def fullZ (r : List Int) : List Int := [0] ++ r ++ [(r.length : Int) + 1]
section
variable {n : Nat} {r a b l l' : List Int}
theorem full_len (r : List Int) : (fullZ r).length = r.length + 2 := by simp [fullZ]
theorem full_up (n : Nat) : upI 0 (n + 2) = [0] ++ upI 1 n ++ [(n : Int) + 1] := by
  refine List.ext_getElem? fun m => ?_
  by_cases c : m < n + 2
  · rw [show (upI 0 (n + 2))[m]? = some (m : Int) by unfold upI; rw [List.getElem?_map, List.getElem?_range c]; simp]
    cases m with
    | zero => rfl
    | succ m =>
      rw [List.append_assoc]
      show _ = (upI 1 n ++ [(n : Int) + 1])[m]?
      by_cases c2 : m < n
      · rw [List.getElem?_append_left (by rw [upI_length]; exact c2)]
        unfold upI
        rw [List.getElem?_map, List.getElem?_range c2]
        simp
        omega
      · have : m = n := by omega
        subst this
        rw [List.getElem?_append_right (by rw [upI_length]; exact Nat.le_refl _), upI_length, Nat.sub_self]
        simp
  · rw [List.getElem?_eq_none (by rw [upI_length]; omega), List.getElem?_eq_none (by rw [List.length_append, List.length_append, upI_length]; simp; omega)]
theorem full_val {p : Int} (h0 : 0 ≤ p) (h1 : p < r.length) : valZ (fullZ r) (p + 1) = valZ r p := by
  obtain ⟨k, rfl⟩ := Int.eq_ofNat_of_zero_le h0
  have hk : k < r.length := by omega
  unfold valZ
  rw [show ((k : Int) + 1) = ((k + 1 : Nat) : Int) by omega, atZ_nat (by rw [full_len]; omega), atZ_nat hk]
  unfold fullZ
  rw [List.append_assoc, List.singleton_append, List.getElem?_cons_succ, List.getElem?_append_left hk]
theorem full_fu (h : r.Perm (upI 1 n)) : Fu n (fullZ r) := by
  have hl : r.length = n := by rw [h.length_eq, upI_length]
  refine ⟨?_, by simp [valZ, fullZ], ?_⟩
  · rw [full_up]
    unfold fullZ
    rw [hl]
    exact (h.append_left [0]).append_right _
  · unfold valZ
    rw [show ((n : Int) + 1) = ((n + 1 : Nat) : Int) by omega, atZ_nat (by rw [full_len]; omega)]
    unfold fullZ
    rw [List.getElem?_append_right (by simp; omega)]
    simp [hl]
theorem full_sorted (n : Nat) : fullZ (upI 1 n) = upI 0 (n + 2) := by
  rw [full_up]
  unfold fullZ
  rw [upI_length]
/-- where a place of the new row came from -/
def piB (I J K L m : Int) : Int := if m < I then m else if m < I + (L - K) then m - I + K else if m < I + (L - J) then m - (I + (L - K)) + J else if m < L then m - (I + (L - J)) + I else m
theorem blk_val {i j k m' : Nat} (h1 : i ≤ j) (h2 : j ≤ k) (h3 : k ≤ m') (h4 : m' ≤ r.length) {m : Int} (h0 : 0 ≤ m) (hm : m < r.length) : valZ (blkZ r i j k m') m = valZ r (piB i j k m' m) := by
  obtain ⟨x, rfl⟩ := Int.eq_ofNat_of_zero_le h0
  have hx : x < r.length := by omega
  have hlen : (blkZ r i j k m').length = r.length := (blk_perm h1 h2 h3).length_eq
  have key : (blkZ r i j k m')[x]? = r[(piB i j k m' x).toNat]? ∧ 0 ≤ piB i j k m' x ∧ piB i j k m' x < r.length := by
    have la : (r.take i).length = i := by rw [List.length_take]; omega
    have lb : ((r.take m').drop k).length = m' - k := by rw [List.length_drop, List.length_take]; omega
    have lc : ((r.take k).drop j).length = k - j := by rw [List.length_drop, List.length_take]; omega
    have ld : ((r.take j).drop i).length = j - i := by rw [List.length_drop, List.length_take]; omega
    unfold blkZ piB
    by_cases c1 : x < i
    · rw [if_pos (by omega), List.append_assoc, List.append_assoc, List.append_assoc, List.getElem?_append_left (by omega), List.getElem?_take, if_pos c1]
      exact ⟨by congr 1, by omega, by omega⟩
    · rw [if_neg (by omega)]
      by_cases c2 : x < i + (m' - k)
      · rw [if_pos (by omega), List.append_assoc, List.append_assoc, List.append_assoc, List.getElem?_append_right (by omega), la, List.getElem?_append_left (by omega), List.getElem?_drop, List.getElem?_take, if_pos (by omega)]
        exact ⟨by congr 1; omega, by omega, by omega⟩
      · rw [if_neg (by omega)]
        by_cases c3 : x < i + (m' - j)
        · rw [if_pos (by omega), List.append_assoc, List.append_assoc, List.append_assoc, List.getElem?_append_right (by omega), la, List.getElem?_append_right (by omega), lb, List.getElem?_append_left (by omega), List.getElem?_drop, List.getElem?_take, if_pos (by omega)]
          exact ⟨by congr 1; omega, by omega, by omega⟩
        · rw [if_neg (by omega)]
          by_cases c4 : x < m'
          · rw [if_pos (by omega), List.append_assoc, List.append_assoc, List.append_assoc, List.getElem?_append_right (by omega), la, List.getElem?_append_right (by omega), lb, List.getElem?_append_right (by omega), lc, List.getElem?_append_left (by omega), List.getElem?_drop, List.getElem?_take, if_pos (by omega)]
            exact ⟨by congr 1; omega, by omega, by omega⟩
          · rw [if_neg (by omega), List.append_assoc, List.append_assoc, List.append_assoc, List.getElem?_append_right (by omega), la, List.getElem?_append_right (by omega), lb, List.getElem?_append_right (by omega), lc, List.getElem?_append_right (by omega), ld, List.getElem?_drop]
            exact ⟨by congr 1; omega, by omega, by omega⟩
  obtain ⟨e, p0, p1⟩ := key
  obtain ⟨y, hy⟩ := Int.eq_ofNat_of_zero_le p0
  have hy2 : y < r.length := by omega
  unfold valZ
  rw [atZ_nat (show x < (blkZ r i j k m').length by omega), e, hy, atZ_nat hy2]
  rfl
theorem full_blk {i j k m' : Nat} (h1 : i ≤ j) (h2 : j ≤ k) (h3 : k ≤ m') (h4 : m' ≤ r.length) : fullZ (blkZ r i j k m') = blkZ (fullZ r) (i + 1) (j + 1) (k + 1) (m' + 1) := by
  have hl : (blkZ r i j k m').length = r.length := (blk_perm h1 h2 h3).length_eq
  have t : ∀ x : Nat, x ≤ r.length → (fullZ r).take (x + 1) = 0 :: r.take x := fun x hx => by
    unfold fullZ
    rw [List.append_assoc, List.singleton_append, List.take_succ_cons, List.take_append_of_le_length hx]
  have d : (fullZ r).drop (m' + 1) = r.drop m' ++ [(r.length : Int) + 1] := by
    unfold fullZ
    rw [List.append_assoc, List.singleton_append, List.drop_succ_cons, List.drop_append_of_le_length h4]
  have e : fullZ (blkZ r i j k m') = [0] ++ blkZ r i j k m' ++ [(r.length : Int) + 1] := by
    unfold fullZ
    rw [hl]
  rw [e]
  unfold blkZ
  rw [t i (by omega), t j (by omega), t k (by omega), t m' h4, d]
  simp
theorem sw2_l (u v : Int) : sw2 u v u = v := if_pos rfl
theorem sw2_r (u v : Int) : sw2 u v v = u := by
  unfold sw2
  by_cases c : v = u
  · rw [if_pos c, c]
  · rw [if_neg c, if_pos rfl]
theorem sw2_n {u v x : Int} (h1 : x ≠ u) (h2 : x ≠ v) : sw2 u v x = x := by
  unfold sw2
  rw [if_neg h1, if_neg h2]
theorem sw2_comm (u v x : Int) : sw2 u v x = sw2 v u x := by
  by_cases a : x = u
  · subst a
    rw [sw2_l, sw2_r]
  · by_cases b : x = v
    · subst b
      rw [sw2_l, sw2_r]
    · rw [sw2_n a b, sw2_n b a]
/-- what the exchange does to the left neighbors -/
theorem hP_blk (h : Fu n l) (h' : Fu n l') {I J K L : Int} (i1 : 1 ≤ I) (ij : I < J) (jk : J ≤ K) (kl : K < L) (ln : L ≤ n + 1) (e : ∀ m : Int, 0 ≤ m → m < n + 2 → valZ l' m = valZ l (piB I J K L m)) {x : Int} (x0 : 0 ≤ x) (xn : x ≤ n) :
    hP l' x = sw2 (valZ l (J - 1)) (valZ l (L - 1)) (sw2 (valZ l (I - 1)) (valZ l (K - 1)) (hP l x)) := by
  obtain ⟨m1, m2, m3⟩ := h'.pos1 x0 xn
  unfold hP
  generalize posZ l' (x + 1) = m at m1 m2 m3
  have ne : ∀ p q : Int, 0 ≤ p → p < n + 2 → 0 ≤ q → q < n + 2 → p ≠ q → valZ l p ≠ valZ l q := fun p q a b c d ne e => ne (h.inj a b c d e)
  have em := e m (by omega) (by omega)
  have em1 := e (m - 1) (by omega) (by omega)
  have pb : 0 ≤ piB I J K L m ∧ piB I J K L m < n + 2 := by
    unfold piB
    split
    · omega
    · split
      · omega
      · split
        · omega
        · split <;> omega
  have ep : posZ l (x + 1) = piB I J K L m := h.pos_of pb.1 pb.2 (em.symm.trans m3)
  rw [em1, ep]
  by_cases c1 : m = I
  · have p1 : piB I J K L m = K := by
      unfold piB
      rw [if_neg (by omega), if_pos (by omega)]
      omega
    have p2 : piB I J K L (m - 1) = I - 1 := by
      unfold piB
      rw [if_pos (by omega)]
      omega
    rw [p1, p2, sw2_r, sw2_n (ne _ _ (by omega) (by omega) (by omega) (by omega) (by omega)) (ne _ _ (by omega) (by omega) (by omega) (by omega) (by omega))]
  · by_cases c2 : m = I + (L - J)
    · have p1 : piB I J K L m = I := by
        unfold piB
        rw [if_neg (by omega), if_neg (by omega), if_neg (by omega), if_pos (by omega)]
        omega
      rw [p1, sw2_l]
      by_cases jk2 : J = K
      · have p2 : piB I J K L (m - 1) = L - 1 := by
          unfold piB
          rw [if_neg (by omega), if_pos (by omega)]
          omega
        rw [p2, ← jk2, sw2_l]
      · have p2 : piB I J K L (m - 1) = K - 1 := by
          unfold piB
          rw [if_neg (by omega), if_neg (by omega), if_pos (by omega)]
          omega
        rw [p2, sw2_n (ne _ _ (by omega) (by omega) (by omega) (by omega) (by omega)) (ne _ _ (by omega) (by omega) (by omega) (by omega) (by omega))]
    · by_cases c3 : m = I + (L - K)
      · have p1 : piB I J K L m = J := by
          unfold piB
          rw [if_neg (by omega), if_neg (by omega), if_pos (by omega)]
          omega
        have p2 : piB I J K L (m - 1) = L - 1 := by
          unfold piB
          rw [if_neg (by omega), if_pos (by omega)]
          omega
        rw [p1, p2, sw2_n (u := valZ l (I - 1)) (ne _ _ (by omega) (by omega) (by omega) (by omega) (by omega)) (ne _ _ (by omega) (by omega) (by omega) (by omega) (by omega)), sw2_l]
      · by_cases c4 : m = L
        · have p1 : piB I J K L m = L := by
            unfold piB
            rw [if_neg (by omega), if_neg (by omega), if_neg (by omega), if_neg (by omega)]
            omega
          have p2 : piB I J K L (m - 1) = J - 1 := by
            unfold piB
            rw [if_neg (by omega), if_neg (by omega), if_neg (by omega), if_pos (by omega)]
            omega
          rw [p1, p2, sw2_n (u := valZ l (I - 1)) (ne _ _ (by omega) (by omega) (by omega) (by omega) (by omega)) (ne _ _ (by omega) (by omega) (by omega) (by omega) (by omega)), sw2_r]
        · have p1 : piB I J K L (m - 1) = piB I J K L m - 1 ∧ piB I J K L m ≠ I ∧ piB I J K L m ≠ J ∧ piB I J K L m ≠ K ∧ piB I J K L m ≠ L ∧ 1 ≤ piB I J K L m := by
            unfold piB
            by_cases d1 : m < I
            · rw [if_pos (show m - 1 < I by omega), if_pos d1]
              omega
            · rw [if_neg (show ¬ m - 1 < I by omega), if_neg d1]
              by_cases d2 : m < I + (L - K)
              · rw [if_pos (show m - 1 < I + (L - K) by omega), if_pos d2]
                omega
              · rw [if_neg (show ¬ m - 1 < I + (L - K) by omega), if_neg d2]
                by_cases d3 : m < I + (L - J)
                · rw [if_pos (show m - 1 < I + (L - J) by omega), if_pos d3]
                  omega
                · rw [if_neg (show ¬ m - 1 < I + (L - J) by omega), if_neg d3]
                  by_cases d4 : m < L
                  · rw [if_pos (show m - 1 < L by omega), if_pos d4]
                    omega
                  · rw [if_neg (show ¬ m - 1 < L by omega), if_neg d4]
                    omega
          obtain ⟨p1, n1, n2, n3, n4, n5⟩ := p1
          rw [p1, sw2_n (u := valZ l (I - 1)) (ne _ _ (by omega) (by omega) (by omega) (by omega) (by omega)) (ne _ _ (by omega) (by omega) (by omega) (by omega) (by omega)),
            sw2_n (ne _ _ (by omega) (by omega) (by omega) (by omega) (by omega)) (ne _ _ (by omega) (by omega) (by omega) (by omega) (by omega))]
theorem Fu.vm (h : Fu n l) {p : Int} (h0 : 0 ≤ p) (h1 : p ≤ n) : valZ l p ∈ upI 0 (n + 1) := by
  have := h.val1 h0 h1
  exact up_mem.mpr (by omega)
/-- an exchange of blocks takes two rings at most -/
theorem cB_blk (h : Fu n l) (h' : Fu n l') {I J K L : Int} (i1 : 1 ≤ I) (ij : I < J) (jk : J ≤ K) (kl : K < L) (ln : L ≤ n + 1) (e : ∀ m : Int, 0 ≤ m → m < n + 2 → valZ l' m = valZ l (piB I J K L m)) : cB n l ≤ cB n l' + 2 := by
  have P1 := h.pmP.sw (h.vm (p := I - 1) (by omega) (by omega)) (h.vm (p := K - 1) (by omega) (by omega))
  have c1 := heads_sw h.pmP (h.vm (p := I - 1) (by omega) (by omega)) (h.vm (p := K - 1) (by omega) (by omega))
  have c2 := heads_sw P1 (h.vm (p := J - 1) (by omega) (by omega)) (h.vm (p := L - 1) (by omega) (by omega))
  have c3 := heads_congr h'.pmP (P1.sw (h.vm (p := J - 1) (by omega) (by omega)) (h.vm (p := L - 1) (by omega) (by omega))) fun x hx => by
    have := up_mem.mp hx
    exact hP_blk h h' i1 ij jk kl ln e (by omega) (by omega)
  unfold cB
  omega
theorem heads_sw' {f : Int → Int} {ks : List Int} (P : Pm f ks) {u v : Int} (hu : u ∈ ks) (hv : v ∈ ks) : (heads (fun x => sw2 u v (f x)) ks).length ≤ (heads f ks).length + 1 := by
  have c1 := heads_sw (P.sw hu hv) hu hv
  have c2 := heads_congr ((P.sw hu hv).sw hu hv) P fun x _ => sw2_sw2 u v (f x)
  omega
/-- .. or gives two at most -/
theorem cB_up (h : Fu n l) (h' : Fu n l') {I J K L : Int} (i1 : 1 ≤ I) (ij : I < J) (jk : J ≤ K) (kl : K < L) (ln : L ≤ n + 1) (e : ∀ m : Int, 0 ≤ m → m < n + 2 → valZ l' m = valZ l (piB I J K L m)) : cB n l' ≤ cB n l + 2 := by
  have P1 := h.pmP.sw (h.vm (p := I - 1) (by omega) (by omega)) (h.vm (p := K - 1) (by omega) (by omega))
  have c1 := heads_sw' h.pmP (h.vm (p := I - 1) (by omega) (by omega)) (h.vm (p := K - 1) (by omega) (by omega))
  have c2 := heads_sw' P1 (h.vm (p := J - 1) (by omega) (by omega)) (h.vm (p := L - 1) (by omega) (by omega))
  have c3 := heads_congr h'.pmP (P1.sw (h.vm (p := J - 1) (by omega) (by omega)) (h.vm (p := L - 1) (by omega) (by omega))) fun x hx => by
    have := up_mem.mp hx
    exact hP_blk h h' i1 ij jk kl ln e (by omega) (by omega)
  unfold cB
  omega
/-- .. or gives two, the piece behind I - 1 and that behind J - 1 being brought to them -/
theorem cB_best (h : Fu n l) (h' : Fu n l') {I J K L : Int} (i1 : 1 ≤ I) (ij : I < J) (jk : J ≤ K) (kl : K < L) (ln : L ≤ n + 1) (e : ∀ m : Int, 0 ≤ m → m < n + 2 → valZ l' m = valZ l (piB I J K L m))
    (eK : valZ l K = valZ l (I - 1) + 1) (eL : valZ l L = valZ l (J - 1) + 1) : cB n l + 2 ≤ cB n l' := by
  have ne : ∀ p q : Int, 0 ≤ p → p < n + 2 → 0 ≤ q → q < n + 2 → p ≠ q → valZ l p ≠ valZ l q := fun p q a b c d ne e => ne (h.inj a b c d e)
  have mi := h.vm (p := I - 1) (by omega) (by omega)
  have mj := h.vm (p := J - 1) (by omega) (by omega)
  have mk := h.vm (p := K - 1) (by omega) (by omega)
  have ml := h.vm (p := L - 1) (by omega) (by omega)
  have f0 : hP l (valZ l (I - 1)) = valZ l (K - 1) := by
    unfold hP
    rw [← eK, h.pos_val (by omega) (by omega)]
  have g0 : hP l (valZ l (J - 1)) = valZ l (L - 1) := by
    unfold hP
    rw [← eL, h.pos_val (by omega) (by omega)]
  have s1 := heads_split h.pmP mi (by rw [f0]; exact ne _ _ (by omega) (by omega) (by omega) (by omega) (by omega))
  rw [f0] at s1
  have P1 := h.pmP.sw mk mi
  have f1 : sw2 (valZ l (K - 1)) (valZ l (I - 1)) (hP l (valZ l (J - 1))) = valZ l (L - 1) := by
    rw [g0, sw2_n (ne _ _ (by omega) (by omega) (by omega) (by omega) (by omega)) (ne _ _ (by omega) (by omega) (by omega) (by omega) (by omega))]
  have s2 : (heads (fun y => sw2 (valZ l (K - 1)) (valZ l (I - 1)) (hP l y)) (upI 0 (n + 1))).length + 1 ≤ (heads (fun y => sw2 (valZ l (L - 1)) (valZ l (J - 1)) (sw2 (valZ l (K - 1)) (valZ l (I - 1)) (hP l y))) (upI 0 (n + 1))).length := by
    have q := heads_split P1 mj (by
      show sw2 (valZ l (K - 1)) (valZ l (I - 1)) (hP l (valZ l (J - 1))) ≠ valZ l (J - 1)
      rw [f1]
      exact ne _ _ (by omega) (by omega) (by omega) (by omega) (by omega))
    simp only [f1] at q
    exact q
  have c3 := heads_congr h'.pmP (P1.sw ml mj) fun x hx => by
    have := up_mem.mp hx
    show hP l' x = sw2 (valZ l (L - 1)) (valZ l (J - 1)) (sw2 (valZ l (K - 1)) (valZ l (I - 1)) (hP l x))
    rw [hP_blk h h' i1 ij jk kl ln e (by omega) (by omega), sw2_comm (valZ l (J - 1)), sw2_comm (valZ l (I - 1))]
  unfold cB
  omega
/-! rows -/
theorem blk_row (h : r.Perm (upI 1 n)) {i j k m' : Nat} (o : (Mv.blocks i j k m').ok n) : ∀ m : Int, 0 ≤ m → m < n + 2 → valZ (fullZ ((Mv.blocks i j k m').F r)) m = valZ (fullZ r) (piB ((i : Int) + 1) ((j : Int) + 1) ((k : Int) + 1) ((m' : Int) + 1) m) := fun m h0 h1 => by
  have hl : r.length = n := by rw [h.length_eq, upI_length]
  obtain ⟨o1, o2, o3, o4⟩ := o
  have e : fullZ ((Mv.blocks i j k m').F r) = blkZ (fullZ r) (i + 1) (j + 1) (k + 1) (m' + 1) := full_blk (by omega) o2 (by omega) (by omega)
  rw [e]
  exact blk_val (r := fullZ r) (i := i + 1) (j := j + 1) (k := k + 1) (m' := m' + 1) (by omega) (by omega) (by omega) (by rw [full_len]; omega) h0 (by rw [full_len]; omega)
theorem cB_row (h : r.Perm (upI 1 n)) {i j k m' : Nat} (o : (Mv.blocks i j k m').ok n) : cB n (fullZ r) ≤ cB n (fullZ ((Mv.blocks i j k m').F r)) + 2 := by
  have e := blk_row h o
  obtain ⟨o1, o2, o3, o4⟩ := o
  exact cB_blk (full_fu h) (full_fu (mv_perm h ⟨o1, o2, o3, o4⟩)) (I := (i : Int) + 1) (by omega) (by omega) (by omega) (by omega) (by omega) e
theorem cB_rel (T : Two n a b) : cB n (fullZ (relZ b a)) = cB n (fullZ (relZ a b)) := by
  have lr := rel_len T
  have lr' := rel_len T.back
  have F := full_fu (rel_perm T)
  have F' := full_fu (rel_perm T.back)
  refine cB_back F F' fun p h0 h1 => ?_
  by_cases c0 : p = 0
  · subst c0
    rw [F'.h0, F.pos_of (by omega) (by omega) F.h0]
  · by_cases c1 : p = (n : Int) + 1
    · subst c1
      rw [F'.hN, F.pos_of (by omega) (by omega) F.hN]
    · have hq : p - 1 ∈ upI 0 n := up_mem.mpr (by omega)
      obtain ⟨x, _, _, a3, _⟩ := T.back.at hq
      have g := up_mem.mp a3
      have e1 : valZ (fullZ (relZ b a)) p = gZ b a (p - 1) + 1 := by
        have := full_val (r := relZ b a) (p := p - 1) (by omega) (by omega)
        rw [show p - 1 + 1 = p by omega] at this
        rw [this, rel_val T.back (by omega) (by omega)]
      have e2 : valZ (fullZ (relZ a b)) (gZ b a (p - 1) + 1) = p := by
        rw [full_val (by omega) (by omega), rel_val T (by omega) (by omega), T.back.inv _ hq]
        omega
      rw [e1, F.pos_of (by omega) (by omega) e2]
/-- the least number of exchanges of blocks -/
noncomputable def lsB (n : Nat) (a b : List Int) : Nat := (n + 1 - cB n (fullZ (relZ a b))) / 2
theorem rel_F {m : Mv} (T : Two n a b) (o : m.ok n) : relZ (m.F b) a = m.F (relZ b a) := by
  unfold relZ
  rw [m.map _ o T.lb]
theorem lsB_step (T : Two n a b) {i j k m' : Nat} (o : (Mv.blocks i j k m').ok n) : Two n a ((Mv.blocks i j k m').F b) ∧ lsB n a ((Mv.blocks i j k m').F b) ≤ lsB n a b + 1 := by
  have T' : Two n a ((Mv.blocks i j k m').F b) := ⟨T.pa, mv_perm T.pb o⟩
  refine ⟨T', ?_⟩
  have c1 := cB_row (rel_perm T.back) o
  have e1 := cB_rel T
  have e2 := cB_rel T'
  rw [rel_F T o] at e2
  unfold lsB
  omega
theorem lsB_self (h : r.Perm (upI 1 n)) : lsB n r r = 0 := by
  have T : Two n r r := ⟨h, h⟩
  unfold lsB
  rw [(rel_sorted T).mpr rfl, full_sorted, cB_sorted (full_sorted n ▸ full_fu (.refl _))]
  omega
end
end Pu

set_option Elab.async false
set_option linter.all false
set_option maxRecDepth 100000
set_option maxHeartbeats 2000000
/-! for k in d, d a dict that is no own one -/
namespace Pu
open PySem PySem.Spec PyProof.Rows L2
section
variable {K : PySem.W.Frag} {H : Hp} {S : Addr → Prop} {d : Addr} {od : Obj} {ks : List Key} {xs : List V}
/-! what a lock changes -/
theorem tupD_lock {a : Addr} {ys : List V} (hd : H d = some (.dK (ks.zip xs))) (h : TupD K H a ys) : TupD K (upd H d (.frz od (.dK (ks.zip xs)))) a ys := by
  rcases h with ⟨o, h, hn⟩ | h
  · refine .inl ⟨o, ?_, hn⟩
    rw [upd_ne fun e => ?_]
    · exact h
    · rw [e, hd] at h
      cases h
  · exact .inr h
theorem fzL_lock {a : Addr} {ys : List V} (hd : H d = some (.dK (ks.zip xs))) (h : FzL K H a ys) : FzL K (upd H d (.frz od (.dK (ks.zip xs)))) a ys := by
  rcases h with ⟨o, h⟩ | h
  · refine .inl ⟨o, ?_⟩
    rw [upd_ne fun e => ?_]
    · exact h
    · rw [e, hd] at h
      cases h
  · exact .inr h
mutual
theorem Rp.lock (hd : H d = some (.dK (ks.zip xs))) : ∀ {e : PyData} {v : V}, Rp K H S v e → Rp K (upd H d (.frz od (.dK (ks.zip xs)))) S v e
  | _, _, .non => .non
  | _, _, .bl b => .bl b
  | _, _, .int i => .int i
  | _, _, .str x => .str x
  | _, _, .tup h1 h2 => .tup (tupD_lock hd h1) (RpA.lock hd h2)
  | _, _, .lst (a := a) h1 h2 h3 => .lst (by
      rw [upd_ne fun e => ?_]
      · exact h1
      · rw [e, hd] at h1
        cases h1) h2 (RpA.lock hd h3)
  | _, _, .scr h1 h3 => .scr (fzL_lock hd h1) (RpA.lock hd h3)
  | _, _, .dic (a := a) (ks := ks') (xs := xs') h1 h2 h3 h4 => by
      have r4 := RpA.lock hd h4
      by_cases e : a = d
      · have e2 : ks'.zip xs' = ks.zip xs := by
          rw [e, hd] at h1
          have := Option.some.inj h1
          exact (HO.dK.inj this).symm
        refine .dif (o := od) ?_ h3 r4
        rw [e, upd_same, e2]
      · exact .dic (by rw [upd_ne e]; exact h1) h2 h3 r4
  | _, _, .dit (a := a) h1 h2 h3 h4 => .dit (by
      rw [upd_ne fun e => ?_]
      · exact h1
      · rw [e, hd] at h1
        cases h1) h2 h3 (RpA.lock hd h4)
  | _, _, .dif (a := a) h1 h3 h4 => .dif (by
      rw [upd_ne fun e => ?_]
      · exact h1
      · rw [e, hd] at h1
        cases h1) h3 (RpA.lock hd h4)
theorem RpA.lock (hd : H d = some (.dK (ks.zip xs))) : ∀ {es : List PyData} {vs : List V}, RpA K H S vs es → RpA K (upd H d (.frz od (.dK (ks.zip xs)))) S vs es
  | _, _, .nil => .nil
  | _, _, .cons h1 h2 => .cons (Rp.lock hd h1) (RpA.lock hd h2)
end
theorem tupD_open {a : Addr} {ys : List V} (hd : H d = some (.frz od (.dK (ks.zip xs)))) (h : TupD K H a ys) : TupD K (upd H d (.dK (ks.zip xs))) a ys := by
  rcases h with ⟨o, h, hn⟩ | h
  · refine .inl ⟨o, ?_, hn⟩
    rw [upd_ne fun e => ?_]
    · exact h
    · rw [e, hd] at h
      cases h
  · exact .inr h
theorem fzL_open {a : Addr} {ys : List V} (hd : H d = some (.frz od (.dK (ks.zip xs)))) (h : FzL K H a ys) : FzL K (upd H d (.dK (ks.zip xs))) a ys := by
  rcases h with ⟨o, h⟩ | h
  · refine .inl ⟨o, ?_⟩
    rw [upd_ne fun e => ?_]
    · exact h
    · rw [e, hd] at h
      cases h
  · exact .inr h
mutual
theorem Rp.open (hd : H d = some (.frz od (.dK (ks.zip xs)))) (hS : S d) : ∀ {e : PyData} {v : V}, Rp K H S v e → Rp K (upd H d (.dK (ks.zip xs))) S v e
  | _, _, .non => .non
  | _, _, .bl b => .bl b
  | _, _, .int i => .int i
  | _, _, .str x => .str x
  | _, _, .tup h1 h2 => .tup (tupD_open hd h1) (RpA.open hd hS h2)
  | _, _, .lst (a := a) h1 h2 h3 => .lst (by
      rw [upd_ne fun e => ?_]
      · exact h1
      · rw [e, hd] at h1
        cases h1) h2 (RpA.open hd hS h3)
  | _, _, .scr h1 h3 => .scr (fzL_open hd h1) (RpA.open hd hS h3)
  | _, _, .dic (a := a) h1 h2 h3 h4 => .dic (by
      rw [upd_ne fun e => ?_]
      · exact h1
      · rw [e, hd] at h1
        cases h1) h2 h3 (RpA.open hd hS h4)
  | _, _, .dit (a := a) h1 h2 h3 h4 => .dit (by
      rw [upd_ne fun e => ?_]
      · exact h1
      · rw [e, hd] at h1
        cases h1) h2 h3 (RpA.open hd hS h4)
  | _, _, .dif (a := a) (ks := ks') (xs := xs') h1 h3 h4 => by
      have r4 := RpA.open hd hS h4
      by_cases e : a = d
      · have e2 : ks'.zip xs' = ks.zip xs := by
          rw [e, hd] at h1
          have := Option.some.inj h1
          exact (HO.dK.inj (HO.frz.inj this).2).symm
        refine .dic ?_ (e ▸ hS) h3 r4
        rw [e, upd_same, e2]
      · exact .dif (by rw [upd_ne e]; exact h1) h3 r4
theorem RpA.open (hd : H d = some (.frz od (.dK (ks.zip xs)))) (hS : S d) : ∀ {es : List PyData} {vs : List V}, RpA K H S vs es → RpA K (upd H d (.dK (ks.zip xs))) S vs es
  | _, _, .nil => .nil
  | _, _, .cons h1 h2 => .cons (Rp.open hd hS h1) (RpA.open hd hS h2)
end
end
/-! the loop -/
section
variable {X : Cx} {M : Nat → Bool} {F : Fx} {E : L2.St → XK} {σ σ1 : L2.St} {ρ ρ1 : Rho} {H H' H1 : Hp} {D : Ends} {s : Rho → Sr} {d : Addr} {od : Obj} {ks : List Key} {xs : List V}
def canS2 (X : Cx) (M : Nat → Bool) (E : L2.St → XK) (s : Rho → Sr) : TS := fun D σ H => ∃ (F : Fx) (ρ : Rho), ER X.K M F σ H ρ ∧ WS X M F E σ H ρ (s ρ) D
theorem canS2_ok {body : List Stmt} (h : ∀ F, DSs X M F E body s) : PSs X body (canS2 X M E s) := ⟨fun pins st σ H D I ⟨F, ρ, er, w⟩ => by
  obtain ⟨t, pt, h⟩ := h F
  exact pt.run pins st σ H D I (h σ H ρ er D w)⟩
theorem ps_or {st : Stmt} {t u : TS} (h : PS X st t) (k : PS X st u) : PS X st fun D σ H => t D σ H ∨ u D σ H := ⟨fun pins s σ H D I w => w.elim (h.run pins s σ H D I) (k.run pins s σ H D I)⟩
def lockF (F : Fx) (d : Addr) (u : HO) : Fx := ⟨upd F.H0 d u, F.S0⟩
theorem ER.lock (er : ER X.K M F σ H ρ) (hd : H d = some (.dK (ks.zip xs))) (no : ¬ OwnA M σ ρ d) : ER X.K M (lockF F d (.frz od (.dK (ks.zip xs)))) σ (upd H d (.frz od (.dK (ks.zip xs)))) ρ := by
  refine ⟨er.len, fun a u q => ?_, fun a q => ?_, fun i e r m => ?_, fun i e r m => ?_, er.ap⟩
  · by_cases c : a = d
    · subst c
      have q : upd F.H0 a (.frz od (.dK (ks.zip xs))) a = some u := q
      rw [upd_same] at q
      rw [upd_same]
      exact q
    · have q : upd F.H0 d (.frz od (.dK (ks.zip xs))) a = some u := q
      rw [upd_ne c] at q ⊢
      exact er.old a u q
  · refine er.new a ?_
    by_cases c : a = d
    · subst c
      rw [upd_same] at q
      cases q
    · rwa [upd_ne c] at q
  · obtain ⟨v, hv, rp⟩ := er.im i e r m
    exact ⟨v, hv, Rp.lock hd rp⟩
  · obtain ⟨p, hp, z, w⟩ := er.ow i e r m
    have ne : p ≠ d := fun c => no ⟨i, e, m, r, c ▸ hp⟩
    refine ⟨p, hp, ⟨?_, z.2⟩, ?_⟩
    · show upd F.H0 d (.frz od (.dK (ks.zip xs))) p = none
      rw [upd_ne ne]
      exact z.1
    · cases w with
      | lst h0 r0 => exact .lst (by rw [upd_ne ne]; exact h0) (RpA.lock hd r0)
      | dic h0 l0 r0 => exact .dic (by rw [upd_ne ne]; exact h0) l0 (RpA.lock hd r0)
      | dit h0 l0 r0 => exact .dit ⟨(upd_ne ne).trans h0.1, (upd_ne fun c => by
          have h2 := h0.2
          rw [c, hd] at h2
          cases h2).trans h0.2⟩ l0 (RpA.lock hd r0)
theorem ER.open (er : ER X.K M (lockF F d (.frz od (.dK (ks.zip xs)))) σ H ρ) (hF : ∀ u, F.H0 d = some u → u = .dK (ks.zip xs)) (hd : H d = some (.frz od (.dK (ks.zip xs)))) (hS : F.S0 d) (no : ¬ OwnA M σ ρ d) : ER X.K M F σ (upd H d (.dK (ks.zip xs))) ρ := by
  have rs : RS M (lockF F d (.frz od (.dK (ks.zip xs)))) σ ρ false d := ⟨hS, fun _ => no⟩
  refine ⟨er.len, fun a u q => ?_, fun a q => ?_, fun i e r m => ?_, fun i e r m => ?_, er.ap⟩
  · by_cases c : a = d
    · subst c
      rw [upd_same, hF u q]
    · rw [upd_ne c]
      refine er.old a u ?_
      show upd F.H0 d (.frz od (.dK (ks.zip xs))) a = some u
      rw [upd_ne c]
      exact q
  · refine er.new a ?_
    by_cases c : a = d
    · subst c
      rw [upd_same] at q
      cases q
    · rwa [upd_ne c] at q
  · obtain ⟨v, hv, rp⟩ := er.im i e r m
    exact ⟨v, hv, Rp.open hd rs rp⟩
  · obtain ⟨p, hp, z, w⟩ := er.ow i e r m
    have ne : p ≠ d := fun c => no ⟨i, e, m, r, c ▸ hp⟩
    refine ⟨p, hp, ⟨?_, z.2⟩, ?_⟩
    · have z1 : upd F.H0 d (.frz od (.dK (ks.zip xs))) p = none := z.1
      rwa [upd_ne ne] at z1
    · cases w with
      | lst h0 r0 => exact .lst (by rw [upd_ne ne]; exact h0) (RpA.open hd rs r0)
      | dic h0 l0 r0 => exact .dic (by rw [upd_ne ne]; exact h0) l0 (RpA.open hd rs r0)
      | dit h0 l0 r0 => exact .dit ⟨(upd_ne ne).trans h0.1, (upd_ne fun c => by
          have h2 := h0.2
          rw [c, hd] at h2
          cases h2).trans h0.2⟩ l0 (RpA.open hd rs r0)
theorem forD_core {i : Nat} {ts : List Nat} {gg : PyData → Rho → Option Rho} (hH : H d = some (.frz od (.dK (ks.zip xs)))) (hl : ks.length = xs.length) (er : ER X.K M F σ H ρ) (hs : σ[i]? = some (some (.ref d)))
    (w : WS X M F E0s σ H ρ (sLoop gg s (ks.map kD) ρ) D) : tFor (iKeys (tVar i)) (canG X M ts gg) (canS2 X M E0s s) D σ H := by
  have no : ¬ OwnA M σ ρ d := fun o => by
    obtain ⟨j, e, m, r, q⟩ := o
    obtain ⟨p, hp, _, w⟩ := er.ow j e r m
    rw [q] at hp
    cases hp
    obtain ⟨u, hu, mu⟩ := w.there
    rw [hH] at hu
    cases hu
    exact mu
  have kl : (ks.map kD).length = ks.length := List.length_map ..
  have zl : (ks.zip xs).length = ks.length := by rw [List.length_zip]; omega
  refine ⟨.ref d, hs, d, od, rfl, .inl ⟨ks.zip xs, hH, ?_⟩⟩
  refine ⟨fun j m σ' H' => m = ks.length - j ∧ j ≤ ks.length ∧ ∃ ρ', ER X.K M F σ' H' ρ' ∧ Evo M σ H ρ σ' H' ρ' ∧ WS X M F E0s σ' H' ρ' (sLoop gg s ((ks.map kD).drop j) ρ') D, ⟨ks.length, by simp, Nat.zero_le _, ρ, er, Evo.refl, w⟩, ?_⟩
  rintro j m σ' H' ⟨rfl, hj, ρ', er', ev', w'⟩
  have hd' : H' d = some (.frz od (.dK (ks.zip xs))) := (ev' d _ hH no).1
  by_cases hlt : j < ks.length
  · refine .inr ⟨⟨hd', by omega⟩, fun σ2 H2 => ks.length - (j + 1) = ks.length - (j + 1) ∧ j + 1 ≤ ks.length ∧ ∃ ρ2, ER X.K M F σ2 H2 ρ2 ∧ Evo M σ H ρ σ2 H2 ρ2 ∧ WS X M F E0s σ2 H2 ρ2 (sLoop gg s ((ks.map kD).drop (j + 1)) ρ2) D, fun σ2 H2 x => ⟨ks.length - (j + 1), by omega, x⟩, fun x H2 y => ?_⟩
    obtain ⟨rfl, k, v, hk, rfl⟩ := y
    have hk2 : ks[j]? = some k := (List.getElem?_zip_eq_some.mp hk).1
    have hkd : (ks.map kD)[j]? = some (kD k) := by rw [List.getElem?_map, hk2]; rfl
    rw [drop_get hkd] at w'
    have w' : WS X M F E0s σ' H2 ρ' (match gg (kD k) ρ' with
      | none => .bad
      | some ρ1 => match s ρ1 with
        | .nx ρ2 => sLoop gg s ((ks.map kD).drop (j + 1)) ρ2
        | .ct ρ2 => sLoop gg s ((ks.map kD).drop (j + 1)) ρ2
        | .bk ρ2 => .nx ρ2
        | .rt d => .rt d
        | .ex c ρ2 => .ex c ρ2
        | .bad => .bad) D := w'
    cases q1 : gg (kD k) ρ' with
    | none =>
      rw [q1] at w'
      exact w'.elim
    | some ρ1 =>
      rw [q1] at w'
      have rx : Rp X.K H2 (RS M F σ' ρ' false) (kV k) (kD k) := by
        cases k with
        | inl z => exact .int z
        | inr z => exact .str z
      refine ⟨F, ρ', kD k, ρ1, er', rx, q1, fun σ3 er3 ev3 _ _ => ⟨F, ρ1, er3, ?_⟩⟩
      have w3 := ws_evo ev3 w'
      have w3 : WS X M F E0s σ3 H2 ρ1 (match s ρ1 with
        | .nx ρ2 => sLoop gg s ((ks.map kD).drop (j + 1)) ρ2
        | .ct ρ2 => sLoop gg s ((ks.map kD).drop (j + 1)) ρ2
        | .bk ρ2 => .nx ρ2
        | .rt d => .rt d
        | .ex c ρ2 => .ex c ρ2
        | .bad => .bad) D := w3
      have ev3' := ev'.trans ev3
      cases q2 : s ρ1 with
      | nx ρ2 =>
        rw [q2] at w3
        exact fun σ4 H4 er4 ev4 => ⟨rfl, hlt, ρ2, er4, ev3'.trans ev4, ws_evo ev4 w3⟩
      | ct ρ2 =>
        rw [q2] at w3
        exact fun σ4 H4 er4 ev4 => ⟨rfl, hlt, ρ2, er4, ev3'.trans ev4, ws_evo ev4 w3⟩
      | bk ρ2 =>
        rw [q2] at w3
        exact w3
      | rt d =>
        rw [q2] at w3
        exact w3
      | ex c ρ2 =>
        rw [q2] at w3
        exact w3
      | bad =>
        rw [q2] at w3
        exact w3
  · have e : j = ks.length := by omega
    subst e
    rw [← kl, List.drop_length] at w'
    exact .inl ⟨⟨hd', by omega⟩, w' σ' H' er' Evo.refl⟩
def noX : Sr → Sr
  | .ex _ _ => .bad
  | r => r
def sForD (i : Nat) (g : PyData → Rho → Option Rho) (s : Rho → Sr) : Rho → Sr := fun ρ => match ρ[i]? with
  | some (some dd) => (match kvsOf dd with
    | some kvs => noX (sLoop g s (kvs.map (·.1)) ρ)
    | none => .bad)
  | _ => .bad
theorem ws_noX {r : Sr} (w : WS X M F E σ H ρ (noX r) D) : WS X M F E0s σ H ρ r D := by
  cases r with
  | ex c ρ2 => exact w.elim
  | nx _ => exact w
  | rt _ => exact w
  | bk _ => exact w
  | ct _ => exact w
  | bad => exact w
theorem ds_forD {i : Nat} {x : Str} {tg : Expr} {p pos : Pos} {ts : List Nat} {body : List Stmt} {gg : PyData → Rho → Option Rho} (mi : M i = false) (hp : PassesOwn (model X.prog X.w) X.A X.env X.xe) (hc : X.calm = true) (hg : ∀ F, DG X M F tg ts gg) (hb : ∀ F, DSs X M F E0s body s)
    (hN : X.N[i]? = some x := by rfl) (hv : Vis X.env.scope x := by first | exact Or.inl rfl | exact Or.inr (Or.inl rfl) | exact Or.inr (Or.inr rfl)) (hd : (x == ("__debug__" : Str)) = false := by decide) (hcd : (x == ("__classdict__" : Str)) = false := by decide)
    (hs : ∀ v, foldedSetIterable (.Name x p) X.env v = pure v := by intro _; rfl) : DS X M F E (.For tg (.Name x p) body [] pos) (sForD i gg s) := by
  have ph := ps_for (pos := pos) hp hc (pi_keys (tg := tg) (pe_var (pos := p) hN hv hd hcd)) (canG_ok hg) (canS2_ok hb) hs
  refine ⟨_, ps_or (ps_lock ph) ph, fun σ H ρ er D w => ?_⟩
  unfold sForD at w
  cases q : ρ[i]? with
  | none =>
    rw [q] at w
    exact w.elim
  | some o =>
    rw [q] at w
    cases o with
    | none => exact w.elim
    | some dd =>
      have w : WS X M F E σ H ρ (match kvsOf dd with | some kvs => noX (sLoop gg s (kvs.map (·.1)) ρ) | none => .bad) D := w
      cases qk : kvsOf dd with
      | none =>
        rw [qk] at w
        exact w.elim
      | some kvs =>
        rw [qk] at w
        have w := ws_noX w
        obtain ⟨v, hv0, rv⟩ := er.im i dd q mi
        have fst : ∀ {ks : List Key} {xs : List V} {ds : List PyData}, ks.length = xs.length → RpA X.K H (RS M F σ ρ false) xs ds → ((ks.map kD).zip ds).map (·.1) = ks.map kD := fun l r => zip_fst _ _ (by rw [List.length_map, l, r.length])
        cases rv with
        | dic h1 h2 h3 h4 =>
          rename_i a ks xs ds
          cases qk
          rw [fst h3 h4] at w
          refine .inl ⟨a, _, h1, trivial, fun od => ?_⟩
          have no : ¬ OwnA M σ ρ a := h2.2 rfl
          have er1 := er.lock (od := od) h1 no
          have hF : ∀ u, F.H0 a = some u → u = .dK (ks.zip xs) := fun u hu => by
            have := er.old a u hu
            rw [h1] at this
            exact (Option.some.inj this).symm
          refine forD_core (F := lockF F a (.frz od (.dK (ks.zip xs)))) upd_same h3 er1 hv0 ?_
          have back : ∀ {ρ' : Rho} {σ' : L2.St} {H' : Hp}, ER X.K M (lockF F a (.frz od (.dK (ks.zip xs)))) σ' H' ρ' → Evo M σ (upd H a (.frz od (.dK (ks.zip xs)))) ρ σ' H' ρ' → H' a = some (.frz od (.dK (ks.zip xs))) ∧ ER X.K M F σ' (upd H' a (.dK (ks.zip xs))) ρ' ∧ Evo M σ H ρ σ' (upd H' a (.dK (ks.zip xs))) ρ' := fun {ρ' σ' H'} er' ev' => by
            obtain ⟨g1, g2⟩ := ev' a _ upd_same no
            refine ⟨g1, er'.open hF g1 h2.1 g2, fun b u hb nb => ?_⟩
            by_cases c : b = a
            · subst c
              rw [h1] at hb
              cases hb
              exact ⟨upd_same, g2⟩
            · obtain ⟨k1, k2⟩ := ev' b u (by rw [upd_ne c]; exact hb) nb
              exact ⟨by rw [upd_ne c]; exact k1, k2⟩
          generalize sLoop gg s (ks.map kD) ρ = r at w ⊢
          cases r with
          | nx ρ' =>
            refine fun σ' H' er' ev' => ?_
            obtain ⟨k1, k2, k3⟩ := back er' ev'
            exact ⟨k1, w σ' _ k2 k3⟩
          | rt e =>
            refine fun v' H' sm rp => ?_
            have g1 : H' a = some (.frz od (.dK (ks.zip xs))) := sm a _ (by show upd F.H0 a _ a = _; exact upd_same)
            refine ⟨g1, w v' _ (fun b u hb => ?_) (Rp.open g1 h2.1 rp)⟩
            by_cases c : b = a
            · subst c
              rw [upd_same, hF u hb]
            · rw [upd_ne c]
              exact sm b u (by show upd F.H0 a _ b = _; rw [upd_ne c]; exact hb)
          | bk ρ' =>
            refine fun σ' H' er' ev' => ?_
            obtain ⟨k1, k2, k3⟩ := back er' ev'
            exact ⟨k1, w σ' _ k2 k3⟩
          | ct ρ' =>
            refine fun σ' H' er' ev' => ?_
            obtain ⟨k1, k2, k3⟩ := back er' ev'
            exact ⟨k1, w σ' _ k2 k3⟩
          | ex c ρ' => exact fun C σ' H' m er' ev' => id (α := False) (w C σ' (upd H' a (.dK (ks.zip xs))) m (back er' ev').2.1 (back er' ev').2.2)
          | bad => exact w
        | dif h1 h3 h4 =>
          rename_i a od ks xs ds
          cases qk
          rw [fst h3 h4] at w
          exact .inr (forD_core h1 h3 er hv0 w)
        | scr _ _ => cases qk
        | dit _ _ _ _ => cases qk
        | bl _ => cases qk
        | non => cases qk
        | int _ => cases qk
        | str _ => cases qk
        | tup _ _ => cases qk
        | lst _ _ _ => cases qk
end
end Pu

set_option Elab.async false
set_option linter.all false
set_option maxRecDepth 100000
set_option maxHeartbeats 2000000
namespace Pu
open PySem PySem.Spec PyProof.Rows L2
theorem exMax {l : List Int} (h : l ≠ []) : ∃ g, g ∈ l ∧ ∀ y ∈ l, y ≤ g := by
  match l, h with
  | x :: xs, _ =>
    obtain ⟨h1, h2⟩ := maxZ_mem xs x
    exact ⟨maxZ x xs, h1, h2⟩
theorem best_pure {n : Nat} {r : List Int} (h : r.Perm (upI 1 n)) (hs : r ≠ upI 1 n) :
    ∃ i j k l : Nat, (Mv.blocks i j k l).ok n ∧ valZ (fullZ r) ((k : Int) + 1) = valZ (fullZ r) i + 1 ∧ valZ (fullZ r) ((l : Int) + 1) = valZ (fullZ r) j + 1 := by
  have hl : r.length = n := by rw [h.length_eq, upI_length]
  have F := full_fu h
  -- the row with n + 1 behind it
  let fz := r ++ [(n : Int) + 1]
  have efz : fullZ r = 0 :: fz := by
    show [0] ++ r ++ [(r.length : Int) + 1] = 0 :: (r ++ [(n : Int) + 1])
    rw [hl]
    rfl
  have lfz : fz.length = n + 1 := by
    show (r ++ [(n : Int) + 1]).length = n + 1
    simp [hl]
  have V : ∀ p : Nat, p ≤ n → fz[p]? = some (valZ (fullZ r) ((p : Int) + 1)) := fun p hp => by
    have := F.at (p := (p : Int) + 1) (by omega) (by omega)
    rw [show ((p : Int) + 1) = ((p + 1 : Nat) : Int) by omega, atZ_nat (by rw [F.len]; omega)] at this
    rw [efz] at this ⊢
    rw [List.getElem?_cons_succ] at this
    exact this
  have ix : ∀ y : Int, 1 ≤ y → y ≤ n + 1 → ∃ q : Nat, idxZ y fz = some q ∧ q ≤ n ∧ valZ (fullZ r) ((q : Int) + 1) = y := fun y h1 h2 => by
    have hm : y ∈ fullZ r := F.pm.mem_iff.mpr (up_mem.mpr (by omega))
    rw [efz] at hm
    obtain ⟨q, hq⟩ := idxZ_mem ((List.mem_cons.mp hm).resolve_left (by omega))
    have g := (idxZ_some hq).1
    have hq2 := getSome g
    rw [lfz] at hq2
    refine ⟨q, hq, by omega, ?_⟩
    have := V q (by omega)
    rw [g] at this
    exact (Option.some.inj this).symm
  have ne : ∀ p q : Int, 0 ≤ p → p < n + 2 → 0 ≤ q → q < n + 2 → valZ (fullZ r) p = valZ (fullZ r) q → p = q := fun p q a b c d e => F.inj a b c d e
  have rv : ∀ p : Int, 0 ≤ p → p < n → valZ r p = valZ (fullZ r) (p + 1) := fun p a b => (full_val a (by omega)).symm
  -- the first place that is not right
  let bad := (upI 0 n).filter fun p => decide (valZ r p ≠ p + 1)
  have bne : bad ≠ [] := fun e => by
    refine hs (List.ext_getElem? fun m => ?_)
    by_cases c : m < n
    · have : valZ r (m : Int) = (m : Int) + 1 := by
        have q : (m : Int) ∉ bad := by rw [e]; exact List.not_mem_nil
        by_cases z : valZ r (m : Int) = (m : Int) + 1
        · exact z
        · exact absurd (List.mem_filter.mpr ⟨up_mem.mpr (by omega), decide_eq_true z⟩) q
      have e1 := val_at (r := r) (p := (m : Int)) (up_mem.mpr (by omega))
      rw [atZ_nat (by omega), this] at e1
      rw [e1]
      unfold upI
      rw [List.getElem?_map, List.getElem?_range c]
      show some ((m : Int) + 1) = some (1 + (m : Int))
      rw [Int.add_comm]
    · rw [List.getElem?_eq_none (by omega), List.getElem?_eq_none (by rw [upI_length]; omega)]
  obtain ⟨im, imin⟩ := mnZ_in bne
  obtain ⟨i1, i2⟩ := List.mem_filter.mp im
  have i1 := up_mem.mp i1
  have i2 := of_decide_eq_true i2
  obtain ⟨i, ei⟩ := Int.eq_ofNat_of_zero_le i1.1
  rw [ei] at i1 i2
  have hi : i < n := by omega
  have first : ∀ p : Int, 0 ≤ p → p ≤ i → valZ (fullZ r) p = p := fun p h0 h1 => by
    by_cases z : p = 0
    · subst z
      exact F.h0
    · by_cases w : valZ r (p - 1) = p
      · rw [rv _ (by omega) (by omega), show p - 1 + 1 = p by omega] at w
        exact w
      · have := imin (p - 1) (List.mem_filter.mpr ⟨up_mem.mpr (by omega), decide_eq_true (by omega)⟩)
        omega
  rw [rv _ (by omega) (by omega)] at i2
  obtain ⟨k, ek, hk, vk⟩ := ix ((i : Int) + 1) (by omega) (by omega)
  have hik : i < k := by
    by_cases c : k < i
    · have := first ((k : Int) + 1) (by omega) (by omega)
      omega
    · by_cases d : k = i
      · subst d
        exact absurd vk i2
      · omega
  have hkn : k < n := by
    by_cases c : k = n
    · subst c
      rw [F.hN] at vk
      omega
    · omega
  -- the greatest between
  have cne : (fz.take k).drop i ≠ [] := fun e => by
    have := congrArg List.length e
    rw [List.length_drop, List.length_take] at this
    simp at this
    omega
  obtain ⟨g, gm, gmax⟩ := exMax cne
  have mem : ∀ y, y ∈ (fz.take k).drop i ↔ ∃ p : Nat, i ≤ p ∧ p < k ∧ y = valZ (fullZ r) ((p : Int) + 1) := fun y => by
    rw [List.mem_iff_getElem?]
    constructor
    · rintro ⟨m, hm⟩
      rw [List.getElem?_drop, List.getElem?_take] at hm
      by_cases c : i + m < k
      · rw [if_pos c, V _ (by omega)] at hm
        exact ⟨i + m, by omega, c, (Option.some.inj hm).symm⟩
      · rw [if_neg c] at hm
        cases hm
    · rintro ⟨p, h1, h2, rfl⟩
      refine ⟨p - i, ?_⟩
      rw [List.getElem?_drop, List.getElem?_take, if_pos (by omega), show i + (p - i) = p by omega]
      exact V p (by omega)
  obtain ⟨p, p1, p2, pg⟩ := (mem g).mp gm
  have gr := F.val (p := (p : Int) + 1) (by omega) (by omega)
  have g1 : (i : Int) + 2 ≤ g := by
    have a1 : ¬ g ≤ i := fun z => by
      have := first g (by omega) z
      rw [pg] at this
      have := ne _ _ (by omega) (by omega) (by omega) (by omega) this
      have := first g (by omega) z
      omega
    have a2 : g ≠ (i : Int) + 1 := fun z => by
      rw [pg, ← vk] at z
      have := ne _ _ (by omega) (by omega) (by omega) (by omega) z
      omega
    omega
  have g2 : g ≤ n := by
    by_cases z : g = (n : Int) + 1
    · rw [pg, ← F.hN] at z
      have := ne _ _ (by omega) (by omega) (by omega) (by omega) z
      omega
    · omega
  obtain ⟨j0, ej0, hj0, vj0⟩ := ix g (by omega) (by omega)
  have ej : j0 = p := by
    have := ne ((j0 : Int) + 1) ((p : Int) + 1) (by omega) (by omega) (by omega) (by omega) (by rw [vj0, ← pg])
    omega
  subst ej
  obtain ⟨l, el, hl', vl⟩ := ix (g + 1) (by omega) (by omega)
  have hkl : k < l := by
    by_cases c : l < i
    · have := first ((l : Int) + 1) (by omega) (by omega)
      omega
    · by_cases d : l < k
      · have := gmax _ ((mem _).mpr ⟨l, by omega, d, rfl⟩)
        omega
      · by_cases e : l = k
        · subst e
          omega
        · omega
  refine ⟨i, j0 + 1, k, l, ⟨by omega, by omega, hkl, hl'⟩, ?_, ?_⟩
  · rw [vk, first (i : Int) (by omega) (by omega)]
  · rw [vl, show ((j0 + 1 : Nat) : Int) = (j0 : Int) + 1 by omega, vj0]
theorem cB_even {n : Nat} : ∀ (d : Nat) (r : List Int), n + 1 ≤ cB n (fullZ r) + d → r.Perm (upI 1 n) → ∃ k, cB n (fullZ r) + 2 * k = n + 1 := by
  intro d
  induction d using Nat.strongRecOn with
  | _ d ih =>
    intro r hd hp
    by_cases c : r = upI 1 n
    · refine ⟨0, ?_⟩
      rw [c, full_sorted, cB_sorted (full_sorted n ▸ full_fu (.refl _))]
    · obtain ⟨i, j, k, l, o, v1, v2⟩ := best_pure hp c
      have F := full_fu hp
      have F' := full_fu (mv_perm hp o)
      have br := blk_row hp o
      obtain ⟨o1, o2, o3, o4⟩ := id o
      have up := cB_best F F' (I := (i : Int) + 1) (J := (j : Int) + 1) (K := (k : Int) + 1) (L := (l : Int) + 1) (by omega) (by omega) (by omega) (by omega) (by omega) br
        (by rw [v1, show (i : Int) + 1 - 1 = i by omega]) (by rw [v2, show (j : Int) + 1 - 1 = j by omega])
      have cle := cB_le n (fullZ ((Mv.blocks i j k l).F r))
      have same := cB_up F F' (I := (i : Int) + 1) (J := (j : Int) + 1) (K := (k : Int) + 1) (L := (l : Int) + 1) (by omega) (by omega) (by omega) (by omega) (by omega) br
      obtain ⟨m, hm⟩ := ih (n + 1 - cB n (fullZ ((Mv.blocks i j k l).F r))) (by omega) ((Mv.blocks i j k l).F r) (by omega) (mv_perm hp o)
      exact ⟨m + 1, by omega⟩
theorem lsB_two {n : Nat} {a b : List Int} (T : Two n a b) : 2 * lsB n a b + cB n (fullZ (relZ a b)) = n + 1 := by
  obtain ⟨k, hk⟩ := cB_even (n + 1) (relZ a b) (by omega) (rel_perm T)
  unfold lsB
  omega
/-! pairs in the wrong order by their second place -/
def ivs2 (f : Int → Int) (n : Nat) : List (Int × Int) := (upI 0 n).flatMap fun p => ((upI 0 p.toNat).filter fun q => decide (f p < f q)).map fun q => (q, p)
theorem mem_ivs2 {f : Int → Int} {n : Nat} {z : Int × Int} : z ∈ ivs2 f n ↔ 0 ≤ z.1 ∧ z.1 < z.2 ∧ z.2 < n ∧ f z.2 < f z.1 := by
  unfold ivs2
  rw [List.mem_flatMap]
  constructor
  · rintro ⟨p, hp, h⟩
    obtain ⟨q, hq, rfl⟩ := List.mem_map.mp h
    obtain ⟨h1, h2⟩ := List.mem_filter.mp hq
    have a := up_mem.mp hp
    have b := up_mem.mp h1
    have c := of_decide_eq_true h2
    exact ⟨b.1, by show q < p; omega, by show p < n; omega, c⟩
  · rintro ⟨h1, h2, h3, h4⟩
    refine ⟨z.2, up_mem.mpr (by omega), List.mem_map.mpr ⟨z.1, List.mem_filter.mpr ⟨up_mem.mpr (by omega), decide_eq_true h4⟩, rfl⟩⟩
theorem ivs2_nd {f : Int → Int} {n : Nat} : (ivs2 f n).Nodup := by
  unfold ivs2
  refine List.pairwise_flatMap.mpr ⟨fun p _ => ?_, ?_⟩
  · refine List.pairwise_map.mpr ?_
    refine ((up_nodup _ _).filter _).imp fun h e => h ?_
    exact congrArg Prod.fst e
  · refine (up_nodup 0 n).imp fun {a b} h x hx y hy e => h ?_
    obtain ⟨q, _, rfl⟩ := List.mem_map.mp hx
    obtain ⟨q', _, rfl⟩ := List.mem_map.mp hy
    exact congrArg Prod.snd e
theorem ivs2_len (f : Int → Int) (n : Nat) : (ivs2 f n).length = iv f n :=
  Nat.le_antisymm (phpA _ _ ivs2_nd fun z hz => mem_ivs.mpr (mem_ivs2.mp hz)) (phpA _ _ ivs_nd fun z hz => mem_ivs2.mpr (mem_ivs.mp hz))
theorem ivs2_succ (f : Int → Int) (n : Nat) : ivs2 f (n + 1) = ivs2 f n ++ ((upI 0 n).filter fun q => decide (f n < f q)).map fun q => (q, (n : Int)) := by
  have e : upI 0 (n + 1) = upI 0 n ++ [(n : Int)] := by
    unfold upI
    rw [List.range_succ, List.map_append]
    simp
  unfold ivs2
  rw [e, List.flatMap_append]
  simp
section
variable {ρ : Rho}
theorem inD_i (z : Int) : ∀ ns : List Int, inD (.int z) (ns.map PyData.int) = decide (z ∈ ns)
  | [] => rfl
  | n :: ns => by
    have ih := inD_i z ns
    unfold inD at ih ⊢
    rw [List.map_cons, List.any_cons, ih]
    have e : PyData.eqv (.int n) (.int z) = decide (n = z) := by
      unfold PyData.eqv
      rfl
    rw [e]
    by_cases c : n = z
    · subst c
      simp
    · have c2 : ¬ z = n := fun q => c q.symm
      simp [c, c2]
theorem flat_i : ∀ ns : List Int, (ns.map PyData.int).all flatD = true
  | [] => rfl
  | n :: ns => by
    rw [List.map_cons, List.all_cons, flat_i ns]
    rfl
@[simp] theorem oIn_li (z : Int) (ns : List Int) : oIn false (.int z) (lI ns) = some (.bool (decide (z ∈ ns))) := by
  show (if flatD (.int z) = true ∧ (ns.map PyData.int).all flatD = true then some (PyData.bool (inD (.int z) (ns.map PyData.int))) else none) = _
  rw [if_pos ⟨rfl, flat_i ns⟩, inD_i]
@[simp] theorem oNin_li (z : Int) (ns : List Int) : oIn true (.int z) (lI ns) = some (.bool (!decide (z ∈ ns))) := by
  show (if flatD (.int z) = true ∧ (ns.map PyData.int).all flatD = true then some (PyData.bool (!inD (.int z) (ns.map PyData.int))) else none) = _
  rw [if_pos ⟨rfl, flat_i ns⟩, inD_i]
@[simp] theorem oIn_ti (z : Int) (ns : List Int) : oIn false (.int z) (tI ns) = some (.bool (decide (z ∈ ns))) := by
  show (if flatD (.int z) = true ∧ (ns.map PyData.int).all flatD = true then some (PyData.bool (inD (.int z) (ns.map PyData.int))) else none) = _
  rw [if_pos ⟨rfl, flat_i ns⟩, inD_i]
@[simp] theorem oNin_ti (z : Int) (ns : List Int) : oIn true (.int z) (tI ns) = some (.bool (!decide (z ∈ ns))) := by
  show (if flatD (.int z) = true ∧ (ns.map PyData.int).all flatD = true then some (PyData.bool (!inD (.int z) (ns.map PyData.int))) else none) = _
  rw [if_pos ⟨rfl, flat_i ns⟩, inD_i]
def forDR (g : PyData → Rho → Option Rho) (s : Rho → Sr) (ρ : Rho) : Option (Option PyData) → Sr
  | some (some dd) => (match kvsOf dd with
    | some kvs => noX (sLoop g s (kvs.map (·.1)) ρ)
    | none => .bad)
  | _ => .bad
theorem ap_forD (i : Nat) (g : PyData → Rho → Option Rho) (s : Rho → Sr) : sForD i g s ρ = forDR g s ρ ρ[i]? := by
  unfold sForD forDR
  rfl
theorem forDR_f (g : PyData → Rho → Option Rho) (s : Rho → Sr) (ks : List Int) (f : Int → Int) : forDR g s ρ (some (some (fD ks f))) = noX (sLoop g s (ks.map PyData.int) ρ) := by
  show noX (sLoop g s ((ks.map fun k => (PyData.int k, PyData.int (f k))).map (·.1)) ρ) = _
  rw [List.map_map]
  rfl
end
end Pu

set_option Elab.async false
set_option linter.all false
set_option maxRecDepth 100000
set_option maxHeartbeats 2000000
/-! zip of two, tuples or lists -/
namespace ZG
open PySem PySem.Spec PyProof.Rows L2
def SqK (t : Bool) (K : PySem.W.Frag) (H : Hp) (a : Addr) (xs : List V) : Prop := match t with | true => SqT K H a xs | false => SqL K H a xs
def HK (t : Bool) (h : Heap) (a : Addr) (its : Array Value) : Prop := match t with | true => h.IsTuple a its | false => h.IsList a its
def StK (t : Bool) (h : Heap) (it a : Addr) (i : Nat) : Prop := match t with | true => h.IsTupleIter it a i | false => h.IsListIter it a i
def itO (t : Bool) (a : Addr) : Obj := match t with | true => { cls := .type "tuple_iterator", data := .fields #[.ref a, .int 0 0] } | false => { cls := .type "list_iterator", data := .fields #[.ref a, .int 0 0] }
theorem draws {prog : Program} {w : World} {A : Around} (t : Bool) (hh : A.handled = none) (it a : Addr) (hne : a ≠ it) (its : Array Value) :
    Draws prog w A it [it, a] its.size (fun i v => its[i]? = some v) (fun i h => StK t h it a i ∧ HK t h a its) := by
  cases t with
  | true => exact Draws.tuple hh it a hne its
  | false => exact Draws.list hh it a hne its
theorem begins (t : Bool) (a : Addr) (its : Array Value) : Begins (.ref a) (itO t a) fun h => HK t h a its := by
  cases t with
  | true => exact begins_tuple a its
  | false => exact begins_list a its
theorem st0 {t : Bool} {h : Heap} {it a : Addr} (e : h.get? it = some (itO t a)) : StK t h it a 0 := by
  cases t with
  | true => exact ⟨_, e, rfl, rfl⟩
  | false => exact ⟨_, e, rfl, rfl⟩
theorem st_at {t : Bool} {h h' : Heap} {it a : Addr} {i : Nat} (s : StK t h it a i) (k : ∀ o, h.get? it = some o → h'.get? it = some o) : StK t h' it a i := by
  cases t with
  | true => exact Heap.IsTupleIter.at s k
  | false => exact Heap.IsListIter.at s k
theorem st_obj {t : Bool} {h : Heap} {it a : Addr} {i : Nat} (s : StK t h it a i) : ∃ o, h.get? it = some o ∧ ∀ v, o.data ≠ .cell v := by
  cases t with
  | true =>
    obtain ⟨o, e, _, d⟩ := s
    exact ⟨o, e, fun v q => by rw [d] at q; cases q⟩
  | false =>
    obtain ⟨o, e, _, d⟩ := s
    exact ⟨o, e, fun v q => by rw [d] at q; cases q⟩
section
variable {X : Cx} {pins : List (Addr × Obj)} {σ : L2.St} {H : Hp} {s : Shared} {t : Bool} {a : Addr} {xs ys : List V}
theorem sqk (I : Inv X pins σ H s) (h : SqK t X.K H a xs) : ∃ its : List Value, Vals xs its ∧ HK t s.heap a its.toArray := by
  cases t with
  | true =>
    obtain ⟨its, rv, p, _⟩ := I.tuple h
    exact ⟨its, rv, p⟩
  | false =>
    obtain ⟨its, rv, p, _⟩ := I.list h
    exact ⟨its, rv, p.isList⟩
theorem sqk_inj (I : Inv X pins σ H s) (h : SqK t X.K H a xs) (h' : SqK t X.K H a ys) : xs = ys := by
  cases t with
  | true => exact I.tuple_inj h h'
  | false => exact I.list_inj h h'
end
/-- the two as they stand at each turn, the items in new pairs -/
def ItzG (K : PySem.W.Frag) (t1 t2 : Bool) (a b : Addr) : It :=
  ⟨fun i H => ∃ (xs ys : List V) (x y : V), SqK t1 K H a xs ∧ SqK t2 K H b ys ∧ xs[i]? = some x ∧ ys[i]? = some y,
    fun i H v H' => ∃ T o x y, v = .ref T ∧ H T = none ∧ o.dict = none ∧ H' = upd H T (.frz o (.tup [x, y])) ∧ (∀ xs, SqK t1 K H a xs → xs[i]? = some x) ∧ ∀ ys, SqK t2 K H b ys → ys[i]? = some y,
    fun i H => ∃ xs ys : List V, SqK t1 K H a xs ∧ SqK t2 K H b ys ∧ i ≤ xs.length ∧ i ≤ ys.length ∧ (i = xs.length ∨ i = ys.length)⟩
theorem sep {z TI TO i1 i2 a b : Addr} (D : ZipApart z TI TO i1 i2 a b) : ZipSep2 z TI TO i1 i2 [i1, a] [i2, b] where
  TIz := D.TIz
  TOz := D.TOz
  TITO := D.TITO
  TIi1 := D.TIi1
  mem1 := by simp
  zf1 := by
    intro h
    rcases List.mem_cons.mp h with e | h
    · exact D.i1z e.symm
    · exact D.l1z (List.mem_singleton.mp h).symm
  Tf1 := by
    intro h
    rcases List.mem_cons.mp h with e | h
    · exact D.TOi1 e
    · exact D.l1TO (List.mem_singleton.mp h).symm
  TIi2 := D.TIi2
  mem2 := by simp
  zf2 := by
    intro h
    rcases List.mem_cons.mp h with e | h
    · exact D.i2z e.symm
    · exact D.l2z (List.mem_singleton.mp h).symm
  Tf2 := by
    intro h
    rcases List.mem_cons.mp h with e | h
    · exact D.TOi2 e
    · exact D.l2TO (List.mem_singleton.mp h).symm
  sep1_2 := by
    intro h
    rcases List.mem_cons.mp h with e | h
    · exact D.i12 e
    · exact D.l2i1 (List.mem_singleton.mp h).symm
  sep2_1 := by
    intro h
    rcases List.mem_cons.mp h with e | h
    · exact D.i12 e.symm
    · exact D.l1i2 (List.mem_singleton.mp h).symm
theorem turn_zipG {P : Program} {w : World} {K : PySem.W.Frag} {elts : List Expr} {kk : Nat} {tpos : Pos} {t1 t2 : Bool} {a b z TI TO i1 i2 : Addr} (D : ZipApart z TI TO i1 i2 a b) :
    Turn P w K (.Tuple elts kk tpos) (ItzG K t1 t2 a b) [z, TI, TO, i1, i2] z (fun i h => IsZip h z TI TO .none ∧ IsPair h TI (.ref i1) (.ref i2) ∧ (∃ x y, IsPair h TO x y) ∧ StK t1 h i1 a i ∧ StK t2 h i2 b i) where
  mem := by simp
  obj := fun i h st c hc => by
    obtain ⟨hz, hTI, ⟨x, y, hTO⟩, s1, s2⟩ := st
    have e' : c = z ∨ c = TI ∨ c = TO ∨ c = i1 ∨ c = i2 := by simpa using hc
    rcases e' with q | q | q | q | q
    · rw [q]; exact ⟨_, hz, fun v q => nomatch q⟩
    · rw [q]; exact ⟨_, hTI, fun v q => nomatch q⟩
    · rw [q]; exact ⟨_, hTO, fun v q => nomatch q⟩
    · rw [q]; exact st_obj s1
    · rw [q]; exact st_obj s2
  keep := fun i h h' st k => by
    obtain ⟨hz, hTI, ⟨x, y, hTO⟩, h1, h2⟩ := st
    exact ⟨k z (by simp) _ hz, k TI (by simp) _ hTI, ⟨x, y, k TO (by simp) _ hTO⟩, st_at h1 fun o q => k i1 (by simp) o q, st_at h2 fun o q => k i2 (by simp) o q⟩
  item := by
    intro X hP hw hK hc i pins s σ H E I hf st hg
    subst hP hw hK
    obtain ⟨hz, hTI, ⟨x0, y0, hTO⟩, h1, h2⟩ := st
    obtain ⟨xs, ys, x, y, hqx, hqy, hx, hy⟩ := hg
    obtain ⟨its, rv, p⟩ := sqk I hqx
    obtain ⟨its2, rv2, p2⟩ := sqk I hqy
    obtain ⟨u, hu, ru⟩ := rv.get hx
    obtain ⟨u2, hu2, ru2⟩ := rv2.get hy
    have hzl : z < s.heap.objs.size := Heap.lt_size hz
    have hh : X.A.in1.handled = none := I.ok.hd hc
    have D1 := draws (prog := X.prog) (w := X.w) (A := X.A.in1) t1 hh i1 a D.l1i1 its.toArray
    have D2 := draws (prog := X.prog) (w := X.w) (A := X.A.in1) t2 hh i2 b D.l2i2 its2.toArray
    refine wpAny_pyNext_zipD2_item (sep D) D1 D2 hz hTI hTO (i := i) ⟨h1, p⟩ ⟨h2, p2⟩ (by have := (List.getElem?_eq_some_iff.mp hu).1; simpa using this) (by have := (List.getElem?_eq_some_iff.mp hu2).1; simpa using this) fun x1 x2 h' tk e1 e2 z' TO' q1 q2 hT hsz hk => ?_
    have eu : x1 = u := by
      have : its.toArray[i]? = some x1 := e1
      rw [List.getElem?_toArray, hu] at this
      exact (Option.some.inj this).symm
    have eu2 : x2 = u2 := by
      have : its2.toArray[i]? = some x2 := e2
      rw [List.getElem?_toArray, hu2] at this
      exact (Option.some.inj this).symm
    subst eu eu2
    refine ⟨_, rfl, wpAny_letOwnedTupleGo_zip (s := { s with heap := h', toks := tk }) z' fun h'' z'' sb => ?_⟩
    have hT2 : h''.get? s.heap.objs.size = some { cls := .type "tuple", data := .seq #[x1, x2] } := (sb.2 _ (Nat.ne_of_gt hzl)).trans hT
    have new : ObjOk X.prog X.w (upd H s.heap.objs.size (.frz { cls := .type "tuple", data := .seq #[x1, x2] } (.tup [x, y]))) h'' s.heap.objs.size (.frz { cls := .type "tuple", data := .seq #[x1, x2] } (.tup [x, y])) :=
      ⟨hT2, by show 2 ≤ sizeLine; decide, [x1, x2], .cons ru (.cons ru2 .nil), ⟨_, hT2, rfl, _, rfl⟩⟩
    have I1 : Inv X pins σ (upd H s.heap.objs.size (.frz { cls := .type "tuple", data := .seq #[x1, x2] } (.tup [x, y]))) { s with heap := h'', toks := tk } :=
      I.turnedNew (t' := tk) (ch := [z, TI, TO, i1, i2]) (fun c o hb q => (sb.2 c (fun q' => hb (by simp [q']))).trans (hk c o (fun q' => hb (by simp [q'])) (fun q' => hb (by simp [q'])) (fun q' => hb (by simp [q'])) (fun q' => hb (by simp [q'])) q)) hf (Nat.le_refl _) new
    refine ⟨.ref s.heap.objs.size, _, I1, rfl, ⟨_, _, x, y, rfl, I.hok.fresh (Nat.le_refl _), rfl, rfl, fun l hl => by rw [sqk_inj I hl hqx]; exact hx, fun l hl => by rw [sqk_inj I hl hqy]; exact hy⟩, ⟨z'', ?_, ⟨x1, x2, ?_⟩, ?_, ?_⟩, fun c hcm => ?_⟩
    · exact (sb.2 _ D.TIz).trans (hk _ _ D.TIz D.TITO D.TIi1 D.TIi2 hTI)
    · exact (sb.2 _ D.TOz).trans TO'
    · exact st_at q1.1 fun o q => (sb.2 _ D.i1z).trans q
    · exact st_at q2.1 fun o q => (sb.2 _ D.i2z).trans q
    · have hlt : c < s.heap.objs.size := by
        have e' : c = z ∨ c = TI ∨ c = TO ∨ c = i1 ∨ c = i2 := by simpa using hcm
        rcases e' with q | q | q | q | q
        · rw [q]; exact hzl
        · rw [q]; exact Heap.lt_size hTI
        · rw [q]; exact Heap.lt_size hTO
        · rw [q]; obtain ⟨_, e1, _⟩ := st_obj h1; exact Heap.lt_size e1
        · rw [q]; obtain ⟨_, e2, _⟩ := st_obj h2; exact Heap.lt_size e2
      rw [upd_ne (Nat.ne_of_lt hlt)]
      exact (hf c hcm).1
  done := by
    intro X hP hw hK hc i pins s σ H E I hf st hg
    subst hP hw hK
    obtain ⟨hz, hTI, ⟨x0, y0, hTO⟩, h1, h2⟩ := st
    obtain ⟨xs, ys, hqx, hqy, le1, le2, hend⟩ := hg
    obtain ⟨its, rv, p⟩ := sqk I hqx
    obtain ⟨its2, rv2, p2⟩ := sqk I hqy
    have l1 := rv.length
    have l2 := rv2.length
    have hh : X.A.in1.handled = none := I.ok.hd hc
    have D1 := draws (prog := X.prog) (w := X.w) (A := X.A.in1) t1 hh i1 a D.l1i1 its.toArray
    have D2 := draws (prog := X.prog) (w := X.w) (A := X.A.in1) t2 hh i2 b D.l2i2 its2.toArray
    refine wpAny_pyNext_zipD2_end (sep D) D1 D2 hz hTI hTO (i := i) ⟨h1, p⟩ ⟨h2, p2⟩ (by simp; omega) (by simp; omega) (by simp; omega) fun h' tk hk => ⟨rfl, ?_⟩
    exact I.turnedL (t' := tk) (ch := [z, TI, TO, i1, i2]) (fun c o hb q =>
      hk c o (fun q' => hb (by simp [q'])) (fun q' => hb (by simp [q'])) (fun q' => hb (by simp [q'])) (fun q' => hb (by simp [q'])) q) hf
  self := fun A i s Q E st h => wpAny_pyIter_zip st.1 h
def iZipG (K : PySem.W.Frag) (ta : TA) : TI := fun σ H R => ta σ H fun vs H1 => ∃ t1 t2 a b xs ys, vs = [.ref a, .ref b] ∧ SqK t1 K H1 a xs ∧ SqK t2 K H1 b ys ∧ R (ItzG K t1 t2 a b) H1
theorem hk_lt {t : Bool} {h : Heap} {a : Addr} {its : Array Value} (p : HK t h a its) : a < h.objs.size := by
  cases t with
  | true =>
    obtain ⟨_, e, _⟩ := p
    exact Heap.lt_size e
  | false =>
    obtain ⟨_, e, _⟩ := p
    exact Heap.lt_size e
theorem pi_zipG {X : Cx} {e e2 : Expr} {ta : TA} {p pos tpos : Pos} {elts : List Expr} {kk : Nat} (hg : Gl X "zip") (hm : X.mg "zip" = none) (ha : PA X [e, e2] ta)
    (hs : starEach [e, e2] X.env = (false, eval e X.env) :: starEach [e2] X.env := by rfl) (hpl : (backTo pos (starEach [e2] X.env)).any (·.1) = false := by rfl) :
    PI X (.Tuple elts kk tpos) (.Call (.Name "zip" p) [e, e2] [] pos) (iZipG X.K ta) := by
  refine ⟨fun pins s σ H R I h => ?_⟩
  refine Call_ (ld_blt I hg hm PyProof.Rows.boot_zip (PyProof.Rows.callWith_type1 (thn (ha.run pos pins s σ H _ I h) fun us s1 ⟨vs, H1, I1, r1, q1⟩ => ?_) hs hpl))
  obtain ⟨t1, t2, a, b, xs, ys, ex, hqx, hqy, q⟩ := q1
  subst ex
  cases r1 with
  | cons r rr =>
    cases rr with
    | cons r' rr =>
      cases rr
      cases r
      cases r'
      have fresh5 : ∀ c, c ∈ [s1.heap.objs.size + 4, s1.heap.objs.size + 2, s1.heap.objs.size + 3, s1.heap.objs.size, s1.heap.objs.size + 1] → FpOk X pins H1 c := fun c hcm => by
        have e' : c = s1.heap.objs.size + 4 ∨ c = s1.heap.objs.size + 2 ∨ c = s1.heap.objs.size + 3 ∨ c = s1.heap.objs.size ∨ c = s1.heap.objs.size + 1 := by simpa using hcm
        have hle : s1.heap.objs.size ≤ c := by
          rcases e' with z | z | z | z | z
          · rw [z]; exact Nat.le_add_right _ _
          · rw [z]; exact Nat.le_add_right _ _
          · rw [z]; exact Nat.le_add_right _ _
          · rw [z]; exact Nat.le_refl _
          · rw [z]; exact Nat.le_add_right _ _
        exact I1.fpOk hle (I1.hok.fresh hle)
      obtain ⟨its, rv, p1⟩ := sqk I1 hqx
      obtain ⟨its2, rv2, p2⟩ := sqk I1 hqy
      refine zip_begins2 (begins t1 a its.toArray) (begins t2 b its2.toArray) p1 p2 fun h' hz hTI hTO h1 h2 hsz hk => wpAny_pyIter_zip hz ?_
      have I2 : Inv X pins σ H1 { s1 with heap := h' } := I1.kept (t' := s1.toks) hk
      exact ⟨s1.heap.objs.size + 4, [s1.heap.objs.size + 4, s1.heap.objs.size + 2, s1.heap.objs.size + 3, s1.heap.objs.size, s1.heap.objs.size + 1], _, _, H1, rfl, I2, turn_zipG (zipApart_new (hk_lt p1) (hk_lt p2)), ⟨hz, hTI, ⟨_, _, hTO⟩, st0 h1, st0 h2⟩, fresh5, q⟩
end ZG
namespace Pu
open PySem PySem.Spec PyProof.Rows L2 ZG
section
variable {X : Cx} {M : Nat → Bool} {F : Fx} {E : L2.St → XK} {σ : L2.St} {ρ : Rho} {H H1 H2 : Hp} {S : Addr → Prop} {K : PySem.W.Frag}
def pairD (z : PyData × PyData) : PyData := .tuple [z.1, z.2]
def zipR (ds : List PyData) : Re (List PyData) := match ds with
  | [d, e] => (itS d).andThen fun xs => (itS e).andThen fun ys => .ok ((xs.zip ys).map pairD)
  | _ => .bad
/-- one of the two sides -/
def Sd (t : Bool) (K : PySem.W.Frag) (H : Hp) (S : Addr → Prop) (a : Addr) (vs : List V) : Prop := match t with | true => TupD K H a vs | false => H a = some (.lst vs) ∧ S a
theorem sd_keep {t : Bool} {a : Addr} {vs : List V} (s : Sd t K H1 S a vs) (kp : Kp (fun a => S a ∧ H1 a ≠ none) H1 H2) : SqK t K H2 a vs := by
  cases t with
  | true => exact (tupD_keep s fun u q m => kp a u q (.inr m)).sq
  | false =>
    obtain ⟨e, hS⟩ := s
    exact SqL.of (kp a _ e (.inl ⟨hS, by rw [e]; simp⟩))
theorem sd_sq {t : Bool} {a : Addr} {vs : List V} (s : Sd t K H1 S a vs) : SqK t K H1 a vs := by
  cases t with
  | true => exact s.sq
  | false => exact SqL.of s.1
theorem walk_z {t1 t2 : Bool} {a b : Addr} {vs us : List V} {xs ys : List PyData} (s1 : Sd t1 K H1 S a vs) (r1 : RpA K H1 S vs xs) (s2 : Sd t2 K H1 S b us) (r2 : RpA K H1 S us ys) : Walks K (fun a => S a ∧ H1 a ≠ none) (ItzG K t1 t2 a b) ((xs.zip ys).map pairD) H1 := fun H2 kp i => by
  have e1 := sd_keep s1 kp
  have e2 := sd_keep s2 kp
  have l1 := r1.length
  have l2 := r2.length
  refine ⟨fun d hd => ?_, fun hl => ⟨vs, us, e1, e2, ?_⟩⟩
  · rw [List.getElem?_map] at hd
    obtain ⟨⟨dx, dy⟩, hz, rfl⟩ := Option.map_eq_some_iff.mp hd
    obtain ⟨hx, hy⟩ := List.getElem?_zip_eq_some.mp hz
    obtain ⟨v, hv, rv⟩ := r1.thru.get' hx
    obtain ⟨u, hu, ru⟩ := r2.thru.get' hy
    refine ⟨⟨vs, us, v, u, e1, e2, hv, hu⟩, fun x H' y => ?_⟩
    obtain ⟨T, o, x', y', rfl, hT, hdn, rfl, q1, q2⟩ := y
    have g1 := q1 vs e1
    have g2 := q2 us e2
    rw [hv] at g1
    rw [hu] at g2
    cases g1
    cases g2
    have sn : Same H2 (upd H2 T (.frz o (.tup [v, u]))) := same_new hT
    exact ⟨sn, .tup (.inl ⟨o, upd_same, hdn⟩) (.cons ((rv.keep kp fun _ _ x _ => x).same sn) (.cons ((ru.keep kp fun _ _ x _ => x).same sn) .nil))⟩
  · rw [List.length_map, List.length_zip] at hl
    refine ⟨by omega, by omega, by omega⟩
theorem sd_of {a : V} {d : PyData} {xs : List PyData} (r : Rp K H S a d) (h : itS d = .ok xs) : ∃ t p vs, a = .ref p ∧ Sd t K H S p vs ∧ RpA K H S vs xs := by
  cases r with
  | tup h1 h2 =>
    cases h
    exact ⟨true, _, _, rfl, h1, h2⟩
  | lst h1 h2 h3 =>
    cases h
    exact ⟨false, _, _, rfl, ⟨h1, h2⟩, h3⟩
  | bl _ => cases h
  | non => cases h
  | int _ => cases h
  | str _ => cases h
  | scr _ _ => cases h
  | dic _ _ _ _ => cases h
  | dit _ _ _ _ => cases h
  | dif _ _ _ => cases h
def iZp (gs : Rho → Re (List PyData)) : Rho → Re (List PyData) := fun ρ => (gs ρ).andThen zipR
theorem di_zip {e e2 : Expr} {gs : Rho → Re (List PyData)} {p pos tpos : Pos} {elts : List Expr} {kk : Nat} (hg : Gl X "zip") (hm : X.mg "zip" = none) (h : DA X M F E false [e, e2] gs)
    (hs : starEach [e, e2] X.env = (false, eval e X.env) :: starEach [e2] X.env := by rfl) (hpl : (backTo pos (starEach [e2] X.env)).any (·.1) = false := by rfl) : DI X M F E (.Tuple elts kk tpos) (.Call (.Name "zip" p) [e, e2] [] pos) (iZp gs) := by
  obtain ⟨t, pa, h⟩ := h
  refine ⟨_, pi_zipG hg hm pa hs hpl, fun σ H ρ er R w => ?_⟩
  unfold iZp at w
  refine h σ H ρ er _ ?_
  cases q : gs ρ with
  | ex c =>
    rw [q] at w
    exact w
  | bad =>
    rw [q] at w
    exact w
  | ok ds =>
    rw [q] at w
    refine fun vs H1 sm r => ?_
    have w : WI X M F E σ ρ H (zipR ds) R := w
    match ds, r, w with
    | [d, e'], .cons r1 (.cons r2 .nil), w =>
      have w : WI X M F E σ ρ H ((itS d).andThen fun xs => (itS e').andThen fun ys => .ok ((xs.zip ys).map pairD)) R := w
      cases q1 : itS d with
      | ok xs =>
        rw [q1] at w
        have w : WI X M F E σ ρ H ((itS e').andThen fun ys => .ok ((xs.zip ys).map pairD)) R := w
        cases q2 : itS e' with
        | ok ys =>
          rw [q2] at w
          obtain ⟨t1, a, vs1, rfl, s1, ra1⟩ := sd_of r1 q1
          obtain ⟨t2, b, vs2, rfl, s2, ra2⟩ := sd_of r2 q2
          exact ⟨t1, t2, a, b, vs1, vs2, rfl, sd_sq s1, sd_sq s2, w _ H1 sm (walk_z s1 ra1 s2 ra2)⟩
        | ex c => cases d <;> cases e' <;> cases q2
        | bad =>
          rw [q2] at w
          exact w.elim
      | ex c => cases d <;> cases q1
      | bad =>
        rw [q1] at w
        exact w.elim
@[simp] theorem ap_iZp (gs : Rho → Re (List PyData)) : iZp gs ρ = (gs ρ).andThen zipR := (rfl)
end
end Pu

set_option Elab.async false
set_option linter.all false
set_option maxRecDepth 100000
set_option maxHeartbeats 2000000
namespace Pu
open PySem PySem.Spec PyProof.Rows L2
section
variable {ρ : Rho}
/-- [e(k) for k in items], any target, e(k) any data -/
theorem lc_gen {α : Type} {its : Rho → Re (List PyData)} {vs : List Nat} {g : PyData → Rho → Option Rho} {f : Rho → Re PyData} {as : List α} {e : α → PyData} {ρ1 : α → Rho} {h : α → PyData} (hi : its ρ = .ok (as.map e)) (hl : as.length ≤ 10000) (hg : ∀ k ∈ as, g (e k) (wipeR ρ vs) = some (ρ1 k)) (hf : ∀ k ∈ as, f (ρ1 k) = .ok (h k)) :
    rLc its vs g yesR f ρ = .ok (.list (as.map h)) := by
  unfold rLc
  rw [hi, re_ok, if_pos (by rw [List.length_map]; exact decide_eq_true hl)]
  have key : ∀ ms : List α, (∀ k ∈ ms, k ∈ as) → lcGo g yesR f (wipeR ρ vs) (ms.map e) = some (ms.map h) := by
    intro ms
    induction ms with
    | nil => intro _; rfl
    | cons k ms ih =>
      intro hk
      have hka := hk k List.mem_cons_self
      show (match g (e k) (wipeR ρ vs) with
        | none => none
        | some ρ1 => match yesR ρ1 with
          | .ok true => (match f ρ1 with | .ok x => (match lcGo g yesR f (wipeR ρ vs) (ms.map e) with | some xs => some (x :: xs) | none => none) | _ => none)
          | .ok false => lcGo g yesR f (wipeR ρ vs) (ms.map e)
          | _ => none) = _
      rw [hg k hka]
      show (match f (ρ1 k) with | .ok x => (match lcGo g yesR f (wipeR ρ vs) (ms.map e) with | some xs => some (x :: xs) | none => none) | _ => none) = _
      rw [hf k hka, ih fun k' hk' => hk k' (List.mem_cons_of_mem _ hk')]
      rfl
  show (match lcGo g yesR f (wipeR ρ vs) (as.map e) with | some xs => Re.ok (PyData.list xs) | none => .bad) = _
  rw [key as fun _ h => h]
theorem zip_own {α β : Type} (g : α → β) : ∀ l : List α, l.zip (l.map g) = l.map fun x => (x, g x)
  | [] => rfl
  | x :: l => by
    rw [List.map_cons, List.zip_cons_cons, zip_own g l, List.map_cons]
theorem zip_map_own {α β γ : Type} (f : α → β) (g : α → γ) : ∀ l : List α, (l.map f).zip (l.map g) = l.map fun x => (f x, g x)
  | [] => rfl
  | x :: l => by
    rw [List.map_cons, List.map_cons, List.zip_cons_cons, zip_map_own f g l, List.map_cons]
@[simp] theorem zipR_tl (a b : List Int) : zipR [tI a, lI b] = .ok (((a.map PyData.int).zip (b.map PyData.int)).map pairD) := (rfl)
@[simp] theorem zipR_tt (a b : List Int) : zipR [tI a, tI b] = .ok (((a.map PyData.int).zip (b.map PyData.int)).map pairD) := (rfl)
@[simp] theorem zipR_ll (a b : List Int) : zipR [lI a, lI b] = .ok (((a.map PyData.int).zip (b.map PyData.int)).map pairD) := (rfl)
@[simp] theorem zipR_lt (a b : List Int) : zipR [lI a, tI b] = .ok (((a.map PyData.int).zip (b.map PyData.int)).map pairD) := (rfl)
end
end Pu

set_option Elab.async false
set_option linter.all false
set_option maxRecDepth 100000
set_option maxHeartbeats 2000000
/-! factorial, divmod, truth of a list, order of tuples, reversed(range(n)), max(x, default=d), xs[::-1] of a list -/
namespace Pu
open PySem PySem.Spec PyProof.Rows L2
/-! ### factorial -/
def facN : Nat → Nat
  | 0 => 1
  | n + 1 => (n + 1) * facN n
theorem fac_fold (n : Nat) : (List.range n).foldl (fun (p i : Nat) => p * (i + 1)) 1 = facN n := by
  induction n with
  | zero => rfl
  | succ n ih =>
    rw [List.range_succ, List.foldl_append, ih]
    show facN n * (n + 1) = (n + 1) * facN n
    exact Nat.mul_comm _ _
theorem facN_pos : ∀ n, 0 < facN n
  | 0 => Nat.one_pos
  | n + 1 => Nat.mul_pos (Nat.succ_pos n) (facN_pos n)
theorem facN_lt : ∀ n, n ≤ 100 → facN n < 2 ^ (7 * n + 1)
  | 0, _ => by decide
  | n + 1, h => by
    have ih := facN_lt n (by omega)
    have e : 7 * (n + 1) + 1 = 7 + (7 * n + 1) := by omega
    rw [e, Nat.pow_add]
    exact Nat.mul_lt_mul'' (show n + 1 < 2 ^ 7 by omega) ih
def rFac : List V → Hp → VK → Prop := fun vs H Q => ∃ n : Nat, vs = [.int (n : Int)] ∧ n ≤ 100 ∧ Q (.int (facN n : Nat)) H
theorem cr_fac {X : Cx} : CallR X (.builtin "math.factorial") rFac := by
  intro pins s σ H vs us Q I r h
  obtain ⟨n, rfl, hn, q⟩ := h
  obtain ⟨u, rfl, ⟨t, rfl⟩⟩ := vals1 r
  have e : Builtin.Math.factorialNat ((n : Int)).toNat = facN n := by
    show (List.range ((n : Int)).toNat).foldl (fun (p i : Nat) => p * (i + 1)) 1 = facN n
    rw [Int.toNat_natCast]
    exact fac_fold n
  refine PySem.W.mg_factorial_v (c := ((facN n : Nat) : Int)) ?_ ?_ ?_ (by rw [e]) ?_ ⟨.int _, H, I.tok _, ⟨_, rfl⟩, q⟩
  · have e2 : Builtin.Math.maxSsize = 9223372036854775807 := by decide
    rw [e2]
    omega
  · omega
  · have e2 : Builtin.Math.manyFactors = 20000 := by decide
    rw [e2]
    omega
  · have e2 : bitsLine = 134217728 := by decide
    rw [e2]
    have h1 : ((facN n : Nat) : Int).natAbs = facN n := rfl
    rw [h1]
    have h2 := facN_lt n hn
    have h3 := PySem.Flt.log2_lt_of (show 0 < 7 * n + 1 by omega) h2
    omega
def bFac : List PyData → Option PyData := fun ds => match ds with
  | [.int i] => if 0 ≤ i ∧ i ≤ 100 then some (.int (facN i.toNat : Nat)) else none
  | _ => none
theorem s_fac {K : PySem.W.Frag} : SemL K rFac false bFac := fun S H xs ds z Q new r q k => by
  unfold bFac at q
  split at q
  · rename_i i
    by_cases hi : 0 ≤ i ∧ i ≤ 100
    · rw [if_pos hi] at q
      cases q
      cases r with
      | cons r1 r2 =>
        cases r2
        cases r1
        exact ⟨i.toNat, by rw [Int.toNat_of_nonneg hi.1], by omega, k _ H (Same.refl H) (.int _) fun z => nomatch z⟩
    · rw [if_neg hi] at q
      cases q
  · cases q
@[simp] theorem bFac_n {n : Nat} (h : n ≤ 100) : bFac [.int (n : Int)] = some (.int (facN n : Nat)) := by
  show (if 0 ≤ (n : Int) ∧ (n : Int) ≤ 100 then some (PyData.int (facN ((n : Int)).toNat : Nat)) else none) = _
  rw [if_pos ⟨by omega, by omega⟩, Int.toNat_natCast]
/-! ### divmod -/
def rDmW : List V → Hp → VK → Prop := fun xs H Q => ∃ i j, xs = [.int i, .int j] ∧ CDivW i j ∧ NewT Q H [.int (i / j), .int (i % j)]
theorem cr_dm {X : Cx} : CallR X (.builtin "divmod") rDmW := by
  intro pins s σ H xs us Q I r h
  obtain ⟨i, j, rfl, ⟨h1, h2⟩, q⟩ := h
  obtain ⟨t, t', rfl⟩ := Vals.int2 r
  refine divmod_int (by omega) ?_ (.inl (PyProof.noPylong_of_log2 h2))
  rw [Int.fdiv_eq_ediv_of_nonneg i (by omega), Int.fmod_eq_emod_of_nonneg i (by omega)]
  have rv : Vals [V.int (i / j), V.int (i % j)] [Value.int (i / j) s.toks, Value.int (i % j) (s.toks + 1)] := .cons ⟨_, rfl⟩ (.cons ⟨_, rfl⟩ .nil)
  exact Inv.tupNew (h' := s.heap) (tk := s.toks + 1 + 1) (I.tok _) rv (by rw [sizeLine_eq]; show 2 ≤ 16777216; decide) q
def bDm : List PyData → Option PyData := fun ds => match ds with
  | [.int i, .int j] => if divOk j = true then some (.tuple [.int (i / j), .int (i % j)]) else none
  | _ => none
theorem s_dm {K : PySem.W.Frag} : SemL K rDmW false bDm := fun S H xs ds z Q new r q k => by
  unfold bDm at q
  split at q
  · rename_i i j
    by_cases hj : divOk j = true
    · rw [if_pos hj] at q
      cases q
      cases r with
      | cons r1 r2 =>
        cases r2 with
        | cons r2 r3 =>
          cases r3
          cases r1
          cases r2
          refine ⟨i, j, rfl, ?_, fun p o hp hd => k _ _ (same_new hp) (.tup (.inl ⟨o, upd_same, hd⟩) (.cons (.int _) (.cons (.int _) .nil))) fun z => nomatch z⟩
          unfold divOk at hj
          simp only [Bool.and_eq_true, decide_eq_true_eq] at hj
          exact wide_div (b := 240) hj.1 (by omega) (by decide) (by decide)
    · rw [if_neg hj] at q
      cases q
  · cases q
theorem bDm_p {i j : Int} (h : 0 < j) (h2 : j < 2 ^ 240) : bDm [.int i, .int j] = some (tI [i / j, i % j]) := by
  show (if divOk j = true then some (PyData.tuple [.int (i / j), .int (i % j)]) else none) = _
  rw [if_pos]
  · rfl
  · unfold divOk
    rw [decide_eq_true h, decide_eq_true h2]
    rfl
/-! ### the truth of a list or a tuple -/
def asL (f : Rho → Re PyData) : Rho → Re Bool := fun ρ => (f ρ).andThen fun d => match d with | .list ds => .ok (!ds.isEmpty) | .tuple ds => .ok (!ds.isEmpty) | _ => .bad
section
variable {X : Cx} {M : Nat → Bool} {F : Fx} {E : L2.St → XK} {la fa lb fb : Bool} {a b : Expr} {pos : Pos} {f g : Rho → Re PyData}
/-- a built-in function that a name of the module stands for -/
theorem de_callM {id : String} {fr : Bool} {r : List V → Hp → VK → Prop} {gg : List PyData → Option PyData} {x : Str} {es : List Expr} {gs : Rho → Re (List PyData)} {p : Pos} (hc : CallR X (.builtin id) r) (hS : SemL X.K r fr gg) (hm : X.mg x = some (.builtin id))
    (ha : DA X M F E la (a :: es) gs) (hg : Gl X x := by rfl) (hdb : (x == ("__debug__" : Str)) = false := by decide)
    (he : starEach (a :: es) X.env = (false, eval a X.env) :: starEach es X.env := by rfl) (hpl : (backTo pos (starEach es X.env)).any (·.1) = false := by rfl) :
    DE X M F E la fr (.Call (.Name x p) (a :: es) [] pos) (rB gg gs) := by
  obtain ⟨t, pa, ha⟩ := ha
  refine ⟨_, pe_callBfun hc hg hm pa hdb he hpl, fun σ H ρ er Q z => ?_⟩
  refine ha σ H ρ er _ (we_stepA z fun ds vs H1 e s r1 z1 => ?_)
  cases q : gg ds with
  | none =>
    rw [q] at z1
    exact z1.elim
  | some d =>
    rw [q] at z1
    exact hS (RS M F σ ρ la) H1 vs ds d Q (er.same s).freshS r1 q fun v' H' s' r' f' => z1 v' H' s' r' f'
/-- a number, whatever it was read from -/
def nOf : PyData → Re PyData
  | .int i => .ok (.int i)
  | _ => .bad
def rN (f : Rho → Re PyData) : Rho → Re PyData := fun ρ => (f ρ).andThen nOf
@[simp] theorem ap_rN {ρ : Rho} : rN f ρ = (f ρ).andThen nOf := (rfl)
@[simp] theorem nOf_i {i : Int} : nOf (.int i) = .ok (.int i) := (rfl)
theorem de_cast (ha : DE X M F E la fa a f) : DE X M F E false false a (rN f) := by
  obtain ⟨t, pa, ha⟩ := ha
  refine ⟨_, pa, fun σ H ρ er Q z => ?_⟩
  refine ha σ H ρ er _ (we_step z fun d v H1 e1 s1 r1 _ z1 => ?_)
  cases r1 with
  | int i => exact z1 _ H1 (Same.refl _) (.int i) fun z => nomatch z
  | lst _ _ _ => exact z1.elim
  | bl _ => exact z1.elim
  | non => exact z1.elim
  | str _ => exact z1.elim
  | tup _ _ => exact z1.elim
  | scr _ _ => exact z1.elim
  | dic _ _ _ _ => exact z1.elim
  | dit _ _ _ _ => exact z1.elim
  | dif _ _ _ => exact z1.elim
theorem rpA_empty {K : PySem.W.Frag} {H : Hp} {S : Addr → Prop} {vs : List V} {ds : List PyData} (r : RpA K H S vs ds) : (!vs.isEmpty) = !ds.isEmpty := by
  cases r with
  | nil => rfl
  | cons _ _ => rfl
theorem dt_lst (ha : DE X M F E la fa a f) (he : ∀ whole, isTrue a X.env whole = (do let v ← whole; standAt a.pos; holding [v] (truthy v)) := by intro _; rfl) : DT X M F E a (asL f) := by
  obtain ⟨ta, pa, ha⟩ := ha
  refine ⟨_, pt_truth pa he, fun σ H ρ er Q w => ?_⟩
  refine ha σ H ρ er _ (wt_step w fun d v H1 e s1 q1 _ w1 => ?_)
  cases q1 with
  | lst h1 _ rr =>
    refine ⟨_, .inl ⟨_, SqL.of h1, rfl⟩, ?_⟩
    rw [rpA_empty rr]
    exact w1 H1 (Same.refl _)
  | tup h1 rr =>
    refine ⟨_, .inr (.inl ⟨_, h1.sq, rfl⟩), ?_⟩
    rw [rpA_empty rr]
    exact w1 H1 (Same.refl _)
  | bl _ => exact w1.elim
  | non => exact w1.elim
  | int _ => exact w1.elim
  | str _ => exact w1.elim
  | scr _ _ => exact w1.elim
  | dic _ _ _ _ => exact w1.elim
  | dit _ _ _ _ => exact w1.elim
  | dif _ _ _ => exact w1.elim
/-! ### t < u of tuples of numbers -/
def oLtT : PyData → PyData → Option PyData := fun d e => match d, e with
  | .tuple xs, .tuple ys => (asInts xs).bind fun ns => (asInts ys).map fun ms => .bool (HT.lexLt ns ms)
  | _, _ => none
theorem s_ltT {K : PySem.W.Frag} : SemB K (rLtT K) false oLtT := fun S H x y d e z Q new rx ry q k => by
  unfold oLtT at q
  split at q
  · obtain ⟨ns, e1, q⟩ := Option.bind_eq_some_iff.mp q
    obtain ⟨ms, e2, rfl⟩ := Option.map_eq_some_iff.mp q
    rw [asInts_eq e1] at rx
    rw [asInts_eq e2] at ry
    cases rx with
    | tup h1 r1 =>
      cases ry with
      | tup h2 r2 =>
        rw [RpA.of_ints r1] at h1
        rw [RpA.of_ints r2] at h2
        exact ⟨_, _, ns, ms, rfl, rfl, h1.sq, h2.sq, k _ H (Same.refl H) (.bl _) fun z => nomatch z⟩
  · cases q
theorem op_ltT' {k : Nat} (r : Room k X.A) : OpR X (compareOp .Lt) (rLtT X.K) := op_ltT (by have := ru r; omega)
@[simp] theorem oLtT_t {ns ms : List Int} : oLtT (tI ns) (tI ms) = some (.bool (HT.lexLt ns ms)) := by
  show ((asInts (ns.map PyData.int)).bind fun ns => (asInts (ms.map PyData.int)).map fun ms => PyData.bool (HT.lexLt ns ms)) = _
  rw [asInts_map, asInts_map]
  rfl
/-! ### reversed(range(n)) -/
def dnI (n : Nat) : List Int := (List.range n).map fun (k : Nat) => (n : Int) - 1 - (k : Int)
def rgRev : List PyData → Re (List PyData) := fun ds => match ds with
  | [.int j] => if small62 j = true then .ok ((dnI j.toNat).map PyData.int) else .bad
  | _ => .bad
theorem walk_dn {S : Addr → Prop} {K : PySem.W.Frag} {H1 : Hp} (n : Nat) : Walks K S (Itc (0 + (n : Int) - 1) (-1) n) ((dnI n).map PyData.int) H1 := fun H2 kp i => by
  have hlen : ((dnI n).map PyData.int).length = n := by simp [dnI]
  refine ⟨fun d hd => ?_, fun hl => by rw [hlen] at hl; exact Nat.le_of_eq hl.symm⟩
  have hi : i < n := by
    have := getSome hd
    rwa [hlen] at this
  have hd' : d = .int ((n : Int) - 1 - (i : Int)) := by
    unfold dnI at hd
    rw [List.map_map, List.getElem?_map, List.getElem?_range hi] at hd
    exact (Option.some.inj hd).symm
  refine ⟨hi, fun x H' y => ?_⟩
  obtain ⟨rfl, rfl⟩ := y
  rw [hd', show (0 : Int) + (n : Int) - 1 + (i : Int) * (-1) = (n : Int) - 1 - (i : Int) by omega]
  exact ⟨Same.refl _, .int _⟩
theorem di_rev {tg : Expr} {p pp q : Pos} (hg : Gl X "reversed") (hm : X.mg "reversed" = none) (hg2 : Gl X "range") (hm2 : X.mg "range" = none) (ha : DE X M F E la fa a f)
    (na : starEach [a] X.env = (false, eval a X.env) :: starEach [] X.env := by rfl)
    (nc : starEach [Expr.Call (.Name "range" pp) [a] [] q] X.env = (false, eval (.Call (.Name "range" pp) [a] [] q) X.env) :: starEach [] X.env := by rfl) :
    DI X M F E tg (.Call (.Name "reversed" p) [.Call (.Name "range" pp) [a] [] q] [] pos) (fun ρ => (f ρ).andThen fun d => rgRev [d]) := by
  obtain ⟨t, pa, ha⟩ := ha
  refine ⟨_, pi_revR hg hm (prg_1 hg2 hm2 pa na) nc, fun σ H ρ er R w => ?_⟩
  refine ha σ H ρ er _ (wi_step w fun d v H1 e sm r w1 => ?_)
  unfold rgRev at w1
  cases r with
  | int j =>
    have w1 : WI X M F E σ ρ H1 (if small62 j = true then .ok ((dnI j.toNat).map PyData.int) else .bad) R := w1
    by_cases hj : small62 j = true
    · rw [if_pos hj] at w1
      unfold small62 at hj
      simp only [Bool.and_eq_true, decide_eq_true_eq] at hj
      refine ⟨j, rfl, by omega, by omega, by omega, by omega, w1 _ H1 (Same.refl _) ?_⟩
      rw [show (j - 0).toNat = j.toNat by omega]
      exact walk_dn j.toNat
    · rw [if_neg hj] at w1
      exact w1.elim
  | bl _ => exact w1.elim
  | non => exact w1.elim
  | str _ => exact w1.elim
  | tup _ _ => exact w1.elim
  | lst _ _ _ => exact w1.elim
  | scr _ _ => exact w1.elim
  | dic _ _ _ _ => exact w1.elim
  | dit _ _ _ _ => exact w1.elim
  | dif _ _ _ => exact w1.elim
def iRev (f : Rho → Re PyData) : Rho → Re (List PyData) := fun ρ => (f ρ).andThen fun d => rgRev [d]
@[simp] theorem ap_iRev {ρ : Rho} : iRev f ρ = (f ρ).andThen fun d => rgRev [d] := (rfl)
theorem rgRev_n {n : Nat} (h : n ≤ 1000000) : rgRev [.int (n : Int)] = .ok ((dnI n).map PyData.int) := by
  show (if small62 (n : Int) = true then Re.ok ((dnI ((n : Int)).toNat).map PyData.int) else .bad) = _
  rw [if_pos (small_ok (by omega) (by omega)), Int.toNat_natCast]
/-! ### max(x, default=d) of a list of numbers -/
def maxO (d : Int) : List Int → Int
  | [] => d
  | n :: ns => maxZ n ns
def rMaxKD (K : PySem.W.Frag) : List V → List V → Hp → VK → Prop := fun vs zs H Q => ∃ (a : Addr) (ns : List Int) (d : Int), vs = [.ref a] ∧ zs = [.int d] ∧ SqL K H a (ns.map V.int) ∧ Q (.int (maxO d ns)) H
theorem cr_maxD (hc : X.calm = true) {k : Nat} (hr : Room k X.A) : CallRK X (.builtin "max") [Str.ofString "default"] (rMaxKD X.K) := by
  intro pins s σ H vs zs us ws Q I r rz h
  obtain ⟨a, ns, d, rfl, rfl, hs, q⟩ := h
  obtain rfl := Vals.ref1 r
  obtain ⟨w1, rfl, ⟨td, rfl⟩⟩ := vals1 rz
  obtain ⟨its, rv, hl, hz⟩ := I.list hs
  obtain ⟨as, ra⟩ := Dp.readsAll I (ns.map PyData.int) _ its (dpAll_ints ns) rv
  have hu := hr.units
  have hde := depth_ints ns
  refine PySem.W.max_list_default (xs := ns.map PyData.int) (I.ok.hd hc) hl.isList ra (alike_ints ns) (by omega) (fun e h' tk kp => ?_) fun y ys i v h' tk bs e hv rd kp => ?_
  · have e2 : ns = [] := List.map_eq_nil_iff.mp e
    subst e2
    exact ⟨.int _, H, I.kept (t' := tk) kp, ⟨td, rfl⟩, q⟩
  · cases ns with
    | nil => cases e
    | cons n ns =>
      cases e
      rw [maxD_ints] at rd
      obtain ⟨t, rfl⟩ : ∃ t, v = .int (maxZ n ns) t := by
        cases rd
        exact ⟨_, rfl⟩
      exact ⟨.int _, H, I.kept (t' := tk) kp, ⟨t, rfl⟩, q⟩
def oMaxD : PyData → PyData → Option PyData := fun x d => match x, d with
  | .list xs, .int d => (asInts xs).map fun ns => .int (maxO d ns)
  | _, _ => none
theorem s_maxD {K : PySem.W.Frag} : SemB K (fun x y H Q => rMaxKD K [x] [y] H Q) false oMaxD := fun S H x y d e z Q new rx ry q k => by
  unfold oMaxD at q
  split at q
  · obtain ⟨ns, e, rfl⟩ := Option.map_eq_some_iff.mp q
    cases ry
    rw [asInts_eq e] at rx
    cases rx with
    | lst h1 s1 r1 =>
      rw [RpA.of_ints r1] at h1
      exact ⟨_, ns, _, rfl, rfl, SqL.of h1, k _ H (Same.refl H) (.int _) fun z => nomatch z⟩
  · cases q
theorem de_maxD {p kpos : Pos} {k : Nat} (hc : X.calm = true) (hr : Room k X.A) (hm : X.mg "max" = none) (ha : DE X M F E la fa a f) (hb : DE X M F E lb fb b g) (hg : Gl X "max" := by rfl)
    (hs : starEach [a] X.env = (false, eval a X.env) :: starEach [] X.env := by rfl)
    (he : backTo pos (starEach [a] X.env) = (false, eval a X.env) :: backTo pos (starEach [] X.env) := by rfl) (hpl : (backTo pos (starEach [a] X.env)).any (·.1) = false := by rfl)
    (hall : (backToKw pos (keywordEach [⟨some "default", b, kpos⟩] X.env)).all (·.1.isSome) = true := by rfl) (hnone : (backToKw pos (keywordEach [⟨some "default", b, kpos⟩] X.env)).any (·.1.isNone) = false := by rfl)
    (hks : (backToKw pos (keywordEach [⟨some "default", b, kpos⟩] X.env)).filterMap (·.1) = [Str.ofString "default"] := by rfl) :
    DE X M F E (la || lb) false (.Call (.Name "max" p) [a] [⟨some "default", b, kpos⟩] pos) (r2 oMaxD f g) := by
  obtain ⟨ta, pa, ha⟩ := ha
  obtain ⟨tb, pb, hb⟩ := hb
  exact ⟨_, pe_callBK (cr_maxD hc hr) hg hm (by decide +kernel) (pa_cons pa pa_nil hs) (pk_cons pb pk_nil) (by decide) (by decide) he hpl hall hnone hks, fun σ H ρ er Q w => two_run ha hb s_maxD er w⟩
@[simp] theorem oMaxD_l {ns : List Int} {d : Int} : oMaxD (lI ns) (.int d) = some (.int (maxO d ns)) := by
  show (asInts (ns.map PyData.int)).map _ = _
  rw [asInts_map]
  rfl
/-! ### xs[::-1] of a list -/
def oRevL : PyData → Option PyData := fun d => match d with | .list ds => some (.list ds.reverse) | _ => none
theorem de_revL {k : Nat} {p1 p2 p3 : Pos} (ha : DE X M F E la fa a f) : DE X M F E la false (.Subscript a (.Slice none none (some (.UnaryOp .USub (.Constant (.int 1) k p1) p2)) p3) pos) (r1 oRevL f) := by
  obtain ⟨ta, pa, ha⟩ := ha
  refine ⟨_, pe_revL pa, fun σ H ρ er Q z => ?_⟩
  refine ha σ H ρ er _ (we_step z fun d v H1 e1 s1 r1 _ z1 => ?_)
  cases r1 with
  | lst h1 ss rr => exact ⟨_, _, rfl, SqL.of h1, fun p hp => z1 _ _ (same_new hp) (.lst upd_same ((er.same s1).freshS p hp) ((rpA_rev rr).same (same_new hp))) fun z => nomatch z⟩
  | int _ => exact z1.elim
  | bl _ => exact z1.elim
  | non => exact z1.elim
  | str _ => exact z1.elim
  | tup _ _ => exact z1.elim
  | scr _ _ => exact z1.elim
  | dic _ _ _ _ => exact z1.elim
  | dit _ _ _ _ => exact z1.elim
  | dif _ _ _ => exact z1.elim
@[simp] theorem oRevL_l {ns : List Int} : oRevL (lI ns) = some (lI ns.reverse) := by
  show some (PyData.list (ns.map PyData.int).reverse) = _
  rw [← List.map_reverse]
  rfl
/-! ### x = y, y a list of the frame's own: it is x's from then on -/
def sMove (i j : Nat) : Rho → Sr := fun ρ => (vOf ρ[j]?).st ρ fun d => if i < ρ.length then .nx ((ρ.set j none).set i (some d)) else .bad
theorem own_forget {σ : L2.St} {ρ : Rho} {j : Nat} {a : Addr} (o : OwnA M σ (ρ.set j none) a) : OwnA M σ ρ a := by
  obtain ⟨k, d, m, r, s⟩ := o
  have hk : j ≠ k := fun z => by
    subst z
    have h := getSome r
    rw [List.length_set] at h
    rw [List.getElem?_set_self h] at r
    cases r
  rw [List.getElem?_set_ne hk] at r
  exact ⟨k, d, m, r, s⟩
theorem get_forget {ρ : Rho} {j k : Nat} {d : PyData} (r : (ρ.set j none)[k]? = some (some d)) : j ≠ k ∧ ρ[k]? = some (some d) := by
  have hk : j ≠ k := fun z => by
    subst z
    have h := getSome r
    rw [List.length_set] at h
    rw [List.getElem?_set_self h] at r
    cases r
  rw [List.getElem?_set_ne hk] at r
  exact ⟨hk, r⟩
theorem ER.forget {K : PySem.W.Frag} {σ : L2.St} {H : Hp} {ρ : Rho} (e : ER K M F σ H ρ) (j : Nat) : ER K M F σ H (ρ.set j none) := by
  have rs : ∀ a, RS M F σ ρ false a → RS M F σ (ρ.set j none) false a := fun a x => ⟨x.1, fun q o => x.2 q (own_forget o)⟩
  exact ⟨by rw [List.length_set]; exact e.len, e.old, e.new, fun k d q mk => by
      obtain ⟨v, s, r⟩ := e.im k d (get_forget q).2 mk
      exact ⟨v, s, r.wide rs⟩, fun k d q mk => by
      obtain ⟨p, s, z, w⟩ := e.ow k d (get_forget q).2 mk
      exact ⟨p, s, z, w.keep (kp_same (Same.refl _)) (fun a _ x _ => rs a x) fun _ q => q⟩,
    fun i k d d' p mi mk q1 q2 s1 s2 => e.ap i k d d' p mi mk (get_forget q1).2 (get_forget q2).2 s1 s2⟩
theorem ds_move {i j : Nat} {x y : Str} {p1 p2 : Pos} (mi : M i = false) (mj : M j = true) (hN : X.N.Nodup) (hi : X.N[i]? = some x := by rfl) (hj : X.N[j]? = some y := by rfl) (hx : Loc X.env.scope x := by first | exact Or.inl rfl | exact Or.inr rfl)
    (hv : Vis X.env.scope y := by first | exact Or.inl rfl | exact Or.inr (Or.inl rfl) | exact Or.inr (Or.inr rfl)) (hd : (y == ("__debug__" : Str)) = false := by decide) (hcd : (y == ("__classdict__" : Str)) = false := by decide)
    (hs : swapsWith (.Name y p2) (some (.Name x p1)) pos.line X.env = pure false := by rfl) (hw : swappedStores [.Name x p1] (.Name y p2) X.env = pure none := by rfl) (hf : X.fn x = true ∨ X.env.scope.names.lookup x = some .local := by first | exact .inl rfl | exact .inr rfl) :
    DS X M F E (.Assign [.Name x p1] (.Name y p2) pos) (sMove i j) := by
  refine ⟨_, ps_asg (pe_var hj hv hd hcd) (pg_name hN hi hx hf) hs hw, fun σ H ρ er D w => ?_⟩
  unfold sMove at w
  cases q : ρ[j]? with
  | none =>
    rw [q] at w
    exact w.elim
  | some o =>
    cases o with
    | none =>
      rw [q] at w
      exact w.elim
    | some d =>
      rw [q] at w
      have w : WS X M F E σ H ρ (if i < ρ.length then .nx ((ρ.set j none).set i (some d)) else .bad) D := w
      by_cases hl : i < ρ.length
      · rw [if_pos hl] at w
        obtain ⟨p, s, z, ow⟩ := er.ow j d q mj
        have notown : ¬ OwnA M σ (ρ.set j none) p := fun o => by
          obtain ⟨k, d', mk, r, s'⟩ := o
          obtain ⟨hk, r'⟩ := get_forget r
          exact hk (er.ap j k d d' p mj mk q r' s s')
        have er' := er.forget j
        have rs : ∀ a, RS M F σ ρ false a → RS M F σ (ρ.set j none) false a := fun a x => ⟨x.1, fun q o => x.2 q (own_forget o)⟩
        have rp : Rp X.K H (RS M F σ (ρ.set j none) false) (.ref p) d := (ow.keep (kp_same (Same.refl _)) (fun a _ x _ => rs a x) fun _ q => q).rp ⟨z.2, fun _ => notown⟩
        refine ⟨.ref p, s, ?_⟩
        exact w _ H (er'.set mi rp) fun a u q n => ⟨q, fun o => n (own_forget ((own_set mi).mp o))⟩
      · rw [if_neg hl] at w
        exact w.elim
@[simp] theorem ap_sMove {ρ : Rho} {i j : Nat} : sMove i j ρ = (vOf ρ[j]?).st ρ fun d => if i < ρ.length then .nx ((ρ.set j none).set i (some d)) else .bad := (rfl)
def liOf : PyData → Re Bool
  | .list ds => .ok (!ds.isEmpty)
  | .tuple ds => .ok (!ds.isEmpty)
  | _ => .bad
@[simp] theorem ap_asL {ρ : Rho} : asL f ρ = (f ρ).andThen liOf := by
  unfold asL
  congr 1
@[simp] theorem liOf_l {ns : List Int} : liOf (lI ns) = .ok (!ns.isEmpty) := by
  cases ns <;> rfl
end
end Pu

set_option Elab.async false
set_option linter.all false
set_option maxRecDepth 100000
set_option maxHeartbeats 2000000
/-! the number of a row (k16); rising places, takes (k07) -/
namespace Pu
open PySem PySem.Spec PyProof.Rows L2
/-! ### k16: the number of a row -/
def cntZ (x : Int) (l : List Int) : Nat := (l.filter fun y => decide (y < x)).length
def numZ : List Int → Nat
  | [] => 0
  | x :: xs => cntZ x xs * facN xs.length + numZ xs
theorem cntZ_le (x : Int) (l : List Int) : cntZ x l ≤ l.length := List.length_filter_le _ _
theorem numZ_lt : ∀ l : List Int, numZ l < facN l.length
  | [] => by decide
  | x :: xs => by
    have h1 := cntZ_le x xs
    have h2 := numZ_lt xs
    show cntZ x xs * facN xs.length + numZ xs < (xs.length + 1) * facN xs.length
    have h3 : (cntZ x xs + 1) * facN xs.length ≤ (xs.length + 1) * facN xs.length := Nat.mul_le_mul_right _ (by omega)
    rw [Nat.add_mul, Nat.one_mul] at h3
    omega
theorem cntZ_perm (x : Int) {l m : List Int} (h : l.Perm m) : cntZ x l = cntZ x m := (h.filter _).length_eq
theorem cntZ_self (x : Int) (l : List Int) : cntZ x (x :: l) = cntZ x l := by
  unfold cntZ
  rw [List.filter_cons_of_neg (by simp)]
theorem cntZ_lt {x y : Int} (h : x < y) : ∀ {l : List Int}, x ∈ l → cntZ x l < cntZ y l
  | z :: l, m => by
    have mono : ∀ l : List Int, cntZ x l ≤ cntZ y l := fun l => by
      induction l with
      | nil => exact Nat.le_refl _
      | cons z l ih =>
        unfold cntZ at ih ⊢
        rw [List.filter_cons, List.filter_cons]
        by_cases h1 : z < x
        · rw [if_pos (by simpa using h1), if_pos (by simp; omega), List.length_cons, List.length_cons]
          omega
        · rw [if_neg (by simpa using h1)]
          by_cases h2 : z < y
          · rw [if_pos (by simpa using h2), List.length_cons]
            omega
          · rw [if_neg (by simpa using h2)]
            exact ih
    by_cases hz : z = x
    · subst hz
      have := mono l
      rw [cntZ_self]
      unfold cntZ at this ⊢
      rw [List.filter_cons (x := z) (p := fun w => decide (w < y)), if_pos (by simpa using h), List.length_cons]
      omega
    · have ih := cntZ_lt h (l := l) ((List.mem_cons.mp m).resolve_left fun q => hz q.symm)
      unfold cntZ at ih ⊢
      rw [List.filter_cons, List.filter_cons]
      by_cases h1 : z < x
      · rw [if_pos (by simpa using h1), if_pos (by simp; omega), List.length_cons, List.length_cons]
        omega
      · rw [if_neg (by simpa using h1)]
        by_cases h2 : z < y
        · rw [if_pos (by simpa using h2), List.length_cons]
          omega
        · rw [if_neg (by simpa using h2)]
          exact ih
theorem lex_num : ∀ {l m : List Int}, l.Perm m → HT.lexLt l m = true → numZ l < numZ m
  | [], [], _, h => by cases h
  | [], _ :: _, p, _ => by
    have := p.length_eq
    simp at this
  | _ :: _, [], p, _ => by
    have := p.length_eq
    simp at this
  | x :: xs, y :: ys, p, h => by
    have hl : xs.length = ys.length := by simpa using p.length_eq
    unfold HT.lexLt at h
    show cntZ x xs * facN xs.length + numZ xs < cntZ y ys * facN ys.length + numZ ys
    by_cases e : x = y
    · subst e
      rw [if_pos rfl] at h
      have p2 : xs.Perm ys := List.Perm.cons_inv p
      rw [cntZ_perm x p2, hl]
      have := lex_num p2 h
      omega
    · rw [if_neg e] at h
      have hxy : x < y := by simpa using h
      have h1 : cntZ x xs = cntZ x (y :: ys) := by rw [← cntZ_self x xs, cntZ_perm x p]
      have h2 : cntZ y ys = cntZ y (y :: ys) := (cntZ_self y ys).symm
      have h3 : cntZ x (y :: ys) < cntZ y (y :: ys) := cntZ_lt hxy (p.subset List.mem_cons_self)
      have h4 := numZ_lt xs
      have h5 : (cntZ x xs + 1) * facN ys.length ≤ cntZ y ys * facN ys.length := Nat.mul_le_mul_right _ (by omega)
      rw [Nat.add_mul, Nat.one_mul] at h5
      rw [hl] at h4 ⊢
      omega
theorem lex_total : ∀ {l m : List Int}, l.length = m.length → l ≠ m → HT.lexLt l m = false → HT.lexLt m l = true
  | [], [], _, h, _ => absurd rfl h
  | [], _ :: _, h, _, _ => by simp at h
  | _ :: _, [], h, _, _ => by simp at h
  | x :: xs, y :: ys, h, n, f => by
    unfold HT.lexLt at f ⊢
    by_cases e : x = y
    · subst e
      rw [if_pos rfl] at f ⊢
      exact lex_total (by simpa using h) (fun z => n (by rw [z])) f
    · rw [if_neg e] at f
      rw [if_neg (fun z => e z.symm)]
      have : ¬ x < y := by simpa using f
      simp
      omega
theorem lex_irr : ∀ l : List Int, HT.lexLt l l = false
  | [] => rfl
  | x :: xs => by
    unfold HT.lexLt
    rw [if_pos rfl]
    exact lex_irr xs
theorem num_iff {l m : List Int} (p : l.Perm m) : (numZ l < numZ m ↔ HT.lexLt l m = true) ∧ (numZ l = numZ m ↔ l = m) := by
  by_cases e : l = m
  · subst e
    refine ⟨⟨fun h => absurd h (Nat.lt_irrefl _), fun h => ?_⟩, ⟨fun _ => rfl, fun _ => rfl⟩⟩
    rw [lex_irr] at h
    cases h
  · cases h : HT.lexLt l m with
    | true =>
      have := lex_num p h
      exact ⟨⟨fun _ => rfl, fun _ => this⟩, ⟨fun q => by omega, fun q => absurd q e⟩⟩
    | false =>
      have := lex_num p.symm (lex_total p.length_eq e h)
      exact ⟨⟨fun q => by omega, fun q => by cases q⟩, ⟨fun q => by omega, fun q => absurd q e⟩⟩
/-! ### the row with a number -/
def urZ : Nat → List Int → Nat → List Int
  | 0, _, _ => []
  | n + 1, l, k => (l[k / facN n]?).getD 0 :: urZ n (l.eraseIdx (k / facN n)) (k % facN n)
theorem ur_dig {n k : Nat} (h : k < facN (n + 1)) : k / facN n < n + 1 := by
  rw [Nat.div_lt_iff_lt_mul (facN_pos n)]
  exact h
theorem ur_perm : ∀ (n : Nat) (l : List Int) (k : Nat), l.length = n → k < facN n → (urZ n l k).Perm l
  | 0, l, k, hl, _ => by
    rw [List.length_eq_zero_iff.mp hl]
    exact .refl _
  | n + 1, l, k, hl, hk => by
    have hd := ur_dig hk
    have hd2 : k / facN n < l.length := by omega
    unfold urZ
    rw [List.getElem?_eq_getElem hd2, Option.getD_some]
    refine List.Perm.trans ((ur_perm n _ _ ?_ (Nat.mod_lt _ (facN_pos n))).cons _) (erase_perm l _ hd2)
    rw [List.length_eraseIdx, if_pos hd2]
    omega
theorem cnt_at : ∀ {l : List Int} {i : Nat} (h : i < l.length), l.Pairwise (· < ·) → cntZ l[i] (l.eraseIdx i) = i
  | x :: l, 0, _, hp => by
    obtain ⟨h1, _⟩ := List.pairwise_cons.mp hp
    show ((l.filter fun y => decide (y < x)).length) = 0
    rw [List.filter_eq_nil_iff.mpr]
    · rfl
    · intro y hy
      have := h1 y hy
      simp
      omega
  | x :: l, i + 1, h, hp => by
    obtain ⟨h1, h2⟩ := List.pairwise_cons.mp hp
    have h' : i < l.length := by simpa using h
    have ih := cnt_at h' h2
    rw [List.eraseIdx_cons_succ, List.getElem_cons_succ]
    unfold cntZ at ih ⊢
    rw [List.filter_cons_of_pos (by simpa using h1 _ (List.getElem_mem h')), List.length_cons, ih]
theorem ur_num : ∀ (n : Nat) (l : List Int) (k : Nat), l.length = n → l.Pairwise (· < ·) → k < facN n → numZ (urZ n l k) = k
  | 0, l, k, _, _, hk => by
    have : k < 1 := hk
    show 0 = k
    omega
  | n + 1, l, k, hl, hp, hk => by
    have hd := ur_dig hk
    have hd2 : k / facN n < l.length := by omega
    have hl2 : (l.eraseIdx (k / facN n)).length = n := by
      rw [List.length_eraseIdx, if_pos hd2]
      omega
    have hm := Nat.mod_lt k (facN_pos n)
    have pp := ur_perm n _ _ hl2 hm
    unfold urZ
    rw [List.getElem?_eq_getElem hd2, Option.getD_some]
    show cntZ _ _ * facN _ + numZ _ = k
    rw [cntZ_perm _ pp, cnt_at hd2 hp, pp.length_eq, hl2, ur_num n _ _ hl2 (hp.sublist (List.eraseIdx_sublist _ _)) hm]
    rw [Nat.mul_comm]
    exact Nat.div_add_mod k (facN n)
/-! ### the greatest of numbers -/
theorem maxO_ge {ns : List Int} {m : Int} (h : m ∈ ns) : m ≤ maxO 0 ns := by
  cases ns with
  | nil => exact nomatch h
  | cons n ns => exact (maxZ_mem ns n).2 m h
theorem maxO_mem {ns : List Int} : maxO 0 ns = 0 ∨ maxO 0 ns ∈ ns := by
  cases ns with
  | nil => exact .inl rfl
  | cons n ns => exact .inr (maxZ_mem ns n).1
/-! ### heights -/
def rv (r : List Int) (i : Nat) : Int := (r[i]?).getD 0
/-- the values of found at the lower places -/
def lowZ (r : List Int) (k : Nat) (found : List Int) : List Int := ((List.range k).filter fun p => decide (rv r p < rv r k)).map fun p => rv found p
def hsZ (r : List Int) : Nat → List Int
  | 0 => []
  | k + 1 => hsZ r k ++ [1 + maxO 0 (lowZ r k (hsZ r k))]
theorem hsZ_len (r : List Int) : ∀ k, (hsZ r k).length = k
  | 0 => rfl
  | k + 1 => by
    show (hsZ r k ++ [_]).length = k + 1
    rw [List.length_append, hsZ_len r k]
    rfl
def hv (r : List Int) (j : Nat) : Int := 1 + maxO 0 (lowZ r j (hsZ r j))
theorem hsZ_at (r : List Int) : ∀ {k j : Nat}, j < k → rv (hsZ r k) j = hv r j
  | k + 1, j, h => by
    show ((hsZ r k ++ [hv r k])[j]?).getD 0 = hv r j
    by_cases c : j < k
    · rw [List.getElem?_append_left (by rw [hsZ_len]; exact c)]
      exact hsZ_at r c
    · have e : j = k := by omega
      subst e
      rw [List.getElem?_append_right (by rw [hsZ_len]; exact Nat.le_refl _), hsZ_len, Nat.sub_self]
      rfl
theorem hsZ_eq (r : List Int) : ∀ k, hsZ r k = (List.range k).map (hv r)
  | 0 => rfl
  | k + 1 => by
    rw [List.range_succ, List.map_append, ← hsZ_eq r k]
    rfl
theorem lowZ_eq (r : List Int) (k : Nat) : lowZ r k (hsZ r k) = ((List.range k).filter fun p => decide (rv r p < rv r k)).map (hv r) := by
  unfold lowZ
  refine List.map_congr_left fun p hp => ?_
  exact hsZ_at r (List.mem_range.mp (List.mem_filter.mp hp).1)
theorem hv_lt {r : List Int} {p q : Nat} (h : p < q) (h2 : rv r p < rv r q) : hv r p < hv r q := by
  have m : hv r p ∈ lowZ r q (hsZ r q) := by
    rw [lowZ_eq]
    exact List.mem_map.mpr ⟨p, List.mem_filter.mpr ⟨List.mem_range.mpr h, by simpa using h2⟩, rfl⟩
  have := maxO_ge m
  show hv r p < 1 + maxO 0 (lowZ r q (hsZ r q))
  omega
theorem hv_from {r : List Int} (q : Nat) : hv r q = 1 ∨ ∃ p, p < q ∧ rv r p < rv r q ∧ hv r q = hv r p + 1 := by
  rcases maxO_mem (ns := lowZ r q (hsZ r q)) with h | h
  · refine .inl ?_
    show 1 + maxO 0 (lowZ r q (hsZ r q)) = 1
    omega
  · have e : hv r q = 1 + maxO 0 (lowZ r q (hsZ r q)) := rfl
    generalize hx : maxO 0 (lowZ r q (hsZ r q)) = x at *
    rw [lowZ_eq] at h
    obtain ⟨p, hp, ep⟩ := List.mem_map.mp h
    obtain ⟨h1, h2⟩ := List.mem_filter.mp hp
    refine .inr ⟨p, List.mem_range.mp h1, by simpa using h2, by omega⟩
theorem hv_pos {r : List Int} : ∀ q : Nat, 1 ≤ hv r q := fun q => by
  induction q using Nat.strongRecOn with
  | _ q ih =>
    rcases hv_from (r := r) q with h | ⟨p, h1, _, h3⟩
    · omega
    · have := ih p h1
      omega
/-- the greatest height -/
def topZ (r : List Int) : Int := maxO 0 (hsZ r r.length)
theorem top_ge {r : List Int} {q : Nat} (h : q < r.length) : hv r q ≤ topZ r := by
  refine maxO_ge ?_
  rw [hsZ_eq]
  exact List.mem_map.mpr ⟨q, List.mem_range.mpr h, rfl⟩
theorem top_at (r : List Int) : topZ r = 0 ∨ ∃ q, q < r.length ∧ hv r q = topZ r := by
  rcases maxO_mem (ns := hsZ r r.length) with h | h
  · exact .inl h
  · refine .inr ?_
    rw [hsZ_eq] at h
    obtain ⟨q, h1, h2⟩ := List.mem_map.mp h
    refine ⟨q, List.mem_range.mp h1, ?_⟩
    rw [h2]
    unfold topZ
    rw [hsZ_eq]
theorem top_pos (r : List Int) : 0 ≤ topZ r := by
  rcases top_at r with h | ⟨q, _, h⟩
  · omega
  · have := hv_pos (r := r) q
    omega
/-- no row of places rises higher -/
theorem chain_up {r : List Int} : ∀ (c : List Nat) (b : Int), c ≠ [] → c.Pairwise (fun p q => p < q ∧ rv r p < rv r q) → (∀ x ∈ c, b + 1 ≤ hv r x) → ∃ x ∈ c, b + c.length ≤ hv r x
  | [], _, h, _, _ => absurd rfl h
  | [p], b, _, _, h => ⟨p, List.mem_cons_self, by simpa using h p List.mem_cons_self⟩
  | p :: p2 :: c, b, _, hp, h => by
    obtain ⟨h1, h2⟩ := List.pairwise_cons.mp hp
    have hb := h p List.mem_cons_self
    obtain ⟨x, hx, e⟩ := chain_up (p2 :: c) (b + 1) (by simp) h2 fun x hx => by
      obtain ⟨h3, h4⟩ := h1 x hx
      have := hv_lt h3 h4
      omega
    refine ⟨x, List.mem_cons_of_mem _ hx, ?_⟩
    rw [List.length_cons]
    omega
theorem chain_le {r : List Int} {c : List Nat} (hp : c.Pairwise (fun p q => p < q ∧ rv r p < rv r q)) (hr : ∀ x ∈ c, x < r.length) : (c.length : Int) ≤ topZ r := by
  by_cases e : c = []
  · subst e
    exact top_pos r
  · obtain ⟨x, hx, h⟩ := chain_up c 0 e hp fun x _ => by
      have := hv_pos (r := r) x
      omega
    have := top_ge (hr x hx)
    omega
/-- .. and no sublist that ascends is longer -/
theorem sub_le {r t : List Int} (hs : t.Sublist r) (ha : t.Pairwise (· < ·)) : (t.length : Int) ≤ topZ r := by
  obtain ⟨is, e, hi⟩ := List.sublist_eq_map_getElem hs
  have hc : (is.map fun i => i.val).Pairwise (fun p q => p < q ∧ rv r p < rv r q) := by
    rw [List.pairwise_map]
    rw [e, List.pairwise_map] at ha
    refine (List.Pairwise.and hi ha).imp fun {a b} h => ?_
    obtain ⟨h1, h2⟩ := h
    refine ⟨h1, ?_⟩
    unfold rv
    rw [List.getElem?_eq_getElem a.isLt, List.getElem?_eq_getElem b.isLt]
    exact h2
  have := chain_le hc fun x hx => by
    obtain ⟨i, _, rfl⟩ := List.mem_map.mp hx
    exact i.isLt
  rw [List.length_map] at this
  rw [e, List.length_map]
  exact this
/-- places that rise make a sublist -/
theorem sub_of {r : List Int} {c : List Nat} (hp : c.Pairwise (· < ·)) (hr : ∀ x ∈ c, x < r.length) : (c.map (rv r)).Sublist r := by
  have e : c.map (rv r) = (c.attach.map fun x => (⟨x.1, hr x.1 x.2⟩ : Fin r.length)).map (r[·]) := by
    rw [List.map_map]
    have : c.map (rv r) = c.attach.map fun x => rv r x.1 := by rw [← List.attach_map_subtype_val c, List.map_map]; simp
    rw [this]
    refine List.map_congr_left fun x _ => ?_
    unfold rv
    rw [List.getElem?_eq_getElem (hr x.1 x.2)]
    rfl
  rw [e]
  refine List.map_getElem_sublist ?_
  rw [List.pairwise_map]
  have h2 : (c.attach.map (·.1)).Pairwise (· < ·) := by
    rw [List.attach_map_subtype_val]
    exact hp
  rw [List.pairwise_map] at h2
  exact h2.imp fun h => h
/-! ### the scan from the right -/
/-- what rising's scan holds when the places from k on have been looked at -/
def ScanI (r : List Int) (k : Nat) (w a : Int) (ps : List Nat) : Prop :=
  0 ≤ w ∧ (ps.length : Int) + w = topZ r ∧ (∀ p ∈ ps, k ≤ p ∧ p < r.length) ∧ (ps.reverse.Pairwise fun p q => p < q ∧ rv r p < rv r q) ∧ (∀ p ∈ ps, a ≤ rv r p) ∧ (0 < w → ∃ p, p < k ∧ hv r p = w ∧ rv r p < a)
theorem scan0 {r : List Int} {a : Int} (h : ∀ q, q < r.length → rv r q < a) : ScanI r r.length (topZ r) a [] := by
  refine ⟨top_pos r, by simp, (fun p hp => nomatch hp), .nil, (fun p hp => nomatch hp), fun hw => ?_⟩
  rcases top_at r with e | ⟨q, h1, h2⟩
  · omega
  · exact ⟨q, h1, h2, h q h1⟩
theorem scan_yes {r : List Int} {k : Nat} {w a : Int} {ps : List Nat} (h : ScanI r (k + 1) w a ps) (hk : k < r.length) (h1 : hv r k = w) (h2 : rv r k < a) : ScanI r k (w - 1) (rv r k) (ps ++ [k]) := by
  obtain ⟨i1, i2, i3, i4, i5, i6⟩ := h
  have hp := hv_pos (r := r) k
  refine ⟨by omega, by rw [List.length_append]; simp; omega, fun p hp => ?_, ?_, fun p hp => ?_, fun hw => ?_⟩
  · rcases List.mem_append.mp hp with h | h
    · have := i3 p h
      omega
    · have : p = k := by simpa using h
      omega
  · rw [List.reverse_append, List.reverse_singleton, List.singleton_append, List.pairwise_cons]
    refine ⟨fun q hq => ?_, i4⟩
    have hq := List.mem_reverse.mp hq
    have := i3 q hq
    have := i5 q hq
    exact ⟨by omega, by omega⟩
  · rcases List.mem_append.mp hp with h | h
    · have := i5 p h
      omega
    · have : p = k := by simpa using h
      subst this
      exact Int.le_refl _
  · rcases hv_from (r := r) k with h | ⟨p, h3, h4, h5⟩
    · omega
    · exact ⟨p, h3, by omega, h4⟩
theorem scan_no {r : List Int} {k : Nat} {w a : Int} {ps : List Nat} (h : ScanI r (k + 1) w a ps) (hn : ¬ (hv r k = w ∧ rv r k < a)) : ScanI r k w a ps := by
  obtain ⟨i1, i2, i3, i4, i5, i6⟩ := h
  refine ⟨i1, i2, fun p hp => ?_, i4, i5, fun hw => ?_⟩
  · have := i3 p hp
    omega
  · obtain ⟨p, h1, h2, h3⟩ := i6 hw
    refine ⟨p, ?_, h2, h3⟩
    by_cases e : p = k
    · subst e
      exact absurd ⟨h2, h3⟩ hn
    · omega
/-- rising's places -/
structure Rises (r : List Int) (c : List Nat) : Prop where
  up : c.Pairwise fun p q => p < q ∧ rv r p < rv r q
  ins : ∀ p ∈ c, p < r.length
  len : (c.length : Int) = topZ r
theorem scan_end {r : List Int} {w a : Int} {ps : List Nat} (h : ScanI r 0 w a ps) : Rises r ps.reverse := by
  obtain ⟨i1, i2, i3, i4, i5, i6⟩ := h
  refine ⟨i4, fun p hp => (i3 p (List.mem_reverse.mp hp)).2, ?_⟩
  by_cases c : 0 < w
  · obtain ⟨p, h1, _⟩ := i6 c
    omega
  · rw [List.length_reverse]
    omega
theorem Rises.sub {r : List Int} {c : List Nat} (h : Rises r c) : (c.map (rv r)).Sublist r := sub_of (h.up.imp fun q => q.1) h.ins
theorem Rises.asc {r : List Int} {c : List Nat} (h : Rises r c) : (c.map (rv r)).Pairwise (· < ·) := by
  rw [List.pairwise_map]
  exact h.up.imp fun q => q.2
/-! ### a take changes little -/
theorem filter_take {b : List Int} (nd : b.Nodup) {i j : Nat} {x : Int} (hx : b[i]? = some x) : (takeZ b i j).filter (fun y => decide (y ≠ x)) = b.filter (fun y => decide (y ≠ x)) := by
  obtain ⟨h1, h2⟩ := List.getElem?_eq_some_iff.mp hx
  unfold takeZ
  rw [cut1 hx]
  have e : b = b.take i ++ [x] ++ b.drop (i + 1) := by
    rw [List.append_assoc, List.singleton_append, ← h2, ← List.drop_eq_getElem_cons h1, List.take_append_drop]
  have e2 : b.filter (fun y => decide (y ≠ x)) = (b.take i ++ b.drop (i + 1)).filter (fun y => decide (y ≠ x)) := by
    conv => lhs; rw [e]
    simp
  rw [e2, List.filter_append, List.filter_append]
  have e3 : [x].filter (fun y => decide (y ≠ x)) = [] := by simp
  rw [e3, List.append_nil, ← List.filter_append, List.take_append_drop]
theorem filter_ne_len {s : List Int} (nd : s.Nodup) (x : Int) : s.length ≤ (s.filter fun y => decide (y ≠ x)).length + 1 := by
  have : ∀ s : List Int, s.Nodup → s.length ≤ (s.filter fun y => decide (y ≠ x)).length + 1 := fun s => by
    induction s with
    | nil => intro _; simp
    | cons z s ih =>
      intro nd
      obtain ⟨h1, h2⟩ := List.nodup_cons.mp nd
      by_cases c : z = x
      · subst c
        rw [List.filter_cons_of_neg (by simp), List.filter_eq_self.mpr]
        · rw [List.length_cons]
          exact Nat.le_refl _
        · intro y hy
          simp
          rintro rfl
          exact h1 hy
      · rw [List.filter_cons_of_pos (by simpa using c), List.length_cons, List.length_cons]
        have := ih h2
        omega
  exact this s nd
/-- both have it in this order -/
def Com (a b : List Int) (k : Nat) : Prop := ∃ s : List Int, s.Sublist a ∧ s.Sublist b ∧ k ≤ s.length
theorem Com.back {a b : List Int} {k : Nat} (h : Com a b k) : Com b a k := by
  obtain ⟨s, h1, h2, h3⟩ := h
  exact ⟨s, h2, h1, h3⟩
theorem com_self (a : List Int) : Com a a a.length := ⟨a, List.Sublist.refl _, List.Sublist.refl _, Nat.le_refl _⟩
theorem Com.take {a b : List Int} {k i j : Nat} (nd : b.Nodup) (hi : i < b.length) (h : Com a b k) : Com a (takeZ b i j) (k - 1) := by
  obtain ⟨s, h1, h2, h3⟩ := h
  have hx := List.getElem?_eq_getElem hi
  refine ⟨s.filter fun y => decide (y ≠ b[i]), List.filter_sublist.trans h1, ?_, ?_⟩
  · refine List.Sublist.trans ?_ (List.filter_sublist (p := fun y => decide (y ≠ b[i])))
    rw [filter_take nd hx]
    exact h2.filter _
  · have := filter_ne_len (h2.nodup nd) b[i]
    omega
theorem top_take {r : List Int} (nd : r.Nodup) {i j : Nat} (hi : i < r.length) {t : List Int} (ht : t.Sublist (takeZ r i j)) (ha : t.Pairwise (· < ·)) : (t.length : Int) ≤ topZ r + 1 := by
  have hx := List.getElem?_eq_getElem hi
  have h1 : (t.filter fun y => decide (y ≠ r[i])).Sublist r := by
    refine List.Sublist.trans (ht.filter _) ?_
    rw [filter_take nd hx]
    exact List.filter_sublist
  have h2 := sub_le h1 (ha.sublist List.filter_sublist)
  have h3 := filter_ne_len (ha.imp fun h => Int.ne_of_lt h) r[i]
  omega
theorem upS (a : Int) (n : Nat) : (upI a n).Pairwise (· ≤ ·) := by
  unfold upI
  refine List.pairwise_map.mpr ?_
  exact List.pairwise_lt_range.imp fun h => by omega
/-! ### the script of takes -/
/-- in order by now: the pieces to p, and those that are kept -/
def inK (K : List Int) (p : Nat) (x : Int) : Bool := decide (x ≤ p) || decide (x ∈ K)
def ordK (K : List Int) (p : Nat) (r : List Int) : List Int := r.filter (inK K p)
theorem inK_succ {K : List Int} {p : Nat} {x : Int} (h : x ≠ (p : Int) + 1) : inK K (p + 1) x = inK K p x := by
  unfold inK
  by_cases c : x ≤ (p : Int)
  · rw [decide_eq_true c, decide_eq_true (by omega : x ≤ ((p + 1 : Nat) : Int))]
  · rw [decide_eq_false c, decide_eq_false (by omega : ¬ x ≤ ((p + 1 : Nat) : Int))]
theorem inK_new {K : List Int} {p : Nat} : inK K (p + 1) ((p : Int) + 1) = true := by
  unfold inK
  rw [decide_eq_true (by omega : (p : Int) + 1 ≤ ((p + 1 : Nat) : Int))]
  rfl
theorem inK_old {K : List Int} {p : Nat} (h : (p : Int) + 1 ∉ K) : inK K p ((p : Int) + 1) = false := by
  unfold inK
  rw [decide_eq_false (by omega), decide_eq_false h]
  rfl
theorem ordK_kept {K r : List Int} {p : Nat} (h : (p : Int) + 1 ∈ K) : ordK K (p + 1) r = ordK K p r := by
  unfold ordK
  refine List.filter_congr fun x _ => ?_
  by_cases c : x = (p : Int) + 1
  · subst c
    rw [inK_new]
    unfold inK
    rw [decide_eq_true h, Bool.or_true]
  · exact inK_succ c
theorem ordK_not {K r : List Int} {p : Nat} (h : (p : Int) + 1 ∉ r) : ordK K (p + 1) r = ordK K p r := by
  unfold ordK
  exact List.filter_congr fun x hx => inK_succ fun e => h (e ▸ hx)
/-- the row with p + 1 put behind p, or first -/
theorem put_asc {K A B : List Int} {p : Nat} (hp : (p : Int) + 1 ∉ A ++ B) (h1 : ∀ x ∈ A ++ B, 1 ≤ x) (hA : (p = 0 ∧ A = []) ∨ ∃ A', A = A' ++ [(p : Int)]) (ha : (ordK K p (A ++ B)).Pairwise (· < ·)) : (ordK K (p + 1) (A ++ [(p : Int) + 1] ++ B)).Pairwise (· < ·) ∧ (ordK K (p + 1) (A ++ [(p : Int) + 1] ++ B)).length = (ordK K p (A ++ B)).length + 1 := by
  have hA' : (p : Int) + 1 ∉ A := fun h => hp (List.mem_append_left _ h)
  have hB' : (p : Int) + 1 ∉ B := fun h => hp (List.mem_append_right _ h)
  have e : ordK K (p + 1) (A ++ [(p : Int) + 1] ++ B) = ordK K p A ++ [(p : Int) + 1] ++ ordK K p B := by
    rw [← ordK_not hA', ← ordK_not hB']
    unfold ordK
    rw [List.filter_append, List.filter_append, List.filter_cons_of_pos inK_new, List.filter_nil]
  have e2 : ordK K p (A ++ B) = ordK K p A ++ ordK K p B := List.filter_append ..
  rw [e, e2]
  rw [e2] at ha
  refine ⟨?_, by simp; omega⟩
  obtain ⟨a1, a2, a3⟩ := List.pairwise_append.mp ha
  have lo : ∀ x ∈ ordK K p A, x < (p : Int) + 1 := by
    rcases hA with ⟨_, rfl⟩ | ⟨A', rfl⟩
    · exact fun x h => nomatch h
    · intro x hx
      have e3 : ordK K p (A' ++ [(p : Int)]) = ordK K p A' ++ [(p : Int)] := by
        unfold ordK
        rw [List.filter_append, List.filter_cons_of_pos (by unfold inK; simp), List.filter_nil]
      rw [e3] at hx a1
      rcases List.mem_append.mp hx with h | h
      · have := (List.pairwise_append.mp a1).2.2 x h (p : Int) (by simp)
        omega
      · have : x = (p : Int) := by simpa using h
        omega
  have hi : ∀ y ∈ ordK K p B, (p : Int) + 1 < y := by
    intro y hy
    have hyB := (List.mem_filter.mp hy).1
    have hne : y ≠ (p : Int) + 1 := fun z => hB' (z ▸ hyB)
    rcases hA with ⟨rfl, rfl⟩ | ⟨A', rfl⟩
    · have := h1 y (by simpa using hyB)
      omega
    · have hm : (p : Int) ∈ ordK K p (A' ++ [(p : Int)]) := List.mem_filter.mpr ⟨by simp, by unfold inK; simp⟩
      have := a3 _ hm y hy
      omega
  rw [List.append_assoc]
  refine List.pairwise_append.mpr ⟨a1, ?_, fun x hx y hy => ?_⟩
  · rw [List.singleton_append, List.pairwise_cons]
    exact ⟨hi, a2⟩
  · rw [List.singleton_append] at hy
    rcases List.mem_cons.mp hy with rfl | hy
    · exact lo x hx
    · exact a3 x hx y hy
theorem split_at {r : List Int} {i : Nat} {x : Int} (h : r[i]? = some x) : r = r.take i ++ [x] ++ r.drop (i + 1) := by
  obtain ⟨h1, h2⟩ := List.getElem?_eq_some_iff.mp h
  rw [List.append_assoc, List.singleton_append, ← h2, ← List.drop_eq_getElem_cons h1, List.take_append_drop]
/-- the piece at i put in at j stands behind what stood ahead of j -/
theorem take_form {r : List Int} {i j : Nat} {x : Int} (h : r[i]? = some x) : takeZ r i j = (r.eraseIdx i).take j ++ [x] ++ (r.eraseIdx i).drop j := by
  unfold takeZ
  rw [cut1 h, ← List.eraseIdx_eq_take_drop_succ]
/-- one turn of the script: the piece p + 1 at i goes behind p at q -/
theorem turn_take {K r : List Int} {n p i : Nat} (hr : r.Perm (upI 1 n)) (hp : p < n) (hK : (p : Int) + 1 ∉ K) (hi : r[i]? = some ((p : Int) + 1)) (ha : (ordK K p r).Pairwise (· < ·))
    {j : Nat} (hj : (p = 0 ∧ j = 0) ∨ ∃ q, r[q]? = some (p : Int) ∧ j = if i < q then q else q + 1) :
    (ordK K (p + 1) (takeZ r i j)).Pairwise (· < ·) ∧ (ordK K (p + 1) (takeZ r i j)).length = (ordK K p r).length + 1 ∧ j < n ∧ (i = j → takeZ r i j = r) := by
  have nd : r.Nodup := hr.symm.nodup (up_nodup 1 n)
  have hl : r.length = n := by rw [hr.length_eq, upI_length]
  obtain ⟨hi1, hi2⟩ := List.getElem?_eq_some_iff.mp hi
  have e0 := split_at hi
  have ee : r.eraseIdx i = r.take i ++ r.drop (i + 1) := List.eraseIdx_eq_take_drop_succ ..
  have notin : (p : Int) + 1 ∉ r.eraseIdx i := by
    rw [ee]
    intro hm
    rw [e0] at nd
    have nd2 : (((p : Int) + 1) :: (r.take i ++ r.drop (i + 1))).Nodup := by
      refine List.Perm.nodup ?_ nd
      rw [List.append_assoc, List.singleton_append]
      exact List.perm_middle
    exact (List.nodup_cons.mp nd2).1 hm
  have pos : ∀ x ∈ r.eraseIdx i, 1 ≤ x := fun x hx => by
    have := up_mem.mp (hr.mem_iff.mp (List.mem_of_mem_eraseIdx hx))
    omega
  have ord : ordK K p (r.eraseIdx i) = ordK K p r := by
    rw [ee]
    conv => rhs; rw [e0]
    unfold ordK
    rw [List.filter_append, List.filter_append, List.filter_append, List.filter_cons_of_neg (by rw [inK_old hK]; exact fun z => nomatch z), List.filter_nil, List.append_nil]
  have hle : (r.eraseIdx i).length = n - 1 := by rw [List.length_eraseIdx, if_pos hi1, hl]
  have hA : (p = 0 ∧ (r.eraseIdx i).take j = []) ∨ ∃ A', (r.eraseIdx i).take j = A' ++ [(p : Int)] := by
    rcases hj with ⟨h0, h2⟩ | ⟨q, hq, h2⟩
    · exact .inl ⟨h0, by rw [h2, List.take_zero]⟩
    · refine .inr ?_
      have hqi : q ≠ i := by
        rintro rfl
        rw [hi] at hq
        have := Option.some.inj hq
        omega
      by_cases c : i < q
      · rw [if_pos c] at h2
        have e1 : (r.eraseIdx i)[q - 1]? = some (p : Int) := by
          rw [List.getElem?_eraseIdx, if_neg (by omega), show q - 1 + 1 = q by omega]
          exact hq
        obtain ⟨k1, k2⟩ := List.getElem?_eq_some_iff.mp e1
        refine ⟨(r.eraseIdx i).take (q - 1), ?_⟩
        rw [h2, ← k2, List.take_append_getElem k1, show q - 1 + 1 = q by omega]
      · rw [if_neg c] at h2
        have e1 : (r.eraseIdx i)[q]? = some (p : Int) := by
          rw [List.getElem?_eraseIdx, if_pos (by omega)]
          exact hq
        obtain ⟨k1, k2⟩ := List.getElem?_eq_some_iff.mp e1
        refine ⟨(r.eraseIdx i).take q, ?_⟩
        rw [h2, ← k2, List.take_append_getElem k1]
  have ap : (r.eraseIdx i).take j ++ (r.eraseIdx i).drop j = r.eraseIdx i := List.take_append_drop ..
  obtain ⟨r1, r2⟩ := put_asc (K := K) (A := (r.eraseIdx i).take j) (B := (r.eraseIdx i).drop j) (p := p) (by rw [ap]; exact notin) (by rw [ap]; exact pos) hA (by rw [ap, ord]; exact ha)
  rw [← take_form hi] at r1 r2
  rw [ap, ord] at r2
  refine ⟨r1, r2, ?_, fun e => ?_⟩
  · rcases hj with ⟨_, h2⟩ | ⟨q, hq, h2⟩
    · omega
    · obtain ⟨k1, _⟩ := List.getElem?_eq_some_iff.mp hq
      have hqi : q ≠ i := by
        rintro rfl
        rw [hi] at hq
        have := Option.some.inj hq
        omega
      by_cases c : i < q
      · rw [if_pos c] at h2
        omega
      · rw [if_neg c] at h2
        omega
  · subst e
    rw [take_form hi, ee]
    conv => rhs; rw [e0]
    have l1 : (r.take i).length = i := by rw [List.length_take]; omega
    rw [List.take_append_of_le_length (by omega), List.take_of_length_le (by omega), List.drop_append_of_le_length (by omega), List.drop_of_length_le (by omega), List.nil_append]
theorem asc_up {r : List Int} {n : Nat} (h : r.Perm (upI 1 n)) (ha : r.Pairwise (· < ·)) : r = upI 1 n :=
  List.Perm.eq_of_pairwise (fun a b _ _ h1 h2 => Int.le_antisymm h1 h2) (ha.imp fun h => Int.le_of_lt h) (upS 1 n) h
theorem ordK_all {K r : List Int} {n : Nat} (h : r.Perm (upI 1 n)) : ordK K n r = r := by
  refine List.filter_eq_self.mpr fun x hx => ?_
  have := up_mem.mp (h.mem_iff.mp hx)
  unfold inK
  rw [decide_eq_true (by omega)]
  rfl
theorem filter_sub {K r : List Int} (hs : K.Sublist r) (nd : r.Nodup) : r.filter (fun x => decide (x ∈ K)) = K := by
  induction hs with
  | slnil => rfl
  | @cons K r x hs ih =>
    obtain ⟨h1, h2⟩ := List.nodup_cons.mp nd
    rw [List.filter_cons_of_neg]
    · exact ih h2
    · rw [decide_eq_false (fun h => h1 (hs.subset h))]
      exact fun z => nomatch z
  | @cons_cons K r x hs ih =>
    obtain ⟨h1, h2⟩ := List.nodup_cons.mp nd
    rw [List.filter_cons_of_pos (by simp)]
    congr 1
    refine Eq.trans ?_ (ih h2)
    refine List.filter_congr fun y hy => ?_
    have hne : y ≠ x := fun e => h1 (e ▸ hy)
    exact decide_eq_decide.mpr ⟨fun h => (List.mem_cons.mp h).resolve_left hne, fun h => List.mem_cons_of_mem _ h⟩
theorem ordK_zero {K r : List Int} {n : Nat} (h : r.Perm (upI 1 n)) (hs : K.Sublist r) : ordK K 0 r = K := by
  refine Eq.trans ?_ (filter_sub hs (h.symm.nodup (up_nodup 1 n)))
  unfold ordK
  refine List.filter_congr fun x hx => ?_
  have := up_mem.mp (h.mem_iff.mp hx)
  unfold inK
  rw [decide_eq_false (by omega), Bool.false_or]
/-! ### two rows -/
section
variable {n : Nat} {a b : List Int}
theorem up_lt (a : Int) (n : Nat) : (upI a n).Pairwise (· < ·) := by
  unfold upI
  refine List.pairwise_map.mpr ?_
  exact List.pairwise_lt_range.imp fun h => by omega
theorem com_le (T : Two n a b) {k : Nat} (h : Com a b k) : (k : Int) ≤ topZ (relZ a b) := by
  obtain ⟨s, h1, h2, h3⟩ := h
  have s1 := h1.map fun x => (((idxZ x b).getD 0 : Nat) : Int) + 1
  have s2 := h2.map fun x => (((idxZ x b).getD 0 : Nat) : Int) + 1
  have e : b.map (fun x => (((idxZ x b).getD 0 : Nat) : Int) + 1) = upI 1 n := rel_self T.nb T.lb
  rw [e] at s2
  have := sub_le (r := relZ a b) s1 ((up_lt 1 n).sublist s2)
  rw [List.length_map] at this
  omega
theorem rises_all (r : List Int) : ∃ c, Rises r c := by
  obtain ⟨A, hA⟩ : ∃ A : Int, ∀ q, q < r.length → rv r q < A := by
    refine ⟨maxO 0 r + 1, fun q hq => ?_⟩
    have : rv r q ∈ r := by
      unfold rv
      rw [List.getElem?_eq_getElem hq]
      exact List.getElem_mem hq
    have := maxO_ge this
    omega
  have key : ∀ d k, k + d = r.length → ∃ w a ps, ScanI r k w a ps := fun d => by
    induction d with
    | zero =>
      intro k hk
      have : k = r.length := by omega
      subst this
      exact ⟨_, _, _, scan0 hA⟩
    | succ d ih =>
      intro k hk
      obtain ⟨w, a, ps, h⟩ := ih (k + 1) (by omega)
      by_cases c : hv r k = w ∧ rv r k < a
      · exact ⟨_, _, _, scan_yes h (by omega) c.1 c.2⟩
      · exact ⟨_, _, _, scan_no h c⟩
  obtain ⟨w, a, ps, h⟩ := key r.length 0 (by omega)
  exact ⟨_, scan_end h⟩
theorem top_com (T : Two n a b) : Com a b (topZ (relZ a b)).toNat := by
  obtain ⟨c, hc⟩ := rises_all (relZ a b)
  have lr := rel_len T
  have at1 : ∀ p ∈ c, 1 ≤ rv (relZ a b) p ∧ (rv (relZ a b) p - 1).toNat < n ∧ rv a p = rv b (rv (relZ a b) p - 1).toNat := fun p hp => by
    obtain ⟨x, j, e1, e2, e3, e4⟩ := rel_at T (k := p) (by have := hc.ins p hp; omega)
    unfold rv
    rw [e1, e4, Option.getD_some, Option.getD_some, show ((j : Int) + 1 - 1).toNat = j by omega, e2]
    exact ⟨by omega, e3, rfl⟩
  refine ⟨c.map (rv a), sub_of (hc.up.imp fun h => h.1) (fun p hp => by have := hc.ins p hp; rw [T.la]; omega), ?_, ?_⟩
  · have e : c.map (rv a) = (c.map fun p => (rv (relZ a b) p - 1).toNat).map (rv b) := by
      rw [List.map_map]
      exact List.map_congr_left fun p hp => (at1 p hp).2.2
    rw [e]
    refine sub_of ?_ fun q hq => ?_
    · rw [List.pairwise_map]
      refine List.Pairwise.imp_of_mem (R := fun p q => p < q ∧ rv (relZ a b) p < rv (relZ a b) q) (fun {p q} hp hq h => ?_) hc.up
      have := at1 p hp
      have := at1 q hq
      omega
    · obtain ⟨p, hp, rfl⟩ := List.mem_map.mp hq
      have := at1 p hp
      rw [T.lb]
      omega
  · have := hc.len
    rw [List.length_map]
    omega
theorem top_back (T : Two n a b) : topZ (relZ b a) = topZ (relZ a b) := by
  have h1 := com_le T.back (top_com T).back
  have h2 := com_le T (top_com T.back).back
  have := top_pos (relZ a b)
  have := top_pos (relZ b a)
  omega
theorem top_self {r : List Int} (h : r.Perm (upI 1 n)) : (n : Int) ≤ topZ (relZ r r) := by
  have := com_le ⟨h, h⟩ (com_self r)
  rw [h.length_eq, upI_length] at this
  exact this
theorem top_le (T : Two n a b) : topZ (relZ a b) ≤ n := by
  obtain ⟨c, hc⟩ := rises_all (relZ a b)
  have := hc.sub.length_le
  rw [List.length_map, rel_len T] at this
  have := hc.len
  omega
theorem top_step (T : Two n a b) {i j : Nat} (hi : i < n) : topZ (relZ a b) - 1 ≤ topZ (relZ a (takeZ b i j)) ∧ Two n a (takeZ b i j) := by
  have T' : Two n a (takeZ b i j) := ⟨T.pa, (take_perm (by rw [T.lb]; exact hi)).trans T.pb⟩
  have := com_le T' ((top_com T).take (j := j) T.nb (by rw [T.lb]; exact hi))
  have := top_pos (relZ a b)
  exact ⟨by omega, T'⟩
end
end Pu

set_option Elab.async false
set_option linter.all false
set_option maxRecDepth 100000
set_option maxHeartbeats 2000000
/-! ways of swaps (k13): the product over the rings; rings when two places of one ring are exchanged -/
namespace Pu
open PySem PySem.Spec PyProof.Rows L2
/-! ### numbers -/
def chRow (p : Nat → Nat) : Nat → Nat
  | 0 => 1
  | b + 1 => p (b + 1) + chRow p b
def chN : Nat → Nat → Nat
  | 0 => fun _ => 1
  | a + 1 => chRow (chN a)
theorem chN_zero (a : Nat) : chN a 0 = 1 := by cases a <;> rfl
theorem fac_ch : ∀ a b, chN a b * (facN a * facN b) = facN (a + b)
  | 0, b => by
    rw [Nat.zero_add]
    show 1 * (1 * facN b) = facN b
    omega
  | a + 1, 0 => by
    show 1 * (facN (a + 1) * 1) = facN (a + 1)
    omega
  | a + 1, b + 1 => by
    have h1 := fac_ch a (b + 1)
    have h2 := fac_ch (a + 1) b
    show (chN a (b + 1) + chN (a + 1) b) * (facN (a + 1) * facN (b + 1)) = facN (a + 1 + b + 1)
    have e1 : facN (a + 1 + b + 1) = (a + 1) * facN (a + (b + 1)) + (b + 1) * facN (a + 1 + b) := by
      have e : a + (b + 1) = a + 1 + b := by omega
      rw [e, ← Nat.add_mul]
      show (a + 1 + b + 1) * facN (a + 1 + b) = _
      congr 1
    rw [e1, ← h1, ← h2, Nat.add_mul]
    congr 1
    · show chN a (b + 1) * ((a + 1) * facN a * facN (b + 1)) = (a + 1) * (chN a (b + 1) * (facN a * facN (b + 1)))
      rw [Nat.mul_assoc, Nat.mul_left_comm]
    · show chN (a + 1) b * (facN (a + 1) * ((b + 1) * facN b)) = (b + 1) * (chN (a + 1) b * (facN (a + 1) * facN b))
      rw [Nat.mul_left_comm (facN (a + 1)), Nat.mul_left_comm]
theorem ch_step (a s : Nat) : chN a s * (a + (s + 1)) = chN a (s + 1) * (s + 1) := by
  have h1 := fac_ch a s
  have h2 := fac_ch a (s + 1)
  have e : facN (a + (s + 1)) = (a + (s + 1)) * facN (a + s) := rfl
  have p : 0 < facN a * facN s := Nat.mul_pos (facN_pos _) (facN_pos _)
  refine Nat.eq_of_mul_eq_mul_right p ?_
  have e2 : chN a (s + 1) * (s + 1) * (facN a * facN s) = chN a (s + 1) * (facN a * facN (s + 1)) := by
    show _ = chN a (s + 1) * (facN a * ((s + 1) * facN s))
    rw [Nat.mul_assoc, Nat.mul_left_comm (s + 1)]
  rw [e2, h2, e, ← h1, Nat.mul_right_comm, Nat.mul_comm]
def treeN (k : Nat) : Nat := k ^ (k - 2)
def dN : List Nat → Nat
  | [] => 0
  | k :: ks => (k - 1) + dN ks
def pN : List Nat → Nat
  | [] => 1
  | k :: ks => facN (k - 1) * pN ks
def tN : List Nat → Nat
  | [] => 1
  | k :: ks => treeN k * tN ks
/-- the product as the program reckons it -/
def runW (A : Nat) (ks : List Nat) : Nat := ks.foldl (fun w k => w / facN (k - 1) * treeN k) A
def wayN (ks : List Nat) : Nat := runW (facN (dN ks)) ks
theorem pN_pos : ∀ ks, 0 < pN ks
  | [] => Nat.one_pos
  | k :: ks => Nat.mul_pos (facN_pos _) (pN_pos ks)
theorem runW_eq : ∀ (ks : List Nat) (c : Nat), runW (c * pN ks) ks = c * tN ks
  | [], c => rfl
  | k :: ks, c => by
    show runW (c * (facN (k - 1) * pN ks) / facN (k - 1) * treeN k) ks = c * (treeN k * tN ks)
    have e : c * (facN (k - 1) * pN ks) / facN (k - 1) * treeN k = c * treeN k * pN ks := by
      rw [Nat.mul_left_comm, Nat.mul_div_cancel_left _ (facN_pos _), Nat.mul_right_comm]
    rw [e, runW_eq ks, Nat.mul_assoc]
theorem multi : ∀ ks : List Nat, ∃ M, M * pN ks = facN (dN ks)
  | [] => ⟨1, rfl⟩
  | k :: ks => by
    obtain ⟨M, h⟩ := multi ks
    refine ⟨chN (k - 1) (dN ks) * M, ?_⟩
    show chN (k - 1) (dN ks) * M * (facN (k - 1) * pN ks) = facN (k - 1 + dN ks)
    rw [← fac_ch, ← h, Nat.mul_assoc, Nat.mul_left_comm M]
theorem way_eq (ks : List Nat) : wayN ks * pN ks = facN (dN ks) * tN ks := by
  obtain ⟨M, h⟩ := multi ks
  unfold wayN
  rw [← h, runW_eq, Nat.mul_right_comm]
theorem dN_perm {l m : List Nat} (h : l.Perm m) : dN l = dN m := by
  induction h with
  | nil => rfl
  | cons x _ ih => show x - 1 + dN _ = x - 1 + dN _; rw [ih]
  | swap x y l => show y - 1 + (x - 1 + dN l) = x - 1 + (y - 1 + dN l); omega
  | trans _ _ h1 h2 => rw [h1, h2]
theorem pN_perm {l m : List Nat} (h : l.Perm m) : pN l = pN m := by
  induction h with
  | nil => rfl
  | cons x _ ih => show facN (x - 1) * pN _ = facN (x - 1) * pN _; rw [ih]
  | swap x y l => show facN (y - 1) * (facN (x - 1) * pN l) = facN (x - 1) * (facN (y - 1) * pN l); rw [Nat.mul_left_comm]
  | trans _ _ h1 h2 => rw [h1, h2]
theorem tN_perm {l m : List Nat} (h : l.Perm m) : tN l = tN m := by
  induction h with
  | nil => rfl
  | cons x _ ih => show treeN x * tN _ = treeN x * tN _; rw [ih]
  | swap x y l => show treeN y * (treeN x * tN l) = treeN x * (treeN y * tN l); rw [Nat.mul_left_comm]
  | trans _ _ h1 h2 => rw [h1, h2]
theorem way_perm {l m : List Nat} (h : l.Perm m) : wayN l = wayN m := by
  refine Nat.eq_of_mul_eq_mul_right (pN_pos l) ?_
  rw [way_eq, pN_perm h, way_eq, dN_perm h, tN_perm h]
/-- what the splits of a ring of k places add up to -/
def splitS (k : Nat) (o : List Nat) : Nat := ((List.range (k - 1)).map fun s => wayN ((k - (s + 1)) :: (s + 1) :: o)).sum
theorem split_one (a b : Nat) (o : List Nat) : facN a * facN b * (wayN ((a + 1) :: (b + 1) :: o) * pN o) = treeN (a + 1) * treeN (b + 1) * (facN (a + b + dN o) * tN o) := by
  have h := way_eq ((a + 1) :: (b + 1) :: o)
  have e1 : pN ((a + 1) :: (b + 1) :: o) = facN a * (facN b * pN o) := rfl
  have e2 : tN ((a + 1) :: (b + 1) :: o) = treeN (a + 1) * (treeN (b + 1) * tN o) := rfl
  have e3 : dN ((a + 1) :: (b + 1) :: o) = a + b + dN o := by
    show a + (b + dN o) = _
    omega
  rw [e1, e2, e3] at h
  have l : facN a * facN b * (wayN ((a + 1) :: (b + 1) :: o) * pN o) = wayN ((a + 1) :: (b + 1) :: o) * (facN a * (facN b * pN o)) := by
    rw [Nat.mul_left_comm, Nat.mul_assoc (facN a)]
  have r : treeN (a + 1) * treeN (b + 1) * (facN (a + b + dN o) * tN o) = facN (a + b + dN o) * (treeN (a + 1) * (treeN (b + 1) * tN o)) := by
    rw [Nat.mul_left_comm, Nat.mul_assoc (treeN (a + 1))]
  rw [l, r, h]
theorem split_sum {k : Nat} (h1 : 1 ≤ k) (h7 : k ≤ 7) (o : List Nat) : k * (splitS k o * (facN (k - 1) * pN o)) = 2 * ((k - 1) * (facN (k - 2 + dN o) * (treeN k * tN o))) := by
  have key : ∀ a b c t m : Nat, facN a * facN b = c → treeN (a + 1) * treeN (b + 1) = t → a + b = m → c * (wayN ((a + 1) :: (b + 1) :: o) * pN o) = t * (facN (m + dN o) * tN o) := fun a b c t m e1 e2 e3 => by
    rw [← e1, ← e2, ← e3]
    exact split_one a b o
  have k1 : k = 1 ∨ k = 2 ∨ k = 3 ∨ k = 4 ∨ k = 5 ∨ k = 6 ∨ k = 7 := by omega
  rw [Nat.mul_left_comm (splitS k o), Nat.mul_left_comm (facN (k - 2 + dN o))]
  rcases k1 with rfl | rfl | rfl | rfl | rfl | rfl | rfl
  · show 1 * (facN 0 * (0 * pN o)) = 2 * (0 * _)
    omega
  · have s : splitS 2 o * pN o = wayN (1 :: 1 :: o) * pN o := by
      show (wayN (1 :: 1 :: o) + 0) * pN o = _
      simp only [Nat.add_mul, Nat.add_zero]
    show 2 * (facN 1 * (splitS 2 o * pN o)) = 2 * (1 * (treeN 2 * (facN (0 + dN o) * tN o)))
    rw [s, show facN 1 = 1 from rfl, show treeN 2 = 1 from rfl]
    have y0 := key 0 0 1 1 0 (by decide) (by decide) (by decide)
    have y0 : 1 * (wayN (1 :: 1 :: o) * pN o) = 1 * (facN (0 + dN o) * tN o) := y0
    generalize facN (0 + dN o) * tN o = X at *
    generalize wayN (1 :: 1 :: o) * pN o = Y0 at *
    omega
  · have s : splitS 3 o * pN o = wayN (2 :: 1 :: o) * pN o + (wayN (1 :: 2 :: o) * pN o) := by
      show (wayN (2 :: 1 :: o) + (wayN (1 :: 2 :: o) + 0)) * pN o = _
      simp only [Nat.add_mul, Nat.add_zero]
    show 3 * (facN 2 * (splitS 3 o * pN o)) = 2 * (2 * (treeN 3 * (facN (1 + dN o) * tN o)))
    rw [s, show facN 2 = 2 from rfl, show treeN 3 = 3 from rfl]
    have y0 := key 1 0 1 1 1 (by decide) (by decide) (by decide)
    have y0 : 1 * (wayN (2 :: 1 :: o) * pN o) = 1 * (facN (1 + dN o) * tN o) := y0
    have y1 := key 0 1 1 1 1 (by decide) (by decide) (by decide)
    have y1 : 1 * (wayN (1 :: 2 :: o) * pN o) = 1 * (facN (1 + dN o) * tN o) := y1
    generalize facN (1 + dN o) * tN o = X at *
    generalize wayN (2 :: 1 :: o) * pN o = Y0 at *
    generalize wayN (1 :: 2 :: o) * pN o = Y1 at *
    omega
  · have s : splitS 4 o * pN o = wayN (3 :: 1 :: o) * pN o + (wayN (2 :: 2 :: o) * pN o + (wayN (1 :: 3 :: o) * pN o)) := by
      show (wayN (3 :: 1 :: o) + (wayN (2 :: 2 :: o) + (wayN (1 :: 3 :: o) + 0))) * pN o = _
      simp only [Nat.add_mul, Nat.add_zero]
    show 4 * (facN 3 * (splitS 4 o * pN o)) = 2 * (3 * (treeN 4 * (facN (2 + dN o) * tN o)))
    rw [s, show facN 3 = 6 from rfl, show treeN 4 = 16 from rfl]
    have y0 := key 2 0 2 3 2 (by decide) (by decide) (by decide)
    have y0 : 2 * (wayN (3 :: 1 :: o) * pN o) = 3 * (facN (2 + dN o) * tN o) := y0
    have y1 := key 1 1 1 1 2 (by decide) (by decide) (by decide)
    have y1 : 1 * (wayN (2 :: 2 :: o) * pN o) = 1 * (facN (2 + dN o) * tN o) := y1
    have y2 := key 0 2 2 3 2 (by decide) (by decide) (by decide)
    have y2 : 2 * (wayN (1 :: 3 :: o) * pN o) = 3 * (facN (2 + dN o) * tN o) := y2
    generalize facN (2 + dN o) * tN o = X at *
    generalize wayN (3 :: 1 :: o) * pN o = Y0 at *
    generalize wayN (2 :: 2 :: o) * pN o = Y1 at *
    generalize wayN (1 :: 3 :: o) * pN o = Y2 at *
    omega
  · have s : splitS 5 o * pN o = wayN (4 :: 1 :: o) * pN o + (wayN (3 :: 2 :: o) * pN o + (wayN (2 :: 3 :: o) * pN o + (wayN (1 :: 4 :: o) * pN o))) := by
      show (wayN (4 :: 1 :: o) + (wayN (3 :: 2 :: o) + (wayN (2 :: 3 :: o) + (wayN (1 :: 4 :: o) + 0)))) * pN o = _
      simp only [Nat.add_mul, Nat.add_zero]
    show 5 * (facN 4 * (splitS 5 o * pN o)) = 2 * (4 * (treeN 5 * (facN (3 + dN o) * tN o)))
    rw [s, show facN 4 = 24 from rfl, show treeN 5 = 125 from rfl]
    have y0 := key 3 0 6 16 3 (by decide) (by decide) (by decide)
    have y0 : 6 * (wayN (4 :: 1 :: o) * pN o) = 16 * (facN (3 + dN o) * tN o) := y0
    have y1 := key 2 1 2 3 3 (by decide) (by decide) (by decide)
    have y1 : 2 * (wayN (3 :: 2 :: o) * pN o) = 3 * (facN (3 + dN o) * tN o) := y1
    have y2 := key 1 2 2 3 3 (by decide) (by decide) (by decide)
    have y2 : 2 * (wayN (2 :: 3 :: o) * pN o) = 3 * (facN (3 + dN o) * tN o) := y2
    have y3 := key 0 3 6 16 3 (by decide) (by decide) (by decide)
    have y3 : 6 * (wayN (1 :: 4 :: o) * pN o) = 16 * (facN (3 + dN o) * tN o) := y3
    generalize facN (3 + dN o) * tN o = X at *
    generalize wayN (4 :: 1 :: o) * pN o = Y0 at *
    generalize wayN (3 :: 2 :: o) * pN o = Y1 at *
    generalize wayN (2 :: 3 :: o) * pN o = Y2 at *
    generalize wayN (1 :: 4 :: o) * pN o = Y3 at *
    omega
  · have s : splitS 6 o * pN o = wayN (5 :: 1 :: o) * pN o + (wayN (4 :: 2 :: o) * pN o + (wayN (3 :: 3 :: o) * pN o + (wayN (2 :: 4 :: o) * pN o + (wayN (1 :: 5 :: o) * pN o)))) := by
      show (wayN (5 :: 1 :: o) + (wayN (4 :: 2 :: o) + (wayN (3 :: 3 :: o) + (wayN (2 :: 4 :: o) + (wayN (1 :: 5 :: o) + 0))))) * pN o = _
      simp only [Nat.add_mul, Nat.add_zero]
    show 6 * (facN 5 * (splitS 6 o * pN o)) = 2 * (5 * (treeN 6 * (facN (4 + dN o) * tN o)))
    rw [s, show facN 5 = 120 from rfl, show treeN 6 = 1296 from rfl]
    have y0 := key 4 0 24 125 4 (by decide) (by decide) (by decide)
    have y0 : 24 * (wayN (5 :: 1 :: o) * pN o) = 125 * (facN (4 + dN o) * tN o) := y0
    have y1 := key 3 1 6 16 4 (by decide) (by decide) (by decide)
    have y1 : 6 * (wayN (4 :: 2 :: o) * pN o) = 16 * (facN (4 + dN o) * tN o) := y1
    have y2 := key 2 2 4 9 4 (by decide) (by decide) (by decide)
    have y2 : 4 * (wayN (3 :: 3 :: o) * pN o) = 9 * (facN (4 + dN o) * tN o) := y2
    have y3 := key 1 3 6 16 4 (by decide) (by decide) (by decide)
    have y3 : 6 * (wayN (2 :: 4 :: o) * pN o) = 16 * (facN (4 + dN o) * tN o) := y3
    have y4 := key 0 4 24 125 4 (by decide) (by decide) (by decide)
    have y4 : 24 * (wayN (1 :: 5 :: o) * pN o) = 125 * (facN (4 + dN o) * tN o) := y4
    generalize facN (4 + dN o) * tN o = X at *
    generalize wayN (5 :: 1 :: o) * pN o = Y0 at *
    generalize wayN (4 :: 2 :: o) * pN o = Y1 at *
    generalize wayN (3 :: 3 :: o) * pN o = Y2 at *
    generalize wayN (2 :: 4 :: o) * pN o = Y3 at *
    generalize wayN (1 :: 5 :: o) * pN o = Y4 at *
    omega
  · have s : splitS 7 o * pN o = wayN (6 :: 1 :: o) * pN o + (wayN (5 :: 2 :: o) * pN o + (wayN (4 :: 3 :: o) * pN o + (wayN (3 :: 4 :: o) * pN o + (wayN (2 :: 5 :: o) * pN o + (wayN (1 :: 6 :: o) * pN o))))) := by
      show (wayN (6 :: 1 :: o) + (wayN (5 :: 2 :: o) + (wayN (4 :: 3 :: o) + (wayN (3 :: 4 :: o) + (wayN (2 :: 5 :: o) + (wayN (1 :: 6 :: o) + 0)))))) * pN o = _
      simp only [Nat.add_mul, Nat.add_zero]
    show 7 * (facN 6 * (splitS 7 o * pN o)) = 2 * (6 * (treeN 7 * (facN (5 + dN o) * tN o)))
    rw [s, show facN 6 = 720 from rfl, show treeN 7 = 16807 from rfl]
    have y0 := key 5 0 120 1296 5 (by decide) (by decide) (by decide)
    have y0 : 120 * (wayN (6 :: 1 :: o) * pN o) = 1296 * (facN (5 + dN o) * tN o) := y0
    have y1 := key 4 1 24 125 5 (by decide) (by decide) (by decide)
    have y1 : 24 * (wayN (5 :: 2 :: o) * pN o) = 125 * (facN (5 + dN o) * tN o) := y1
    have y2 := key 3 2 12 48 5 (by decide) (by decide) (by decide)
    have y2 : 12 * (wayN (4 :: 3 :: o) * pN o) = 48 * (facN (5 + dN o) * tN o) := y2
    have y3 := key 2 3 12 48 5 (by decide) (by decide) (by decide)
    have y3 : 12 * (wayN (3 :: 4 :: o) * pN o) = 48 * (facN (5 + dN o) * tN o) := y3
    have y4 := key 1 4 24 125 5 (by decide) (by decide) (by decide)
    have y4 : 24 * (wayN (2 :: 5 :: o) * pN o) = 125 * (facN (5 + dN o) * tN o) := y4
    have y5 := key 0 5 120 1296 5 (by decide) (by decide) (by decide)
    have y5 : 120 * (wayN (1 :: 6 :: o) * pN o) = 1296 * (facN (5 + dN o) * tN o) := y5
    generalize facN (5 + dN o) * tN o = X at *
    generalize wayN (6 :: 1 :: o) * pN o = Y0 at *
    generalize wayN (5 :: 2 :: o) * pN o = Y1 at *
    generalize wayN (4 :: 3 :: o) * pN o = Y2 at *
    generalize wayN (3 :: 4 :: o) * pN o = Y3 at *
    generalize wayN (2 :: 5 :: o) * pN o = Y4 at *
    generalize wayN (1 :: 6 :: o) * pN o = Y5 at *
    omega
end Pu

set_option Elab.async false
set_option linter.all false
set_option maxRecDepth 100000
set_option maxHeartbeats 2000000
/-! the lengths of the rings, when two places of one ring are exchanged -/
namespace Pu
open PySem PySem.Spec PyProof.Rows L2
section
variable {f f' : Int → Int} {ks : List Int}
theorem per_uniq {s : Int} {m m' : Nat} (h : IsPer f s m) (h' : IsPer f s m') : m = m' := by
  by_cases c : m < m'
  · exact absurd h.2.1 (h'.2.2 m h.1 c)
  · by_cases c2 : m' < m
    · exact absurd h'.2.1 (h.2.2 m' h'.1 c2)
    · omega
theorem Pm.pd_eq (P : Pm f ks) {s : Int} {m : Nat} (hs : s ∈ ks) (h : IsPer f s m) : pd f s = m := per_uniq (P.isPer hs).1 h
theorem Pm.pd_pos (P : Pm f ks) {s : Int} (hs : s ∈ ks) : 0 < pd f s := (P.isPer hs).1.1
theorem ring_len (f : Int → Int) (s : Int) : (ringZ f s).length = pd f s := orb_length _ _
theorem Pm.pd_ring (P : Pm f ks) {s x : Int} (hs : s ∈ ks) (hx : x ∈ ringZ f s) : pd f x = pd f s := by
  rw [← ring_len, ← ring_len]
  exact ((List.perm_ext_iff_of_nodup (P.ring_nd (P.ring_in hs hx)) (P.ring_nd hs)).mpr fun y => (P.ring_same hs hx y).symm).length_eq
/-! transversals -/
structure Tv (f : Int → Int) (ks H : List Int) : Prop where
  nd : H.Nodup
  ins : ∀ h ∈ H, h ∈ ks
  all : ∀ y ∈ ks, ∃ h ∈ H, y ∈ ringZ f h
  one : ∀ g ∈ H, ∀ h ∈ H, h ∈ ringZ f g → g = h
/-- the lengths of the rings -/
noncomputable def klZ (f : Int → Int) (ks : List Int) : List Nat := (heads f ks).map (pd f)
theorem Pm.head_of (P : Pm f ks) {y : Int} (hy : y ∈ ks) : mnZ (ringZ f y) ∈ heads f ks ∧ y ∈ ringZ f (mnZ (ringZ f y)) := by
  obtain ⟨m1, _⟩ := mnZ_in (P.ring_ne hy)
  have hk := P.ring_in hy m1
  exact ⟨mem_heads.mpr ⟨hk, (P.mn_ring hy m1).symm⟩, P.ring_back hy m1⟩
theorem Pm.head_one (P : Pm f ks) {g h : Int} (hg : g ∈ heads f ks) (hh : h ∈ heads f ks) (m : h ∈ ringZ f g) : g = h := by
  obtain ⟨g1, g2⟩ := mem_heads.mp hg
  obtain ⟨h1, h2⟩ := mem_heads.mp hh
  rw [← g2, ← h2]
  exact P.mn_ring g1 m
theorem Pm.tv (P : Pm f ks) : Tv f ks (heads f ks) := ⟨heads_nd P, fun h hh => (mem_heads.mp hh).1, fun y hy => ⟨_, P.head_of hy⟩, fun g hg h hh m => P.head_one hg hh m⟩
theorem Tv.perm (P : Pm f ks) {H : List Int} (T : Tv f ks H) : (H.map (pd f)).Perm (klZ f ks) := by
  have e : (H.map fun h => mnZ (ringZ f h)).Perm (heads f ks) := by
    refine (List.perm_ext_iff_of_nodup ?_ (heads_nd P)).mpr fun x => ⟨fun hx => ?_, fun hx => ?_⟩
    · refine List.pairwise_map.mpr (List.Pairwise.imp_of_mem ?_ T.nd)
      intro g h hg hh ne e
      have k1 := P.head_of (T.ins g hg)
      have k2 := P.head_of (T.ins h hh)
      rw [← e] at k2
      have m1 := (mnZ_in (P.ring_ne (T.ins g hg))).1
      exact ne (T.one g hg h hh (P.ring_trans (T.ins g hg) m1 k2.2))
    · obtain ⟨h, hh, rfl⟩ := List.mem_map.mp hx
      exact (P.head_of (T.ins h hh)).1
    · obtain ⟨x1, x2⟩ := mem_heads.mp hx
      obtain ⟨h, hh, hm⟩ := T.all x x1
      exact List.mem_map.mpr ⟨h, hh, by rw [P.mn_ring (T.ins h hh) hm, x2]⟩
  have e2 := e.map (pd f)
  rw [List.map_map] at e2
  refine List.Perm.trans (List.Perm.of_eq (List.map_congr_left fun h hh => ?_)) e2
  exact (P.pd_ring (T.ins h hh) (mnZ_in (P.ring_ne (T.ins h hh))).1).symm
/-! two places exchanged -/
structure Sw (f f' : Int → Int) (ks : List Int) (i j : Int) : Prop where
  P : Pm f ks
  P' : Pm f' ks
  hi : i ∈ ks
  hj : j ∈ ks
  ne : i ≠ j
  ei : f' i = f j
  ej : f' j = f i
  eo : ∀ x ∈ ks, x ≠ i → x ≠ j → f' x = f x
variable {i j : Int}
theorem Sw.back (S : Sw f f' ks i j) : Sw f' f ks i j := ⟨S.P', S.P, S.hi, S.hj, S.ne, S.ej.symm, S.ei.symm, fun x hx h1 h2 => (S.eo x hx h1 h2).symm⟩
theorem Sw.flip (S : Sw f f' ks i j) : Sw f f' ks j i := ⟨S.P, S.P', S.hj, S.hi, fun e => S.ne e.symm, S.ej, S.ei, fun x hx h1 h2 => S.eo x hx h2 h1⟩
theorem Sw.it_i (S : Sw f f' ks i j) {s : Nat} (hs : j = itZ f s i) (h2 : s < pd f i) : ∀ t, t + 1 ≤ pd f i - s → itZ f' (t + 1) i = itZ f (s + (t + 1)) i := fun t => by
  obtain ⟨⟨p0, p1, p2⟩, _⟩ := S.P.isPer S.hi
  have s0 : s ≠ 0 := by
    rintro rfl
    exact S.ne hs.symm
  induction t with
  | zero =>
    intro _
    show f' i = f (itZ f s i)
    rw [S.ei, ← hs]
  | succ t ih =>
    intro h
    show f' (itZ f' (t + 1) i) = f (itZ f (s + (t + 1)) i)
    rw [ih (by omega)]
    refine S.eo _ (S.P.it _ S.hi) (p2 _ (by omega) (by omega)) fun e => ?_
    rw [hs, itZ_add] at e
    have e2 : itZ f s (itZ f (t + 1) i) = itZ f s i := by
      rw [← itZ_add, Nat.add_comm (s)] at e ⊢
      exact e
    exact p2 (t + 1) (by omega) (by omega) (S.P.itInj s (S.P.it _ S.hi) S.hi e2)
theorem Sw.per_i (S : Sw f f' ks i j) {s : Nat} (hs : j = itZ f s i) (h2 : s < pd f i) : IsPer f' i (pd f i - s) := by
  obtain ⟨⟨p0, p1, p2⟩, _⟩ := S.P.isPer S.hi
  have s0 : s ≠ 0 := by
    rintro rfl
    exact S.ne hs.symm
  refine ⟨by omega, ?_, fun t h0 h1 => ?_⟩
  · have := S.it_i hs h2 (pd f i - s - 1) (by omega)
    rw [show pd f i - s - 1 + 1 = pd f i - s by omega, show s + (pd f i - s) = pd f i by omega] at this
    rw [this, p1]
  · have := S.it_i hs h2 (t - 1) (by omega)
    rw [show t - 1 + 1 = t by omega] at this
    rw [this]
    exact p2 _ (by omega) (by omega)
theorem Sw.it_j (S : Sw f f' ks i j) {s : Nat} (hs : j = itZ f s i) (h2 : s < pd f i) : ∀ t, t + 1 ≤ s → itZ f' (t + 1) j = itZ f (t + 1) i := fun t => by
  obtain ⟨⟨p0, p1, p2⟩, _⟩ := S.P.isPer S.hi
  induction t with
  | zero =>
    intro _
    show f' j = f i
    exact S.ej
  | succ t ih =>
    intro h
    show f' (itZ f' (t + 1) j) = f (itZ f (t + 1) i)
    rw [ih (by omega)]
    refine S.eo _ (S.P.it _ S.hi) (p2 _ (by omega) (by omega)) fun e => ?_
    rw [hs] at e
    have e2 : itZ f (t + 1) i = itZ f (t + 1) (itZ f (s - (t + 1)) i) := by
      rw [← itZ_add, show t + 1 + (s - (t + 1)) = s by omega]
      exact e
    exact p2 (s - (t + 1)) (by omega) (by omega) (S.P.itInj (t + 1) S.hi (S.P.it _ S.hi) e2).symm
theorem Sw.per_j (S : Sw f f' ks i j) {s : Nat} (hs : j = itZ f s i) (h2 : s < pd f i) : IsPer f' j s := by
  obtain ⟨⟨p0, p1, p2⟩, _⟩ := S.P.isPer S.hi
  have s0 : s ≠ 0 := by
    rintro rfl
    exact S.ne hs.symm
  refine ⟨by omega, ?_, fun t h0 h1 e => ?_⟩
  · have := S.it_j hs h2 (s - 1) (by omega)
    rw [show s - 1 + 1 = s by omega] at this
    rw [this, ← hs]
  · have h3 := S.it_j hs h2 (t - 1) (by omega)
    rw [show t - 1 + 1 = t by omega] at h3
    rw [h3, hs] at e
    have e2 : itZ f t i = itZ f t (itZ f (s - t) i) := by
      rw [← itZ_add, show t + (s - t) = s by omega]
      exact e
    exact p2 (s - t) (by omega) (by omega) (S.P.itInj t S.hi (S.P.it _ S.hi) e2).symm
theorem Sw.other (S : Sw f f' ks i j) (hr : j ∈ ringZ f i) {x : Int} (hx : x ∈ ks) (hn : x ∉ ringZ f i) : ∀ n, itZ f' n x = itZ f n x := fun n => by
  induction n with
  | zero => rfl
  | succ n ih =>
    show f' (itZ f' n x) = f (itZ f n x)
    rw [ih]
    have m : itZ f n x ∈ ringZ f x := (S.P.mem_ring hx).mpr ⟨n, rfl⟩
    refine S.eo _ (S.P.it _ hx) (fun e => hn ?_) fun e => hn ?_
    · rw [e] at m
      exact S.P.ring_back hx m
    · rw [e] at m
      exact S.P.ring_trans S.hi hr (S.P.ring_back hx m)
theorem Sw.pd_other (S : Sw f f' ks i j) (hr : j ∈ ringZ f i) {x : Int} (hx : x ∈ ks) (hn : x ∉ ringZ f i) : pd f' x = pd f x := by
  obtain ⟨⟨p0, p1, p2⟩, _⟩ := S.P.isPer hx
  have it := S.other hr hx hn
  exact S.P'.pd_eq hx ⟨p0, by rw [it]; exact p1, fun k h0 h1 => by rw [it]; exact p2 k h0 h1⟩
theorem Sw.ring_other (S : Sw f f' ks i j) (hr : j ∈ ringZ f i) {x : Int} (hx : x ∈ ks) (hn : x ∉ ringZ f i) (y : Int) : y ∈ ringZ f' x ↔ y ∈ ringZ f x := by
  have it := S.other hr hx hn
  rw [S.P.mem_ring hx, S.P'.mem_ring hx]
  constructor
  · rintro ⟨n, rfl⟩
    exact ⟨n, it n⟩
  · rintro ⟨n, rfl⟩
    exact ⟨n, (it n).symm⟩
theorem Pm.at_ring (P : Pm f ks) {x y : Int} (hx : x ∈ ks) (hy : y ∈ ringZ f x) : ∃ s, s < pd f x ∧ y = itZ f s x := by
  unfold ringZ orb at hy
  obtain ⟨s, hs, rfl⟩ := List.mem_map.mp hy
  exact ⟨s, List.mem_range.mp hs, rfl⟩
/-- the rings beside that of i -/
noncomputable def restZ (f : Int → Int) (ks : List Int) (i : Int) : List Int := (heads f ks).erase (mnZ (ringZ f i))
theorem rest_mem (P : Pm f ks) (hi : i ∈ ks) {h : Int} : h ∈ restZ f ks i ↔ h ∈ heads f ks ∧ h ∉ ringZ f i := by
  obtain ⟨k1, k2⟩ := P.head_of hi
  unfold restZ
  rw [(heads_nd P).mem_erase_iff]
  constructor
  · rintro ⟨ne, hh⟩
    refine ⟨hh, fun m => ne ?_⟩
    rw [← (mem_heads.mp hh).2]
    exact (P.mn_ring hi m).symm
  · rintro ⟨hh, hn⟩
    refine ⟨fun e => hn ?_, hh⟩
    rw [e]
    exact (mnZ_in (P.ring_ne hi)).1
theorem kl_at (P : Pm f ks) (hi : i ∈ ks) : (klZ f ks).Perm (pd f i :: (restZ f ks i).map (pd f)) := by
  obtain ⟨k1, k2⟩ := P.head_of hi
  have e := (List.perm_cons_erase k1).map (pd f)
  rw [List.map_cons] at e
  have e2 : pd f (mnZ (ringZ f i)) = pd f i := P.pd_ring hi (mnZ_in (P.ring_ne hi)).1
  rw [e2] at e
  exact e
theorem Sw.split (S : Sw f f' ks i j) {s : Nat} (hs : j = itZ f s i) (h2 : s < pd f i) : (klZ f' ks).Perm ((pd f i - s) :: s :: (restZ f ks i).map (pd f)) := by
  have hr : j ∈ ringZ f i := (S.P.mem_ring S.hi).mpr ⟨s, hs⟩
  have pi := S.P'.pd_eq S.hi (S.per_i hs h2)
  have pj := S.P'.pd_eq S.hj (S.per_j hs h2)
  have s0 : s ≠ 0 := by
    rintro rfl
    exact S.ne hs.symm
  have hin : ∀ y, y ∈ ringZ f i → y ∈ ringZ f' i ∨ y ∈ ringZ f' j := fun y hy => by
    obtain ⟨t, ht, rfl⟩ := S.P.at_ring S.hi hy
    by_cases c0 : t = 0
    · subst c0
      exact .inl (S.P'.ring_self S.hi)
    · by_cases c : t ≤ s
      · refine .inr ((S.P'.mem_ring S.hj).mpr ⟨t, ?_⟩)
        have := S.it_j hs h2 (t - 1) (by omega)
        rw [show t - 1 + 1 = t by omega] at this
        exact this.symm
      · refine .inl ((S.P'.mem_ring S.hi).mpr ⟨t - s, ?_⟩)
        have := S.it_i hs h2 (t - s - 1) (by omega)
        rw [show t - s - 1 + 1 = t - s by omega, show s + (t - s) = t by omega] at this
        exact this.symm
  have hji : j ∉ ringZ f' i := fun m => by
    obtain ⟨t, ht, e⟩ := S.P'.at_ring S.hi m
    rw [pi] at ht
    obtain ⟨⟨p0, p1, p2⟩, _⟩ := S.P.isPer S.hi
    by_cases c0 : t = 0
    · subst c0
      exact S.ne e.symm
    · have h3 := S.it_i hs h2 (t - 1) (by omega)
      rw [show t - 1 + 1 = t by omega] at h3
      rw [h3, hs, Nat.add_comm, itZ_add] at e
      have e2 : itZ f s (itZ f t i) = itZ f s i := by
        rw [← itZ_add, Nat.add_comm, itZ_add]
        exact e.symm
      exact p2 t (by omega) (by omega) (S.P.itInj s (S.P.it _ S.hi) S.hi e2)
  have hsub : ∀ x, x ∈ ks → x ∉ ringZ f i → i ∉ ringZ f' x ∧ j ∉ ringZ f' x := fun x hx hn => by
    refine ⟨fun m => hn ?_, fun m => hn ?_⟩
    · exact S.P.ring_back hx ((S.ring_other hr hx hn i).mp m)
    · exact S.P.ring_trans S.hi hr (S.P.ring_back hx ((S.ring_other hr hx hn j).mp m))
  have T : Tv f' ks (i :: j :: restZ f ks i) := by
    have rnd : (restZ f ks i).Nodup := (heads_nd S.P).erase _
    have rin : ∀ h ∈ restZ f ks i, h ∈ ks ∧ h ∉ ringZ f i ∧ h ∈ heads f ks := fun h hh => by
      obtain ⟨h1, h2⟩ := (rest_mem S.P S.hi).mp hh
      exact ⟨(mem_heads.mp h1).1, h2, h1⟩
    refine ⟨?_, ?_, ?_, ?_⟩
    · refine List.nodup_cons.mpr ⟨fun m => ?_, List.nodup_cons.mpr ⟨fun m => (rin j m).2.1 hr, rnd⟩⟩
      rcases List.mem_cons.mp m with e | m
      · exact S.ne e
      · exact (rin i m).2.1 (S.P.ring_self S.hi)
    · intro h hh
      rcases List.mem_cons.mp hh with rfl | hh
      · exact S.hi
      · rcases List.mem_cons.mp hh with rfl | hh
        · exact S.hj
        · exact (rin h hh).1
    · intro y hy
      by_cases c : y ∈ ringZ f i
      · rcases hin y c with m | m
        · exact ⟨i, List.mem_cons_self, m⟩
        · exact ⟨j, List.mem_cons_of_mem _ List.mem_cons_self, m⟩
      · obtain ⟨k1, k2⟩ := S.P.head_of hy
        have kk := (mem_heads.mp k1).1
        have hn : mnZ (ringZ f y) ∉ ringZ f i := fun m => c (S.P.ring_trans S.hi m k2)
        exact ⟨_, List.mem_cons_of_mem _ (List.mem_cons_of_mem _ ((rest_mem S.P S.hi).mpr ⟨k1, hn⟩)), (S.ring_other hr kk hn y).mpr k2⟩
    · intro g hg h hh m
      rcases List.mem_cons.mp hg with rfl | hg
      · rcases List.mem_cons.mp hh with rfl | hh
        · rfl
        · rcases List.mem_cons.mp hh with rfl | hh
          · exact absurd m hji
          · obtain ⟨r1, r2, r3⟩ := rin h hh
            exact absurd (S.P'.ring_back S.hi m) (hsub h r1 r2).1
      · rcases List.mem_cons.mp hg with rfl | hg
        · rcases List.mem_cons.mp hh with rfl | hh
          · exact absurd (S.P'.ring_back S.hj m) hji
          · rcases List.mem_cons.mp hh with rfl | hh
            · rfl
            · obtain ⟨r1, r2, r3⟩ := rin h hh
              exact absurd (S.P'.ring_back S.hj m) (hsub h r1 r2).2
        · obtain ⟨r1, r2, r3⟩ := rin g hg
          rcases List.mem_cons.mp hh with rfl | hh
          · exact absurd m (hsub g r1 r2).1
          · rcases List.mem_cons.mp hh with rfl | hh
            · exact absurd m (hsub g r1 r2).2
            · exact S.P.head_one r3 (rin h hh).2.2 ((S.ring_other hr r1 r2 h).mp m)
  have e := T.perm S.P'
  rw [List.map_cons, List.map_cons, pi, pj] at e
  refine e.symm.trans (List.Perm.of_eq ?_)
  congr 2
  refine List.map_congr_left fun h hh => ?_
  obtain ⟨h1, h2⟩ := (rest_mem S.P S.hi).mp hh
  exact S.pd_other hr (mem_heads.mp h1).1 h2
theorem kl_length (f : Int → Int) (ks : List Int) : (klZ f ks).length = (heads f ks).length := List.length_map ..
theorem Sw.more (S : Sw f f' ks i j) (hr : j ∈ ringZ f i) : (heads f' ks).length = (heads f ks).length + 1 := by
  obtain ⟨s, h2, hs⟩ := S.P.at_ring S.hi hr
  have e1 := (S.split hs h2).length_eq
  have e2 := (kl_at S.P S.hi).length_eq
  rw [kl_length] at e1 e2
  rw [e1, e2]
  rfl
theorem Sw.joins (S : Sw f f' ks i j) (hr : j ∉ ringZ f i) : j ∈ ringZ f' i := by
  obtain ⟨⟨p0, p1, p2⟩, _⟩ := S.P.isPer S.hj
  have it : ∀ t, t + 1 ≤ pd f j → itZ f' (t + 1) i = itZ f (t + 1) j := fun t => by
    induction t with
    | zero =>
      intro _
      exact S.ei
    | succ t ih =>
      intro h
      show f' (itZ f' (t + 1) i) = f (itZ f (t + 1) j)
      rw [ih (by omega)]
      refine S.eo _ (S.P.it _ S.hj) (fun e => hr ?_) (p2 _ (by omega) (by omega))
      exact S.P.ring_back S.hj ((S.P.mem_ring S.hj).mpr ⟨t + 1, e.symm⟩)
  refine (S.P'.mem_ring S.hi).mpr ⟨pd f j, ?_⟩
  have := it (pd f j - 1) (by omega)
  rw [show pd f j - 1 + 1 = pd f j by omega] at this
  rw [this, p1]
theorem Sw.fewer (S : Sw f f' ks i j) (hr : j ∉ ringZ f i) : (heads f ks).length = (heads f' ks).length + 1 := S.back.more (S.joins hr)
end
end Pu

set_option Elab.async false
set_option linter.all false
set_option maxRecDepth 100000
set_option maxHeartbeats 2000000
/-! the ways of swaps add up -/
namespace Pu
open PySem PySem.Spec PyProof.Rows L2
section
variable {α β : Type}
theorem sum_perm {l m : List Nat} (h : l.Perm m) : l.sum = m.sum := by
  induction h with
  | nil => rfl
  | cons x _ ih => rw [List.sum_cons, List.sum_cons, ih]
  | swap x y l => rw [List.sum_cons, List.sum_cons, List.sum_cons, List.sum_cons]; omega
  | trans _ _ h1 h2 => rw [h1, h2]
theorem sum_app (l m : List Nat) : (l ++ m).sum = l.sum + m.sum := by
  induction l with
  | nil => simp
  | cons x l ih => rw [List.cons_append, List.sum_cons, List.sum_cons, ih]; omega
theorem sum_const {l : List α} {g : α → Nat} {c : Nat} (h : ∀ x ∈ l, g x = c) : (l.map g).sum = l.length * c := by
  induction l with
  | nil => simp
  | cons x l ih =>
    rw [List.map_cons, List.sum_cons, ih fun y hy => h y (List.mem_cons_of_mem _ hy), h x List.mem_cons_self, List.length_cons, Nat.add_mul, Nat.one_mul]
    omega
theorem sum_zero {l : List α} {g : α → Nat} (h : ∀ x ∈ l, g x = 0) : (l.map g).sum = 0 := by
  rw [sum_const h, Nat.mul_zero]
theorem sum_mul (l : List α) (g : α → Nat) (c : Nat) : (l.map fun x => g x * c).sum = (l.map g).sum * c := by
  induction l with
  | nil => simp
  | cons x l ih => rw [List.map_cons, List.sum_cons, ih, List.map_cons, List.sum_cons, Nat.add_mul]
theorem sum_add (l : List α) (g h : α → Nat) : (l.map fun x => g x + h x).sum = (l.map g).sum + (l.map h).sum := by
  induction l with
  | nil => simp
  | cons x l ih => rw [List.map_cons, List.sum_cons, ih, List.map_cons, List.sum_cons, List.map_cons, List.sum_cons]; omega
theorem sum_congr {l : List α} {g h : α → Nat} (e : ∀ x ∈ l, g x = h x) : (l.map g).sum = (l.map h).sum := by rw [List.map_congr_left e]
theorem sum_flat (l : List α) (r : α → List β) (g : β → Nat) : ((l.flatMap r).map g).sum = (l.map fun x => ((r x).map g).sum).sum := by
  induction l with
  | nil => rfl
  | cons x l ih => rw [List.flatMap_cons, List.map_append, sum_app, ih, List.map_cons, List.sum_cons]
theorem sum_on {ks R : List Int} {g : Int → Nat} (nk : ks.Nodup) (nr : R.Nodup) (hs : ∀ x ∈ R, x ∈ ks) (hz : ∀ x ∈ ks, x ∉ R → g x = 0) : (ks.map g).sum = (R.map g).sum := by
  have p : (R ++ ks.filter fun x => decide (x ∉ R)).Perm ks := by
    refine (List.perm_ext_iff_of_nodup ?_ nk).mpr fun x => ?_
    · refine List.nodup_append.mpr ⟨nr, List.Pairwise.filter _ nk, fun a ha b hb e => ?_⟩
      subst e
      have := (List.mem_filter.mp hb).2
      rw [decide_eq_true_eq] at this
      exact this ha
    · rw [List.mem_append, List.mem_filter, decide_eq_true_eq]
      constructor
      · rintro (h | h)
        · exact hs x h
        · exact h.1
      · intro h
        by_cases c : x ∈ R
        · exact .inl c
        · exact .inr ⟨h, c⟩
  rw [← sum_perm (p.map g), List.map_append, sum_app, sum_zero (l := ks.filter _) (fun x hx => ?_), Nat.add_zero]
  obtain ⟨h1, h2⟩ := List.mem_filter.mp hx
  rw [decide_eq_true_eq] at h2
  exact hz x h1 h2
/-- over the pairs, the first ahead of the second -/
def prS (φ : Int → Int → Nat) : List Int → Nat
  | [] => 0
  | x :: xs => (xs.map (φ x)).sum + prS φ xs
theorem pr_twice {φ : Int → Int → Nat} : ∀ {ks : List Int}, (∀ x ∈ ks, φ x x = 0) → (∀ x ∈ ks, ∀ y ∈ ks, φ x y = φ y x) → (ks.map fun x => (ks.map (φ x)).sum).sum = 2 * prS φ ks
  | [], _, _ => rfl
  | x :: xs, h0, hs => by
    have ih := pr_twice (φ := φ) (ks := xs) (fun y hy => h0 y (List.mem_cons_of_mem _ hy)) fun y hy z hz => hs y (List.mem_cons_of_mem _ hy) z (List.mem_cons_of_mem _ hz)
    have e1 : (xs.map fun y => ((x :: xs).map (φ y)).sum).sum = (xs.map (φ x)).sum + (xs.map fun y => (xs.map (φ y)).sum).sum := by
      rw [← sum_add]
      refine sum_congr fun y hy => ?_
      rw [List.map_cons, List.sum_cons, hs y (List.mem_cons_of_mem _ hy) x List.mem_cons_self]
    rw [List.map_cons, List.sum_cons, e1, ih, List.map_cons, List.sum_cons, h0 x List.mem_cons_self]
    show 0 + (xs.map (φ x)).sum + ((xs.map (φ x)).sum + 2 * prS φ xs) = 2 * ((xs.map (φ x)).sum + prS φ xs)
    omega
theorem way_ones {l : List Nat} (h : ∀ k ∈ l, k = 1) : wayN l = 1 := by
  have key : ∀ l : List Nat, (∀ k ∈ l, k = 1) → pN l = 1 ∧ dN l = 0 ∧ tN l = 1 := fun l => by
    induction l with
    | nil => exact fun _ => ⟨rfl, rfl, rfl⟩
    | cons k l ih =>
      intro h
      obtain ⟨i1, i2, i3⟩ := ih fun x hx => h x (List.mem_cons_of_mem _ hx)
      have hk := h k List.mem_cons_self
      subst hk
      refine ⟨?_, ?_, ?_⟩
      · show facN 0 * pN l = 1
        rw [i1]
        rfl
      · show 0 + dN l = 0
        rw [i2]
      · show treeN 1 * tN l = 1
        rw [i3]
        rfl
  obtain ⟨i1, i2, i3⟩ := key l h
  have := way_eq l
  rw [i1, i2, i3] at this
  simpa [facN] using this
section
variable {f : Int → Int} {ks : List Int} {F : Int → Int → Int → Int}
open Classical in
/-- what the exchange of i and j adds -/
noncomputable def phiZ (f : Int → Int) (ks : List Int) (F : Int → Int → Int → Int) (i j : Int) : Nat := if i ≠ j ∧ j ∈ ringZ f i then wayN (klZ (F i j) ks) else 0
theorem phi_yes {i j : Int} (h : i ≠ j) (h2 : j ∈ ringZ f i) : phiZ f ks F i j = wayN (klZ (F i j) ks) := if_pos ⟨h, h2⟩
theorem phi_no {i j : Int} (h2 : j ∉ ringZ f i) : phiZ f ks F i j = 0 := if_neg fun z => h2 z.2
theorem phi_self {i : Int} : phiZ f ks F i i = 0 := if_neg fun z => z.1 rfl
theorem phi_at (P : Pm f ks) (hF : ∀ i ∈ ks, ∀ j ∈ ks, i ≠ j → Sw f (F i j) ks i j) {i : Int} (hi : i ∈ ks) {s : Nat} (h0 : 0 < s) (h2 : s < pd f i) :
    phiZ f ks F i (itZ f s i) = wayN ((pd f i - s) :: s :: (restZ f ks i).map (pd f)) ∧ phiZ f ks F (itZ f s i) i = wayN ((pd f i - s) :: s :: (restZ f ks i).map (pd f)) := by
  have hj := P.it s hi
  have ne : i ≠ itZ f s i := fun e => (P.isPer hi).1.2.2 s h0 h2 e.symm
  have hr : itZ f s i ∈ ringZ f i := (P.mem_ring hi).mpr ⟨s, rfl⟩
  rw [phi_yes ne hr, phi_yes (fun e => ne e.symm) (P.ring_back hi hr)]
  exact ⟨way_perm ((hF i hi _ hj ne).split rfl h2), way_perm ((hF _ hj i hi fun e => ne e.symm).flip.split rfl h2)⟩
theorem phi_sym (P : Pm f ks) (hF : ∀ i ∈ ks, ∀ j ∈ ks, i ≠ j → Sw f (F i j) ks i j) {i j : Int} (hi : i ∈ ks) (hj : j ∈ ks) : phiZ f ks F i j = phiZ f ks F j i := by
  by_cases e : i = j
  · subst e
    rfl
  · by_cases c : j ∈ ringZ f i
    · obtain ⟨s, h2, rfl⟩ := P.at_ring hi c
      have h0 : 0 < s := by
        by_cases z : s = 0
        · subst z
          exact absurd rfl e
        · omega
      obtain ⟨a1, a2⟩ := phi_at P hF hi h0 h2
      rw [a1, a2]
    · rw [phi_no c, phi_no fun m => c (P.ring_back hj m)]
theorem phi_row (P : Pm f ks) (hF : ∀ i ∈ ks, ∀ j ∈ ks, i ≠ j → Sw f (F i j) ks i j) {i : Int} (hi : i ∈ ks) : (ks.map (phiZ f ks F i)).sum = splitS (pd f i) ((restZ f ks i).map (pd f)) := by
  rw [sum_on P.nd (P.ring_nd hi) (fun x hx => P.ring_in hi hx) fun x _ hn => phi_no hn]
  have hp := P.pd_pos hi
  unfold ringZ orb splitS
  rw [show pd f i = (pd f i - 1) + 1 by omega, List.range_succ_eq_map, List.map_cons, List.map_cons, List.sum_cons, List.map_map, List.map_map]
  have e0 : phiZ f ks F i (itZ f 0 i) = 0 := phi_self
  rw [e0, Nat.zero_add, show pd f i - 1 + 1 - 1 = pd f i - 1 by omega]
  refine sum_congr fun s hs => ?_
  have hs := List.mem_range.mp hs
  rw [show pd f i - 1 + 1 = pd f i by omega]
  exact (phi_at P hF hi (Nat.succ_pos s) (by omega)).1
theorem kl_sum (l : List Int) (c : Nat) : (l.map fun h => 2 * ((pd f h - 1) * c)).sum = 2 * (dN (l.map (pd f)) * c) := by
  induction l with
  | nil => simp [dN]
  | cons x l ih =>
    rw [List.map_cons, List.sum_cons, ih, List.map_cons]
    show _ = 2 * ((pd f x - 1 + dN (l.map (pd f))) * c)
    rw [Nat.add_mul]
    omega
/-- the ways of all that one swap brings nearer -/
theorem ways_sum (P : Pm f ks) (hF : ∀ i ∈ ks, ∀ j ∈ ks, i ≠ j → Sw f (F i j) ks i j) (h7 : ks.length ≤ 7) (hd : 0 < dN (klZ f ks)) : prS (phiZ f ks F) ks = wayN (klZ f ks) := by
  have tw := pr_twice (φ := phiZ f ks F) (ks := ks) (fun x _ => phi_self) fun x hx y hy => phi_sym P hF hx hy
  obtain ⟨D, hD⟩ : ∃ D, dN (klZ f ks) = D + 1 := ⟨dN (klZ f ks) - 1, by omega⟩
  have one : ∀ i ∈ ks, pd f i * ((ks.map (phiZ f ks F i)).sum * pN (klZ f ks)) = 2 * ((pd f i - 1) * (facN D * tN (klZ f ks))) := fun i hi => by
    have kp := kl_at P hi
    have hp := P.pd_pos hi
    have hl := (P.isPer hi).2
    rw [phi_row P hF hi]
    have e1 : pN (klZ f ks) = facN (pd f i - 1) * pN ((restZ f ks i).map (pd f)) := pN_perm kp
    have e2 : tN (klZ f ks) = treeN (pd f i) * tN ((restZ f ks i).map (pd f)) := tN_perm kp
    have e3 : dN (klZ f ks) = (pd f i - 1) + dN ((restZ f ks i).map (pd f)) := dN_perm kp
    rw [e1, split_sum (by omega) (by omega), e2]
    by_cases c : pd f i = 1
    · rw [c, Nat.sub_self, Nat.zero_mul, Nat.zero_mul]
    · rw [show pd f i - 2 + dN ((restZ f ks i).map (pd f)) = D by omega]
  have all : (ks.map fun i => (ks.map (phiZ f ks F i)).sum * pN (klZ f ks)).sum = 2 * (dN (klZ f ks) * (facN D * tN (klZ f ks))) := by
    rw [← sum_perm (P.rings_perm.map _), sum_flat]
    unfold klZ
    rw [← kl_sum]
    refine sum_congr fun h hh => ?_
    have hk := (mem_heads.mp hh).1
    have o1 := one h hk
    rw [sum_const (c := (ks.map (phiZ f ks F h)).sum * pN (klZ f ks)) fun x hx => ?_, ring_len]
    · exact o1
    · have o2 := one x (P.ring_in hk hx)
      rw [P.pd_ring hk hx, ← o1] at o2
      exact Nat.eq_of_mul_eq_mul_left (P.pd_pos hk) o2
  rw [sum_mul, tw, hD] at all
  have w := way_eq (klZ f ks)
  rw [hD] at w
  have w : wayN (klZ f ks) * pN (klZ f ks) = (D + 1) * facN D * tN (klZ f ks) := w
  rw [← Nat.mul_assoc (D + 1), ← w, Nat.mul_assoc] at all
  exact Nat.eq_of_mul_eq_mul_right (pN_pos (klZ f ks)) (Nat.eq_of_mul_eq_mul_left (by decide : 0 < 2) all)
end
end
end Pu

set_option Elab.async false
set_option linter.all false
set_option maxRecDepth 100000
set_option maxHeartbeats 2000000
/-! x = [[] for _ in ..], then for t in ..: x[e].append(e2) -/
namespace Pu
open PySem PySem.Spec PyProof.Rows L2
section
variable {X : Cx} {M : Nat → Bool} {F : Fx} {E : L2.St → XK} {σ σ1 : L2.St} {ρ ρ1 : Rho} {H H' H1 : Hp} {D : Ends}
/-- the lists that a comprehension of new lists makes -/
theorem buck_lc {v : Nat} {wi : TI} {its : Rho → Re (List PyData)} {ds : List PyData} (hi : ∀ σ H ρ, ER X.K M F σ H ρ → ∀ R, WI X M F E σ ρ H (its ρ) R → wi σ H R)
    (hv : M v = false) (er : ER X.K M F σ H ρ) (hds : its ρ = .ok ds) (hz : okLen ds.length = true) {Q : VK}
    (w : ∀ (p : Addr) (as : List Addr) (H' : Hp), Same H H' → H p = none → as.length = ds.length → as.Nodup → p ∉ as → (∀ a ∈ as, H a = none) → H' p = some (.lst (as.map V.ref)) → (∀ a ∈ as, H' a = some (.lst [])) → Q (.ref p) H') :
    tLc wi (canG X M [v] (gSlot v)) (canT X M E0s yesR) (canE X M E0s false true (rLst aNil)) [v] σ H Q := by
  refine hi σ H ρ er _ ?_
  rw [hds]
  refine fun J H1 sm wk Dd hD => ?_
  have er1 := er.same sm
  have hvs : ∀ i ∈ [v], M i = false := fun i hi => by
    have : i = v := by simpa using hi
    rw [this]
    exact hv
  refine ⟨fun i m H2 => m = ds.length - i ∧ i ≤ ds.length ∧ Same H1 H2 ∧ ∃ as : List Addr, H2 Dd = some (.lst (as.map V.ref)) ∧ as.length = i ∧ as.Nodup ∧ Dd ∉ as ∧ ∀ a ∈ as, H1 a = none ∧ H2 a = some (.lst []),
    ⟨ds.length, by simp, Nat.zero_le _, same_new hD, [], upd_same, rfl, List.nodup_nil, (fun z => nomatch z), fun a z => nomatch z⟩, ?_⟩
  rintro i m H2 ⟨rfl, hi', sm2, as, e1, l1, nd, nDd, ha⟩
  have kp : Kp (fun a => RS M F σ ρ false a ∧ H1 a ≠ none) H1 H2 := kp_same sm2
  by_cases hlt : i < ds.length
  · obtain ⟨go, yl⟩ := (wk H2 kp i).1 _ (List.getElem?_eq_getElem hlt)
    refine .inr ⟨go, fun H3 => ds.length - (i + 1) = ds.length - (i + 1) ∧ i + 1 ≤ ds.length ∧ Same H1 H3 ∧ ∃ as : List Addr, H3 Dd = some (.lst (as.map V.ref)) ∧ as.length = i + 1 ∧ as.Nodup ∧ Dd ∉ as ∧ ∀ a ∈ as, H1 a = none ∧ H3 a = some (.lst []), fun H3 x => ⟨ds.length - (i + 1), by omega, x⟩, fun x H3 y => ?_⟩
    obtain ⟨s3, rx⟩ := yl x H3 y
    obtain ⟨erw, rsw⟩ := er1.wipe (vs := [v]) hvs
    have s13 : Same H1 H3 := sm2.trans s3
    have e3 : H3 Dd = some (.lst (as.map V.ref)) := s3 _ _ e1
    have erb := erw.blk hD s13 e3
    have rx' : Rp X.K H3 (RS M (inBlk F Dd) (wipe σ [v]) (wipeR ρ [v]) false) x ds[i] := rx.wide fun a z => by
      have := rsw false
      refine ⟨⟨z.1.1, fun zz => ?_⟩, ?_⟩
      · rw [zz] at z
        exact z.2 hD
      · have z1 : RS M F (wipe σ [v]) (wipeR ρ [v]) false a := by
          rw [this]
          exact z.1
        exact z1.2
    refine ⟨inBlk F Dd, wipeR ρ [v], ds[i], (wipeR ρ [v]).set v (some ds[i]), erb, rx', rfl, fun σ4 er4 ev4 wp4 ow4 => ⟨?_, ?_⟩⟩
    · rw [wp4 [v] fun i h => h]
      exact wipe_wipe σ [v]
    · refine ⟨inBlk F Dd, _, er4, fun H5 s5 => ?_⟩
      show (if true = true then _ else _)
      rw [if_pos rfl]
      refine ⟨inBlk F Dd, _, er4.same s5, ?_⟩
      have f0 : rLst aNil ((wipeR ρ [v]).set v (some ds[i])) = .ok (.list []) := by
        show (aNil _).andThen mkL = _
        rfl
      rw [f0]
      refine fun u H6 s6 r6 fr => ?_
      obtain ⟨q, rfl, hq, ow⟩ := fr rfl
      have s15 : Same H1 H5 := s13.trans s5
      have e5 : H5 Dd = some (.lst (as.map V.ref)) := s5 _ _ e3
      have e6 : H6 Dd = some (.lst (as.map V.ref)) := s6 _ _ e5
      have hq1 : H1 q = none := s15.free hq
      have qD : q ≠ Dd := fun z => by
        rw [z, e5] at hq
        cases hq
      have qa : q ∉ as := fun z => by
        have := s5 _ _ (s3 _ _ (ha q z).2)
        rw [this] at hq
        cases hq
      have h6 : H6 q = some (.lst []) := by
        cases ow with
        | lst h r =>
          cases r
          exact h
      refine ⟨as.map V.ref, e6, ?_, rfl, hlt, fun a u qa => ?_, as ++ [q], ?_, by rw [List.length_append, l1]; rfl, ?_, ?_, fun a hm => ?_⟩
      · rw [List.length_map, l1]
        have := of_decide_eq_true hz
        exact Nat.lt_of_lt_of_le (show i < 10001 by omega) (by decide)
      · rw [upd_ne (ne_of_none qa hD)]
        exact s6 _ _ (s15 _ _ qa)
      · rw [List.map_append]
        exact upd_same
      · exact List.nodup_append.mpr ⟨nd, by simp, fun a h b h2 e => by
          have : b = q := by simpa using h2
          subst this
          subst e
          exact qa h⟩
      · intro h
        rcases List.mem_append.mp h with h | h
        · exact nDd h
        · have : Dd = q := by simpa using h
          exact qD this.symm
      · rcases List.mem_append.mp hm with h | h
        · obtain ⟨h1, h2⟩ := ha a h
          refine ⟨h1, ?_⟩
          rw [upd_ne (show a ≠ Dd from fun z => nDd (z ▸ h))]
          exact s6 _ _ (s5 _ _ (s3 _ _ h2))
        · have : a = q := by simpa using h
          subst this
          refine ⟨hq1, ?_⟩
          rw [upd_ne qD]
          exact h6
  · have ei : i = ds.length := by omega
    refine .inl ⟨(wk H2 kp _).2 ei, w Dd as H2 (sm.trans sm2) (sm.free hD) (by omega) nd nDd (fun a h => sm.free (ha a h).1) e1 fun a h => (ha a h).2⟩
/-- a frame's data without these addresses -/
def outF (F : Fx) (bs : List Addr) : Fx := ⟨F.H0, fun a => F.S0 a ∧ a ∉ bs⟩
theorem own_enter {i : Nat} {p : Addr} {a : Addr} (hl : ρ.length = σ.length) (o : OwnA M (σ.set i (some (.ref p))) (ρ.set i none) a) : OwnA M σ ρ a := by
  obtain ⟨k, d, mk, r, s⟩ := o
  obtain ⟨hk, r'⟩ := get_forget r
  rw [List.getElem?_set_ne hk] at s
  exact ⟨k, d, mk, r', s⟩
theorem ER.enter (e : ER X.K M F σ H ρ) {i : Nat} {p : Addr} {bs : List Addr} (sm : Same H H1) (hb : ∀ a ∈ bs, H a = none ∧ H1 a ≠ none) : ER X.K M (outF F bs) (σ.set i (some (.ref p))) H1 (ρ.set i none) := by
  have rs : ∀ a u, RS M F σ ρ false a → H a = some u → RS M (outF F bs) (σ.set i (some (.ref p))) (ρ.set i none) false a := fun a u x h => ⟨⟨x.1, fun z => by
    rw [(hb a z).1] at h
    cases h⟩, fun q o => x.2 q (own_enter e.len o)⟩
  refine ⟨by rw [List.length_set, List.length_set]; exact e.len, fun a u q => sm _ _ (e.old a u q), fun a q => ⟨e.new a (sm.free q), fun z => (hb a z).2 q⟩, fun k d q mk => ?_, fun k d q mk => ?_, fun j k d d' q mj mk q1 q2 s1 s2 => ?_⟩
  · obtain ⟨hk, q'⟩ := get_forget q
    obtain ⟨v, s, r⟩ := e.im k d q' mk
    exact ⟨v, by rw [List.getElem?_set_ne hk]; exact s, r.keep (kp_same sm) rs⟩
  · obtain ⟨hk, q'⟩ := get_forget q
    obtain ⟨r, s, z, w⟩ := e.ow k d q' mk
    obtain ⟨u, hu, _⟩ := w.there
    refine ⟨r, by rw [List.getElem?_set_ne hk]; exact s, ⟨z.1, z.2, fun zz => ?_⟩, w.keep (kp_same sm) rs fun u q => sm _ _ q⟩
    rw [(hb r zz).1] at hu
    cases hu
  · obtain ⟨hj, q1'⟩ := get_forget q1
    obtain ⟨hk, q2'⟩ := get_forget q2
    rw [List.getElem?_set_ne hj] at s1
    rw [List.getElem?_set_ne hk] at s2
    exact e.ap j k d d' q mj mk q1' q2' s1 s2
/-- a store at an address that no data reaches -/
theorem ER.updOut (e : ER X.K M F σ H ρ) {a : Addr} {u o : HO} (h : H a = some u) (mu : Mut (some u)) (hs : ¬ F.S0 a) (h0 : F.H0 a = none) : ER X.K M F σ (upd H a o) ρ := by
  have kp : ∀ lk, Kp (RS M F σ ρ lk) H (upd H a o) := fun lk b w q x => by
    refine (upd_ne fun z => ?_).trans q
    subst z
    rcases x with x | x
    · exact hs x.1
    · rw [h] at q
      cases q
      exact x mu
  refine ⟨e.len, fun b w q => ?_, fun b q => ?_, fun k d q mk => ?_, fun k d q mk => ?_, e.ap⟩
  · rw [upd_ne (fun z => by
      subst z
      rw [h0] at q
      cases q)]
    exact e.old b w q
  · by_cases z : b = a
    · subst z
      rw [upd_same] at q
      cases q
    · rw [upd_ne z] at q
      exact e.new b q
  · obtain ⟨v, s, r⟩ := e.im k d q mk
    exact ⟨v, s, r.keep (kp false) fun _ _ x _ => x⟩
  · obtain ⟨r, s, z, w⟩ := e.ow k d q mk
    refine ⟨r, s, z, w.keep (kp false) (fun _ _ x _ => x) fun u q => ?_⟩
    rw [upd_ne (show r ≠ a from fun zz => hs (zz ▸ z.2))]
    exact q
/-- the lists that fill up -/
def Buck (i : Nat) (p : Addr) (as : List Addr) (σ : L2.St) (H : Hp) (ess : List (List Int)) : Prop :=
  σ[i]? = some (some (.ref p)) ∧ H p = some (.lst (as.map V.ref)) ∧ as.length = ess.length ∧ ∀ (j : Nat) (a : Addr) (ns : List Int), as[j]? = some a → ess[j]? = some ns → H a = some (.lst (ns.map V.int))
theorem Buck.same {i : Nat} {p : Addr} {as : List Addr} {ess : List (List Int)} (b : Buck i p as σ H ess) (s : Same H H1) : Buck i p as σ H1 ess := ⟨b.1, s _ _ b.2.1, b.2.2.1, fun j a ns h1 h2 => s _ _ (b.2.2.2 j a ns h1 h2)⟩
/-- .. and what the frame sees of them at the end -/
theorem ER.leave {i : Nat} {p : Addr} {as : List Addr} {ess : List (List Int)} (e : ER X.K M (outF F (p :: as)) σ H ρ) (m : M i = false) (hi : i < ρ.length) (b : Buck i p as σ H ess) (hp : F.S0 p) (ha : ∀ a ∈ as, F.S0 a) :
    ER X.K M F σ H (ρ.set i (some (.list (ess.map lI)))) ∧ ∀ a, OwnA M σ (ρ.set i (some (.list (ess.map lI)))) a → OwnA M σ ρ a := by
  obtain ⟨bs, bp, bl, ba⟩ := b
  have own : ∀ a, OwnA M σ (ρ.set i (some (.list (ess.map lI)))) a → OwnA M σ ρ a := fun a o => by
    obtain ⟨k, d, mk, r, s⟩ := o
    have hk : i ≠ k := fun z => by
      subst z
      rw [m] at mk
      cases mk
    rw [List.getElem?_set_ne hk] at r
    exact ⟨k, d, mk, r, s⟩
  have out : ∀ a, OwnA M σ ρ a → a ∉ p :: as := fun a o => (e.own o).2.1.2
  have rs : ∀ a, RS M (outF F (p :: as)) σ ρ false a → RS M F σ (ρ.set i (some (.list (ess.map lI)))) false a := fun a x => ⟨x.1.1, fun q o => x.2 q (own a o)⟩
  have rb : ∀ a ∈ p :: as, RS M F σ (ρ.set i (some (.list (ess.map lI)))) false a := fun a h => ⟨by
    rcases List.mem_cons.mp h with rfl | h
    · exact hp
    · exact ha a h, fun _ o => out a (own a o) h⟩
  refine ⟨⟨by rw [List.length_set]; exact e.len, e.old, fun a q => (e.new a q).1, fun k d q mk => ?_, fun k d q mk => ?_, fun j k d d' q mj mk q1 q2 s1 s2 => ?_⟩, own⟩
  · by_cases hk : i = k
    · subst hk
      rw [List.getElem?_set_self hi] at q
      cases q
      refine ⟨.ref p, bs, .lst bp (rb p List.mem_cons_self) ?_⟩
      have key : ∀ (as' : List Addr) (es' : List (List Int)), as'.length = es'.length → (∀ a ∈ as', a ∈ as) → (∀ (j : Nat) (a : Addr) (ns : List Int), as'[j]? = some a → es'[j]? = some ns → H a = some (.lst (ns.map V.int))) →
          RpA X.K H (RS M F σ (ρ.set i (some (.list (ess.map lI)))) false) (as'.map V.ref) (es'.map lI) := fun as' => by
        induction as' with
        | nil =>
          intro es' hl _ _
          cases es' with
          | nil => exact .nil
          | cons _ _ => simp at hl
        | cons a as' ih =>
          intro es' hl hm hh
          cases es' with
          | nil => simp at hl
          | cons ns es' =>
            have ham := hm a List.mem_cons_self
            exact .cons (.lst (hh 0 a ns rfl rfl) (rb a (List.mem_cons_of_mem _ ham)) (RpA.ints ns)) (ih es' (by simpa using hl) (fun b hb => hm b (List.mem_cons_of_mem _ hb)) fun j b ms h1 h2 => hh (j + 1) b ms (by simpa using h1) (by simpa using h2))
      exact key as ess bl (fun a h => h) ba
    · rw [List.getElem?_set_ne hk] at q
      obtain ⟨v, s, r⟩ := e.im k d q mk
      exact ⟨v, s, r.wide rs⟩
  · have hk : i ≠ k := fun z => by
      subst z
      rw [m] at mk
      cases mk
    rw [List.getElem?_set_ne hk] at q
    obtain ⟨r, s, z, w⟩ := e.ow k d q mk
    exact ⟨r, s, ⟨z.1, z.2.1⟩, w.keep (kp_same (Same.refl _)) (fun a _ x _ => rs a x) fun _ q => q⟩
  · have ne : ∀ k, M k = true → i ≠ k := fun k mk z => by
      subst z
      rw [m] at mk
      cases mk
    rw [List.getElem?_set_ne (ne j mj)] at q1
    rw [List.getElem?_set_ne (ne k mk)] at q2
    exact e.ap j k d d' q mj mk q1 q2 s1 s2
end
section
variable {X : Cx} {M : Nat → Bool} {F : Fx} {E : L2.St → XK} {σ σ1 : L2.St} {ρ ρ1 : Rho} {H H' H1 : Hp} {D : Ends}
/-! ### the two statements -/
def buckGo (g : PyData → Rho → Option Rho) (e1 e2 : Rho → Re PyData) : List PyData → Rho → List (List Int) → Option (Rho × List (List Int))
  | [], ρ, ess => some (ρ, ess)
  | d :: ds, ρ, ess => match g d ρ with
    | none => none
    | some ρ1 => match e1 ρ1, e2 ρ1 with
      | .ok (.int j), .ok (.int v) => (match ixN ess.length j with
        | some m => (match ess[m]? with
          | some ns => if okLen (ns.length + 1) = true then buckGo g e1 e2 ds ρ1 (ess.set m (ns ++ [v])) else none
          | none => none)
        | none => none)
      | _, _ => none
def buckEnd (i : Nat) : Option (Rho × List (List Int)) → Sr
  | some (ρ', ess) => .nx (ρ'.set i (some (.list (ess.map lI))))
  | none => .bad
def buckDo (i : Nat) (its : Rho → Re (List PyData)) (g : PyData → Rho → Option Rho) (e1 e2 : Rho → Re PyData) (ρ : Rho) (ds0 : List PyData) : Sr :=
  if i < ρ.length ∧ okLen ds0.length = true then (match its (ρ.set i none) with
    | .ok ds => buckEnd i (buckGo g e1 e2 ds (ρ.set i none) (ds0.map fun _ => []))
    | _ => .bad) else .bad
def sBuck (i : Nat) (its0 its : Rho → Re (List PyData)) (g : PyData → Rho → Option Rho) (e1 e2 : Rho → Re PyData) : Rho → Sr := fun ρ => match its0 ρ with
  | .ok ds0 => buckDo i its g e1 e2 ρ ds0
  | _ => .bad
theorem wipe_at : ∀ (vs : List Nat) (σ : L2.St) (i : Nat), i ∉ vs → (wipe σ vs)[i]? = σ[i]?
  | [], σ, i, _ => rfl
  | v :: vs, σ, i, h => by
    show ((wipe σ vs).set v none)[i]? = _
    rw [List.getElem?_set_ne (fun z => h (by rw [z]; exact List.mem_cons_self))]
    exact wipe_at vs σ i fun z => h (List.mem_cons_of_mem _ z)
theorem dss_buck {i v : Nat} {y : Str} {py spos lpos p0 p1 p2 p3 ep : Pos} {tg0 iter0 tg iter a1 a2 : Expr} {scope : Scope} {own : List (Str × Nat)} {ts : List Nat} {pos : Pos} {p4 : Pos} {rest : List Stmt}
    {its0 its : Rho → Re (List PyData)} {gg : PyData → Rho → Option Rho} {f1 f2 : Rho → Re PyData} {la1 fa1 la2 fa2 : Bool} {u : Rho → Sr}
    (m : M i = false) (hc : X.calm = true) (hN : X.N.Nodup) (hp : PassesOwn (model X.prog X.w) X.A X.env X.xe)
    (hi0 : DI X M F E tg0 iter0 its0) (ok : BlkOk X.N X.env.scope scope own) (hv : M v = false)
    (hg0 : ∀ (s : Shared) (H : Hp) (C : Addr) (cl : List (Str × Addr)) (fp : List Addr) (F : Fx), DG (X.blk s H scope (compEnvC scope cl C X.env) fp) M F tg0 [v] (gSlot v))
    (he0 : ∀ (s : Shared) (H : Hp) (C : Addr) (cl : List (Str × Addr)) (fp : List Addr) (F : Fx), DE (X.blk s H scope (compEnvC scope cl C X.env) fp) M F E0s false true (.List [] p4) (rLst aNil))
    (hsw : swapsWith (.ListComp (.List [] p4) [⟨tg0, iter0, [], 0⟩] scope pos) (some (.Name y py)) spos.line X.env = pure true)
    (hi : ∀ F, DI X M F E tg iter its) (hg : ∀ F, DG X M F tg ts gg) (hit : i ∉ ts) (h1 : ∀ F, DE X M F E la1 fa1 a1 f1) (h2 : ∀ F, DE X M F E la2 fa2 a2 f2) (k : DSs X M F E rest u)
    (hy : X.N[i]? = some y := by rfl) (hyl : X.env.scope.names.lookup y = some .local := by rfl) (hvs : own.map (·.2) = [v] := by rfl)
    (hs0 : ∀ x, foldedSetIterable iter0 X.env x = pure x := by intro _; rfl) (hs : ∀ x, foldedSetIterable iter X.env x = pure x := by intro _; rfl)
    (hvis : Vis X.env.scope y := by first | exact Or.inl rfl | exact Or.inr (Or.inl rfl) | exact Or.inr (Or.inr rfl)) (hd : (y == ("__debug__" : Str)) = false := by decide) (hcd : (y == ("__classdict__" : Str)) = false := by decide)
    (hpi : PlainIx a1 := by intro _ _; rfl)
    (hsx : swapsWith (.Call (.Attribute (.Subscript (.Name y p0) a1 p1) "append" p2) [a2] [] p3) none ep.line X.env = pure false := by rfl) (hbase : attributeBase (.Subscript (.Name y p0) a1 p1) "append" X.env (eval (.Subscript (.Name y p0) a1 p1) X.env) = eval (.Subscript (.Name y p0) a1 p1) X.env := by rfl)
    (hfew : ((backTo p3 (starEach (a2 :: []) X.env)).all (fun x => !x.1) && (backToKw p3 (keywordEach [] X.env)).all (fun x => x.1.isSome)
      && decide ((a2 :: ([] : List Expr)).length + ([] : List Keyword).length + (if ([] : List Keyword).isEmpty then 0 else 1) < 30)) = true := by rfl)
    (hline : (p2.endLine == p3.line) = true := by rfl) (hst : starEach (a2 :: []) X.env = (false, eval a2 X.env) :: starEach [] X.env := by rfl) (hplain : (backTo p3 (starEach [] X.env)).any (·.1) = false := by rfl) :
    DSs X M F E (.Assign [.Name y py] (.ListComp (.List [] p4) [⟨tg0, iter0, [], 0⟩] scope pos) spos :: .For tg iter [.Expr (.Call (.Attribute (.Subscript (.Name y p0) a1 p1) "append" p2) [a2] [] p3) ep] [] lpos :: rest) (sSeq (sBuck i its0 its gg f1 f2) u) := by
  obtain ⟨wi0, pw0, hi0⟩ := hi0
  obtain ⟨tk, pk, k⟩ := k
  refine ⟨_, pss_cons (ps_setLc (g := canG X M [v] (gSlot v)) (tt := canT X M E0s yesR) (te := canE X M E0s false true (rLst aNil)) hc hN hy hyl hsw pw0 ok (fun s H C cl fp => canG_ok (hg0 s H C cl fp)) (fun s H C cl fp => (dts_nil : DTs (X.blk s H scope (compEnvC scope cl C X.env) fp) M E0s [] yesR)) (fun s H C cl fp => canE_ok (he0 s H C cl fp)) hs0)
    (pss_cons (ps_for hp hc (canI_ok hi) (canG_ok hg) (pss_one (ps_expr (pe_bm PySem.F.plainAttrs_list PySem.F.slot_list_append PySem.F.type_list_append mt_append (pe_ix ix_seq (pe_var hy hvis hd hcd) (canE_ok h1) hpi) (pa_cons (canE_ok h2) pa_nil hst) hbase hfew hline hst hplain) hsx)) hs) pk), fun σ H ρ er D w => ?_⟩
  unfold sSeq at w
  unfold sBuck at w
  cases q0 : its0 ρ with
  | ex c =>
    rw [q0] at w
    exact w.elim
  | bad =>
    rw [q0] at w
    exact w.elim
  | ok ds0 =>
    rw [q0] at w
    have w : WS X M F E σ H ρ (match buckDo i its gg f1 f2 ρ ds0 with | .nx ρ' => u ρ' | r => r) D := w
    unfold buckDo at w
    by_cases hi2 : i < ρ.length ∧ okLen ds0.length = true
    case neg =>
      rw [if_neg hi2] at w
      exact w.elim
    rw [if_pos hi2] at w
    cases q1 : its (ρ.set i none) with
    | ex c =>
      rw [q1] at w
      exact w.elim
    | bad =>
      rw [q1] at w
      exact w.elim
    | ok ds =>
      rw [q1] at w
      have w : WS X M F E σ H ρ (match buckEnd i (buckGo gg f1 f2 ds (ρ.set i none) (ds0.map fun _ => [])) with | .nx ρ' => u ρ' | r => r) D := w
      cases q2 : buckGo gg f1 f2 ds (ρ.set i none) (ds0.map fun _ => []) with
      | none =>
        rw [q2] at w
        exact w.elim
      | some fin =>
        obtain ⟨ρF, essF⟩ := fin
        rw [q2] at w
        have w : WS X M F E σ H ρ (u (ρF.set i (some (.list (essF.map lI))))) D := w
        unfold tSeq tAsg
        rw [hvs]
        refine buck_lc (F := F) (E := E) hi0 hv er q0 hi2.2 fun p as H1 sm hpn hal nd np han hp1 ha1 => ?_
        have hb : ∀ a ∈ p :: as, H a = none ∧ H1 a ≠ none := fun a h => by
          rcases List.mem_cons.mp h with rfl | h
          · exact ⟨hpn, by rw [hp1]; simp⟩
          · exact ⟨han a h, by rw [ha1 a h]; simp⟩
        have er1 := er.enter (i := i) (p := p) (bs := p :: as) sm hb
        refine ⟨outF F (p :: as), ρ.set i none, er1, ?_⟩
        rw [q1]
        refine fun J H2 sm2 wk => ?_
        have er2 := er1.same sm2
        have lσ : i < σ.length := by
          rw [← er.len]
          exact hi2.1
        have mutB : ∀ a ∈ p :: as, ∃ xs, H2 a = some (.lst xs) := fun a h => by
          rcases List.mem_cons.mp h with rfl | h
          · exact ⟨_, sm2 _ _ hp1⟩
          · exact ⟨_, sm2 _ _ (ha1 a h)⟩
        refine ⟨fun q c σ' H' => c = ds.length - q ∧ q ≤ ds.length ∧ ∃ ρ' ess, ER X.K M (outF F (p :: as)) σ' H' ρ' ∧ Buck i p as σ' H' ess ∧ (∀ a w, H2 a = some w → a ∉ p :: as → ¬ OwnA M (σ.set i (some (.ref p))) (ρ.set i none) a → H' a = some w ∧ ¬ OwnA M σ' ρ' a) ∧ buckGo gg f1 f2 (ds.drop q) ρ' ess = some (ρF, essF),
          ⟨ds.length, by simp, Nat.zero_le _, ρ.set i none, ds0.map fun _ => [], er2, ⟨List.getElem?_set_self lσ, sm2 _ _ hp1, by rw [List.length_map]; exact hal, fun j a ns e1 e2 => ?_⟩, fun a w e _ n => ⟨e, n⟩, q2⟩, ?_⟩
        · rw [List.getElem?_map] at e2
          obtain ⟨_, _, rfl⟩ := Option.map_eq_some_iff.mp e2
          exact sm2 _ _ (ha1 a (List.mem_of_getElem? e1))
        rintro q c σ' H' ⟨rfl, hq', ρ', ess, er', bk, ev', go'⟩
        have kp : Kp (fun a => RS M (outF F (p :: as)) (σ.set i (some (.ref p))) (ρ.set i none) false a ∧ H2 a ≠ none) H2 H' := fun a w e x => by
          rcases x with x | x
          · exact (ev' a w e x.1.1.2 (x.1.2 rfl)).1
          · refine (ev' a w e (fun z => ?_) fun o => ?_).1
            · obtain ⟨xs, h⟩ := mutB a z
              rw [h] at e
              cases e
              exact x trivial
            · obtain ⟨k2, d2, m2, r2, s2⟩ := o
              obtain ⟨p2, s2', z2, w2⟩ := er2.ow k2 d2 r2 m2
              rw [s2] at s2'
              cases s2'
              obtain ⟨u2, hu2, mu2⟩ := w2.there
              rw [e] at hu2
              cases hu2
              exact x mu2
        by_cases hlt : q < ds.length
        · obtain ⟨go, yl⟩ := (wk H' kp q).1 _ (List.getElem?_eq_getElem hlt)
          refine .inr ⟨go, fun σ' H' => ds.length - (q + 1) = ds.length - (q + 1) ∧ q + 1 ≤ ds.length ∧ ∃ ρ' ess, ER X.K M (outF F (p :: as)) σ' H' ρ' ∧ Buck i p as σ' H' ess ∧ (∀ a w, H2 a = some w → a ∉ p :: as → ¬ OwnA M (σ.set i (some (.ref p))) (ρ.set i none) a → H' a = some w ∧ ¬ OwnA M σ' ρ' a) ∧ buckGo gg f1 f2 (ds.drop (q + 1)) ρ' ess = some (ρF, essF), fun σ2 H2 x => ⟨ds.length - (q + 1), by omega, x⟩, fun x H3 y => ?_⟩
          obtain ⟨s3, rx⟩ := yl x H3 y
          rw [drop_get (List.getElem?_eq_getElem hlt)] at go'
          have go' : (match gg ds[q] ρ' with
            | none => none
            | some ρ1 => match f1 ρ1, f2 ρ1 with
              | .ok (.int j), .ok (.int v) => (match ixN ess.length j with
                | some m => (match ess[m]? with
                  | some ns => if okLen (ns.length + 1) = true then buckGo gg f1 f2 (ds.drop (q + 1)) ρ1 (ess.set m (ns ++ [v])) else none
                  | none => none)
                | none => none)
              | _, _ => none) = some (ρF, essF) := go'
          cases q3 : gg ds[q] ρ' with
          | none =>
            rw [q3] at go'
            cases go'
          | some ρ1 =>
            rw [q3] at go'
            have go' : (match f1 ρ1, f2 ρ1 with
              | .ok (.int j), .ok (.int v) => (match ixN ess.length j with
                | some m => (match ess[m]? with
                  | some ns => if okLen (ns.length + 1) = true then buckGo gg f1 f2 (ds.drop (q + 1)) ρ1 (ess.set m (ns ++ [v])) else none
                  | none => none)
                | none => none)
              | _, _ => none) = some (ρF, essF) := go'
            obtain ⟨j, n, e1, e2, go'⟩ : ∃ j n : Int, f1 ρ1 = .ok (.int j) ∧ f2 ρ1 = .ok (.int n) ∧ (match ixN ess.length j with
                | some m => (match ess[m]? with
                  | some ns => if okLen (ns.length + 1) = true then buckGo gg f1 f2 (ds.drop (q + 1)) ρ1 (ess.set m (ns ++ [n])) else none
                  | none => none)
                | none => none) = some (ρF, essF) := by
              split at go'
              · exact ⟨_, _, by assumption, by assumption, go'⟩
              · cases go'
            obtain ⟨b, e3, go'⟩ : ∃ b, ixN ess.length j = some b ∧ (match ess[b]? with
                  | some ns => if okLen (ns.length + 1) = true then buckGo gg f1 f2 (ds.drop (q + 1)) ρ1 (ess.set b (ns ++ [n])) else none
                  | none => none) = some (ρF, essF) := by
              split at go'
              · exact ⟨_, by assumption, go'⟩
              · cases go'
            obtain ⟨ns, e4, go'⟩ : ∃ ns, ess[b]? = some ns ∧ (if okLen (ns.length + 1) = true then buckGo gg f1 f2 (ds.drop (q + 1)) ρ1 (ess.set b (ns ++ [n])) else none) = some (ρF, essF) := by
              split at go'
              · exact ⟨_, by assumption, go'⟩
              · cases go'
            have ok2 : okLen (ns.length + 1) = true := by
              by_cases z : okLen (ns.length + 1) = true
              · exact z
              · rw [if_neg z] at go'
                cases go'
            rw [if_pos ok2] at go'
            obtain ⟨bs, bp, bl, ba⟩ := bk
            have hb3 : b < as.length := by
              rw [bl]
              exact getSome e4
            have ea := List.getElem?_eq_getElem hb3
            have ham : as[b] ∈ as := List.getElem_mem hb3
            have er3 := er'.same s3
            have rx' : Rp X.K H3 (RS M (outF F (p :: as)) σ' ρ' false) x ds[q] := rx.keep (kp_same (Same.refl _)) fun a w z _ => by
              obtain ⟨u', hu'⟩ := Option.ne_none_iff_exists'.mp z.2
              exact ⟨z.1.1, fun _ => (ev' a u' hu' z.1.1.2 (z.1.2 rfl)).2⟩
            refine ⟨outF F (p :: as), ρ', ds[q], ρ1, er3, rx', q3, fun σ4 er4 ev4 wp4 ow4 => ?_⟩
            have hσ4 : σ4[i]? = some (some (.ref p)) := by
              have := congrArg (fun z : L2.St => z[i]?) (wp4 ts fun i h => h)
              have h4 : (wipe σ4 ts)[i]? = (wipe σ' ts)[i]? := this
              rw [wipe_at _ _ _ hit, wipe_at _ _ _ hit, bs] at h4
              exact h4
            refine ⟨.ref p, hσ4, ⟨outF F (p :: as), ρ1, er4, ?_⟩⟩
            rw [e1]
            refine fun v5 H5 s5 r5 _ => ?_
            cases r5
            have hp5 : H5 p = some (.lst (as.map V.ref)) := s5 _ _ (s3 _ _ bp)
            have ha5 : H5 as[b] = some (.lst (ns.map V.int)) := s5 _ _ (s3 _ _ (ba b _ ns ea e4))
            have at5 : atI (as.map V.ref) j = some (.ref as[b]) := by
              unfold atI
              rw [List.length_map, bl, e3, Option.bind_some, List.getElem?_map, ea]
              rfl
            refine .inl ⟨p, as.map V.ref, j, .ref as[b], rfl, rfl, SqL.of hp5, at5, sq_l ha5, ⟨outF F (p :: as), ρ1, er4.same s5, ?_⟩⟩
            rw [e2]
            refine fun v6 H6 s6 r6 _ => ?_
            cases r6
            have ha6 := s6 _ _ ha5
            have hz : (ns.map V.int).length < sizeLine := by
              rw [List.length_map]
              have := of_decide_eq_true ok2
              exact Nat.lt_of_lt_of_le (Nat.lt_of_succ_le this) (by decide)
            have s36 : Same H3 H6 := s5.trans s6
            refine ⟨as[b], ns.map V.int, .int n, rfl, rfl, ha6, hz, rfl, hlt, ρ1, ess.set b (ns ++ [n]), ?_, ⟨hσ4, ?_, by rw [List.length_set]; exact bl, fun j2 a2 ns2 g1 g2 => ?_⟩, fun a w e na no => ?_, go'⟩
            · exact (er4.same s36).updOut ha6 trivial (fun z => z.2 (List.mem_cons_of_mem _ ham)) (er.old.free (han _ ham))
            · rw [upd_ne (show p ≠ as[b] from fun z => np (z ▸ ham))]
              exact s6 _ _ hp5
            · by_cases cj : b = j2
              · subst cj
                rw [ea] at g1
                obtain rfl := Option.some.inj g1
                rw [List.getElem?_set_self (getSome e4)] at g2
                obtain rfl := Option.some.inj g2
                rw [upd_same, List.map_append]
                rfl
              · rw [List.getElem?_set_ne cj] at g2
                have ne : a2 ≠ as[b] := fun z => by
                  obtain ⟨k1, k2⟩ := List.getElem?_eq_some_iff.mp g1
                  rw [← k2] at z
                  exact cj ((List.getElem_inj (h₀ := k1) (h₁ := hb3) nd).mp z).symm
                rw [upd_ne ne]
                exact s36 _ _ (s3 _ _ (ba j2 a2 ns2 g1 g2))
            · obtain ⟨w1, w2⟩ := ev' a w e na no
              have ne : a ≠ as[b] := fun z => na (List.mem_cons_of_mem _ (z ▸ ham))
              rw [upd_ne ne]
              have h3 := s3 _ _ w1
              exact ⟨s36 _ _ h3, (ev4 a w h3 w2).2⟩
        · have eq : q = ds.length := by omega
          subst eq
          rw [List.drop_length] at go'
          have go' : some (ρ', ess) = some (ρF, essF) := go'
          cases go'
          have hi3 : i < ρF.length := by
            rw [er'.len]
            exact getSome bk.1
          obtain ⟨erF, ownF⟩ := er'.leave m hi3 bk (er.new p hpn) fun a h => er.new a (han a h)
          refine .inl ⟨(wk H' kp _).2 rfl, k σ' H' _ erF D (ws_evo ?_ w)⟩
          intro a w e no
          have na : a ∉ p :: as := fun z => by
            rw [(hb a z).1] at e
            cases e
          obtain ⟨w1, w2⟩ := ev' a w (sm2 _ _ (sm _ _ e)) na fun o => no (own_enter er.len o)
          refine ⟨w1, fun o => ?_⟩
          exact w2 (ownF a o)
end
end Pu

set_option Elab.async false
set_option linter.all false
set_option maxRecDepth 100000
set_option maxHeartbeats 2000000
/-! enumerate of a tuple or a list; range with a step; x.extend of a tuple or a list; x = y = e -/
namespace ZG
open PySem PySem.Spec PyProof.Rows L2
open AutoSeq1 (wpAny_loadPart')
set_option maxHeartbeats 1000000 in
theorem meets_enum1 {v : Value} {o : Obj} {H : Heap → Prop} (B : Begins v o H) :
    Meets (Builtin.«enumerate.__new__» ⟨[.type "enumerate", v], []⟩) (fun _ R s => H s.heap ∧
      R (.ok (.ret (.ref (s.heap.push o).objs.size))) { s with heap := (s.heap.push o).push { cls := .type "enumerate", data := .fields #[.none, .bool false, .ref s.heap.objs.size, rawInt 0, .none, .none] } }) :=
  .of_wp fun prog w A R s h => by
    obtain ⟨hp, g, d, tk, os⟩ := s; obtain ⟨h1, h⟩ := h
    have hsub := sub_enumerate
    have q1 : ∀ {A' : Around} {E : Value → Shared → Prop} {Q : Value → Shared → Prop}, Q (.ref hp.objs.size) ⟨hp.push o, g, d, tk, os⟩ → wpAny (model prog w) A' (pyIter v) Q E ⟨hp, g, d, tk, os⟩ :=
      fun q => B.iter prog w _ _ ⟨hp, g, d, tk, os⟩ _ h1 q
    wp_walk using q1
    refine wpAny_stack_any fun st => wpAny_pure ?_
    split
    · rename_i c _ _ _ _ _
      cases (c == Value.type "enumerate")
      · wp_walk using q1
        exact ⟨_, rfl, h⟩
      · wp_walk using q1
        exact ⟨_, rfl, h⟩
    · wp_walk using q1
      exact ⟨_, rfl, h⟩
section
variable {prog : Program} {w : World} {A : Around} {E : Value → Shared → Prop} {s : Shared}
theorem enum_begins1 {v : Value} {o : Obj} {H : Heap → Prop} {Q : Value → Shared → Prop} (B : Begins v o H) (h1 : H s.heap)
    (h : ∀ h', IsEnum h' (s.heap.objs.size + 1) s.heap.objs.size 0 .none → h'.get? s.heap.objs.size = some o → h'.objs.size = s.heap.objs.size + 2 →
      (∀ b o, s.heap.get? b = some o → h'.get? b = some o) → Q (.ref (s.heap.objs.size + 1)) { s with heap := h' }) :
    wpAny (model prog w) A (call (.type "enumerate") [v]) Q E s := by
  refine callType_new F.called_enumerate (by decide) (F.typeCall_enumerate_1 _) (F.newCall_enumerate_1 _) (fun obj => F.args_object_init_2 obj _) F.entry_enumerate_new
    (meets_enum1 B) ⟨h1, ?_⟩
  have hz : (s.heap.push o).objs.size = s.heap.objs.size + 1 := Heap.size_push ..
  show _ ∧ _
  rw [hz]
  have he : IsEnum ((s.heap.push o).push { cls := .type "enumerate", data := .fields #[.none, .bool false, .ref s.heap.objs.size, rawInt 0, .none, .none] }) (s.heap.objs.size + 1) s.heap.objs.size 0 .none := by
    have := Heap.get?_push_size (s.heap.push o) (o := { cls := .type "enumerate", data := .fields #[.none, .bool false, .ref s.heap.objs.size, rawInt 0, .none, .none] }) rfl
    rw [hz] at this; exact this
  refine ⟨⟨_, he, rfl⟩, h _ he (Heap.get?_push_of_some _ (Heap.get?_push_size _ B.free)) (by rw [Heap.size_push, hz]) fun b o x => Heap.get?_push_of_some _ (Heap.get?_push_of_some _ x)⟩
end
/-- the items in new pairs with their numbers -/
def IteG (K : PySem.W.Frag) (t : Bool) (a : Addr) : It :=
  ⟨fun i H => ∃ (xs : List V) (x : V), SqK t K H a xs ∧ xs[i]? = some x,
    fun i H v H' => ∃ T o x, v = .ref T ∧ H T = none ∧ o.dict = none ∧ H' = upd H T (.frz o (.tup [.int (i : Nat), x])) ∧ ∀ xs, SqK t K H a xs → xs[i]? = some x,
    fun i H => ∃ xs : List V, SqK t K H a xs ∧ i = xs.length⟩
theorem turn_enumG {P : Program} {w : World} {K : PySem.W.Frag} {elts : List Expr} {kk : Nat} {tpos : Pos} {t : Bool} {a e it : Addr} (hne : e ≠ it) (hea : e ≠ a) (hai : a ≠ it) :
    Turn P w K (.Tuple elts kk tpos) (IteG K t a) [e, it] e (fun i h => (∃ old, IsEnum h e it ((i : Nat) : Int) old) ∧ StK t h it a i) where
  mem := by simp
  obj := fun i h st b hb => by
    obtain ⟨⟨old, he⟩, hi⟩ := st
    have e' : b = e ∨ b = it := by simpa using hb
    rcases e' with z | z
    · rw [z]; exact ⟨_, he, fun v q => nomatch q⟩
    · rw [z]; exact st_obj hi
  keep := fun i h h' st k => let ⟨⟨old, he⟩, hi⟩ := st; ⟨⟨old, k e (by simp) _ he⟩, st_at hi fun o q => k it (by simp) o q⟩
  item := by
    intro X hP hw hK hc i pins s σ H E I hf st hg
    subst hP hw hK
    obtain ⟨⟨old, he⟩, hit⟩ := st
    obtain ⟨xs, x, hq, hx⟩ := hg
    obtain ⟨its, rv, p⟩ := sqk I hq
    obtain ⟨u, hu, ru⟩ := rv.get hx
    have hel : e < s.heap.objs.size := Heap.lt_size he
    have hil : it < s.heap.objs.size := by obtain ⟨_, q, _⟩ := st_obj hit; exact Heap.lt_size q
    have hh : X.A.in1.handled = none := I.ok.hd hc
    have D1 := draws (prog := X.prog) (w := X.w) (A := X.A.in1) t hh it a hai its.toArray
    refine wpAny_pyNext_enum_itemD D1 he ⟨hit, p⟩ (by have := (List.getElem?_eq_some_iff.mp hu).1; simpa using this) hne (by simp; exact ⟨hne, hea⟩) fun x1 h' tk e1 ho q1 hT hsz hk => ?_
    have eu : x1 = u := by
      have : its.toArray[i]? = some x1 := e1
      rw [List.getElem?_toArray, hu] at this
      exact (Option.some.inj this).symm
    subst eu
    refine ⟨_, rfl, wpAny_letOwnedTupleGo_enum (s := { s with heap := h', toks := tk + 1 }) ho fun h'' he' sb => ?_⟩
    have hT2 : h''.get? s.heap.objs.size = some { cls := .type "tuple", data := .seq #[.int i tk, x1] } := (sb.2 _ (Nat.ne_of_gt hel)).trans hT
    have new : ObjOk X.prog X.w (upd H s.heap.objs.size (.frz { cls := .type "tuple", data := .seq #[.int i tk, x1] } (.tup [.int (i : Nat), x]))) h'' s.heap.objs.size (.frz { cls := .type "tuple", data := .seq #[.int i tk, x1] } (.tup [.int (i : Nat), x])) :=
      ⟨hT2, by show 2 ≤ sizeLine; decide, [.int i tk, x1], .cons ⟨_, rfl⟩ (.cons ru .nil), ⟨_, hT2, rfl, _, rfl⟩⟩
    have I1 : Inv X pins σ (upd H s.heap.objs.size (.frz { cls := .type "tuple", data := .seq #[.int i tk, x1] } (.tup [.int (i : Nat), x]))) { s with heap := h'', toks := tk + 1 } :=
      I.turnedNew (ch := [e, it]) (fun b ob hb q => (sb.2 b (fun z => hb (by simp [z]))).trans (hk b ob (fun z => hb (by simp [z])) (fun z => hb (by simp [z])) q)) hf (Nat.le_refl _) new
    refine ⟨.ref s.heap.objs.size, _, I1, rfl, ⟨_, _, x, rfl, I.hok.fresh (Nat.le_refl _), rfl, rfl, fun ys hy => by rw [sqk_inj I hy hq]; exact hx⟩, ⟨⟨x1, ?_⟩, st_at q1.1 fun o q => (sb.2 it (Ne.symm hne)).trans q⟩, fun b hb => ?_⟩
    · have e1 : ((i + 1 : Nat) : Int) = (i : Int) + 1 := by omega
      rw [e1]; exact he'
    · have hb' : b < s.heap.objs.size := by
        have e' : b = e ∨ b = it := by simpa using hb
        rcases e' with z | z
        · rw [z]; exact hel
        · rw [z]; exact hil
      rw [upd_ne (Nat.ne_of_lt hb')]
      exact (hf b hb).1
  done := by
    intro X hP hw hK hc i pins s σ H E I hf st hg
    subst hP hw hK
    obtain ⟨⟨old, he⟩, hit⟩ := st
    obtain ⟨xs, hq, hx⟩ := hg
    obtain ⟨its, rv, p⟩ := sqk I hq
    obtain ⟨f0, f1, f2, f3, f4, f5⟩ := hf it (by simp)
    have hl := rv.length
    have hh : X.A.in1.handled = none := I.ok.hd hc
    have D1 := draws (prog := X.prog) (w := X.w) (A := X.A.in1) t hh it a hai its.toArray
    have en : i = its.toArray.size := by simp; omega
    subst en
    exact wpAny_pyNext_enum_endD D1 he ⟨hit, p⟩ fun h' eb => ⟨rfl, I.turned (t' := s.toks) (fun b o hb q => eb b o hb q) f0 f1 f3 f4 f5⟩
  self := fun A i s Q E st h => let ⟨⟨_, he⟩, _⟩ := st; wpAny_pyIter_enum he h
def iEnumG (K : PySem.W.Frag) (ta : TA) : TI := fun σ H R => ta σ H fun vs H1 => ∃ t a xs, vs = [.ref a] ∧ SqK t K H1 a xs ∧ R (IteG K t a) H1
theorem pi_enumG {X : Cx} {e : Expr} {ta : TA} {p pos tpos : Pos} {elts : List Expr} {kk : Nat} (hg : Gl X "enumerate") (hm : X.mg "enumerate" = none) (ha : PA X [e] ta) (hs : starEach [e] X.env = [(false, eval e X.env)] := by rfl) :
    PI X (.Tuple elts kk tpos) (.Call (.Name "enumerate" p) [e] [] pos) (iEnumG X.K ta) := by
  refine ⟨fun pins s σ H R I h => ?_⟩
  refine Call_ (ld_blt I hg hm boot_enumerate (PyProof.Rows.callWith_type1 (thn (ha.run pos pins s σ H _ I h) fun us s1 ⟨vs, H1, I1, r1, q1⟩ => ?_) hs rfl))
  obtain ⟨t, a, xs, ex, hq, q⟩ := q1
  subst ex
  cases r1 with
  | cons r rr =>
    cases rr
    cases r
    obtain ⟨its, rv, p1⟩ := sqk I1 hq
    have hlt := hk_lt p1
    refine enum_begins1 (begins t a its.toArray) p1 fun h' he hit hsz hk => wpAny_pyIter_enum he ?_
    have I2 : Inv X pins σ H1 { s1 with heap := h' } := I1.kept (t' := s1.toks) hk
    refine ⟨s1.heap.objs.size + 1, [s1.heap.objs.size + 1, s1.heap.objs.size], _, _, H1, rfl, I2, turn_enumG (Nat.succ_ne_self _) (Nat.ne_of_gt (Nat.lt_succ_of_lt hlt)) (Nat.ne_of_lt hlt), ⟨⟨.none, he⟩, st0 hit⟩, fun b hb => ?_, q⟩
    have e' : b = s1.heap.objs.size + 1 ∨ b = s1.heap.objs.size := by simpa using hb
    have hle : s1.heap.objs.size ≤ b := by
      rcases e' with z | z
      · rw [z]; exact Nat.le_add_right _ _
      · rw [z]; exact Nat.le_refl _
    exact I1.fpOk hle (I1.hok.fresh hle)
/-- x.extend of a tuple -/
theorem extend_tup (l : Addr) (items : Array Value) (n : Nat) (b : Addr) (items2 : Array Value) (n2 : Nat) (dct : Option Addr) (sl : Array (Option Value)) (hs0 : ¬(!items.isEmpty && Builtin.List.listTooLong (items.size + items2.size)) = true) (hs1 : items.size ≤ sizeLine) (hs2 : items.size + items2.size ≤ sizeLine + 1) :
    Meets (Builtin.«list.extend» ⟨[.ref l, .ref b], []⟩) (fun _ R s => s.heap.get? l = some { cls := .type "list", dict := none, data := .seq items n, slots := #[] } ∧ s.heap.get? b = some { cls := .type "tuple", dict := dct, data := .seq items2 n2, slots := sl } ∧ R (.ok (.ret Value.none)) { s with heap := s.heap.update l (Obj.mapSeq fun x => x ++ items2), toks := s.toks }) :=
  .of_wp fun prog w A R s h => by
    obtain ⟨hp, g, d, tk, os⟩ := s; obtain ⟨hl, hb, h⟩ := h; have f1 := AutoSeq1.idx_int; have f2 := AutoSeq1.sub_tuple_tuple; have f3 := AutoSeq1.sub_list_list; have f4 := AutoSeq1.sub_tuple_list; have f5 := AutoSeq1.sub_list_tuple;
    have hz' : (items ++ items2).size ≤ sizeLine + 1 := by rw [Array.size_append]; exact hs2
    wp_walk using (wpAny_updateSeq hl rfl (hz := hs1) (_hz' := hz')), wpAny_loadPart' hl, wpAny_loadPart' hb; exact ⟨_, rfl, h⟩
def rExtendT (K : PySem.W.Frag) : V → List V → Hp → VK → Prop := fun x vs H Q => ∃ l b xs zs, x = .ref l ∧ vs = [.ref b] ∧ H l = some (.lst xs) ∧ SqT K H b zs ∧ xs.length + zs.length ≤ sizeLine ∧ Q .non (upd H l (.lst (xs ++ zs)))
theorem mt_extendT {X : Cx} : MtM X "list.extend" (rExtendT X.K) := by
  intro pins s σ H x vs v us Q I rx rv h
  obtain ⟨l, b, xs, zs, rfl, rfl, hH, hB, hz, q⟩ := h
  cases rx
  obtain ⟨u, rfl, ru⟩ := rv.one
  cases ru
  obtain ⟨z, its, n, r, hl, e⟩ := I.lstM hH
  obtain ⟨its2, r2, ⟨⟨c, dct, dt, sl⟩, e2, hc, n2, hd⟩, z2⟩ := I.tuple hB
  replace hc : c = .type "tuple" := hc
  replace hd : dt = .seq its2.toArray n2 := hd
  subst hc hd
  have hl2 := r2.length
  have hsz : its.toArray.size + its2.toArray.size ≤ sizeLine := by rw [List.size_toArray, List.size_toArray]; omega
  have hlong : ¬ (!its.toArray.isEmpty && Builtin.List.listTooLong (its.toArray.size + its2.toArray.size)) = true := by
    rw [notLongL hsz, Bool.and_false]
    exact Bool.false_ne_true
  refine call_meets F.slot_list_extend ⟨_, e, rfl⟩ F.entry_list_extend (F.args_list_extend_2 _ _)
    (extend_tup l its.toArray n b its2.toArray n2 dct sl hlong (by rw [List.size_toArray]; omega) (by omega)) ⟨e, e2, ?_⟩
  refine ⟨.non, _, I.lset (its' := its ++ its2) hH e (by simp) (r.append r2) ?_, rfl, q⟩
  rw [List.length_append]
  omega
end ZG
namespace Pu
open PySem PySem.Spec PyProof.Rows L2 ZG
section
variable {X : Cx} {M : Nat → Bool} {F : Fx} {E : L2.St → XK} {σ : L2.St} {ρ : Rho} {H H1 H2 : Hp} {S : Addr → Prop} {K : PySem.W.Frag} {la fa lb fb : Bool} {a b : Expr} {f g : Rho → Re PyData} {pos : Pos}
/-! ### enumerate -/
def enuD (ds : List PyData) : List PyData := (List.range ds.length).map fun (i : Nat) => PyData.tuple [.int (i : Int), ds.getD i .none]
theorem enuD_len (ds : List PyData) : (enuD ds).length = ds.length := by
  unfold enuD
  simp
theorem enuD_get {ds : List PyData} {i : Nat} {d : PyData} (h : (enuD ds)[i]? = some d) : ∃ x, ds[i]? = some x ∧ d = .tuple [.int (i : Int), x] := by
  have hi : i < ds.length := by
    have := getSome h
    rwa [enuD_len] at this
  unfold enuD at h
  rw [List.getElem?_map, List.getElem?_range hi] at h
  refine ⟨ds[i], List.getElem?_eq_getElem hi, ?_⟩
  have := Option.some.inj h
  rw [← this]
  show PyData.tuple [PyData.int (i : Int), ds.getD i PyData.none] = _
  rw [List.getD_eq_getElem?_getD, List.getElem?_eq_getElem hi]
  rfl
def enuR (d : PyData) : Re (List PyData) := (itS d).andThen fun xs => .ok (enuD xs)
def enuA (ds : List PyData) : Re (List PyData) := match ds with
  | [d] => enuR d
  | _ => .bad
theorem walk_e {t : Bool} {a : Addr} {vs : List V} {xs : List PyData} (s1 : Sd t K H1 S a vs) (r1 : RpA K H1 S vs xs) : Walks K (fun a => S a ∧ H1 a ≠ none) (IteG K t a) (enuD xs) H1 := fun H2 kp i => by
  have e1 := sd_keep s1 kp
  have l1 := r1.length
  refine ⟨fun d hd => ?_, fun hl => ⟨vs, e1, ?_⟩⟩
  · obtain ⟨dx, hx, rfl⟩ := enuD_get hd
    obtain ⟨v, hv, rv⟩ := r1.thru.get' hx
    refine ⟨⟨vs, v, e1, hv⟩, fun x H' y => ?_⟩
    obtain ⟨T, o, x', rfl, hT, hdn, rfl, q1⟩ := y
    have g1 := q1 vs e1
    rw [hv] at g1
    cases g1
    have sn : Same H2 (upd H2 T (.frz o (.tup [.int (i : Nat), v]))) := same_new hT
    exact ⟨sn, .tup (.inl ⟨o, upd_same, hdn⟩) (.cons (.int _) (.cons ((rv.keep kp fun _ _ x _ => x).same sn) .nil))⟩
  · rw [enuD_len] at hl
    omega
def iEnu (gs : Rho → Re (List PyData)) : Rho → Re (List PyData) := fun ρ => (gs ρ).andThen enuA
theorem di_enum {e : Expr} {gs : Rho → Re (List PyData)} {p pos tpos : Pos} {elts : List Expr} {kk : Nat} (hg : Gl X "enumerate") (hm : X.mg "enumerate" = none) (h : DA X M F E false [e] gs)
    (hs : starEach [e] X.env = [(false, eval e X.env)] := by rfl) : DI X M F E (.Tuple elts kk tpos) (.Call (.Name "enumerate" p) [e] [] pos) (iEnu gs) := by
  obtain ⟨t, pa, h⟩ := h
  refine ⟨_, pi_enumG hg hm pa hs, fun σ H ρ er R w => ?_⟩
  unfold iEnu at w
  refine h σ H ρ er _ ?_
  cases q : gs ρ with
  | ex c =>
    rw [q] at w
    exact w
  | bad =>
    rw [q] at w
    exact w
  | ok ds =>
    rw [q] at w
    refine fun vs H1 sm r => ?_
    have w : WI X M F E σ ρ H (enuA ds) R := w
    match ds, r, w with
    | [d], .cons r1 .nil, w =>
      have w : WI X M F E σ ρ H ((itS d).andThen fun xs => .ok (enuD xs)) R := w
      cases q1 : itS d with
      | ok xs =>
        rw [q1] at w
        obtain ⟨t1, a, vs1, rfl, s1, ra1⟩ := sd_of r1 q1
        exact ⟨t1, a, vs1, rfl, sd_sq s1, w _ H1 sm (walk_e s1 ra1)⟩
      | ex c => cases d <;> cases q1
      | bad =>
        rw [q1] at w
        exact w.elim
@[simp] theorem ap_iEnu (gs : Rho → Re (List PyData)) : iEnu gs ρ = (gs ρ).andThen enuA := (rfl)
@[simp] theorem enuA_t (ds : List PyData) : enuA [.tuple ds] = .ok (enuD ds) := (rfl)
@[simp] theorem enuA_l (ds : List PyData) : enuA [.list ds] = .ok (enuD ds) := (rfl)
/-! ### range(a, b, c) -/
def stepFrom (lo c : Int) (n : Nat) : List PyData := (List.range n).map fun (k : Nat) => PyData.int (lo + (k : Int) * c)
def rg3 (ds : List PyData) : Re (List PyData) := match ds with
  | [.int i, .int j, .int c] => if c ≠ 0 ∧ c.natAbs < 1073741824 ∧ Builtin.Range.small i j c = true ∧ Builtin.Range.rangeSize i j c = ((Builtin.Range.rangeSize i j c).toNat : Int) then .ok (stepFrom i c (Builtin.Range.rangeSize i j c).toNat) else .bad
  | _ => .bad
theorem walk_c {S : Addr → Prop} {lo c : Int} {n : Nat} : Walks K S (Itc lo c n) (stepFrom lo c n) H1 := fun H2 kp i => by
  refine ⟨fun d hd => ?_, fun hl => ?_⟩
  · have hi : i < n := by
      have := getSome hd
      unfold stepFrom at this
      simpa using this
    unfold stepFrom at hd
    rw [List.getElem?_map, List.getElem?_range hi] at hd
    have e := Option.some.inj hd
    subst e
    refine ⟨hi, fun x H' y => ?_⟩
    obtain ⟨rfl, rfl⟩ := y
    exact ⟨Same.refl _, .int _⟩
  · unfold stepFrom at hl
    rw [List.length_map, List.length_range] at hl
    exact Nat.le_of_eq hl.symm
def iR3 (gs : Rho → Re (List PyData)) : Rho → Re (List PyData) := fun ρ => (gs ρ).andThen rg3
theorem di_rg3 {tg : Expr} {c : Expr} {gs : Rho → Re (List PyData)} {pp : Pos} (hg : Gl X "range") (hm : X.mg "range" = none) (ha : DA X M F E la [a, b, c] gs) (hs : starEach [a, b, c] X.env = (false, eval a X.env) :: starEach [b, c] X.env := by rfl) (hpl : (backTo pos (starEach [b, c] X.env)).any (·.1) = false := by rfl) :
    DI X M F E tg (.Call (.Name "range" pp) [a, b, c] [] pos) (iR3 gs) := by
  obtain ⟨t, pa, ha⟩ := ha
  refine ⟨_, pi_range3 hg hm pa hs hpl, fun σ H ρ er R w => ?_⟩
  refine ha σ H ρ er _ (wi_stepA w fun ds vs H1 e sm r w1 => ?_)
  unfold rg3 at w1
  split at w1
  · rename_i i j c
    cases r with
    | cons r1 r2 =>
      cases r1
      cases r2 with
      | cons r2 r3 =>
        cases r2
        cases r3 with
        | cons r3 r4 =>
          cases r3
          cases r4
          split at w1
          · rename_i hc
            exact ⟨i, j, c, _, rfl, hc, w1 _ H1 (Same.refl _) walk_c⟩
          · exact w1.elim
  · exact w1.elim
@[simp] theorem ap_iR3 (g : Rho → Re (List PyData)) : iR3 g ρ = (g ρ).andThen rg3 := (rfl)
/-- every second number -/
theorem rg3_two {m : Nat} (h : m ≤ 100000) : rg3 [.int 0, .int (2 * (m : Int)), .int 2] = .ok ((List.range m).map fun (k : Nat) => PyData.int (2 * (k : Int))) := by
  have e : Builtin.Range.rangeSize 0 (2 * (m : Int)) 2 = (m : Int) := by
    unfold Builtin.Range.rangeSize
    rw [if_pos (by decide)]
    by_cases h0 : m = 0
    · subst h0
      rfl
    · rw [if_pos (by omega)]
      omega
  have s : Builtin.Range.small 0 (2 * (m : Int)) 2 = true := by
    have Ft : ∀ i : Int, -1000000 ≤ i → i ≤ 1000000 → Builtin.Range.rangeFitsLong i = true := fun i h1 h2 => by
      unfold Builtin.Range.rangeFitsLong
      rw [decide_eq_true (by omega), decide_eq_true (by omega)]
      rfl
    have q : ∀ z : Int, z = (m : Int) → (Builtin.Range.rangeFitsLong 0 && Builtin.Range.rangeFitsLong (2 * (m : Int)) && Builtin.Range.rangeFitsLong 2 && Builtin.Range.rangeFitsLong z && (z == 0 || if (2 : Int) > 0 then Builtin.Range.rangeFitsLong (2 * (m : Int) + (2 - 1)) else Builtin.Range.rangeFitsLong (2 * (m : Int) + (2 + 1)))) = true := fun z hz => by
      rw [if_pos (by decide), Ft 0 (by omega) (by omega), Ft (2 * (m : Int)) (by omega) (by omega), Ft 2 (by omega) (by omega), Ft z (by omega) (by omega), Ft (2 * (m : Int) + (2 - 1)) (by omega) (by omega), Bool.or_true]
      rfl
    exact q _ e
  have hc : (2 : Int) ≠ 0 ∧ (2 : Int).natAbs < 1073741824 ∧ Builtin.Range.small 0 (2 * (m : Int)) 2 = true ∧ Builtin.Range.rangeSize 0 (2 * (m : Int)) 2 = ((Builtin.Range.rangeSize 0 (2 * (m : Int)) 2).toNat : Int) := ⟨by decide, by decide +kernel, s, by rw [e, Int.toNat_natCast]⟩
  have g : rg3 [.int 0, .int (2 * (m : Int)), .int 2] = if (2 : Int) ≠ 0 ∧ (2 : Int).natAbs < 1073741824 ∧ Builtin.Range.small 0 (2 * (m : Int)) 2 = true ∧ Builtin.Range.rangeSize 0 (2 * (m : Int)) 2 = ((Builtin.Range.rangeSize 0 (2 * (m : Int)) 2).toNat : Int) then .ok (stepFrom 0 2 (Builtin.Range.rangeSize 0 (2 * (m : Int)) 2).toNat) else .bad := rfl
  rw [g, if_pos hc, e, Int.toNat_natCast]
  have q : stepFrom 0 2 m = (List.range m).map fun (k : Nat) => PyData.int (2 * (k : Int)) := by
    unfold stepFrom
    refine List.map_congr_left fun k _ => ?_
    have : (0 : Int) + (k : Int) * 2 = 2 * (k : Int) := by omega
    rw [this]
  rw [q]
/-! ### x.extend(e) -/
def sExt (i : Nat) (lk : Bool) (f : Rho → Re PyData) : Rho → Sr := fun ρ => match getL ρ i with
  | some ds => (f ρ).st ρ fun d => (match d with
    | .tuple es => if okLen (ds.length + es.length) = true ∧ (lk = true → imm d = true) then .nx (ρ.set i (some (.list (ds ++ es)))) else .bad
    | _ => .bad)
  | none => .bad
theorem ds_ext {i : Nat} {x : Str} {p1 p2 p3 : Pos} (m : M i = true) (h : DE X M F E la fa a f) (hN : X.N[i]? = some x := by rfl) (hv : Vis X.env.scope x := by first | exact Or.inl rfl | exact Or.inr (Or.inl rfl) | exact Or.inr (Or.inr rfl)) (hd : (x == ("__debug__" : Str)) = false := by decide)
    (hcd : (x == ("__classdict__" : Str)) = false := by decide)
    (hs : swapsWith (.Call (.Attribute (.Name x p1) "extend" p2) [a] [] p3) none pos.line X.env = pure false := by rfl) (hbase : attributeBase (.Name x p1) "extend" X.env (eval (.Name x p1) X.env) = eval (.Name x p1) X.env := by rfl)
    (hfew : ((backTo p3 (starEach (a :: []) X.env)).all (fun x => !x.1) && (backToKw p3 (keywordEach [] X.env)).all (fun x => x.1.isSome)
      && decide ((a :: ([] : List Expr)).length + ([] : List Keyword).length + (if ([] : List Keyword).isEmpty then 0 else 1) < 30)) = true := by rfl)
    (hline : (p2.endLine == p3.line) = true := by rfl) (hst : starEach (a :: []) X.env = (false, eval a X.env) :: starEach [] X.env := by rfl) (hplain : (backTo p3 (starEach [] X.env)).any (·.1) = false := by rfl) :
    DS X M F E (.Expr (.Call (.Attribute (.Name x p1) "extend" p2) [a] [] p3) pos) (sExt i la f) := by
  obtain ⟨t, pa, h⟩ := h
  refine ⟨_, ps_expr (pe_bm PySem.F.plainAttrs_list PySem.F.slot_list_extend PySem.F.type_list_extend mt_extendT (pe_var hN hv hd hcd) (pa_cons pa pa_nil hst) hbase hfew hline hst hplain) hs, fun σ H ρ er D w => ?_⟩
  unfold sExt at w
  cases hl : getL ρ i with
  | none =>
    rw [hl] at w
    exact w.elim
  | some ds =>
    rw [hl] at w
    obtain ⟨pp, xs, hs', hx, rx⟩ := er.lst m hl
    refine ⟨.ref pp, hs', sq_l hx, h σ H ρ er _ (ws_step er w fun d v H1 e sm r _ w1 => ?_)⟩
    cases r with
    | tup h1 h2 =>
      rename_i b zs es _
      have w1 : WS X M F E σ H1 ρ (if okLen (ds.length + es.length) = true ∧ (la = true → imm (.tuple es) = true) then .nx (ρ.set i (some (.list (ds ++ es)))) else .bad) D := w1
      by_cases hc : okLen (ds.length + es.length) = true ∧ (la = true → imm (.tuple es) = true)
      · rw [if_pos hc] at w1
        have er1 := er.same sm
        have hx1 := sm _ _ hx
        have hz : xs.length + zs.length ≤ sizeLine := by
          have := of_decide_eq_true hc.1
          rw [rx.length, h2.length]
          exact Nat.le_trans this (by decide)
        have r2 : RpA X.K H1 (RS M F σ ρ false) zs es := by
          cases la with
          | false => exact h2
          | true => exact h2.noAddr (imm_tup.symm.trans (hc.2 rfl))
        obtain ⟨er2, ev2⟩ := er1.putL m hl hs' hx1 ((rx.same sm).append r2)
        exact ⟨pp, _, xs, zs, rfl, rfl, hx1, h1.sq, hz, w1 σ _ er2 ev2⟩
      · rw [if_neg hc] at w1
        exact w1.elim
    | bl _ => exact w1.elim
    | non => exact w1.elim
    | int _ => exact w1.elim
    | str _ => exact w1.elim
    | lst _ _ _ => exact w1.elim
    | scr _ _ => exact w1.elim
    | dic _ _ _ _ => exact w1.elim
    | dit _ _ _ _ => exact w1.elim
    | dif _ _ _ => exact w1.elim
/-! ### x = y = e -/
def sSet2 (i j : Nat) (lk : Bool) (f : Rho → Re PyData) : Rho → Sr := fun ρ => (f ρ).st ρ fun d => if lk = true → imm d = true then .nx ((ρ.set i (some d)).set j (some d)) else .bad
theorem ds_set2 {i j : Nat} {x y : Str} {p1 p2 : Pos} (m : M i = false) (mj : M j = false) (hN : X.N.Nodup) (h : DE X M F E la fa a f) (hi : X.N[i]? = some x := by rfl) (hj : X.N[j]? = some y := by rfl) (hx : Loc X.env.scope x := by first | exact Or.inl rfl | exact Or.inr rfl) (hy : Loc X.env.scope y := by first | exact Or.inl rfl | exact Or.inr rfl)
    (ha : (assignEach [.Name x p1, .Name y p2] X.env).map (·.2) = [assign (.Name x p1) X.env, assign (.Name y p2) X.env] := by rfl) (hw : swappedStores [.Name x p1, .Name y p2] a X.env = pure none := by rfl)
    (hf : X.fn x = true ∨ X.env.scope.names.lookup x = some .local := by first | exact .inl rfl | exact .inr rfl) (hg : X.fn y = true ∨ X.env.scope.names.lookup y = some .local := by first | exact .inl rfl | exact .inr rfl) :
    DS X M F E (.Assign [.Name x p1, .Name y p2] a pos) (sSet2 i j la f) := by
  obtain ⟨t, p, h⟩ := h
  refine ⟨_, ps_asg2 p (pg_name hN hi hx hf) (pg_name hN hj hy hg) ha hw, fun σ H ρ er D w => ?_⟩
  refine h σ H ρ er _ (ws_step er w fun d v H1 e sm r _ w1 => ?_)
  by_cases hd : la = true → imm d = true
  · rw [if_pos hd] at w1
    have r' : Rp X.K H1 (RS M F σ ρ false) v d := by
      cases la with
      | false => exact r
      | true => exact r.noAddr (hd rfl)
    have e1 := (er.same sm).set m r'
    have r2 : Rp X.K H1 (RS M F (σ.set i (some v)) (ρ.set i (some d)) false) v d := by
      rw [rs_set m]
      exact r'
    exact w1 _ H1 (e1.set mj r2) fun a u q n => ⟨q, fun o => n ((own_set m).mp ((own_set mj).mp o))⟩
  · rw [if_neg hd] at w1
    exact w1.elim
@[simp] theorem ap_sSet2 (i j : Nat) (f : Rho → Re PyData) : sSet2 i j false f ρ = (f ρ).st ρ fun d => .nx ((ρ.set i (some d)).set j (some d)) := by
  unfold sSet2
  simp
/-- x.extend as data -/
def extR (ρ : Rho) (i : Nat) : Option (List PyData) → Re PyData → Sr
  | some ds, r => r.st ρ fun d => (match d with | .tuple es => if okLen (ds.length + es.length) = true then .nx (ρ.set i (some (.list (ds ++ es)))) else .bad | _ => .bad)
  | none, _ => .bad
@[simp] theorem ap_sExt (i : Nat) (f : Rho → Re PyData) : sExt i false f ρ = extR ρ i (lOf ρ[i]?) (f ρ) := by
  unfold sExt extR
  rw [getL_eq]
  cases lOf ρ[i]? with
  | none => rfl
  | some ds =>
    show (f ρ).st ρ _ = (f ρ).st ρ _
    congr 1
    funext d
    cases d <;> simp
theorem extR_i {i : Nat} {ns es : List Int} (h : ns.length + es.length < 10000) : extR ρ i (some (ns.map PyData.int)) (.ok (tI es)) = .nx (ρ.set i (some (lI (ns ++ es)))) := by
  unfold extR tI
  simp only [st_ok, List.length_map]
  have hk : okLen (ns.length + es.length) = true := decide_eq_true (by omega)
  rw [if_pos hk]
  unfold lI
  rw [List.map_append]
end
end Pu

set_option Elab.async false
set_option linter.all false
set_option maxRecDepth 100000
set_option maxHeartbeats 2000000
/-! equality of nested data of numbers -/
namespace Pu
open PySem PySem.Spec PyProof.Rows L2
/-- numbers in tuples and lists, k deep -/
def zok : Nat → PyData → Bool
  | _, .int _ => true
  | 0, _ => false
  | k + 1, .tuple xs => xs.all fun x => zok k x
  | k + 1, .list xs => xs.all fun x => zok k x
  | _, _ => false
theorem zok_lay : ∀ (k : Nat) (d : PyData), zok k d = true → PyData.canLay0 d = true ∧ PyData.depth d ≤ k
  | k, .int i, _ => ⟨rfl, by simp [PyData.depth]⟩
  | 0, .tuple xs, h => by simp [zok] at h
  | 0, .list xs, h => by simp [zok] at h
  | 0, .none, h => by simp [zok] at h
  | 0, .bool _, h => by simp [zok] at h
  | 0, .str _, h => by simp [zok] at h
  | 0, .dict _, h => by simp [zok] at h
  | k + 1, .none, h => by simp [zok] at h
  | k + 1, .bool _, h => by simp [zok] at h
  | k + 1, .str _, h => by simp [zok] at h
  | k + 1, .dict _, h => by simp [zok] at h
  | k + 1, .tuple xs, h => by
    have q : ∀ x ∈ xs, zok k x = true := by simpa [zok] using h
    have ih : ∀ ys : List PyData, (∀ x ∈ ys, zok k x = true) → PyData.canLayAll0 ys = true ∧ PyData.depthAll ys ≤ k := by
      intro ys
      induction ys with
      | nil => intro _; exact ⟨by simp [PyData.canLayAll0], by simp [PyData.depthAll]⟩
      | cons y ys ih =>
        intro hy
        obtain ⟨a1, a2⟩ := zok_lay k y (hy y List.mem_cons_self)
        obtain ⟨b1, b2⟩ := ih fun x hx => hy x (List.mem_cons_of_mem _ hx)
        refine ⟨by simp [PyData.canLayAll0, a1, b1], ?_⟩
        rw [PyData.depthAll]
        omega
    obtain ⟨c1, c2⟩ := ih xs q
    exact ⟨by rw [PyData.canLay0]; exact c1, by rw [PyData.depth]; omega⟩
  | k + 1, .list xs, h => by
    have q : ∀ x ∈ xs, zok k x = true := by simpa [zok] using h
    have ih : ∀ ys : List PyData, (∀ x ∈ ys, zok k x = true) → PyData.canLayAll0 ys = true ∧ PyData.depthAll ys ≤ k := by
      intro ys
      induction ys with
      | nil => intro _; exact ⟨by simp [PyData.canLayAll0], by simp [PyData.depthAll]⟩
      | cons y ys ih =>
        intro hy
        obtain ⟨a1, a2⟩ := zok_lay k y (hy y List.mem_cons_self)
        obtain ⟨b1, b2⟩ := ih fun x hx => hy x (List.mem_cons_of_mem _ hx)
        refine ⟨by simp [PyData.canLayAll0, a1, b1], ?_⟩
        rw [PyData.depthAll]
        omega
    obtain ⟨c1, c2⟩ := ih xs q
    exact ⟨by rw [PyData.canLay0]; exact c1, by rw [PyData.depth]; omega⟩
theorem zok_shaped {k : Nat} {d : PyData} (h : zok k d = true) (hk : k ≤ 64) : SeqAt.shaped d = true := by
  obtain ⟨h1, h2⟩ := zok_lay k d h
  unfold SeqAt.shaped
  rw [h1, decide_eq_true (by omega)]
  rfl
theorem zok_eqv : ∀ (k : Nat) (a b : PyData), zok k a = true → zok k b = true → (PyData.eqv a b = true ↔ a = b)
  | k, .int i, .int j, _, _ => by
    rw [PyData.eqv]
    simp
  | k + 1, .int i, .tuple ys, _, _ => by
    rw [PyData.eqv]
    simp
  | k + 1, .int i, .list ys, _, _ => by
    rw [PyData.eqv]
    simp
  | k + 1, .tuple ys, .int i, _, _ => by
    rw [PyData.eqv]
    simp
  | k + 1, .list ys, .int i, _, _ => by
    rw [PyData.eqv]
    simp
  | k + 1, .tuple xs, .list ys, _, _ => by
    rw [PyData.eqv]
    simp
  | k + 1, .list xs, .tuple ys, _, _ => by
    rw [PyData.eqv]
    simp
  | k + 1, .tuple xs, .tuple ys, ha, hb => by
    have qa : ∀ x ∈ xs, zok k x = true := by simpa [zok] using ha
    have qb : ∀ x ∈ ys, zok k x = true := by simpa [zok] using hb
    have ih : ∀ xs ys : List PyData, (∀ x ∈ xs, zok k x = true) → (∀ x ∈ ys, zok k x = true) → (PyData.eqvAll xs ys = true ↔ xs = ys) := by
      intro xs
      induction xs with
      | nil =>
        intro ys _ _
        cases ys <;> simp [PyData.eqvAll]
      | cons x xs ih =>
        intro ys h1 h2
        cases ys with
        | nil => simp [PyData.eqvAll]
        | cons y ys =>
          rw [PyData.eqvAll, Bool.and_eq_true, zok_eqv k x y (h1 x List.mem_cons_self) (h2 y List.mem_cons_self), ih ys (fun z hz => h1 z (List.mem_cons_of_mem _ hz)) fun z hz => h2 z (List.mem_cons_of_mem _ hz), List.cons.injEq]
    rw [PyData.eqv, ih xs ys qa qb]
    simp
  | k + 1, .list xs, .list ys, ha, hb => by
    have qa : ∀ x ∈ xs, zok k x = true := by simpa [zok] using ha
    have qb : ∀ x ∈ ys, zok k x = true := by simpa [zok] using hb
    have ih : ∀ xs ys : List PyData, (∀ x ∈ xs, zok k x = true) → (∀ x ∈ ys, zok k x = true) → (PyData.eqvAll xs ys = true ↔ xs = ys) := by
      intro xs
      induction xs with
      | nil =>
        intro ys _ _
        cases ys <;> simp [PyData.eqvAll]
      | cons x xs ih =>
        intro ys h1 h2
        cases ys with
        | nil => simp [PyData.eqvAll]
        | cons y ys =>
          rw [PyData.eqvAll, Bool.and_eq_true, zok_eqv k x y (h1 x List.mem_cons_self) (h2 y List.mem_cons_self), ih ys (fun z hz => h1 z (List.mem_cons_of_mem _ hz)) fun z hz => h2 z (List.mem_cons_of_mem _ hz), List.cons.injEq]
    rw [PyData.eqv, ih xs ys qa qb]
    simp
  | 0, .tuple xs, _, h, _ => by simp [zok] at h
  | 0, .list xs, _, h, _ => by simp [zok] at h
  | 0, _, .tuple xs, _, h => by simp [zok] at h
  | 0, _, .list xs, _, h => by simp [zok] at h
  | 0, .none, _, h, _ => by simp [zok] at h
  | 0, .bool _, _, h, _ => by simp [zok] at h
  | 0, .str _, _, h, _ => by simp [zok] at h
  | 0, .dict _, _, h, _ => by simp [zok] at h
  | k + 1, .none, _, h, _ => by simp [zok] at h
  | k + 1, .bool _, _, h, _ => by simp [zok] at h
  | k + 1, .str _, _, h, _ => by simp [zok] at h
  | k + 1, .dict _, _, h, _ => by simp [zok] at h
  | 0, _, .none, _, h => by simp [zok] at h
  | 0, _, .bool _, _, h => by simp [zok] at h
  | 0, _, .str _, _, h => by simp [zok] at h
  | 0, _, .dict _, _, h => by simp [zok] at h
  | k + 1, _, .none, _, h => by simp [zok] at h
  | k + 1, _, .bool _, _, h => by simp [zok] at h
  | k + 1, _, .str _, _, h => by simp [zok] at h
  | k + 1, _, .dict _, _, h => by simp [zok] at h
theorem zok_int (k : Nat) (i : Int) : zok k (.int i) = true := by
  cases k <;> rfl
theorem zok_tI (k : Nat) (ns : List Int) : zok (k + 1) (tI ns) = true := by
  unfold tI
  simp [zok, zok_int]
theorem zok_lI (k : Nat) (ns : List Int) : zok (k + 1) (lI ns) = true := by
  unfold lI
  simp [zok, zok_int]
theorem zok_tup {k : Nat} {ds : List PyData} (h : ∀ d ∈ ds, zok k d = true) : zok (k + 1) (.tuple ds) = true := by
  simp only [zok, List.all_eq_true]
  exact h
theorem zok_lst {k : Nat} {ds : List PyData} (h : ∀ d ∈ ds, zok k d = true) : zok (k + 1) (.list ds) = true := by
  simp only [zok, List.all_eq_true]
  exact h
theorem oEq_z (k : Nat) {a b : PyData} (ha : zok k a = true) (hb : zok k b = true) (hk : k ≤ 64) [Decidable (a = b)] : oEq a b = some (.bool (decide (a = b))) := by
  unfold oEq
  rw [if_pos ⟨zok_shaped ha hk, zok_shaped hb hk⟩]
  have h := zok_eqv k a b ha hb
  by_cases e : a = b
  · rw [decide_eq_true e, h.mpr e]
  · rw [decide_eq_false e]
    cases q : PyData.eqv a b with
    | false => rfl
    | true => exact (e (h.mp q)).elim
theorem oNe_z (k : Nat) {a b : PyData} (ha : zok k a = true) (hb : zok k b = true) (hk : k ≤ 64) [Decidable (a = b)] : oNe a b = some (.bool (!decide (a = b))) := by
  unfold oNe
  rw [if_pos ⟨zok_shaped ha hk, zok_shaped hb hk⟩]
  have h := zok_eqv k a b ha hb
  by_cases e : a = b
  · rw [decide_eq_true e, h.mpr e]
  · rw [decide_eq_false e]
    cases q : PyData.eqv a b with
    | false => rfl
    | true => exact (e (h.mp q)).elim
theorem oEq_self (k : Nat) {a : PyData} (ha : zok k a = true) (hk : k ≤ 64) : oEq a a = some (.bool true) := by
  unfold oEq
  rw [if_pos ⟨zok_shaped ha hk, zok_shaped ha hk⟩, (zok_eqv k a a ha ha).mpr rfl]
theorem oNe_self (k : Nat) {a : PyData} (ha : zok k a = true) (hk : k ≤ 64) : oNe a a = some (.bool false) := by
  unfold oNe
  rw [if_pos ⟨zok_shaped ha hk, zok_shaped ha hk⟩, (zok_eqv k a a ha ha).mpr rfl]
  rfl
theorem tI_inj {a b : List Int} (h : tI a = tI b) : a = b := by
  unfold tI at h
  injection h with h
  exact List.map_inj_right (fun x y q => by injection q) |>.mp h
theorem ap_methL_l (o : PyData → List PyData → Option PyData) {ns : List Int} {f : Rho → Re PyData} {g : Rho → Re (List PyData)} {ρ : Rho} (h : f ρ = .ok (lI ns)) : rMethL o f g ρ = (g ρ).andThen fun es => liftO (o (lI ns) es) := by
  unfold rMethL
  rw [h]
  rfl
theorem oIdxL_ii {ns : List Int} {z : Int} : oIdxL (lI ns) [.int z] = (idxZ z ns).map fun (j : Nat) => PyData.int (j : Int) := by
  show ((asInts (ns.map PyData.int)).bind fun ns => (idxZ z ns).map fun (j : Nat) => PyData.int (j : Int)) = _
  rw [asInts_map]
  rfl
end Pu

set_option Elab.async false
set_option linter.all false
set_option maxRecDepth 100000
set_option maxHeartbeats 2000000
/-! k in d, k not in d, for dicts of whole numbers -/
namespace Pu
open PySem PySem.Spec PyProof.Rows L2
section
variable {X : Cx} {M : Nat → Bool} {F : Fx} {E : L2.St → XK} {σ : L2.St} {ρ : Rho} {H H1 H2 : Hp} {la fa lb fb : Bool} {a b : Expr} {f g : Rho → Re PyData} {pos : Pos}
def oInD (neg : Bool) : PyData → PyData → Option PyData := fun d e => match d, kvsOf e with
  | .int i, some kvs => some (.bool (if neg = true then !(lookI kvs i).isSome else (lookI kvs i).isSome))
  | _, _ => none
theorem oInD_some {neg : Bool} {d e z : PyData} (h : oInD neg d e = some z) : ∃ kvs i, d = .int i ∧ e = dicD kvs ∧ z = .bool (if neg = true then !(lookI kvs i).isSome else (lookI kvs i).isSome) := by
  unfold oInD at h
  split at h
  · rename_i i kvs q
    cases h
    unfold kvsOf at q
    split at q
    · cases q
      exact ⟨_, _, rfl, rfl, rfl⟩
    · cases q
  · cases h
theorem in_dget {K : PySem.W.Frag} {S : Addr → Prop} {v : V} {kvs : List (PyData × PyData)} (i : Int) (r : Rp K H S v (dicD kvs)) : ∃ (p : Addr) (o : Option V), v = .ref p ∧ DGet H p (V.int i) o ∧ o.isSome = (lookI kvs i).isSome := by
  generalize hd : dicD kvs = dd at r
  cases r with
  | dic h1 h2 h3 h4 =>
    unfold dicD at hd
    cases hd
    have lo := look_of i h3 h4
    refine ⟨_, _, rfl, DGet.k (k := Sum.inl i) h1, ?_⟩
    cases q : lookI ((_ : List PyData).zip _) i with
    | none =>
      rw [q] at lo
      rw [lo]
      rfl
    | some z =>
      rw [q] at lo
      obtain ⟨v, e, _⟩ := lo
      rw [e]
      rfl
  | scr _ _ => cases hd
  | dit _ _ _ _ => cases hd
  | dif h1 h3 h4 =>
    unfold dicD at hd
    cases hd
    have lo := look_of i h3 h4
    refine ⟨_, _, rfl, .inl ⟨_, Sum.inl i, .inr ⟨_, h1⟩, rfl, rfl⟩, ?_⟩
    cases q : lookI ((_ : List PyData).zip _) i with
    | none =>
      rw [q] at lo
      rw [lo]
      rfl
    | some z =>
      rw [q] at lo
      obtain ⟨v, e, _⟩ := lo
      rw [e]
      rfl
  | bl _ => cases hd
  | non => cases hd
  | int _ => cases hd
  | str _ => cases hd
  | tup _ _ => cases hd
  | lst _ _ _ => cases hd
theorem dt_din (hu : X.A.units + 64 < cLine) (ha : DE X M F E la fa a f) (hb : DE X M F E lb fb b g) (hm : behindInMarks .In b = false) : DT X M F E (.Compare a [.In] [b] pos) (asB (r2 (oInD false) f g)) := by
  obtain ⟨ta, pa, ha⟩ := ha
  obtain ⟨tb, pb, hb⟩ := hb
  refine ⟨_, pt_cmp (pc_din (by omega) pa pb) hm, fun σ H ρ er Q w => wt_asB (lk := la || lb) (fr := false) (h := r2 (oInD false) f g) (fun σ H ρ er Q z => ?_) er w⟩
  refine ha σ H ρ er _ (we_step z fun d v H1 e1 s1 r1 _ z1 => ?_)
  refine hb σ H1 ρ (er.same s1) _ (we_step (lk' := lb) (fr' := fb) z1 fun e u H2 e2 s2 r2 _ z2 => ?_)
  have z3 : WE X M F E (la || lb) false σ ρ H2 (liftO (oInD false d e)) Q := z2
  clear z2
  cases q : oInD false d e with
  | none =>
    rw [q] at z3
    exact z3.elim
  | some z =>
    rw [q] at z3
    obtain ⟨kvs, i, rfl, rfl, rfl⟩ := oInD_some q
    cases r1
    obtain ⟨p, o, rfl, dg, eo⟩ := in_dget i r2
    refine ⟨p, o, rfl, dg, ?_⟩
    rw [eo]
    exact z3 _ H2 (Same.refl _) (.bl _) fun z => nomatch z
theorem dt_dnotin (hu : X.A.units + 64 < cLine) (ha : DE X M F E la fa a f) (hb : DE X M F E lb fb b g) (hm : behindInMarks .NotIn b = false) : DT X M F E (.Compare a [.NotIn] [b] pos) (asB (r2 (oInD true) f g)) := by
  obtain ⟨ta, pa, ha⟩ := ha
  obtain ⟨tb, pb, hb⟩ := hb
  refine ⟨_, pt_cmp (pc_dnotin (by omega) pa pb) hm, fun σ H ρ er Q w => wt_asB (lk := la || lb) (fr := false) (h := r2 (oInD true) f g) (fun σ H ρ er Q z => ?_) er w⟩
  refine ha σ H ρ er _ (we_step z fun d v H1 e1 s1 r1 _ z1 => ?_)
  refine hb σ H1 ρ (er.same s1) _ (we_step (lk' := lb) (fr' := fb) z1 fun e u H2 e2 s2 r2 _ z2 => ?_)
  have z3 : WE X M F E (la || lb) false σ ρ H2 (liftO (oInD true d e)) Q := z2
  clear z2
  cases q : oInD true d e with
  | none =>
    rw [q] at z3
    exact z3.elim
  | some z =>
    rw [q] at z3
    obtain ⟨kvs, i, rfl, rfl, rfl⟩ := oInD_some q
    cases r1
    obtain ⟨p, o, rfl, dg, eo⟩ := in_dget i r2
    refine ⟨p, o, rfl, dg, ?_⟩
    rw [eo]
    exact z3 _ H2 (Same.refl _) (.bl _) fun z => nomatch z
@[simp] theorem oInD_t {i : Int} {kvs : List (PyData × PyData)} : oInD true (.int i) (dicD kvs) = some (.bool (!(lookI kvs i).isSome)) := (rfl)
@[simp] theorem oInD_f {i : Int} {kvs : List (PyData × PyData)} : oInD false (.int i) (dicD kvs) = some (.bool (lookI kvs i).isSome) := (rfl)
end
end Pu

set_option Elab.async false
set_option linter.all false
set_option maxRecDepth 100000
set_option maxHeartbeats 2000000
/-! the drawing of a signed row: marks, light lines, rings -/
namespace Pu
open PySem PySem.Spec PyProof.Rows L2
def abZ (i : Int) : Int := if i < 0 then -i else i
/-- the other one of a pair 2 k, 2 k + 1 -/
def dk (x : Int) : Int := if x % 2 = 0 then x + 1 else x - 1
theorem dk_dk (x : Int) : dk (dk x) = x := by
  unfold dk
  by_cases h : x % 2 = 0
  · rw [if_pos h, if_neg (by omega)]
    omega
  · rw [if_neg h, if_pos (by omega)]
    omega
theorem dk_ne (x : Int) : dk x ≠ x := by
  unfold dk
  split <;> omega
theorem dk_in {x : Int} {N : Nat} (h : x ∈ upI 0 (2 * N)) : dk x ∈ upI 0 (2 * N) := by
  have := up_mem.mp h
  refine up_mem.mpr ?_
  unfold dk
  split <;> omega
theorem dk_inj {x y : Int} (h : dk x = dk y) : x = y := by
  have := congrArg dk h
  rwa [dk_dk, dk_dk] at this
/-! ### marks -/
def mk1 (x : Int) : List Int := if 0 < x then [2 * x - 1, 2 * x] else [-2 * x, -2 * x - 1]
def mkZ (r : List Int) : List Int := 0 :: (r.flatMap mk1 ++ [2 * (r.length : Int) + 1])
theorem mk1_len (x : Int) : (mk1 x).length = 2 := by
  unfold mk1
  split <;> rfl
theorem flat_mk_len : ∀ r : List Int, (r.flatMap mk1).length = 2 * r.length
  | [] => rfl
  | x :: r => by
    rw [List.flatMap_cons, List.length_append, mk1_len, flat_mk_len r, List.length_cons]
    omega
theorem mkZ_len (r : List Int) : (mkZ r).length = 2 * r.length + 2 := by
  unfold mkZ
  rw [List.length_cons, List.length_append, flat_mk_len, List.length_singleton]
theorem up_two (n : Nat) : (upI 1 n).flatMap (fun y => [2 * y - 1, 2 * y]) = upI 1 (2 * n) := by
  induction n with
  | zero => rfl
  | succ n ih =>
    have e1 : upI 1 (n + 1) = upI 1 n ++ [1 + (n : Int)] := by
      unfold upI
      rw [List.range_succ, List.map_append]
      rfl
    have e2 : upI 1 (2 * (n + 1)) = upI 1 (2 * n) ++ [1 + ((2 * n : Nat) : Int), 1 + ((2 * n + 1 : Nat) : Int)] := by
      unfold upI
      rw [show 2 * (n + 1) = 2 * n + 1 + 1 by omega, List.range_succ, List.range_succ, List.map_append, List.map_append, List.append_assoc]
      rfl
    rw [e1, List.flatMap_append, ih, e2]
    congr 1
    have a : 2 * (1 + (n : Int)) - 1 = 1 + ((2 * n : Nat) : Int) := by omega
    have b : 2 * (1 + (n : Int)) = 1 + ((2 * n + 1 : Nat) : Int) := by omega
    rw [List.flatMap_cons, List.flatMap_nil, List.append_nil, a, b]
theorem mk1_perm (x : Int) (h : x ≠ 0) : (mk1 x).Perm [2 * abZ x - 1, 2 * abZ x] := by
  unfold mk1 abZ
  by_cases c : 0 < x
  · rw [if_pos c, if_neg (by omega)]
  · rw [if_neg c, if_pos (by omega), show -2 * x = 2 * -x by omega]
    exact List.Perm.swap _ _ _
theorem mkZ_perm {r : List Int} (h : (r.map abZ).Perm (upI 1 r.length)) : (mkZ r).Perm (upI 0 (2 * (r.length + 1))) := by
  have h0 : ∀ x ∈ r, x ≠ 0 := fun x hx e => by
    have := up_mem.mp (h.mem_iff.mp (List.mem_map.mpr ⟨x, hx, rfl⟩))
    rw [e] at this
    have z : abZ 0 = 0 := rfl
    rw [z] at this
    omega
  have e : ∀ l : List Int, (∀ x ∈ l, x ≠ 0) → (l.flatMap mk1).Perm ((l.map abZ).flatMap fun y => [2 * y - 1, 2 * y]) := by
    intro l
    induction l with
    | nil => exact fun _ => .refl _
    | cons x l ih =>
      intro hl
      rw [List.flatMap_cons, List.map_cons, List.flatMap_cons]
      exact (mk1_perm x (hl x List.mem_cons_self)).append (ih fun y hy => hl y (List.mem_cons_of_mem _ hy))
  have p1 := (e r h0).trans (h.flatMap_right _)
  rw [up_two] at p1
  have u : upI 0 (2 * (r.length + 1)) = 0 :: (upI 1 (2 * r.length) ++ [2 * (r.length : Int) + 1]) := by
    unfold upI
    rw [show 2 * (r.length + 1) = (2 * r.length + 1) + 1 by omega, List.range_succ_eq_map, List.map_cons, List.map_map, List.range_succ, List.map_append]
    congr 1
    congr 1
    · refine List.map_congr_left fun k _ => ?_
      show (0 : Int) + ((k + 1 : Nat) : Int) = 1 + (k : Int)
      omega
    · show [(0 : Int) + ((2 * r.length + 1 : Nat) : Int)] = _
      congr 1
      omega
  rw [u]
  unfold mkZ
  exact (p1.append_right _).cons _
/-! ### places of marks, light lines -/
section
variable {m : List Int} {N : Nat}
def ixI (m : List Int) (y : Int) : Int := (((idxZ y m).getD 0 : Nat) : Int)
theorem ix_some (p : m.Perm (upI 0 (2 * N))) {y : Int} (h : y ∈ upI 0 (2 * N)) : ∃ j : Nat, idxZ y m = some j ∧ ixI m y = j ∧ j < 2 * N ∧ m[j]? = some y := by
  obtain ⟨j, e⟩ := idxZ_mem (p.mem_iff.mpr h)
  have g := (idxZ_some e).1
  have hj := getSome g
  rw [p.length_eq, upI_length] at hj
  refine ⟨j, e, ?_, hj, g⟩
  unfold ixI
  rw [e]
  rfl
theorem ix_in (p : m.Perm (upI 0 (2 * N))) {y : Int} (h : y ∈ upI 0 (2 * N)) : ixI m y ∈ upI 0 (2 * N) := by
  obtain ⟨j, _, e, hj, _⟩ := ix_some p h
  rw [e]
  exact up_mem.mpr (by omega)
theorem val_ix (p : m.Perm (upI 0 (2 * N))) {y : Int} (h : y ∈ upI 0 (2 * N)) : valZ m (ixI m y) = y := by
  obtain ⟨j, _, e, hj, g⟩ := ix_some p h
  rw [e]
  unfold valZ
  rw [atZ_nat (by rw [p.length_eq, upI_length]; exact hj), g]
  rfl
theorem val_in (p : m.Perm (upI 0 (2 * N))) {x : Int} (h : x ∈ upI 0 (2 * N)) : valZ m x ∈ upI 0 (2 * N) := by
  have l : m.length = 2 * N := by rw [p.length_eq, upI_length]
  have v := val_at (r := m) (p := x) (by rw [l]; exact h)
  have := up_mem.mp h
  rw [show x = ((x.toNat : Nat) : Int) by omega, atZ_nat (by omega)] at v
  have := List.mem_of_getElem? v
  rw [show ((x.toNat : Nat) : Int) = x by omega] at this
  exact p.mem_iff.mp this
theorem ix_val (p : m.Perm (upI 0 (2 * N))) {x : Int} (h : x ∈ upI 0 (2 * N)) : ixI m (valZ m x) = x := by
  have l : m.length = 2 * N := by rw [p.length_eq, upI_length]
  have nd : m.Nodup := p.symm.nodup (up_nodup _ _)
  obtain ⟨j, _, e, hj, g⟩ := ix_some p (val_in p h)
  rw [e]
  have v := val_at (r := m) (p := x) (by rw [l]; exact h)
  refine atZ_inj nd (x := valZ m x) (up_mem.mpr (by omega)) (by rw [l]; exact h) ?_ v
  rw [atZ_nat (by omega)]
  exact g
theorem ix_inj (p : m.Perm (upI 0 (2 * N))) {y z : Int} (hy : y ∈ upI 0 (2 * N)) (hz : z ∈ upI 0 (2 * N)) (h : ixI m y = ixI m z) : y = z := by
  rw [← val_ix p hy, h, val_ix p hz]
/-- the spot across the light line -/
def tZ (m : List Int) (x : Int) : Int := ixI m (dk (valZ m x))
def lnZ (m : List Int) (k : Int) : Int × Int := if ixI m (2 * k + 1) < ixI m (2 * k) then (ixI m (2 * k + 1), ixI m (2 * k)) else (ixI m (2 * k), ixI m (2 * k + 1))
def LZ (m : List Int) (N : Nat) : List (Int × Int) := (upI 0 N).map (lnZ m)
/-- light lines and the spots across them -/
structure Lin (L : List (Int × Int)) (T : Int → Int) : Prop where
  pm : (L.flatMap fun l => [l.1, l.2]).Perm (upI 0 (2 * L.length))
  t1 : ∀ l ∈ L, T l.1 = l.2
  t2 : ∀ l ∈ L, T l.2 = l.1
theorem LZ_len (m : List Int) (N : Nat) : (LZ m N).length = N := by
  unfold LZ
  rw [List.length_map, upI_length]
theorem dk_even (k : Int) : dk (2 * k) = 2 * k + 1 := by
  unfold dk
  rw [if_pos (by omega)]
theorem dk_odd (k : Int) : dk (2 * k + 1) = 2 * k := by
  unfold dk
  rw [if_neg (by omega)]
  omega
theorem up_pairs (N : Nat) : (upI 0 N).flatMap (fun k => [2 * k, 2 * k + 1]) = upI 0 (2 * N) := by
  induction N with
  | zero => rfl
  | succ n ih =>
    have e1 : upI 0 (n + 1) = upI 0 n ++ [0 + (n : Int)] := by
      unfold upI
      rw [List.range_succ, List.map_append]
      rfl
    have e2 : upI 0 (2 * (n + 1)) = upI 0 (2 * n) ++ [0 + ((2 * n : Nat) : Int), 0 + ((2 * n + 1 : Nat) : Int)] := by
      unfold upI
      rw [show 2 * (n + 1) = 2 * n + 1 + 1 by omega, List.range_succ, List.range_succ, List.map_append, List.map_append, List.append_assoc]
      rfl
    rw [e1, List.flatMap_append, ih, e2]
    congr 1
    have a : 2 * (0 + (n : Int)) = 0 + ((2 * n : Nat) : Int) := by omega
    have b : 2 * (0 + (n : Int)) + 1 = 0 + ((2 * n + 1 : Nat) : Int) := by omega
    rw [List.flatMap_cons, List.flatMap_nil, List.append_nil, b, a]
theorem LZ_lin (p : m.Perm (upI 0 (2 * N))) : Lin (LZ m N) (tZ m) := by
  have mem2 : ∀ k ∈ upI 0 N, 2 * k ∈ upI 0 (2 * N) ∧ 2 * k + 1 ∈ upI 0 (2 * N) := fun k hk => by
    have := up_mem.mp hk
    exact ⟨up_mem.mpr (by omega), up_mem.mpr (by omega)⟩
  refine ⟨?_, fun l hl => ?_, fun l hl => ?_⟩
  · rw [LZ_len]
    unfold LZ
    have e : ∀ K : List Int, ((K.map (lnZ m)).flatMap fun l => [l.1, l.2]).Perm ((K.flatMap fun k => [2 * k, 2 * k + 1]).map (ixI m)) := by
      intro K
      induction K with
      | nil => exact .refl _
      | cons k K ih =>
        rw [List.map_cons, List.flatMap_cons, List.flatMap_cons, List.map_append]
        refine List.Perm.append ?_ ih
        unfold lnZ
        by_cases c : ixI m (2 * k + 1) < ixI m (2 * k)
        · rw [if_pos c]
          exact List.Perm.swap _ _ _
        · rw [if_neg c]
          exact .refl _
    refine (e _).trans ?_
    rw [up_pairs]
    refine (List.perm_ext_iff_of_nodup ?_ (up_nodup _ _)).mpr fun x => ?_
    · refine List.Pairwise.map _ ?_ (List.pairwise_iff_forall_sublist.mpr fun {a b} h => ?_ : List.Pairwise (fun a b => a ∈ upI 0 (2 * N) ∧ b ∈ upI 0 (2 * N) ∧ a ≠ b) (upI 0 (2 * N)))
      · exact fun a b h q => h.2.2 (ix_inj p h.1 h.2.1 q)
      · have nd := List.pairwise_iff_forall_sublist.mp (up_nodup 0 (2 * N)) h
        exact ⟨h.subset (by simp), h.subset (by simp), nd⟩
    · constructor
      · intro h
        obtain ⟨y, hy, rfl⟩ := List.mem_map.mp h
        exact ix_in p hy
      · intro h
        exact List.mem_map.mpr ⟨valZ m x, val_in p h, ix_val p h⟩
  · unfold LZ at hl
    obtain ⟨k, hk, rfl⟩ := List.mem_map.mp hl
    obtain ⟨h1, h2⟩ := mem2 k hk
    unfold lnZ tZ
    split
    · show ixI m (dk (valZ m (ixI m (2 * k + 1)))) = ixI m (2 * k)
      rw [val_ix p h2, dk_odd]
    · show ixI m (dk (valZ m (ixI m (2 * k)))) = ixI m (2 * k + 1)
      rw [val_ix p h1, dk_even]
  · unfold LZ at hl
    obtain ⟨k, hk, rfl⟩ := List.mem_map.mp hl
    obtain ⟨h1, h2⟩ := mem2 k hk
    unfold lnZ tZ
    split
    · show ixI m (dk (valZ m (ixI m (2 * k)))) = ixI m (2 * k + 1)
      rw [val_ix p h1, dk_even]
    · show ixI m (dk (valZ m (ixI m (2 * k + 1)))) = ixI m (2 * k)
      rw [val_ix p h2, dk_odd]
end
/-! ### rings of lines -/
section
variable {L : List (Int × Int)} {T : Int → Int}
theorem Lin.line (Z : Lin L T) {x : Int} (h : x ∈ upI 0 (2 * L.length)) : ∃ l ∈ L, x = l.1 ∨ x = l.2 := by
  have := Z.pm.mem_iff.mpr h
  obtain ⟨l, hl, q⟩ := List.mem_flatMap.mp this
  exact ⟨l, hl, by simpa using q⟩
theorem Lin.inn (Z : Lin L T) {l : Int × Int} (h : l ∈ L) : l.1 ∈ upI 0 (2 * L.length) ∧ l.2 ∈ upI 0 (2 * L.length) :=
  ⟨Z.pm.mem_iff.mp (List.mem_flatMap.mpr ⟨l, h, by simp⟩), Z.pm.mem_iff.mp (List.mem_flatMap.mpr ⟨l, h, by simp⟩)⟩
theorem Lin.ne (Z : Lin L T) {l : Int × Int} (h : l ∈ L) : l.1 ≠ l.2 := by
  have nd : (L.flatMap fun l => [l.1, l.2]).Nodup := Z.pm.symm.nodup (up_nodup _ _)
  have : ∀ K : List (Int × Int), (K.flatMap fun l => [l.1, l.2]).Nodup → l ∈ K → l.1 ≠ l.2 := by
    intro K
    induction K with
    | nil => exact fun _ h => by cases h
    | cons k K ih =>
      intro nd h
      rw [List.flatMap_cons] at nd
      rcases List.mem_cons.mp h with e | h
      · subst e
        have := (List.nodup_append.mp nd).1
        simpa using this
      · exact ih (List.nodup_append.mp nd).2.1 h
  exact this L nd h
theorem Lin.tin (Z : Lin L T) {x : Int} (h : x ∈ upI 0 (2 * L.length)) : T x ∈ upI 0 (2 * L.length) := by
  obtain ⟨l, hl, e | e⟩ := Z.line h
  · rw [e, Z.t1 l hl]
    exact (Z.inn hl).2
  · rw [e, Z.t2 l hl]
    exact (Z.inn hl).1
theorem Lin.tt (Z : Lin L T) {x : Int} (h : x ∈ upI 0 (2 * L.length)) : T (T x) = x := by
  obtain ⟨l, hl, e | e⟩ := Z.line h
  · rw [e, Z.t1 l hl, Z.t2 l hl]
  · rw [e, Z.t2 l hl, Z.t1 l hl]
theorem Lin.tne (Z : Lin L T) {x : Int} (h : x ∈ upI 0 (2 * L.length)) : T x ≠ x := by
  obtain ⟨l, hl, e | e⟩ := Z.line h
  · rw [e, Z.t1 l hl]
    exact fun q => Z.ne hl q.symm
  · rw [e, Z.t2 l hl]
    exact Z.ne hl
/-- two steps: dark, light -/
def fD2 (T : Int → Int) (x : Int) : Int := T (dk x)
theorem Lin.pm2 (Z : Lin L T) : Pm (fD2 T) (upI 0 (2 * L.length)) := ⟨up_nodup _ _, fun k hk => Z.tin (dk_in hk), fun k hk l hl e => by
  have := congrArg T e
  unfold fD2 at this
  rw [Z.tt (dk_in hk), Z.tt (dk_in hl)] at this
  exact dk_inj this⟩
theorem Lin.fdf (Z : Lin L T) {x : Int} (h : x ∈ upI 0 (2 * L.length)) : fD2 T (dk (fD2 T x)) = dk x := by
  unfold fD2
  rw [dk_dk, Z.tt (dk_in h)]
/-- the other side lies on another ring of double steps -/
theorem Lin.apart (Z : Lin L T) : ∀ (m : Nat) {s : Int}, s ∈ upI 0 (2 * L.length) → itZ (fD2 T) m s ≠ dk s
  | 0, s, h => fun e => dk_ne s e.symm
  | 1, s, h => fun e => by
    have e : fD2 T s = dk s := e
    unfold fD2 at e
    exact Z.tne (dk_in h) e
  | m + 2, s, h => fun e => by
    have e : itZ (fD2 T) (m + 1 + 1) s = dk s := e
    rw [itZ_add] at e
    have e : itZ (fD2 T) (m + 1) (fD2 T s) = dk s := e
    rw [← Z.fdf h] at e
    have hf := Z.pm2.to s h
    have e : fD2 T (itZ (fD2 T) m (fD2 T s)) = fD2 T (dk (fD2 T s)) := e
    have := Z.pm2.inj _ (Z.pm2.it m hf) _ (dk_in hf) e
    exact Z.apart m hf this
theorem Lin.back (Z : Lin L T) : ∀ (b : Nat) {s : Int}, s ∈ upI 0 (2 * L.length) → itZ (fD2 T) b (dk (itZ (fD2 T) b s)) = dk s
  | 0, _, _ => rfl
  | b + 1, s, h => by
    have e1 : itZ (fD2 T) (b + 1) s = fD2 T (itZ (fD2 T) b s) := rfl
    rw [e1, itZ_add]
    show itZ (fD2 T) b (fD2 T (dk (fD2 T (itZ (fD2 T) b s)))) = dk s
    rw [Z.fdf (Z.pm2.it b h)]
    exact Z.back b h
theorem Lin.apart2 (Z : Lin L T) {s : Int} (h : s ∈ upI 0 (2 * L.length)) (a b : Nat) : itZ (fD2 T) a s ≠ dk (itZ (fD2 T) b s) := fun e => by
  have := congrArg (itZ (fD2 T) b) e
  rw [Z.back b h, ← itZ_add] at this
  exact Z.apart _ h this
/-- the first 2 m spots of the way from s on -/
def wayD (T : Int → Int) (s : Int) (m : Nat) : List Int := (orb (fD2 T) s m).flatMap fun x => [x, dk x]
theorem way_succ (s : Int) (m : Nat) : wayD T s (m + 1) = wayD T s m ++ [itZ (fD2 T) m s, dk (itZ (fD2 T) m s)] := by
  unfold wayD
  rw [orb_succ, List.flatMap_append]
  rfl
theorem way_len (s : Int) : ∀ m, (wayD T s m).length = 2 * m
  | 0 => rfl
  | m + 1 => by
    rw [way_succ, List.length_append, way_len s m]
    rfl
theorem way_mem {s x : Int} {m : Nat} : x ∈ wayD T s m ↔ ∃ k, k < m ∧ (x = itZ (fD2 T) k s ∨ x = dk (itZ (fD2 T) k s)) := by
  unfold wayD orb
  rw [List.mem_flatMap]
  constructor
  · rintro ⟨y, hy, hx⟩
    obtain ⟨k, hk, rfl⟩ := List.mem_map.mp hy
    exact ⟨k, List.mem_range.mp hk, by simpa using hx⟩
  · rintro ⟨k, hk, hx⟩
    exact ⟨_, List.mem_map.mpr ⟨k, List.mem_range.mpr hk, rfl⟩, by simpa using hx⟩
noncomputable def ringD (T : Int → Int) (s : Int) : List Int := wayD T s (pd (fD2 T) s)
theorem Lin.it_ne (Z : Lin L T) {s : Int} (h : s ∈ upI 0 (2 * L.length)) {k m : Nat} (hk : k < m) (hm : m < pd (fD2 T) s) : itZ (fD2 T) m s ≠ itZ (fD2 T) k s := fun e => by
  have nd := Z.pm2.ring_nd h
  have g1 := orb_get (f := fD2 T) (s := s) hm
  have g2 := orb_get (f := fD2 T) (s := s) (show k < pd (fD2 T) s by omega)
  rw [e] at g1
  obtain ⟨i1, j1⟩ := List.getElem?_eq_some_iff.mp g1
  obtain ⟨i2, j2⟩ := List.getElem?_eq_some_iff.mp g2
  have := (List.getElem_inj (h₀ := i1) (h₁ := i2) nd).mp (j1.trans j2.symm)
  omega
theorem Lin.new1 (Z : Lin L T) {s : Int} (h : s ∈ upI 0 (2 * L.length)) {m : Nat} (hm : m < pd (fD2 T) s) : itZ (fD2 T) m s ∉ wayD T s m := fun q => by
  obtain ⟨k, hk, e | e⟩ := way_mem.mp q
  · exact Z.it_ne h hk hm e
  · exact Z.apart2 h m k e
theorem Lin.new2 (Z : Lin L T) {s : Int} (h : s ∈ upI 0 (2 * L.length)) {m : Nat} (hm : m < pd (fD2 T) s) : dk (itZ (fD2 T) m s) ∉ wayD T s m ∧ dk (itZ (fD2 T) m s) ≠ itZ (fD2 T) m s := ⟨fun q => by
  obtain ⟨k, hk, e | e⟩ := way_mem.mp q
  · exact Z.apart2 h k m e.symm
  · exact Z.it_ne h hk hm (dk_inj e), dk_ne _⟩
theorem Lin.way_in (Z : Lin L T) {s x : Int} (h : s ∈ upI 0 (2 * L.length)) {m : Nat} (hx : x ∈ wayD T s m) : x ∈ upI 0 (2 * L.length) := by
  obtain ⟨k, hk, e | e⟩ := way_mem.mp hx
  · rw [e]
    exact Z.pm2.it k h
  · rw [e]
    exact dk_in (Z.pm2.it k h)
theorem Lin.way_nd (Z : Lin L T) {s : Int} (h : s ∈ upI 0 (2 * L.length)) : ∀ m, m ≤ pd (fD2 T) s → (wayD T s m).Nodup
  | 0, _ => List.nodup_nil
  | m + 1, hm => by
    rw [way_succ]
    obtain ⟨a, b⟩ := Z.new2 h (show m < pd (fD2 T) s by omega)
    have c := Z.new1 h (show m < pd (fD2 T) s by omega)
    refine List.nodup_append.mpr ⟨Z.way_nd h m (by omega), by simp; exact fun e => b e.symm, fun x hx y hy => ?_⟩
    rcases List.mem_cons.mp hy with e | hy
    · subst e
      exact fun e => c (e ▸ hx)
    · have e := List.mem_singleton.mp hy
      subst e
      exact fun e => a (e ▸ hx)
/-- a ring is closed -/
theorem Lin.ring_dk (Z : Lin L T) {s x : Int} (h : s ∈ upI 0 (2 * L.length)) : x ∈ ringD T s → dk x ∈ ringD T s := fun hx => by
  obtain ⟨k, hk, e | e⟩ := way_mem.mp hx
  · rw [e]
    exact way_mem.mpr ⟨k, hk, .inr rfl⟩
  · rw [e, dk_dk]
    exact way_mem.mpr ⟨k, hk, .inl rfl⟩
theorem Lin.ring_T (Z : Lin L T) {s x : Int} (h : s ∈ upI 0 (2 * L.length)) : x ∈ ringD T s → T x ∈ ringD T s := fun hx => by
  obtain ⟨⟨p0, pe, _⟩, _⟩ := Z.pm2.isPer h
  obtain ⟨k, hk, e | e⟩ := way_mem.mp hx
  · rw [e]
    cases k with
    | zero =>
      refine way_mem.mpr ⟨pd (fD2 T) s - 1, by omega, .inr ?_⟩
      have e2 : itZ (fD2 T) (pd (fD2 T) s - 1 + 1) s = s := by rw [show pd (fD2 T) s - 1 + 1 = pd (fD2 T) s by omega]; exact pe
      have e2 : T (dk (itZ (fD2 T) (pd (fD2 T) s - 1) s)) = s := e2
      show T s = _
      rw [← Z.tt (dk_in (Z.pm2.it (pd (fD2 T) s - 1) h)), e2]
    | succ k =>
      refine way_mem.mpr ⟨k, by omega, .inr ?_⟩
      show T (T (dk (itZ (fD2 T) k s))) = _
      exact Z.tt (dk_in (Z.pm2.it k h))
  · rw [e]
    by_cases c : k + 1 < pd (fD2 T) s
    · exact way_mem.mpr ⟨k + 1, c, .inl rfl⟩
    · refine way_mem.mpr ⟨0, p0, .inl ?_⟩
      have e2 : itZ (fD2 T) (k + 1) s = s := by rw [show k + 1 = pd (fD2 T) s by omega]; exact pe
      exact e2
theorem Lin.ring_self (Z : Lin L T) {s : Int} (h : s ∈ upI 0 (2 * L.length)) : s ∈ ringD T s := way_mem.mpr ⟨0, (Z.pm2.isPer h).1.1, .inl rfl⟩
/-- what is closed under both kinds of lines -/
def Clo (T : Int → Int) (W : List Int) : Prop := ∀ x ∈ W, dk x ∈ W ∧ T x ∈ W
theorem Clo.way (Z : Lin L T) {W : List Int} (C : Clo T W) (hW : ∀ x ∈ W, x ∈ upI 0 (2 * L.length)) {s : Int} (h : s ∈ upI 0 (2 * L.length)) : ∀ m, itZ (fD2 T) m s ∈ W → s ∈ W
  | 0, q => q
  | m + 1, q => by
    have q : T (dk (itZ (fD2 T) m s)) ∈ W := q
    have q2 := (C _ q).2
    rw [Z.tt (dk_in (Z.pm2.it m h))] at q2
    have q3 := (C _ q2).1
    rw [dk_dk] at q3
    exact C.way Z hW h m q3
theorem Clo.ring (Z : Lin L T) {W : List Int} (C : Clo T W) (hW : ∀ x ∈ W, x ∈ upI 0 (2 * L.length)) {s x : Int} (h : s ∈ upI 0 (2 * L.length)) (hx : x ∈ ringD T s) (q : x ∈ W) : s ∈ W := by
  obtain ⟨k, hk, e | e⟩ := way_mem.mp hx
  · rw [e] at q
    exact C.way Z hW h k q
  · rw [e] at q
    have := (C _ q).1
    rw [dk_dk] at this
    exact C.way Z hW h k this
theorem Clo.add (Z : Lin L T) {W : List Int} (C : Clo T W) {s : Int} (h : s ∈ upI 0 (2 * L.length)) : Clo T (W ++ ringD T s) := fun x hx => by
  rcases List.mem_append.mp hx with q | q
  · exact ⟨List.mem_append_left _ (C x q).1, List.mem_append_left _ (C x q).2⟩
  · exact ⟨List.mem_append_right _ (Z.ring_dk h q), List.mem_append_right _ (Z.ring_T h q)⟩
/-- the starts that are taken among 0, 2, .., 2 k - 2 -/
structure Starts (L : List (Int × Int)) (T : Int → Int) (k : Nat) (hs : List Int) : Prop where
  inn : ∀ s ∈ hs, s ∈ upI 0 (2 * L.length) ∧ s < 2 * (k : Int)
  asc : hs.Pairwise (· < ·)
  nd : (hs.flatMap (ringD T)).Nodup
  clo : Clo T (hs.flatMap (ringD T))
  all : ∀ t : Nat, t < k → t < L.length → 2 * (t : Int) ∈ hs.flatMap (ringD T)
  low : ∀ s ∈ hs, ∀ x ∈ ringD T s, s ≤ x
theorem Starts.nil : Starts L T 0 [] := ⟨fun _ h => (by cases h), .nil, List.nodup_nil, fun _ h => (by cases h), fun t h => (by omega), fun _ h => (by cases h)⟩
theorem Starts.sub {k : Nat} {hs : List Int} (Z : Lin L T) (S : Starts L T k hs) : ∀ x ∈ hs.flatMap (ringD T), x ∈ upI 0 (2 * L.length) := fun x hx => by
  obtain ⟨s, h1, h2⟩ := List.mem_flatMap.mp hx
  exact Z.way_in (S.inn s h1).1 h2
theorem Starts.keep {k : Nat} {hs : List Int} (S : Starts L T k hs) (h : 2 * (k : Int) ∈ hs.flatMap (ringD T)) : Starts L T (k + 1) hs :=
  ⟨fun s q => ⟨(S.inn s q).1, by have := (S.inn s q).2; omega⟩, S.asc, S.nd, S.clo, fun t h1 h2 => by
    by_cases c : t = k
    · subst c
      exact h
    · exact S.all t (by omega) h2, S.low⟩
theorem Starts.more {k : Nat} {hs : List Int} (Z : Lin L T) (S : Starts L T k hs) (hk : k < L.length) (h : 2 * (k : Int) ∉ hs.flatMap (ringD T)) : Starts L T (k + 1) (hs ++ [2 * (k : Int)]) := by
  have hin : 2 * (k : Int) ∈ upI 0 (2 * L.length) := up_mem.mpr (by omega)
  have e : (hs ++ [2 * (k : Int)]).flatMap (ringD T) = hs.flatMap (ringD T) ++ ringD T (2 * (k : Int)) := by
    rw [List.flatMap_append, List.flatMap_cons, List.flatMap_nil, List.append_nil]
  have dis : ∀ x ∈ ringD T (2 * (k : Int)), x ∉ hs.flatMap (ringD T) := fun x hx q => h (S.clo.ring Z (S.sub Z) hin hx q)
  refine ⟨fun s q => ?_, ?_, ?_, ?_, fun t h1 h2 => ?_, fun s q x hx => ?_⟩
  · rcases List.mem_append.mp q with q | q
    · exact ⟨(S.inn s q).1, by have := (S.inn s q).2; omega⟩
    · have := List.mem_singleton.mp q
      subst this
      exact ⟨hin, by omega⟩
  · refine List.pairwise_append.mpr ⟨S.asc, List.pairwise_singleton _ _, fun a ha b hb => ?_⟩
    have := List.mem_singleton.mp hb
    subst this
    exact (S.inn a ha).2
  · rw [e]
    exact List.nodup_append.mpr ⟨S.nd, Z.way_nd hin _ (Nat.le_refl _), fun x hx y hy q => dis y hy (q ▸ hx)⟩
  · rw [e]
    exact S.clo.add Z hin
  · rw [e]
    by_cases c : t = k
    · subst c
      exact List.mem_append_right _ (Z.ring_self hin)
    · exact List.mem_append_left _ (S.all t (by omega) h2)
  · rcases List.mem_append.mp q with q | q
    · exact S.low s q x hx
    · have := List.mem_singleton.mp q
      subst this
      have xin := up_mem.mp (Z.way_in hin hx)
      by_cases c : x < 2 * (k : Int)
      · exfalso
        by_cases ev : x % 2 = 0
        · have := S.all (x / 2).toNat (by omega) (by omega)
          rw [show 2 * (((x / 2).toNat : Nat) : Int) = x by omega] at this
          exact dis x hx this
        · have := S.all (x / 2).toNat (by omega) (by omega)
          have e2 : 2 * (((x / 2).toNat : Nat) : Int) = dk x := by
            unfold dk
            rw [if_neg ev]
            omega
          rw [e2] at this
          exact dis _ (Z.ring_dk hin hx) this
      · omega
theorem Starts.perm {hs : List Int} (Z : Lin L T) (S : Starts L T L.length hs) : (hs.flatMap (ringD T)).Perm (upI 0 (2 * L.length)) :=
  (List.perm_ext_iff_of_nodup S.nd (up_nodup _ _)).mpr fun x => ⟨S.sub Z x, fun h => by
    have := up_mem.mp h
    by_cases ev : x % 2 = 0
    · have q := S.all (x / 2).toNat (by omega) (by omega)
      rwa [show 2 * (((x / 2).toNat : Nat) : Int) = x by omega] at q
    · have q := S.all (x / 2).toNat (by omega) (by omega)
      have e2 : 2 * (((x / 2).toNat : Nat) : Int) = dk x := by
        unfold dk
        rw [if_neg ev]
        omega
      rw [e2] at q
      have := (S.clo _ q).1
      rwa [dk_dk] at this⟩
end
end Pu

set_option Elab.async false
set_option linter.all false
set_option maxRecDepth 100000
set_option maxHeartbeats 2000000
/-! dicts of whole numbers to any data -/
namespace Pu
open PySem PySem.Spec PyProof.Rows L2
section
variable {ρ : Rho} {i : Int}
def gKv (ks : List Int) (h : Int → PyData) : List (PyData × PyData) := ks.map fun k => (PyData.int k, h k)
def gD (ks : List Int) (h : Int → PyData) : PyData := dicD (gKv ks h)
theorem fD_gD (ks : List Int) (h : Int → Int) : fD ks h = gD ks fun k => .int (h k) := rfl
theorem look_g {h : Int → PyData} : ∀ {ks : List Int}, i ∈ ks → lookI (gKv ks h) i = some (h i)
  | k :: ks, m => by
    unfold gKv lookI
    rw [List.map_cons, List.find?_cons]
    by_cases e : k = i
    · subst e
      show Option.map _ (match decide (k = k) with | true => some _ | false => _) = _
      rw [decide_eq_true rfl]
      rfl
    · show Option.map _ (match decide (k = i) with | true => some _ | false => _) = _
      rw [decide_eq_false e]
      exact look_g (ks := ks) ((List.mem_cons.mp m).resolve_left fun q => e q.symm)
theorem look_gno {h : Int → PyData} : ∀ {ks : List Int}, i ∉ ks → lookI (gKv ks h) i = none
  | [], _ => rfl
  | k :: ks, m => by
    unfold gKv lookI
    rw [List.map_cons, List.find?_cons]
    have e : ¬ k = i := fun e => m (by rw [e]; exact List.mem_cons_self)
    show Option.map _ (match decide (k = i) with | true => some _ | false => _) = _
    rw [decide_eq_false e]
    exact look_gno (ks := ks) fun q => m (List.mem_cons_of_mem _ q)
theorem dget_g {ks : List Int} {h : Int → PyData} (m : i ∈ ks) : oDGet (gD ks h) (.int i) = some (h i) := look_g m
theorem inD_t {ks : List Int} {h : Int → PyData} : oInD true (.int i) (gD ks h) = some (.bool (decide (i ∉ ks))) := by
  show some (PyData.bool (!(lookI (gKv ks h) i).isSome)) = _
  by_cases c : i ∈ ks
  · rw [look_g c, decide_eq_false (fun q => q c)]
    rfl
  · rw [look_gno c, decide_eq_true c]
    rfl
theorem inD_f {ks : List Int} {h : Int → PyData} : oInD false (.int i) (gD ks h) = some (.bool (decide (i ∈ ks))) := by
  show some (PyData.bool (lookI (gKv ks h) i).isSome) = _
  by_cases c : i ∈ ks
  · rw [look_g c, decide_eq_true c]
    rfl
  · rw [look_gno c, decide_eq_false c]
    rfl
theorem putG {k : Nat} {lk : Bool} {f g : Rho → Re PyData} {ks : List Int} {h : Int → PyData} {n : Int} (hk : ρ[k]? = some (some (gD ks h))) (hf : f ρ = .ok (h n)) (hg : g ρ = .ok (.int n)) (hn : n ∉ ks) (hl : ks.length < 10000) (him : lk = true → imm (h n) = true) : sPutD k lk f g ρ = .nx (ρ.set k (some (gD (ks ++ [n]) h))) := by
  unfold sPutD
  rw [hf, st_ok, hk]
  show (g ρ).st ρ _ = _
  rw [hg, st_ok]
  show (if okLen ((gKv ks h).length + 1) = true ∧ lookI (gKv ks h) n = none ∧ (lk = true → imm (h n) = true) then Sr.nx (ρ.set k (some (dicD (gKv ks h ++ [(PyData.int n, h n)])))) else .bad) = _
  rw [if_pos ⟨by unfold gKv; rw [List.length_map]; exact decide_eq_true hl, look_gno hn, him⟩]
  unfold gD gKv
  rw [List.map_append]
  rfl
/-- {k: v for .. in ..} with different keys -/
theorem dc_gen {α : Type} {its : Rho → Re (List PyData)} {vs : List Nat} {g : PyData → Rho → Option Rho} {fk f : Rho → Re PyData} {as : List α} {e : α → PyData} {ρ1 : α → Rho} {key : α → Int} {h : Int → PyData} (hi : its ρ = .ok (as.map e)) (hl : as.length < 10000) (nd : (as.map key).Nodup)
    (hg : ∀ k ∈ as, g (e k) (wipeR ρ vs) = some (ρ1 k)) (hk : ∀ k ∈ as, fk (ρ1 k) = .ok (.int (key k))) (hf : ∀ k ∈ as, f (ρ1 k) = .ok (h (key k))) :
    rDc its vs g yesR fk f ρ = .ok (gD (as.map key) h) := by
  unfold rDc
  rw [hi, re_ok, if_pos (by rw [List.length_map]; exact decide_eq_true (Nat.le_of_lt hl))]
  have run : ∀ ms bs : List α, bs ++ ms = as → dcGo g yesR fk f (wipeR ρ vs) (ms.map e) (gKv (bs.map key) h) = some (gKv (as.map key) h) := by
    intro ms
    induction ms with
    | nil =>
      intro bs q
      rw [List.append_nil] at q
      rw [q]
      rfl
    | cons k ms ih =>
      intro bs q
      have mk : k ∈ as := by rw [← q]; simp
      have nk : key k ∉ bs.map key := by
        rw [← q, List.map_append] at nd
        intro z
        exact (List.nodup_append.mp nd).2.2 _ z _ List.mem_cons_self rfl
      have la : bs.length < 10000 := by
        have := congrArg List.length q
        rw [List.length_append] at this
        omega
      show (match g (e k) (wipeR ρ vs) with
        | none => none
        | some ρ1 => match yesR ρ1 with
          | .ok true => (match fk ρ1 with | .ok (.int n) => (match f ρ1 with | .ok z => if okLen ((gKv (bs.map key) h).length + 1) = true ∧ lookI (gKv (bs.map key) h) n = none then dcGo g yesR fk f (wipeR ρ vs) (ms.map e) (gKv (bs.map key) h ++ [(PyData.int n, z)]) else none | _ => none) | _ => none)
          | .ok false => dcGo g yesR fk f (wipeR ρ vs) (ms.map e) (gKv (bs.map key) h)
          | _ => none) = _
      rw [hg k mk]
      show (match fk (ρ1 k) with | .ok (.int n) => (match f (ρ1 k) with | .ok z => if okLen ((gKv (bs.map key) h).length + 1) = true ∧ lookI (gKv (bs.map key) h) n = none then dcGo g yesR fk f (wipeR ρ vs) (ms.map e) (gKv (bs.map key) h ++ [(PyData.int n, z)]) else none | _ => none) | _ => none) = _
      rw [hk k mk, hf k mk]
      show (if okLen ((gKv (bs.map key) h).length + 1) = true ∧ lookI (gKv (bs.map key) h) (key k) = none then dcGo g yesR fk f (wipeR ρ vs) (ms.map e) (gKv (bs.map key) h ++ [(PyData.int (key k), h (key k))]) else none) = _
      rw [if_pos ⟨by unfold gKv; rw [List.length_map, List.length_map]; exact decide_eq_true la, look_gno nk⟩]
      have := ih (bs ++ [k]) (by rw [List.append_assoc]; exact q)
      unfold gKv at this ⊢
      rw [List.map_append, List.map_append] at this
      exact this
  show (match dcGo g yesR fk f (wipeR ρ vs) (as.map e) [] with | some kvs => Re.ok (dicD kvs) | none => .bad) = _
  rw [show ([] : List (PyData × PyData)) = gKv (([] : List α).map key) h from rfl, run as [] rfl]
  rfl
end
end Pu

set_option Elab.async false
set_option linter.all false
set_option maxRecDepth 100000
set_option maxHeartbeats 2000000
/-! any, all; {k: True}; d.update(e); x = e[y.pop()]; is True; xs.count(t) -/
namespace ZG
open PySem PySem.Spec PyProof.Rows L2
def rUpd : V → List V → Hp → VK → Prop := fun x vs H Q => ∃ (d o : Addr) (kvs more : List (L2.Key × V)), x = .ref d ∧ vs = [.ref o] ∧ d ≠ o ∧ H d = some (.dK kvs) ∧ Rd H o (.dK more) ∧ kvs.length + more.length ≤ sizeLine ∧ Q .non (upd H d (.dK (mergeK kvs more)))
theorem mt_upd {X : Cx} : MtR X "dict.update" rUpd := by
  intro pins s σ H x vs v us Q I rx rv h
  obtain ⟨d, o, kvs, more, rfl, rfl, hdo, hd, ho, hz, q⟩ := h
  cases rx
  obtain ⟨u, rfl, ru⟩ := rv.one
  cases ru
  obtain ⟨z1, s1, vs1, rel1, dd1⟩ := dk_of I.hok hd
  obtain ⟨z2, s2, vs2, rel2, dd2⟩ := dk_rd I.hok ho
  refine call_meetsIn PySem.F.slot_dict_update dd1.typeIs PySem.F.entry_dict_update (PySem.F.args_dict_update_2 _ _) (meets_dict_update (mixKind X.prog X.w) d o hdo s2) ⟨vs1, vs2, dd1, dd2, by rw [← rel1.length, ← rel2.length]; exact hz, fun h' dd' do' hs => ?_⟩
  have hl : (mergeK kvs more).length ≤ sizeLine := by have := length_mergeK more kvs; omega
  have he : ∃ q, h'.get? d = some q := let ⟨q, _, _, hq, _⟩ := dd'; ⟨q, hq⟩
  exact ⟨.non, _, d_write I (by rw [hd]; exact True.intro) hs he (dk_new hl s1 (rel2.merge rel1) dd'), rfl, q⟩
theorem mergeK_new : ∀ {more kvs : List (L2.Key × V)}, (∀ p ∈ more, valV kvs p.1 = none) → (more.map (·.1)).Nodup → mergeK kvs more = kvs ++ more
  | [], kvs, _, _ => by
    unfold mergeK
    simp
  | p :: more, kvs, h, nd => by
    have e : mergeK kvs (p :: more) = mergeK (putK kvs p.1 p.2) more := rfl
    rw [List.map_cons, List.nodup_cons] at nd
    have hp := h p List.mem_cons_self
    rw [e, mergeK_new (fun q hq => ?_) nd.2, putK_new p.2 hp, List.append_assoc]
    · rfl
    · rw [valV_put]
      have : q.1 ≠ p.1 := fun z => nd.1 (z ▸ List.mem_map.mpr ⟨q, hq, rfl⟩)
      rw [if_neg this]
      exact h q (List.mem_cons_of_mem _ hq)
/-- xs.count(t), items of any depth -/
def rCountD (K : PySem.W.Frag) : V → List V → Hp → VK → Prop := fun x xs H Q => ∃ (a : Addr) (y : V) (d : PyData) (ds : List PyData), x = V.ref a ∧ xs = [y] ∧ Dp K H (V.ref a) (.list ds) ∧ Dp K H y d ∧
  SeqAt.shaped (.list ds) = true ∧ SeqAt.shaped d = true ∧ Q (.int ((ds.countP fun z => PyData.eqv z d) : Nat)) H
theorem countP_map' {α β : Type} (f : α → β) (p : β → Bool) : ∀ l : List α, (l.map f).countP p = l.countP fun x => p (f x)
  | [] => rfl
  | a :: l => by
    rw [List.map_cons, List.countP_cons, List.countP_cons, countP_map' f p l]
theorem mt_countD {X : Cx} (hu : X.A.units + 65 < cLine) : MtR X "list.count" (rCountD X.K) := by
  intro pins s σ H x xs v us Q I rx rxs h
  obtain ⟨a, y, d, ds, rfl, rfl, hl, hy, sl, sd, q⟩ := h
  cases rx
  cases rxs with
  | cons ry rt =>
    rename_i uy ut
    cases rt
    obtain ⟨bs, r1⟩ := Dp.reads I d y uy hy ry
    have hxs : PyData.canLayAll0 ds = true := SeqAt.canLay_of_shaped sl
    have hroom : X.A.units + 1 + min (PyData.depthAll ds) d.depth < cLine := room_in_shaped sd hu
    cases hl with
    | lst hs ha =>
      obtain ⟨its, rv, ⟨⟨cls, dd, data, sls⟩, n, ho, hc, hdn, hdt⟩, hlen⟩ := I.list hs
      simp only at hc hdt
      subst hc hdt
      obtain ⟨as, h4⟩ := Dp.readsAll I ds _ its ha rv
      have hmap : its.map (SeqAt.readOf s.heap) = ds := SeqAt.readsAll_map ds its as hxs h4
      refine call_meets PySem.F.slot_list_count ⟨_, ho, rfl⟩ PySem.F.entry_list_count (PySem.F.args_list_count_2 _ _)
        (SeqAt.list_countAt a its.toArray n dd sls uy (fun u => PyData.eqv (SeqAt.readOf s.heap u) d)) ⟨ho, SeqAt.items_eqAt (vs := its.toArray) (show ReadsAll s.heap its.toArray.toList ds as from h4) r1 hxs (SeqAt.canLay_of_shaped sd) hroom, ?_⟩
      have ec : its.toArray.toList.countP (fun u => PyData.eqv (SeqAt.readOf s.heap u) d) = ds.countP fun z => PyData.eqv z d := by
        rw [← hmap, countP_map']
      refine ⟨.int ((ds.countP fun z => PyData.eqv z d) : Nat), H, I.tok _, ⟨s.toks, ?_⟩, q⟩
      show Value.int ((its.toArray.toList.countP (fun u => PyData.eqv (SeqAt.readOf s.heap u) d) : Nat) : Int) s.toks = Value.int _ s.toks
      rw [ec]
end ZG
namespace Pu
open PySem PySem.Spec PyProof.Rows L2 ZG
section
variable {X : Cx} {M : Nat → Bool} {F : Fx} {E : L2.St → XK} {σ : L2.St} {ρ : Rho} {H H1 H2 : Hp} {S : Addr → Prop} {K : PySem.W.Frag} {la fa lb fb : Bool} {a b : Expr} {f g : Rho → Re PyData} {pos : Pos}
/-! ### any, all -/
def asBools : List PyData → Option (List Bool)
  | [] => some []
  | .bool b :: ds => (asBools ds).map (b :: ·)
  | _ :: _ => none
theorem asBools_map : ∀ bs : List Bool, asBools (bs.map PyData.bool) = some bs
  | [] => rfl
  | b :: bs => by
    rw [List.map_cons]
    show (asBools (bs.map PyData.bool)).map (b :: ·) = _
    rw [asBools_map bs]
    rfl
theorem asBools_eq : ∀ {ds : List PyData} {bs : List Bool}, asBools ds = some bs → ds = bs.map PyData.bool
  | [], bs, h => by
    cases h
    rfl
  | .bool b :: ds, bs, h => by
    obtain ⟨cs, e, rfl⟩ := Option.map_eq_some_iff.mp h
    rw [asBools_eq e]
    rfl
  | .none :: _, _, h => by cases h
  | .int _ :: _, _, h => by cases h
  | .str _ :: _, _, h => by cases h
  | .list _ :: _, _, h => by cases h
  | .tuple _ :: _, _, h => by cases h
  | .dict _ :: _, _, h => by cases h
theorem RpA.of_bools : ∀ {bs : List Bool} {vs : List V}, RpA K H S vs (bs.map PyData.bool) → vs = bs.map V.bl
  | [], _, .nil => rfl
  | b :: bs, _, .cons h1 h2 => by
    cases h1
    rw [RpA.of_bools h2]
    rfl
def bAny : List PyData → Option PyData := fun ds => match ds with | [.list xs] => (asBools xs).map fun bs => .bool (bs.any id) | _ => none
def bAll : List PyData → Option PyData := fun ds => match ds with | [.list xs] => (asBools xs).map fun bs => .bool (bs.all id) | _ => none
theorem s_any : SemL K (rAny K) false bAny := fun S H xs ds z Q new r q k => by
  unfold bAny at q
  split at q
  · rename_i ys
    obtain ⟨bs, e, rfl⟩ := Option.map_eq_some_iff.mp q
    cases r with
    | cons r1 r2 =>
      cases r2
      cases r1 with
      | lst h1 s1 r1 =>
        rw [asBools_eq e] at r1
        rw [RpA.of_bools r1] at h1
        exact ⟨_, bs, rfl, SqL.of h1, k _ H (Same.refl H) (.bl _) fun z => nomatch z⟩
  · cases q
theorem s_all : SemL K (rAll K) false bAll := fun S H xs ds z Q new r q k => by
  unfold bAll at q
  split at q
  · rename_i ys
    obtain ⟨bs, e, rfl⟩ := Option.map_eq_some_iff.mp q
    cases r with
    | cons r1 r2 =>
      cases r2
      cases r1 with
      | lst h1 s1 r1 =>
        rw [asBools_eq e] at r1
        rw [RpA.of_bools r1] at h1
        exact ⟨_, bs, rfl, SqL.of h1, k _ H (Same.refl H) (.bl _) fun z => nomatch z⟩
  · cases q
@[simp] theorem bAny_b (bs : List Bool) : bAny [.list (bs.map PyData.bool)] = some (.bool (bs.any id)) := by
  show (asBools (bs.map PyData.bool)).map _ = _
  rw [asBools_map]
  rfl
@[simp] theorem bAll_b (bs : List Bool) : bAll [.list (bs.map PyData.bool)] = some (.bool (bs.all id)) := by
  show (asBools (bs.map PyData.bool)).map _ = _
  rw [asBools_map]
  rfl
/-! ### is True, is False -/
def oIsB (neg : Bool) : PyData → PyData → Option PyData := fun d e => match d, e with | .bool x, .bool y => some (.bool (if neg then !decide (x = y) else decide (x = y))) | _, _ => none
theorem s_isB : SemB K (fun x y H Q => ∃ a b, x = .bl a ∧ y = .bl b ∧ Q (.bl (decide (a = b))) H) false (oIsB false) := fun S H x y d e z Q new rx ry q k => by
  unfold oIsB at q
  split at q
  · cases q
    cases rx
    cases ry
    exact ⟨_, _, rfl, rfl, k _ H (Same.refl H) (.bl _) fun z => nomatch z⟩
  · cases q
theorem s_isnotB : SemB K (fun x y H Q => ∃ a b, x = .bl a ∧ y = .bl b ∧ Q (.bl (!decide (a = b))) H) false (oIsB true) := fun S H x y d e z Q new rx ry q k => by
  unfold oIsB at q
  split at q
  · cases q
    cases rx
    cases ry
    exact ⟨_, _, rfl, rfl, k _ H (Same.refl H) (.bl _) fun z => nomatch z⟩
  · cases q
@[simp] theorem oIsB_f (x y : Bool) : oIsB false (.bool x) (.bool y) = some (.bool (decide (x = y))) := rfl
@[simp] theorem oIsB_t (x y : Bool) : oIsB true (.bool x) (.bool y) = some (.bool (!decide (x = y))) := rfl
/-! ### {k: v}, v plain data -/
def rDisp (f g : Rho → Re PyData) : Rho → Re PyData := fun ρ => (f ρ).andThen fun d => (g ρ).andThen fun e => match d with | .int n => if imm e = true then .ok (dicD [(.int n, e)]) else .bad | _ => .bad
theorem de_disp (ha : DE X M F E la fa a f) (hb : DE X M F E lb fb b g) : DE X M F E (la || lb) true (.Dict [some a] [b] pos) (rDisp f g) := by
  obtain ⟨ta, pa, ha⟩ := ha
  obtain ⟨tb, pb, hb⟩ := hb
  refine ⟨_, pe_disp (pps_cons pa pb pps_nil) (by rfl) (by rfl) (fun z => by cases z) (Nat.le_of_ble_eq_true rfl), fun σ H ρ er Q w => ?_⟩
  intro p hp
  have s0 : Same H (upd H p (.dK [])) := same_new hp
  have er0 := er.same s0
  unfold rDisp at w
  refine ha σ _ ρ er0 _ ?_
  cases qf : f ρ with
  | ex c =>
    rw [qf] at w
    exact fun C H' m s => w C H' m (s0.trans s)
  | bad =>
    rw [qf] at w
    exact w.elim
  | ok d =>
    rw [qf] at w
    refine fun v H1 s1 r1 _ => ?_
    refine hb σ H1 ρ (er0.same s1) _ ?_
    cases qg : g ρ with
    | ex c =>
      rw [qg] at w
      exact fun C H' m s => w C H' m ((s0.trans s1).trans s)
    | bad =>
      rw [qg] at w
      exact w.elim
    | ok e =>
      rw [qg] at w
      refine fun u H2 s2 r2 _ => ?_
      cases r1 with
      | int n =>
        have w : WE X M F E (la || lb) true σ ρ H (if imm e = true then .ok (dicD [(.int n, e)]) else .bad) Q := w
        by_cases c : imm e = true
        · rw [if_pos c] at w
          have h2p : H2 p = some (.dK []) := s2 _ _ (s1 _ _ upd_same)
          have s02 : Same H H2 := (s0.trans s1).trans s2
          have s03 : Same H (upd H2 p (.dK [((Sum.inl n : L2.Key), u)])) := fun x o q => by
            have : x ≠ p := fun z => by
              rw [z, hp] at q
              cases q
            rw [upd_ne this]
            exact s02 _ _ q
          have ru : ∀ S' : Addr → Prop, Rp X.K (upd H2 p (.dK [((Sum.inl n : L2.Key), u)])) S' u e := fun S' => by
            have r0 : Rp X.K H2 (fun _ => False) u e := r2.noAddr c
            have r3 := r0.keep (S' := fun _ => False) (H' := upd H2 p (.dK [((Sum.inl n : L2.Key), u)])) (fun x o q z => by
              rcases z with z | z
              · exact z.elim
              · have : x ≠ p := fun y => by
                  rw [y, h2p] at q
                  cases q
                  exact z trivial
                rw [upd_ne this]
                exact q) fun _ _ z _ => z
            exact r3.wide fun _ z => z.elim
          refine ⟨h2p, [((Sum.inl n : L2.Key), u)], rfl, Nat.le_of_ble_eq_true rfl, ?_⟩
          have m : mergeK [] [((Sum.inl n : L2.Key), u)] = [((Sum.inl n : L2.Key), u)] := rfl
          rw [m]
          refine w (.ref p) _ s03 (.dic (ks := [Sum.inl n]) (xs := [u]) (ds := [e]) upd_same ?_ rfl (.cons (ru _) .nil)) fun _ => ⟨p, rfl, hp, .dic (ks := [Sum.inl n]) (xs := [u]) (ds := [e]) upd_same rfl (.cons (ru _) .nil)⟩
          exact er.freshS p hp
        · rw [if_neg c] at w
          exact w.elim
      | bl _ => exact w.elim
      | non => exact w.elim
      | str _ => exact w.elim
      | tup _ _ => exact w.elim
      | lst _ _ _ => exact w.elim
      | scr _ _ => exact w.elim
      | dic _ _ _ _ => exact w.elim
      | dit _ _ _ _ => exact w.elim
      | dif _ _ _ => exact w.elim
/-! ### x = a new list, whose items hold no address -/
def sSetF (i : Nat) (f : Rho → Re PyData) : Rho → Sr := fun ρ => (f ρ).st ρ fun d => if itemsImm d = true then .nx (ρ.set i (some d)) else .bad
theorem ds_setF {i : Nat} {x : Str} {pos' : Pos} (m : M i = false) (hN : X.N.Nodup) (h : DE X M F E la true a f) (hi : X.N[i]? = some x := by rfl) (hx : Loc X.env.scope x := by first | exact Or.inl rfl | exact Or.inr rfl)
    (hs : swapsWith a (some (.Name x pos')) pos.line X.env = pure false := by rfl) (hw : swappedStores [.Name x pos'] a X.env = pure none := by rfl) (hf : X.fn x = true ∨ X.env.scope.names.lookup x = some .local := by first | exact .inl rfl | exact .inr rfl) :
    DS X M F E (.Assign [.Name x pos'] a pos) (sSetF i f) := by
  obtain ⟨t, p, h⟩ := h
  refine ⟨_, ps_asg p (pg_name hN hi hx hf) hs hw, fun σ H ρ er D w => ?_⟩
  refine h σ H ρ er _ (ws_step er w fun d v H1 e sm r fr w1 => ?_)
  by_cases hd : itemsImm d = true
  · rw [if_pos hd] at w1
    obtain ⟨pp, rfl, hp, ow⟩ := fr rfl
    have r' : Rp X.K H1 (RS M F σ ρ false) (.ref pp) d := (ow.noAddr (S' := RS M F σ ρ false) hd).rp (er.freshS pp hp)
    exact w1 _ H1 ((er.same sm).set m r') fun a u q n => ⟨q, fun o => n ((own_set m).mp o)⟩
  · rw [if_neg hd] at w1
    exact w1.elim
@[simp] theorem ap_sSetF (i : Nat) (f : Rho → Re PyData) : sSetF i f ρ = (f ρ).st ρ fun d => if itemsImm d = true then .nx (ρ.set i (some d)) else .bad := rfl
/-! ### d.update(e), e new keys -/
def keysNew (kvs more : List (PyData × PyData)) : Bool := match keysOf more with | some ns => decide ns.Nodup && ns.all (fun n => (lookI kvs n).isNone) | none => false
def sUpd (i : Nat) (f : Rho → Re PyData) : Rho → Sr := fun ρ => match ρ[i]? with
  | some (some dd) => (match kvsOf dd with
    | some kvs => (f ρ).st ρ fun e => (match kvsOf e with
      | some more => if okLen (kvs.length + more.length) = true ∧ keysNew kvs more = true then .nx (ρ.set i (some (dicD (kvs ++ more)))) else .bad
      | none => .bad)
    | none => .bad)
  | _ => .bad
theorem zip_fstK {ks : List L2.Key} {xs : List V} (h : ks.length = xs.length) : (ks.zip xs).map (·.1) = ks := zip_fst ks xs h
theorem upd_run {pp : Addr} {ks ks2 : List L2.Key} {xs xs2 : List V} {ds ds2 : List PyData} (l : ks.length = xs.length) (r : RpA K H S xs ds) (l2 : ks2.length = xs2.length) (r2 : RpA K H S xs2 ds2)
    (h : keysNew ((ks.map kD).zip ds) ((ks2.map kD).zip ds2) = true) : mergeK (ks.zip xs) (ks2.zip xs2) = (ks ++ ks2).zip (xs ++ xs2) := by
  unfold keysNew at h
  split at h
  · rename_i ns e
    rw [Bool.and_eq_true, decide_eq_true_eq] at h
    obtain ⟨nd, hn⟩ := h
    unfold keysOf at e
    rw [zip_fst _ _ (by rw [List.length_map, l2, r2.length])] at e
    have ek := ints_keys (asInts_eq e)
    rw [List.zip_append l]
    refine mergeK_new (fun p hp => ?_) ?_
    · have hp1 : p.1 ∈ ks2 := by
        rw [← zip_fstK l2]
        exact List.mem_map.mpr ⟨p, hp, rfl⟩
      rw [ek] at hp1
      obtain ⟨n, hn', e'⟩ := List.mem_map.mp hp1
      have q := List.all_eq_true.mp hn n hn'
      have lo := look_of n l r
      rw [Option.isNone_iff_eq_none] at q
      rw [q] at lo
      rw [← e']
      exact lo
    · rw [zip_fstK l2, ek]
      exact List.Pairwise.map _ (fun a b h z => h (Sum.inl.inj z)) nd
  · cases h
theorem ds_upd {i : Nat} {x : Str} {p1 p2 p3 : Pos} (m : M i = true) (h : DE X M F E false fa a f) (hN : X.N[i]? = some x := by rfl) (hv : Vis X.env.scope x := by first | exact Or.inl rfl | exact Or.inr (Or.inl rfl) | exact Or.inr (Or.inr rfl)) (hd : (x == ("__debug__" : Str)) = false := by decide)
    (hcd : (x == ("__classdict__" : Str)) = false := by decide)
    (hs : swapsWith (.Call (.Attribute (.Name x p1) "update" p2) [a] [] p3) none pos.line X.env = pure false := by rfl) (hbase : attributeBase (.Name x p1) "update" X.env (eval (.Name x p1) X.env) = eval (.Name x p1) X.env := by rfl)
    (hfew : ((backTo p3 (starEach (a :: []) X.env)).all (fun x => !x.1) && (backToKw p3 (keywordEach [] X.env)).all (fun x => x.1.isSome)
      && decide ((a :: ([] : List Expr)).length + ([] : List Keyword).length + (if ([] : List Keyword).isEmpty then 0 else 1) < 30)) = true := by rfl)
    (hline : (p2.endLine == p3.line) = true := by rfl) (hst : starEach (a :: []) X.env = (false, eval a X.env) :: starEach [] X.env := by rfl) (hplain : (backTo p3 (starEach [] X.env)).any (·.1) = false := by rfl) :
    DS X M F E (.Expr (.Call (.Attribute (.Name x p1) "update" p2) [a] [] p3) pos) (sUpd i f) := by
  obtain ⟨t, pa, h⟩ := h
  refine ⟨_, ps_expr (pe_bm PySem.F.plainAttrs_dict PySem.F.slot_dict_update PySem.F.type_dict_update mt_upd (pe_var hN hv hd hcd) (pa_cons pa pa_nil hst) hbase hfew hline hst hplain) hs, fun σ H ρ er D w => ?_⟩
  unfold sUpd at w
  cases q : ρ[i]? with
  | none =>
    rw [q] at w
    exact w.elim
  | some o =>
    cases o with
    | none =>
      rw [q] at w
      exact w.elim
    | some dd =>
      rw [q] at w
      obtain ⟨pp, sp, _, w0⟩ := er.ow i dd q m
      cases qk : kvsOf dd with
      | none =>
        simp only [qk] at w
        exact w.elim
      | some kvs =>
        simp only [qk] at w
        obtain ⟨pp', ks, xs, ds, sp', hx, l, rr, ek⟩ := er.dicO m q qk
        rw [sp] at sp'
        cases sp'
        refine ⟨.ref pp, sp, .inr (.inr (.inl ⟨rfl, .inl ⟨_, hx⟩⟩)), ?_⟩
        refine h σ H ρ er _ (ws_step er w fun e u H1 e1 s1 r1 _ w1 => ?_)
        have er1 := er.same s1
        have hx1 := s1 _ _ hx
        cases qe : kvsOf e with
        | none =>
          rw [qe] at w1
          exact w1.elim
        | some more =>
          rw [qe] at w1
          have w1 : WS X M F E σ H1 ρ (if okLen (kvs.length + more.length) = true ∧ keysNew kvs more = true then .nx (ρ.set i (some (dicD (kvs ++ more)))) else .bad) D := w1
          by_cases c : okLen (kvs.length + more.length) = true ∧ keysNew kvs more = true
          · rw [if_pos c] at w1
            obtain ⟨a2, ks2, xs2, ds2, rfl, l2, rr2, em, rd2, ne⟩ : ∃ (a2 : Addr) (ks2 : List L2.Key) (xs2 : List V) (ds2 : List PyData), u = .ref a2 ∧ ks2.length = xs2.length ∧ RpA X.K H1 (RS M F σ ρ false) xs2 ds2 ∧ more = (ks2.map kD).zip ds2 ∧ Rd H1 a2 (.dK (ks2.zip xs2)) ∧ pp ≠ a2 := by
              cases r1 with
              | dic h1 h2 h3 h4 =>
                cases qe
                exact ⟨_, _, _, _, rfl, h3, h4, rfl, .inl h1, fun z => h2.2 rfl ⟨i, dd, m, q, z ▸ sp⟩⟩
              | dif h1 h3 h4 =>
                cases qe
                exact ⟨_, _, _, _, rfl, h3, h4, rfl, .inr ⟨_, h1⟩, fun z => by
                  rw [← z, hx1] at h1
                  cases h1⟩
              | scr _ _ => cases qe
              | dit _ _ _ _ => cases qe
              | bl _ => cases qe
              | non => cases qe
              | int _ => cases qe
              | str _ => cases qe
              | tup _ _ => cases qe
              | lst _ _ _ => cases qe
            have rr1 := rr.same s1
            have hl1 := rr1.length
            have hl2 := rr2.length
            have hlen : (ks.zip xs).length + (ks2.zip xs2).length ≤ sizeLine := by
              have := okLen_le c.1
              rw [ek, em, zip_len l hl1, zip_len l2 hl2] at this
              exact this
            have hm := upd_run (pp := pp) l rr1 l2 rr2 (by rw [← ek, ← em]; exact c.2)
            have ed : dicD (kvs ++ more) = .dict ((.bool true, .none) :: ((ks ++ ks2).map kD).zip (ds ++ ds2)) := by
              rw [ek, em, List.map_append, List.zip_append (by rw [List.length_map, l, hl1])]
              rfl
            have rA := rr1.append rr2
            obtain ⟨er3, ev3⟩ := er1.put (o := .dK ((ks ++ ks2).zip (xs ++ xs2))) (d' := dicD (kvs ++ more)) m q sp (by
              rw [ed]
              refine .dic upd_same (by rw [List.length_append, List.length_append, l, l2]) (rA.keep (fun a u qa xa => ?_) fun _ _ x _ => x)
              rw [upd_ne]
              · exact qa
              · intro za
                subst za
                rcases xa with xa | xa
                · exact xa.2 rfl ⟨i, dd, m, q, sp⟩
                · rw [hx1] at qa
                  cases qa
                  exact xa trivial)
            refine ⟨pp, a2, _, _, rfl, rfl, ne, hx1, rd2, hlen, ?_⟩
            rw [hm]
            exact w1 σ _ er3 ev3
          · rw [if_neg c] at w1
            exact w1.elim
/-! ### x = e[y.pop()] -/
def sIxPop (i j : Nat) (f : Rho → Re PyData) : Rho → Sr := fun ρ => (f ρ).st ρ fun d => match getL ρ j with
  | some es => (match es.getLast? with
    | some y => if i ≠ j then (match oIx d y with | some z => .nx ((ρ.set j (some (.list es.dropLast))).set i (some z)) | none => .bad) else .bad
    | none => .bad)
  | none => .bad
theorem RpA.dropLast {vs : List V} {ds : List PyData} (r : RpA K H S vs ds) : RpA K H S vs.dropLast ds.dropLast := by
  rw [List.dropLast_eq_take, List.dropLast_eq_take, r.length]
  exact r.take _
theorem ds_ixPop {i j : Nat} {x y : Str} {p0 q1 q2 q3 p4 : Pos} (m : M i = false) (mj : M j = true) (hNd : X.N.Nodup) (h : DE X M F E false fa a f) (hi : X.N[i]? = some x := by rfl) (hx : Loc X.env.scope x := by first | exact Or.inl rfl | exact Or.inr rfl)
    (hNy : X.N[j]? = some y := by rfl) (hvy : Vis X.env.scope y := by first | exact Or.inl rfl | exact Or.inr (Or.inl rfl) | exact Or.inr (Or.inr rfl)) (hdy : (y == ("__debug__" : Str)) = false := by decide) (hcdy : (y == ("__classdict__" : Str)) = false := by decide)
    (hbase2 : attributeBase (.Name y q1) "pop" X.env (eval (.Name y q1) X.env) = eval (.Name y q1) X.env := by rfl) (hline2 : (q2.endLine == q3.line) = true := by rfl)
    (hpl : PlainIx (.Call (.Attribute (.Name y q1) "pop" q2) [] [] q3) := by intro _ _; rfl)
    (hs : swapsWith (.Subscript a (.Call (.Attribute (.Name y q1) "pop" q2) [] [] q3) p4) (some (.Name x p0)) pos.line X.env = pure false := by rfl) (hw : swappedStores [.Name x p0] (.Subscript a (.Call (.Attribute (.Name y q1) "pop" q2) [] [] q3) p4) X.env = pure none := by rfl)
    (hf : X.fn x = true ∨ X.env.scope.names.lookup x = some .local := by first | exact .inl rfl | exact .inr rfl) :
    DS X M F E (.Assign [.Name x p0] (.Subscript a (.Call (.Attribute (.Name y q1) "pop" q2) [] [] q3) p4) pos) (sIxPop i j f) := by
  obtain ⟨t, pa, h⟩ := h
  refine ⟨_, ps_asg (pe_ix ix_seq pa (pe_bm0 PySem.F.plainAttrs_list PySem.F.slot_list_pop PySem.F.type_list_pop mt_pop (pe_var hNy hvy hdy hcdy) hbase2 hline2) hpl) (pg_name hNd hi hx hf) hs hw, fun σ H ρ er D w => ?_⟩
  refine h σ H ρ er _ (ws_step er w fun d v H1 e s1 r _ w1 => ?_)
  have er1 := er.same s1
  cases hl2 : getL ρ j with
  | none =>
    rw [hl2] at w1
    exact w1.elim
  | some es =>
    rw [hl2] at w1
    obtain ⟨qq, ys, hs2, hy, ry⟩ := er1.lst mj hl2
    cases hg : es.getLast? with
    | none =>
      simp only [hg] at w1
      exact w1.elim
    | some yd =>
      simp only [hg] at w1
      by_cases hij : i ≠ j
      · rw [if_pos hij] at w1
        have hel : es[es.length - 1]? = some yd := by rw [← List.getLast?_eq_getElem?]; exact hg
        obtain ⟨yv, hyv, ryv⟩ := ry.get' hel
        rw [← ry.length] at hyv
        cases hz : oIx d yd with
        | none =>
          rw [hz] at w1
          exact w1.elim
        | some z =>
          rw [hz] at w1
          obtain ⟨er2, ev2⟩ := er1.putL mj hl2 hs2 hy ry.dropLast
          refine ⟨.ref qq, hs2, sq_l hy, qq, ys, yv, rfl, rfl, hy, hyv, ?_⟩
          have r2 := r.keep (Evo.kp er1 ev2) fun a u x q => Evo.rs ev2 a u x q
          have ryv2 := ryv.keep (Evo.kp er1 ev2) fun a u x q => Evo.rs ev2 a u x q
          refine s_ix (RS M F σ (ρ.set j (some (.list es.dropLast))) false) _ v yv d yd z _ er2.freshS r2 ryv2 hz fun v' H' s' r' _ => ?_
          have er3 := er2.same s'
          refine w1 _ H' (er3.set m r') (ev2.trans ((Evo.same s').trans fun a u q n => ⟨q, fun o => n ((own_set m).mp o)⟩))
      · rw [if_neg hij] at w1
        exact w1.elim
/-! ### xs.count(t) -/
def oCntD : PyData → List PyData → Option PyData := fun d es => match d, es with
  | .list ds, [e] => if SeqAt.shaped (.list ds) = true ∧ SeqAt.shaped e = true then some (.int ((ds.countP fun z => PyData.eqv z e) : Nat)) else none
  | _, _ => none
theorem ru65 {k : Nat} {A : Around} (r : Room k A) : A.units + 65 < cLine := by
  have := r.un
  omega
theorem de_cntL {es : List Expr} {gs : Rho → Re (List PyData)} {p2 : Pos} (hu : X.A.units + 65 < cLine) (ha : DE X M F E la fa a f) (hb : DA X M F E lb (b :: es) gs)
    (hbase : attributeBase a "count" X.env (eval a X.env) = eval a X.env := by rfl)
    (hfew : ((backTo pos (starEach (b :: es) X.env)).all (fun x => !x.1) && (backToKw pos (keywordEach [] X.env)).all (fun x => x.1.isSome)
      && decide ((b :: es).length + ([] : List Keyword).length + (if ([] : List Keyword).isEmpty then 0 else 1) < 30)) = true := by rfl)
    (hline : (p2.endLine == pos.line) = true := by rfl) (hs : starEach (b :: es) X.env = (false, eval b X.env) :: starEach es X.env := by rfl) (hplain : (backTo pos (starEach es X.env)).any (·.1) = false := by rfl) :
    DE X M F E false false (.Call (.Attribute a "count" p2) (b :: es) [] pos) (rMethL oCntD f gs) := by
  obtain ⟨ta, pa, ha⟩ := ha
  obtain ⟨tb, pb, hb⟩ := hb
  refine ⟨_, pe_bm PySem.F.plainAttrs_list PySem.F.slot_list_count PySem.F.type_list_count (mt_countD hu) pa pb hbase hfew hline hs hplain, fun σ H ρ er Q w => ?_⟩
  refine ha σ H ρ er _ (we_step w fun d v H1 e1 s1 r1 _ w1 => ?_)
  have er1 := er.same s1
  cases r1 with
  | lst h1 hS rr =>
    rename_i aa xs ds0 _
    refine ⟨sq_l h1, hb σ H1 ρ er1 _ (we_stepA (lk' := lb) w1 fun ds vs H2 e2 s2 r2 w2 => ?_)⟩
    have h2 := s2 _ _ h1
    have rr2 := rr.same s2
    have w2 : WE X M F E false false σ ρ H2 (liftO (oCntD (.list ds0) ds)) Q := w2
    generalize q : oCntD (.list ds0) ds = oo at w2
    cases oo with
    | none => exact w2.elim
    | some z =>
      unfold oCntD at q
      split at q
      · rename_i ds1 e hh
        cases hh
        obtain ⟨hc, rfl⟩ := if_some q
        cases r2 with
        | cons r2 r3 =>
          cases r3
          have rl : Rp X.K H2 (RS M F σ ρ la) (.ref aa) (.list ds0) := .lst h2 hS rr2
          exact ⟨_, _, e, ds0, rfl, rfl, rl.dp hc.1, r2.dp hc.2, hc.1, hc.2, w2 _ H2 (Same.refl _) (.int _) fun z => nomatch z⟩
      · cases q
  | bl _ => exact w1.elim
  | non => exact w1.elim
  | int _ => exact w1.elim
  | str _ => exact w1.elim
  | tup _ _ => exact w1.elim
  | scr _ _ => exact w1.elim
  | dic _ _ _ _ => exact w1.elim
  | dit _ _ _ _ => exact w1.elim
  | dif _ _ _ => exact w1.elim
end
end Pu

set_option Elab.async false
set_option linter.all false
set_option maxRecDepth 100000
set_option maxHeartbeats 2000000
/-! parts: what steps lead to -/
namespace Pu
open PySem PySem.Spec PyProof.Rows L2
/-- reachable from s within 0 .. N - 1 -/
inductive Rch (c : Int → Int → Bool) (N : Nat) (s : Int) : Int → Prop
  | base : Rch c N s s
  | step {i k : Int} : Rch c N s i → k ∈ upI 0 N → c i k = true → Rch c N s k
section
variable {c : Int → Int → Bool} {N : Nat}
theorem Rch.inn {s k : Int} (hs : s ∈ upI 0 N) (h : Rch c N s k) : k ∈ upI 0 N := by
  cases h with
  | base => exact hs
  | step _ h _ => exact h
theorem Rch.trans {s i k : Int} (h : Rch c N s i) (h2 : Rch c N i k) : Rch c N s k := by
  induction h2 with
  | base => exact h
  | step _ hk hc ih => exact .step ih hk hc
/-- steps that can be gone back -/
def Sym (c : Int → Int → Bool) (N : Nat) : Prop := ∀ i ∈ upI 0 N, ∀ k ∈ upI 0 N, c i k = c k i
theorem Rch.back (y : Sym c N) {s k : Int} (hs : s ∈ upI 0 N) (h : Rch c N s k) : Rch c N k s := by
  induction h with
  | base => exact .base
  | @step i k hi hk hc ih =>
    have hi' := hi.inn hs
    have : c k i = true := by rw [← y i hi' k hk]; exact hc
    exact Rch.trans (.step .base hi' this) ih
/-- what an algorithm finds -/
structure Found (c : Int → Int → Bool) (N : Nat) (s : Int) (P : List Int) : Prop where
  nd : P.Nodup
  self : s ∈ P
  inn : ∀ x ∈ P, Rch c N s x
theorem Found.sub {s : Int} {P : List Int} (F : Found c N s P) (hs : s ∈ upI 0 N) : ∀ x ∈ P, x ∈ upI 0 N := fun x hx => (F.inn x hx).inn hs
theorem Found.len {s : Int} {P : List Int} (F : Found c N s P) (hs : s ∈ upI 0 N) : P.length ≤ N := by
  have := php _ _ F.nd (F.sub hs)
  rwa [upI_length] at this
def Done (c : Int → Int → Bool) (N : Nat) (P : List Int) : Prop := ∀ i ∈ P, ∀ k ∈ upI 0 N, c i k = true → k ∈ P
theorem Found.all {s : Int} {P : List Int} (F : Found c N s P) (D : Done c N P) {k : Int} (h : Rch c N s k) : k ∈ P := by
  induction h with
  | base => exact F.self
  | step _ hk hc ih => exact D _ ih _ hk hc
open Classical in
noncomputable def partZ (c : Int → Int → Bool) (N : Nat) (s : Int) : List Int := (upI 0 N).filter fun k => decide (Rch c N s k)
theorem mem_part {s k : Int} : k ∈ partZ c N s ↔ k ∈ upI 0 N ∧ Rch c N s k := by
  unfold partZ
  simp only [List.mem_filter, decide_eq_true_eq]
theorem up_asc (a : Int) (n : Nat) : (upI a n).Pairwise (· < ·) := by
  unfold upI
  refine List.Pairwise.map _ (fun a b h => ?_) List.pairwise_lt_range
  omega
theorem part_asc (s : Int) : (partZ c N s).Pairwise (· < ·) := List.Pairwise.filter _ (up_asc 0 N)
theorem part_nd (s : Int) : (partZ c N s).Nodup := (part_asc s).imp fun h => Int.ne_of_lt h
theorem Found.sort {s : Int} {P : List Int} (F : Found c N s P) (D : Done c N P) (hs : s ∈ upI 0 N) : srtZ P = partZ c N s := by
  have p : (partZ c N s).Perm P := (List.perm_ext_iff_of_nodup (part_nd s) F.nd).mpr fun x => by
    rw [mem_part]
    exact ⟨fun h => F.all D h.2, fun h => ⟨F.sub hs x h, F.inn x h⟩⟩
  exact (srtZ_uniq p ((part_asc s).imp fun h => Int.le_of_lt h)).symm
/-- the parts of the first k -/
noncomputable def pacc (c : Int → Int → Bool) (N : Nat) : Nat → List (List Int)
  | 0 => []
  | k + 1 => if (k : Int) ∈ (pacc c N k).flatten then pacc c N k else pacc c N k ++ [partZ c N (k : Int)]
theorem pacc_succ (c : Int → Int → Bool) (N k : Nat) : pacc c N (k + 1) = if (k : Int) ∈ (pacc c N k).flatten then pacc c N k else pacc c N k ++ [partZ c N (k : Int)] := rfl
noncomputable def partsZ (c : Int → Int → Bool) (N : Nat) : List (List Int) := pacc c N N
theorem pacc_start : ∀ {k : Nat} {P : List Int}, P ∈ pacc c N k → ∃ s : Nat, s < k ∧ P = partZ c N (s : Int) ∧ (s : Int) ∉ (pacc c N s).flatten
  | 0, P, h => by cases h
  | k + 1, P, h => by
    unfold pacc at h
    split at h
    · obtain ⟨s, h1, h2⟩ := pacc_start h
      exact ⟨s, by omega, h2⟩
    · rename_i hn
      rcases List.mem_append.mp h with h | h
      · obtain ⟨s, h1, h2⟩ := pacc_start h
        exact ⟨s, by omega, h2⟩
      · exact ⟨k, by omega, List.mem_singleton.mp h, hn⟩
theorem pacc_len : ∀ k : Nat, (pacc c N k).length ≤ k
  | 0 => Nat.le_refl _
  | k + 1 => by
    have := pacc_len k
    unfold pacc
    split
    · omega
    · rw [List.length_append, List.length_singleton]
      omega
/-- what is in no earlier part shares nothing with one -/
theorem pacc_new (y : Sym c N) {k : Nat} (hk : (k : Int) ∈ upI 0 N) {m : Nat} (hm : m ≤ N) (h : (k : Int) ∉ (pacc c N m).flatten) : ∀ x ∈ partZ c N (k : Int), x ∉ (pacc c N m).flatten := fun x hx q => by
  obtain ⟨P, hP, hxP⟩ := List.mem_flatten.mp q
  obtain ⟨s, h1, rfl, _⟩ := pacc_start hP
  have hs : (s : Int) ∈ upI 0 N := up_mem.mpr (by have := up_mem.mp hk; omega)
  have r1 := (mem_part.mp hx).2.back y hk
  have r2 := (mem_part.mp hxP).2
  exact h (List.mem_flatten.mpr ⟨_, hP, mem_part.mpr ⟨hk, r2.trans r1⟩⟩)
theorem pacc_nd (y : Sym c N) : ∀ {k : Nat}, k ≤ N → (pacc c N k).flatten.Nodup
  | 0, _ => List.nodup_nil
  | k + 1, h => by
    unfold pacc
    split
    · exact pacc_nd y (by omega)
    · rename_i hn
      rw [List.flatten_append, List.flatten_cons, List.flatten_nil, List.append_nil]
      have hk : (k : Int) ∈ upI 0 N := up_mem.mpr (by omega)
      exact List.nodup_append.mpr ⟨pacc_nd y (by omega), part_nd _, fun a ha b hb e => pacc_new y hk (by omega) hn b hb (e ▸ ha)⟩
theorem pacc_in {k : Nat} {x : Int} (h : x ∈ (pacc c N k).flatten) : x ∈ upI 0 N := by
  obtain ⟨P, hP, hx⟩ := List.mem_flatten.mp h
  obtain ⟨s, _, rfl, _⟩ := pacc_start hP
  exact (mem_part.mp hx).1
theorem part_ne {s : Int} (h : s ∈ upI 0 N) : partZ c N s ≠ [] := fun e => by
  have := mem_part.mpr (show s ∈ upI 0 N ∧ Rch c N s s from ⟨h, .base⟩)
  rw [e] at this
  cases this
theorem partsZ_ne {P : List Int} (h : P ∈ partsZ c N) : P ≠ [] ∧ ∀ x ∈ P, x ∈ upI 0 N := by
  obtain ⟨s, h1, rfl, _⟩ := pacc_start h
  exact ⟨part_ne (up_mem.mpr (by omega)), fun x hx => (mem_part.mp hx).1⟩
end
/-! ### lines that cross -/
def crs (a b : Int × Int) : Bool := (decide (a.1 < b.1) && decide (b.1 < a.2)) != (decide (a.1 < b.2) && decide (b.2 < a.2))
def lnAt (L : List (Int × Int)) (i : Int) : Int × Int := (L[i.toNat]?).getD (0, 0)
def cL (L : List (Int × Int)) (i k : Int) : Bool := crs (lnAt L i) (lnAt L k)
/-- lines with their spots in order -/
def Asc (L : List (Int × Int)) : Prop := ∀ l ∈ L, l.1 < l.2
section
variable {L : List (Int × Int)} {T : Int → Int}
theorem lnAt_get {i : Int} (h : i ∈ upI 0 L.length) : L[i.toNat]? = some (lnAt L i) ∧ lnAt L i ∈ L := by
  have := up_mem.mp h
  have hi : i.toNat < L.length := by omega
  unfold lnAt
  rw [List.getElem?_eq_getElem hi]
  exact ⟨rfl, List.getElem_mem hi⟩
theorem keys_apart : ∀ {L : List (Int × Int)} {i k : Nat} {a b : Int × Int}, (L.flatMap fun l => [l.1, l.2]).Nodup → L[i]? = some a → L[k]? = some b → i ≠ k → a.1 ≠ b.1 ∧ a.1 ≠ b.2 ∧ a.2 ≠ b.1 ∧ a.2 ≠ b.2
  | [], i, k, a, b, _, h, _, _ => by simp at h
  | l :: L, 0, 0, _, _, _, _, _, n => (n rfl).elim
  | l :: L, 0, k + 1, a, b, nd, h1, h2, _ => by
    rw [List.flatMap_cons] at nd
    have e : l = a := by simpa using h1
    subst e
    have h2 : L[k]? = some b := by simpa using h2
    have hb := List.mem_of_getElem? h2
    have d := (List.nodup_append.mp nd).2.2
    have m1 : b.1 ∈ L.flatMap fun l => [l.1, l.2] := List.mem_flatMap.mpr ⟨b, hb, by simp⟩
    have m2 : b.2 ∈ L.flatMap fun l => [l.1, l.2] := List.mem_flatMap.mpr ⟨b, hb, by simp⟩
    exact ⟨d _ (by simp) _ m1, d _ (by simp) _ m2, d _ (by simp) _ m1, d _ (by simp) _ m2⟩
  | l :: L, i + 1, 0, a, b, nd, h1, h2, _ => by
    rw [List.flatMap_cons] at nd
    have e : l = b := by simpa using h2
    subst e
    have h1 : L[i]? = some a := by simpa using h1
    have ha := List.mem_of_getElem? h1
    have d := (List.nodup_append.mp nd).2.2
    have m1 : a.1 ∈ L.flatMap fun l => [l.1, l.2] := List.mem_flatMap.mpr ⟨a, ha, by simp⟩
    have m2 : a.2 ∈ L.flatMap fun l => [l.1, l.2] := List.mem_flatMap.mpr ⟨a, ha, by simp⟩
    exact ⟨fun e => d _ (by simp) _ m1 e.symm, fun e => d _ (by simp) _ m1 e.symm, fun e => d _ (by simp) _ m2 e.symm, fun e => d _ (by simp) _ m2 e.symm⟩
  | l :: L, i + 1, k + 1, a, b, nd, h1, h2, n => by
    rw [List.flatMap_cons] at nd
    exact keys_apart (L := L) (i := i) (k := k) (List.nodup_append.mp nd).2.1 (by simpa using h1) (by simpa using h2) fun e => n (by rw [e])
theorem crs_sym {a b : Int × Int} (ha : a.1 < a.2) (hb : b.1 < b.2) (h : a.1 ≠ b.1 ∧ a.1 ≠ b.2 ∧ a.2 ≠ b.1 ∧ a.2 ≠ b.2) : crs a b = crs b a := by
  obtain ⟨h1, h2, h3, h4⟩ := h
  unfold crs
  by_cases q1 : a.1 < b.1 <;> by_cases q2 : b.1 < a.2 <;> by_cases q3 : a.1 < b.2 <;> by_cases q4 : b.2 < a.2 <;> by_cases q5 : b.1 < a.1 <;> by_cases q6 : a.1 < b.2 <;> by_cases q7 : a.2 < b.2 <;> by_cases q8 : b.1 < a.2 <;> simp [q1, q2, q3, q4, q5, q6, q7, q8] <;> omega
theorem Lin.sym (Z : Lin L T) (A : Asc L) : Sym (cL L) L.length := fun i hi k hk => by
  obtain ⟨g1, m1⟩ := lnAt_get hi
  obtain ⟨g2, m2⟩ := lnAt_get hk
  unfold cL
  by_cases e : i = k
  · rw [e]
  · have a := up_mem.mp hi
    have b := up_mem.mp hk
    exact crs_sym (A _ m1) (A _ m2) (keys_apart (Z.pm.symm.nodup (up_nodup _ _)) g1 g2 (by omega))
end
theorem LZ_asc {m : List Int} {N : Nat} (p : m.Perm (upI 0 (2 * N))) : Asc (LZ m N) := fun l hl => by
  unfold LZ at hl
  obtain ⟨k, hk, rfl⟩ := List.mem_map.mp hl
  have := up_mem.mp hk
  have ne : ixI m (2 * k) ≠ ixI m (2 * k + 1) := fun e => by
    have := ix_inj p (up_mem.mpr (by omega)) (up_mem.mpr (by omega)) e
    omega
  unfold lnZ
  split
  · assumption
  · show ixI m (2 * k) < ixI m (2 * k + 1)
    omega
/-- a bad part -/
def oriZ (l : Int × Int) : Bool := decide ((l.1 + l.2) % 2 = 0)
def badZ (L : List (Int × Int)) (P : List Int) : Bool := !(P.any fun k => oriZ (lnAt L k)) && !(decide (P.length = 1) && (decide ((lnAt L (P.headD 0)).1 % 2 = 0) && decide ((lnAt L (P.headD 0)).2 = (lnAt L (P.headD 0)).1 + 1)))
noncomputable def badsZ (L : List (Int × Int)) : List (List Int) := (partsZ (cL L) L.length).filter (badZ L)
end Pu

set_option Elab.async false
set_option linter.all false
set_option maxRecDepth 100000
set_option maxHeartbeats 4000000
/-! dict comprehensions with three clauses -/
namespace ZG
open PySem PySem.Spec PyProof.Rows L2
abbrev DC3 (kx vx t0 i0 t1 i1 t2 i2 : Expr) (ifs0 ifs1 ifs2 : List Expr) (scope : Scope) (pos : Pos) : Expr := .DictComp kx vx [⟨t0, i0, ifs0, 0⟩, ⟨t1, i1, ifs1, 0⟩, ⟨t2, i2, ifs2, 0⟩] scope pos
theorem dc3_turn0 (kx vx t0 i0 t1 i1 t2 i2 : Expr) (ifs0 ifs1 ifs2 : List Expr) (scope : Scope) (pos : Pos) (it acc : Value) (env : Env) :
    compTurn (DC3 kx vx t0 i0 t1 i1 t2 i2 ifs0 ifs1 ifs2 scope pos) 0 it acc env = (do
      standAt i0.pos
      match ← pyNext it with
      | none => pure (.done .next)
      | some v =>
        letOwnedTupleGo t0 it v
        assign t0 env v
        let mut ok := true
        for c in ifs0 do
          if ok then ok ← isTrue c env (eval c env)
        if ok then
          let x ← eval i1 env
          standAt i1.pos
          let x ← foldedSetIterable i1 env x
          let _ ← runOwn (.compStart (DC3 kx vx t0 i0 t1 i1 t2 i2 ifs0 ifs1 ifs2 scope pos) 1 (← holding [x] (pyIter x)) acc env) env
        again (.compLoop (DC3 kx vx t0 i0 t1 i1 t2 i2 ifs0 ifs1 ifs2 scope pos) 0 it acc env)) := by rfl
theorem dc3_turn1 (kx vx t0 i0 t1 i1 t2 i2 : Expr) (ifs0 ifs1 ifs2 : List Expr) (scope : Scope) (pos : Pos) (it acc : Value) (env : Env) :
    compTurn (DC3 kx vx t0 i0 t1 i1 t2 i2 ifs0 ifs1 ifs2 scope pos) 1 it acc env = (do
      standAt i1.pos
      match ← pyNext it with
      | none => pure (.done .next)
      | some v =>
        letOwnedTupleGo t1 it v
        assign t1 env v
        let mut ok := true
        for c in ifs1 do
          if ok then ok ← isTrue c env (eval c env)
        if ok then
          let x ← eval i2 env
          standAt i2.pos
          let x ← foldedSetIterable i2 env x
          let _ ← runOwn (.compStart (DC3 kx vx t0 i0 t1 i1 t2 i2 ifs0 ifs1 ifs2 scope pos) 2 (← holding [x] (pyIter x)) acc env) env
        again (.compLoop (DC3 kx vx t0 i0 t1 i1 t2 i2 ifs0 ifs1 ifs2 scope pos) 1 it acc env)) := by rfl
theorem dc3_turn2 (kx vx t0 i0 t1 i1 t2 i2 : Expr) (ifs0 ifs1 ifs2 : List Expr) (scope : Scope) (pos : Pos) (it : Value) (D : Addr) (env : Env) :
    compTurn (DC3 kx vx t0 i0 t1 i1 t2 i2 ifs0 ifs1 ifs2 scope pos) 2 it (.ref D) env = (do
      standAt i2.pos
      match ← pyNext it with
      | none => pure (.done .next)
      | some v =>
        letOwnedTupleGo t2 it v
        assign t2 env v
        let mut ok := true
        for c in ifs2 do
          if ok then ok ← isTrue c env (eval c env)
        if ok then
          (do
            let kv ← eval kx env
            let vv ← holding [kv] (eval vx env)
            standAt { kx.pos with endLine := vx.pos.endLine, endCol := vx.pos.endCol }
            holding [kv, vv] (dictSet D kv vv))
        again (.compLoop (DC3 kx vx t0 i0 t1 i1 t2 i2 ifs0 ifs1 ifs2 scope pos) 2 it (.ref D) env)) := by rfl
section
variable {prog : Program} {w : World} {A : Around} {R : Result → Shared → Prop} {s : Shared} {kx vx t0 i0 t1 i1 t2 i2 : Expr} {ifs0 ifs1 ifs2 : List Expr} {scope : Scope} {pos : Pos} {it acc : Value} {env : Env}
/-- one turn, the body apart -/
abbrev TurnW (prog : Program) (w : World) (A : Around) (tg : Expr) (ifs : List Expr) (it : Value) (env : Env) (R : Result → Shared → Prop) (B : (Shared → Prop) → Shared → Prop) (Nx : Shared → Prop) (s : Shared) : Prop :=
  wpAny (model prog w) A (pyNext it) (fun r s₁ => match r with
      | none => R (.ok .next) s₁
      | some v => wpAny (model prog w) A (letOwnedTupleGo tg it v) (fun _ s₁' => wpAny (model prog w) A (assign tg env v) (fun _ s₂ =>
          wpAny (model prog w) A (forIn ifs true fun c r => if r = true then do let ok ← isTrue c env (eval c env); pure (ForInStep.yield ok) else pure (ForInStep.yield r)) (fun ok s₃ =>
            if ok = true then B Nx s₃ else Nx s₃) (notedBy (model prog w) A env fun e s' => R (.error e) s') s₂) (notedBy (model prog w) A env fun e s' => R (.error e) s') s₁') (notedBy (model prog w) A env fun e s' => R (.error e) s') s₁) (notedBy (model prog w) A env fun e s' => R (.error e) s') s
/-- a body that starts the next clause -/
abbrev BodO (prog : Program) (w : World) (A : Around) (i1 : Expr) (env : Env) (c : Value → Code) (R : Result → Shared → Prop) (Nx : Shared → Prop) (s₃ : Shared) : Prop :=
  wpAny (model prog w) A (eval i1 env) (fun x s₄ => wpAny (model prog w) A (pyIter x) (fun it1 s₅ =>
              codeAny (model prog w) A (c it1) (fun r s' => match r with
                | .ok _ => Nx s'
                | .error _ => False) s₅) (notedBy (model prog w) A env fun e s' => R (.error e) s') s₄) (notedBy (model prog w) A env fun e s' => R (.error e) s') s₃
abbrev BodI (prog : Program) (w : World) (A : Around) (kx vx : Expr) (D : Addr) (env : Env) (R : Result → Shared → Prop) (Nx : Shared → Prop) (s₃ : Shared) : Prop :=
  wpAny (model prog w) A (eval kx env) (fun kv s₄ => wpAny (model prog w) A (eval vx env) (fun vv s₅ =>
              wpAny (model prog w) A (dictSet D kv vv) (fun _ s₆ => Nx s₆) (notedBy (model prog w) A env fun e s' => R (.error e) s') s₅) (notedBy (model prog w) A env fun e s' => R (.error e) s') s₄) (notedBy (model prog w) A env fun e s' => R (.error e) s') s₃
theorem dc3_loop0 (hs : ∀ x, foldedSetIterable i1 env x = pure x) (I : Nat → Shared → Prop)
    (turn : ∀ n s, I n s → TurnW prog w A t0 ifs0 it env R (BodO prog w A i1 env (fun it1 => .compStart (DC3 kx vx t0 i0 t1 i1 t2 i2 ifs0 ifs1 ifs2 scope pos) 1 it1 acc env) R) (fun s' => ∃ m, m < n ∧ I m s') s)
    (n : Nat) (h : I n s) : codeAny (model prog w) A (.compLoop (DC3 kx vx t0 i0 t1 i1 t2 i2 ifs0 ifs1 ifs2 scope pos) 0 it acc env) R s := by
  refine codeAny_loop rfl I (fun n s hI => ?_) n h
  show wpAny _ A ((compTurn (DC3 kx vx t0 i0 t1 i1 t2 i2 ifs0 ifs1 ifs2 scope pos) 0 it acc env).onRaise (fun x => do noteFrame x env; theTreesLotGoes x)) _ _ s
  refine wpAny_noted ?_
  rw [dc3_turn0]
  refine wpAny_bind (wpAny_standAt (wpAny_bind (wpAny_mono (turn n s hI) (fun r s₁ h₁ => ?_) fun _ _ h' => h')))
  cases r with
  | none => exact wpAny_pure h₁
  | some v =>
    refine wpAny_bind (wpAny_mono h₁ (fun _ s₁' h₁' => ?_) fun _ _ h' => h')
    refine wpAny_bind (wpAny_mono h₁' (fun _ s₂ h₂ => wpAny_bind (wpAny_mono h₂ (fun ok s₃ h₃ => ?_) fun _ _ h' => h')) fun _ _ h' => h')
    cases ok with
    | false => exact wpAny_pure ⟨rfl, h₃⟩
    | true =>
      refine wpAny_bind (wpAny_mono h₃ (fun x s₄ h₄ => ?_) fun _ _ h' => h')
      refine wpAny_bind (wpAny_standAt (wpAny_bind (wpAny_of_eq (hs x) (wpAny_bind (wpAny_holding (wpAny_mono h₄ (fun it1 s₅ h₅ => ?_) fun _ _ h' => h'))))))
      refine wpAny_bind (wpAny_runOwn ?_)
      rw [Around.mark_none]
      refine codeAny_mono h₅ fun r s' hr => ?_
      cases r with
      | ok f =>
        first
          | exact wpAny_pure ⟨rfl, hr⟩
          | exact wpAny_bind (wpAny_pure (wpAny_pure ⟨rfl, hr⟩))
      | error e => exact hr.elim
theorem dc3_loop1 (hs : ∀ x, foldedSetIterable i2 env x = pure x) (I : Nat → Shared → Prop)
    (turn : ∀ n s, I n s → TurnW prog w A t1 ifs1 it env R (BodO prog w A i2 env (fun it1 => .compStart (DC3 kx vx t0 i0 t1 i1 t2 i2 ifs0 ifs1 ifs2 scope pos) 2 it1 acc env) R) (fun s' => ∃ m, m < n ∧ I m s') s)
    (n : Nat) (h : I n s) : codeAny (model prog w) A (.compLoop (DC3 kx vx t0 i0 t1 i1 t2 i2 ifs0 ifs1 ifs2 scope pos) 1 it acc env) R s := by
  refine codeAny_loop rfl I (fun n s hI => ?_) n h
  show wpAny _ A ((compTurn (DC3 kx vx t0 i0 t1 i1 t2 i2 ifs0 ifs1 ifs2 scope pos) 1 it acc env).onRaise (fun x => do noteFrame x env; theTreesLotGoes x)) _ _ s
  refine wpAny_noted ?_
  rw [dc3_turn1]
  refine wpAny_bind (wpAny_standAt (wpAny_bind (wpAny_mono (turn n s hI) (fun r s₁ h₁ => ?_) fun _ _ h' => h')))
  cases r with
  | none => exact wpAny_pure h₁
  | some v =>
    refine wpAny_bind (wpAny_mono h₁ (fun _ s₁' h₁' => ?_) fun _ _ h' => h')
    refine wpAny_bind (wpAny_mono h₁' (fun _ s₂ h₂ => wpAny_bind (wpAny_mono h₂ (fun ok s₃ h₃ => ?_) fun _ _ h' => h')) fun _ _ h' => h')
    cases ok with
    | false => exact wpAny_pure ⟨rfl, h₃⟩
    | true =>
      refine wpAny_bind (wpAny_mono h₃ (fun x s₄ h₄ => ?_) fun _ _ h' => h')
      refine wpAny_bind (wpAny_standAt (wpAny_bind (wpAny_of_eq (hs x) (wpAny_bind (wpAny_holding (wpAny_mono h₄ (fun it1 s₅ h₅ => ?_) fun _ _ h' => h'))))))
      refine wpAny_bind (wpAny_runOwn ?_)
      rw [Around.mark_none]
      refine codeAny_mono h₅ fun r s' hr => ?_
      cases r with
      | ok f =>
        first
          | exact wpAny_pure ⟨rfl, hr⟩
          | exact wpAny_bind (wpAny_pure (wpAny_pure ⟨rfl, hr⟩))
      | error e => exact hr.elim
theorem dc3_loop2 {D : Addr} (I : Nat → Shared → Prop)
    (turn : ∀ n s, I n s → TurnW prog w A t2 ifs2 it env R (BodI prog w A kx vx D env R) (fun s' => ∃ m, m < n ∧ I m s') s)
    (n : Nat) (h : I n s) : codeAny (model prog w) A (.compLoop (DC3 kx vx t0 i0 t1 i1 t2 i2 ifs0 ifs1 ifs2 scope pos) 2 it (.ref D) env) R s := by
  refine codeAny_loop rfl I (fun n s hI => ?_) n h
  show wpAny _ A ((compTurn (DC3 kx vx t0 i0 t1 i1 t2 i2 ifs0 ifs1 ifs2 scope pos) 2 it (.ref D) env).onRaise (fun x => do noteFrame x env; theTreesLotGoes x)) _ _ s
  refine wpAny_noted ?_
  rw [dc3_turn2]
  refine wpAny_bind (wpAny_standAt (wpAny_bind (wpAny_mono (turn n s hI) (fun r s₁ h₁ => ?_) fun _ _ h' => h')))
  cases r with
  | none => exact wpAny_pure h₁
  | some v =>
    refine wpAny_bind (wpAny_mono h₁ (fun _ s₁' h₁' => ?_) fun _ _ h' => h')
    refine wpAny_bind (wpAny_mono h₁' (fun _ s₂ h₂ => wpAny_bind (wpAny_mono h₂ (fun ok s₃ h₃ => ?_) fun _ _ h' => h')) fun _ _ h' => h')
    cases ok with
    | false => exact wpAny_pure ⟨rfl, h₃⟩
    | true =>
      exact wpAny_bind (wpAny_bind (wpAny_mono h₃ (fun kv s₄ h₄ => wpAny_bind (wpAny_holding (wpAny_mono h₄ (fun vv s₅ h₅ => wpAny_bind (wpAny_standAt (wpAny_holding (wpAny_mono h₅ (fun _ s₆ h₆ => wpAny_pure ⟨rfl, h₆⟩) fun _ _ h' => h')))) fun _ _ h' => h'))) fun _ _ h' => h'))
theorem dc3_start1 (h0 : codeAny (model prog w) A (.compLoop (DC3 kx vx t0 i0 t1 i1 t2 i2 ifs0 ifs1 ifs2 scope pos) 1 it acc env) R s)
    (h : wpAny (model prog w) A (pyIter it) (fun it' s' => codeAny (model prog w) A (.compLoop (DC3 kx vx t0 i0 t1 i1 t2 i2 ifs0 ifs1 ifs2 scope pos) 1 it' acc env) R s')
      (notedBy (model prog w) A env fun x s' => R (.error x) s') s) :
    codeAny (model prog w) A (.compStart (DC3 kx vx t0 i0 t1 i1 t2 i2 ifs0 ifs1 ifs2 scope pos) 1 it acc env) R s := by
  refine codeAny_of_tree ?_
  show wpAny _ _ ((compStart (DC3 kx vx t0 i0 t1 i1 t2 i2 ifs0 ifs1 ifs2 scope pos) 1 it acc env).onRaise (fun x => do noteFrame x env; standAt theWindowsPlace)) _ _ s
  refine wpAny_notedAt ?_
  unfold compStart
  show wpAny _ _ (ask >>= _) _ _ s
  refine wpAny_bind (wpAny_askSetting (wpAny_ite ?_))
  split
  · first
      | exact wpAny_bind (wpAny_pure (wpAny_pure (And.intro rfl h0)))
      | exact wpAny_pure (And.intro rfl h0)
  · first
      | exact wpAny_bind (wpAny_rule (wpAny_bind (wpAny_standAt (wpAny_bind (wpAny_mono h (fun it' s' h' => wpAny_pure (And.intro rfl h')) fun _ _ x => x)))))
      | (refine wpAny_bind (wpAny_rule ?_); show wpAny _ _ (standAt i1.pos >>= _) _ _ s; exact wpAny_bind (wpAny_standAt (wpAny_bind (wpAny_mono h (fun it' s' h' => wpAny_pure (And.intro rfl h')) fun _ _ x => x))))
theorem dc3_start2 (h0 : codeAny (model prog w) A (.compLoop (DC3 kx vx t0 i0 t1 i1 t2 i2 ifs0 ifs1 ifs2 scope pos) 2 it acc env) R s)
    (h : wpAny (model prog w) A (pyIter it) (fun it' s' => codeAny (model prog w) A (.compLoop (DC3 kx vx t0 i0 t1 i1 t2 i2 ifs0 ifs1 ifs2 scope pos) 2 it' acc env) R s')
      (notedBy (model prog w) A env fun x s' => R (.error x) s') s) :
    codeAny (model prog w) A (.compStart (DC3 kx vx t0 i0 t1 i1 t2 i2 ifs0 ifs1 ifs2 scope pos) 2 it acc env) R s := by
  refine codeAny_of_tree ?_
  show wpAny _ _ ((compStart (DC3 kx vx t0 i0 t1 i1 t2 i2 ifs0 ifs1 ifs2 scope pos) 2 it acc env).onRaise (fun x => do noteFrame x env; standAt theWindowsPlace)) _ _ s
  refine wpAny_notedAt ?_
  unfold compStart
  show wpAny _ _ (ask >>= _) _ _ s
  refine wpAny_bind (wpAny_askSetting (wpAny_ite ?_))
  split
  · first
      | exact wpAny_bind (wpAny_pure (wpAny_pure (And.intro rfl h0)))
      | exact wpAny_pure (And.intro rfl h0)
  · first
      | exact wpAny_bind (wpAny_rule (wpAny_bind (wpAny_standAt (wpAny_bind (wpAny_mono h (fun it' s' h' => wpAny_pure (And.intro rfl h')) fun _ _ x => x)))))
      | (refine wpAny_bind (wpAny_rule ?_); show wpAny _ _ (standAt i2.pos >>= _) _ _ s; exact wpAny_bind (wpAny_standAt (wpAny_bind (wpAny_mono h (fun it' s' h' => wpAny_pure (And.intro rfl h')) fun _ _ x => x))))
end
/-! ### one clause's loop within a block -/
def LoopS (J : It) (g : TG) (tt : TT) (vs : List Nat) (inner : L2.St → Hp → (Hp → Prop) → Prop) (σ : L2.St) (H : Hp) (Fin : Hp → Prop) : Prop :=
  ∃ W : Nat → Nat → Hp → Prop, (∃ m, W 0 m H) ∧ ∀ i m H, W i m H → (J.stop i H ∧ Fin H) ∨ (J.go i H ∧ ∃ Nx : Hp → Prop, (∀ H', Nx H' → ∃ m', m' < m ∧ W (i + 1) m' H') ∧
    ∀ x H', J.yld i H x H' → g x (wipe σ vs) H' fun σ2 H2 => wipe σ2 vs = wipe σ vs ∧ tt σ2 H2 fun b H3 => if b = true then inner σ2 H3 Nx else Nx H3)
/-- σ'' knows what σ' knows outside vs -/
def KnowS (vs : List Nat) (σ' σ'' : L2.St) : Prop := σ''.length = σ'.length ∧ ∀ (j : Nat) v, j ∉ vs → σ'[j]? = some (some v) → σ''[j]? = some (some v)
theorem KnowS.refl (vs : List Nat) (σ : L2.St) : KnowS vs σ σ := ⟨rfl, fun _ _ _ h => h⟩
theorem KnowS.wipe {vs vs1 : List Nat} (h : ∀ i ∈ vs1, i ∈ vs) (σ : L2.St) : KnowS vs σ (L2.wipe σ vs1) := ⟨wipe_length _ _, fun j v n e => by
  rw [wipe_out fun z => n (h j z)]
  exact e⟩
theorem run_loop {XB : Cx} {P : List (Addr × Obj)} {σ : L2.St} {H : Hp} {s : Shared} {it : Addr} {fp : List Addr} {tn : Nat → Heap → Prop} {J : It} {tg : Expr} {ifs : List Expr} {g : TG} {tt : TT} {vs : List Nat} {inner : L2.St → Hp → (Hp → Prop) → Prop} {Fin : Hp → Prop} {R : Result → Shared → Prop} {B : (Shared → Prop) → Shared → Prop} {c : Code}
    (hx : XB.xe = fun _ _ => False) (hc : XB.calm = true) (T : Turn XB.prog XB.w XB.K tg J fp it tn) (I : Inv XB P (wipe σ vs) H s) (st : tn 0 s.heap) (nfp : ∀ b ∈ fp, H b = none)
    (stat : ∀ {σ' : L2.St} {H' : Hp} {s' : Shared}, Inv XB P σ' H' s' → (∀ b ∈ fp, H' b = none) → ∀ b ∈ fp, FpOk XB P H' b) (pg : PG XB tg g) (pt : PTs XB ifs tt) (q : LoopS J g tt vs inner σ H Fin)
    (hStop : ∀ s' H', Inv XB P (wipe σ vs) H' s' → Fin H' → R (.ok .next) s')
    (loopL : ∀ (I : Nat → Shared → Prop), (∀ n s, I n s → TurnW XB.prog XB.w XB.A tg ifs (.ref it) XB.env R B (fun s' => ∃ m, m < n ∧ I m s') s) → ∀ n, I n s → codeAny (model XB.prog XB.w) XB.A c R s)
    (body : ∀ {P' : List (Addr × Obj)} {σ' : L2.St} {H' : Hp} {s' : Shared} {Nx : Hp → Prop} (Post : Shared → Prop), Inv XB P' σ' H' s' → inner σ' H' Nx → (∀ σ'' s'' H'', Inv XB P' σ'' H'' s'' → KnowS vs σ' σ'' → Nx H'' → Post s'') → B Post s') :
    codeAny (model XB.prog XB.w) XB.A c R s := by
  obtain ⟨W, ⟨m0, w0⟩, turn⟩ := q
  refine loopL (fun n s' => ∃ i H', Inv XB P (wipe σ vs) H' s' ∧ tn i s'.heap ∧ (∀ b ∈ fp, H' b = none) ∧ W i n H') ?_ m0 ⟨0, H, I, st, nfp, w0⟩
  rintro n s5 ⟨i, H5, I5, st5, n5, w5⟩
  rcases turn i n H5 w5 with ⟨stop, qq⟩ | ⟨go, Nx, hNx, step⟩
  · have td := T.done XB rfl rfl rfl hc i P s5 _ H5 (fun _ _ => False) I5 (stat I5 n5) st5 stop
    refine thnF td fun r s6 ⟨hr, I6⟩ => ?_
    subst hr
    exact hStop s6 H5 I6 qq
  · have ti := T.item XB rfl rfl rfl hc i P s5 _ H5 (fun _ _ => False) I5 (stat I5 n5) st5 go
    refine thnF ti fun r s6 ⟨u, hr, h6⟩ => ?_
    subst hr
    refine thnF h6 fun _ s7 ⟨x, H7, I7, r7, y7, st7, n7⟩ => ?_
    have I7' := I7.pinned (stat I7 n7) (T.obj _ _ st7)
    have r8 := pg.run _ s7 _ H7 x u _ I7' r7 (step x H7 y7)
    rw [hx] at r8
    refine thnF r8 fun _ s8 ⟨σ8, H8, I8, hw8, q8⟩ => ?_
    have r9 := pt.run _ s8 σ8 H8 _ I8 q8
    rw [hx] at r9
    refine thnF r9 fun b s9 ⟨H9, I9, q9⟩ => ?_
    have hl8 : (wipe σ vs).length = σ8.length := by rw [← hw8, wipe_length]
    have fin : ∀ {σ9 : L2.St} {s' : Shared} {H' : Hp}, Inv XB (P ++ pinsAt fp s7.heap) σ9 H' s' → KnowS vs σ8 σ9 → Nx H' → ∃ m, m < n ∧ ∃ i H', Inv XB P (wipe σ vs) H' s' ∧ tn i s'.heap ∧ (∀ b ∈ fp, H' b = none) ∧ W i m H' := fun {σ9 s' H'} I' kn nx => by
      obtain ⟨m', hm, w'⟩ := hNx H' nx
      have pin' : ∀ b ∈ fp, ∀ o, s7.heap.get? b = some o → s'.heap.get? b = some o ∧ H' b = none := fun b hb o e =>
        let z := I'.pin (b, o) (List.mem_append_right _ (List.mem_append_right _ (mem_pinsAt hb e)))
        ⟨z.1, z.2.1⟩
      refine ⟨m', hm, i + 1, H', I'.unpinned.weak (by rw [hl8, kn.1]) (fun j v e => ?_), T.keep _ _ _ st7 fun b hb o e => (pin' b hb o e).1, fun b hb => ?_, w'⟩
      · rw [← hw8] at e
        obtain ⟨e1, e2⟩ := wipe_some e
        exact kn.2 j v e2 e1
      · obtain ⟨o, e, _⟩ := T.obj _ _ st7 b hb
        exact (pin' b hb o e).2
    cases b with
    | false =>
      simp only [Bool.false_eq_true, if_false] at q9 ⊢
      exact fin I9 (.refl _ _) q9
    | true =>
      simp only [if_true] at q9 ⊢
      exact body _ I9 q9 fun σ'' s'' H'' I'' kn nx => fin I'' kn nx
/-- {k: v for .. for .. for ..} -/
def tDc3 (wi : TI) (g : TG) (tt : TT) (wi1 : TI) (g1 : TG) (tt1 : TT) (wi2 : TI) (g2 : TG) (tt2 : TT) (tk tv : TE) (vs vs1 vs2 : List Nat) : TE := fun σ H Q => wi σ H fun J H1 => ∀ D, H1 D = none →
  LoopS J g tt vs (fun σ2 H2 Nx => wi1 σ2 H2 fun J1 H3 => LoopS J1 g1 tt1 vs1 (fun σ3 H4 Nx1 => wi2 σ3 H4 fun J2 H5 => LoopS J2 g2 tt2 vs2 (fun σ4 H6 Nx2 => tk σ4 H6 fun y H7 => tv σ4 H7 fun z H8 => ∃ kvs k, y = kV k ∧ H8 D = some (.dK kvs) ∧ kvs.length < sizeLine ∧ Nx2 (upd H8 D (.dK (putK kvs k z)))) σ3 H5 Nx1) σ2 H3 Nx) σ (upd H1 D (.dK [])) (fun H => Q (.ref D) H)
theorem dc3_core {X : Cx} {pins : List (Addr × Obj)} {s : Shared} {σ : L2.St} {H : Hp} {Q : VK} {kx vx t0 i0 t1 i1 t2 i2 : Expr} {ifs0 ifs1 ifs2 : List Expr} {scope : Scope} {own : List (Str × Nat)} {vs1 vs2 : List Nat} {pos pos' : Pos} {wi wi1 wi2 : TI} {g g1 g2 : TG} {tt tt1 tt2 : TT} {tk tv : TE} {use : Option (Value → Sem Unit)} {Qf : Value → Shared → Prop}
    (hc : X.calm = true) (hN : X.N.Nodup) (I : Inv X pins σ H s) (hi : PI X t0 i0 wi) (ok : BlkOk X.N X.env.scope scope own) (hv1 : ∀ i ∈ vs1, i ∈ own.map (·.2)) (hv2 : ∀ i ∈ vs2, i ∈ vs1)
    (hg : ∀ (s : Shared) (H : Hp) (C : Addr) (cl : List (Str × Addr)) (fp : List Addr), PG (X.blk s H scope (compEnvC scope cl C X.env) fp) t0 g) (ht : ∀ (s : Shared) (H : Hp) (C : Addr) (cl : List (Str × Addr)) (fp : List Addr), PTs (X.blk s H scope (compEnvC scope cl C X.env) fp) ifs0 tt)
    (hi1 : ∀ (s : Shared) (H : Hp) (C : Addr) (cl : List (Str × Addr)) (fp : List Addr), PI (X.blk s H scope (compEnvC scope cl C X.env) fp) t1 i1 wi1)
    (hg1 : ∀ (s : Shared) (H : Hp) (C : Addr) (cl : List (Str × Addr)) (fp : List Addr), PG (X.blk s H scope (compEnvC scope cl C X.env) fp) t1 g1) (ht1 : ∀ (s : Shared) (H : Hp) (C : Addr) (cl : List (Str × Addr)) (fp : List Addr), PTs (X.blk s H scope (compEnvC scope cl C X.env) fp) ifs1 tt1)
    (hi2 : ∀ (s : Shared) (H : Hp) (C : Addr) (cl : List (Str × Addr)) (fp : List Addr), PI (X.blk s H scope (compEnvC scope cl C X.env) fp) t2 i2 wi2)
    (hg2 : ∀ (s : Shared) (H : Hp) (C : Addr) (cl : List (Str × Addr)) (fp : List Addr), PG (X.blk s H scope (compEnvC scope cl C X.env) fp) t2 g2) (ht2 : ∀ (s : Shared) (H : Hp) (C : Addr) (cl : List (Str × Addr)) (fp : List Addr), PTs (X.blk s H scope (compEnvC scope cl C X.env) fp) ifs2 tt2)
    (hk : ∀ (s : Shared) (H : Hp) (C : Addr) (cl : List (Str × Addr)) (fp : List Addr), PE (X.blk s H scope (compEnvC scope cl C X.env) fp) kx tk)
    (he : ∀ (s : Shared) (H : Hp) (C : Addr) (cl : List (Str × Addr)) (fp : List Addr), PE (X.blk s H scope (compEnvC scope cl C X.env) fp) vx tv) (hs : ∀ x, foldedSetIterable i0 X.env x = pure x)
    (hs1 : ∀ env x, foldedSetIterable i1 env x = pure x) (hs2 : ∀ env x, foldedSetIterable i2 env x = pure x)
    (h : tDc3 wi g tt wi1 g1 tt1 wi2 g2 tt2 tk tv (own.map (·.2)) vs1 vs2 σ H Q)
    (hRR : ∀ D C s' m H', Inv X pins σ H' s' → Q (.ref D) H' → s'.heap.Ns C m → FpOk X pins H' C → compPost (model X.prog X.w) X.A X.xe use Qf (.ref D) C (.ok .next) s') :
    wpAny (model X.prog X.w) X.A (comprehension (DC3 kx vx t0 i0 t1 i1 t2 i2 ifs0 ifs1 ifs2 scope pos) scope X.env pos' newDict false (eval i0 X.env) use) Qf X.xe s := by
  have hfree : ∀ y ∈ scope.names, y.2 = .free → ∃ c, X.env.cells.lookup y.1 = some c := fun y hy e => by
    rcases ok.free y hy e with k | k
    · exact I.ok.has _ (.inl k)
    · exact I.ok.has _ (.inr k)
  refine wpAny_comprehension_free (use := use) rfl hs (closure_ok hfree) ok.kind (fun y hy e => by rw [ok.uniq y hy, e])
    (thn (hi.run pins s σ H _ I h) fun xv s1 hx => thn hx fun itv s2 h2 => ?_)
  obtain ⟨it, fp, tn, J, H2, e, I2, T, st2, f2, q⟩ := h2
  subst e
  refine wpAny_newObj_type (newEnv_comp ?_)
  generalize hD : s2.heap.objs.size = D
  have hDn : H2 D = none := I2.hok.fresh (Nat.le_of_eq hD)
  have q := q D hDn
  generalize hs3 : ({ s2 with heap := s2.heap.push { cls := .type "dict", data := .dict #[] } } : Shared) = s3
  have I3 : Inv X pins σ (upd H2 D (.dK [])) s3 := by
    rw [← hs3]
    refine I2.laid (t' := s2.toks) (fun b o e => Heap.get?_push_of_some _ e) (Nat.le_of_eq hD) ?_
    rw [← hD]
    exact dk_empty s2.heap I2.big
  have h3 : s3.heap = s2.heap.push { cls := .type "dict", data := .dict #[] } := by rw [← hs3]
  have sz : ∀ b ∈ fp, b < s2.heap.objs.size := fun b hb => by
    obtain ⟨o, e, _⟩ := T.obj _ _ st2 b hb
    exact Heap.lt_size e
  have f3 : ∀ b ∈ fp, FpOk X pins (upd H2 D (.dK [])) b ∧ b < s3.heap.objs.size := fun b hb => by
    have hlt := sz b hb
    refine ⟨⟨?_, (f2 b hb).2⟩, by rw [h3, Heap.size_push]; exact Nat.lt_succ_of_lt hlt⟩
    rw [upd_ne (by rw [← hD]; exact Nat.ne_of_lt hlt)]
    exact (f2 b hb).1
  have st3 : tn 0 s3.heap := T.keep _ _ _ st2 fun b _ o e => by rw [h3]; exact Heap.get?_push_of_some _ e
  have I4 := block_start I3 ok hN f3
  have pg := hg s3 (upd H2 D (.dK [])) s3.heap.objs.size (cellsFrom (s3.heap.objs.size + 1) scope.names (cloFrom X.env.cells scope.names [])) fp
  have pt := ht s3 (upd H2 D (.dK [])) s3.heap.objs.size (cellsFrom (s3.heap.objs.size + 1) scope.names (cloFrom X.env.cells scope.names [])) fp
  have pi1 := hi1 s3 (upd H2 D (.dK [])) s3.heap.objs.size (cellsFrom (s3.heap.objs.size + 1) scope.names (cloFrom X.env.cells scope.names [])) fp
  have pg1 := hg1 s3 (upd H2 D (.dK [])) s3.heap.objs.size (cellsFrom (s3.heap.objs.size + 1) scope.names (cloFrom X.env.cells scope.names [])) fp
  have pt1 := ht1 s3 (upd H2 D (.dK [])) s3.heap.objs.size (cellsFrom (s3.heap.objs.size + 1) scope.names (cloFrom X.env.cells scope.names [])) fp
  have pi2 := hi2 s3 (upd H2 D (.dK [])) s3.heap.objs.size (cellsFrom (s3.heap.objs.size + 1) scope.names (cloFrom X.env.cells scope.names [])) fp
  have pg2 := hg2 s3 (upd H2 D (.dK [])) s3.heap.objs.size (cellsFrom (s3.heap.objs.size + 1) scope.names (cloFrom X.env.cells scope.names [])) fp
  have pt2 := ht2 s3 (upd H2 D (.dK [])) s3.heap.objs.size (cellsFrom (s3.heap.objs.size + 1) scope.names (cloFrom X.env.cells scope.names [])) fp
  have pk := hk s3 (upd H2 D (.dK [])) s3.heap.objs.size (cellsFrom (s3.heap.objs.size + 1) scope.names (cloFrom X.env.cells scope.names [])) fp
  have pe := he s3 (upd H2 D (.dK [])) s3.heap.objs.size (cellsFrom (s3.heap.objs.size + 1) scope.names (cloFrom X.env.cells scope.names [])) fp
  show codeAny _ _ (.compStart (DC3 kx vx t0 i0 t1 i1 t2 i2 ifs0 ifs1 ifs2 scope pos) 0 (.ref it) (.ref D) (compEnvC scope (cellsFrom (s3.heap.objs.size + 1) scope.names (cloFrom X.env.cells scope.names [])) s3.heap.objs.size X.env)) (compPost (model X.prog X.w) X.A X.xe use Qf (.ref D) s3.heap.objs.size) { s3 with heap := pushCells (s3.heap.push { cls := .type "dict", data := .dict #[] }) scope.names }
  have nfp : ∀ b ∈ fp, (upd H2 D (.dK [])) b = none := fun b hb => (f3 b hb).1.1
  generalize hce : compEnvC scope (cellsFrom (s3.heap.objs.size + 1) scope.names (cloFrom X.env.cells scope.names [])) s3.heap.objs.size X.env = ce at I4 pg pt pk pe pi1 pg1 pt1 pi2 pg2 pt2 ⊢
  have cL : ce.locals = s3.heap.objs.size := by subst hce; rfl
  generalize hH3 : upd H2 D (.dK []) = H3 at I3 I4 pg pt pk pe pi1 pg1 pt1 pi2 pg2 pt2 q nfp f3
  generalize hs4 : ({ s3 with heap := pushCells (s3.heap.push { cls := .type "dict", data := .dict #[] }) scope.names } : Shared) = s4 at I4 ⊢
  have st4 : tn 0 s4.heap := T.keep _ _ _ st3 fun b _ o e => by rw [← hs4]; exact pushCells_keeps _ _ _ _ (Heap.get?_push_of_some _ e)
  have stat : ∀ {σ' : L2.St} {H' : Hp} {s' : Shared}, Inv (X.blk s3 H3 scope ce fp) [] σ' H' s' → (∀ b ∈ fp, H' b = none) → ∀ b ∈ fp, FpOk (X.blk s3 H3 scope ce fp) [] H' b := fun {σ' H' s'} I' hn b hb =>
    ⟨hn b hb, (I'.ok.exf b hb).1, I'.ok.exfs b hb, .inl hb, fun x c e => (I'.ok.exf b hb).2 x c e, fun p hp => absurd (show p ∈ ([] : List (Addr × Obj)) ++ [] from hp) (by simp)⟩
  have loop : codeAny (model X.prog X.w) X.A (.compLoop (DC3 kx vx t0 i0 t1 i1 t2 i2 ifs0 ifs1 ifs2 scope pos) 0 (.ref it) (.ref D) ce) (compPost (model X.prog X.w) X.A X.xe use Qf (.ref D) s3.heap.objs.size) s4 := by
    refine run_loop (XB := X.blk s3 H3 scope ce fp) (P := []) (vs := own.map (·.2)) rfl hc T I4 st4 nfp stat pg pt q (fun s6 H5 I6 qq => ?_) (fun Iv tv n hn => dc3_loop0 (hs1 ce) Iv tv n hn) ?_
    · have I7 : Inv X pins σ H5 s6 := I3.call' (ch := fp) I6.os I6.base I6.hok I6.bare fun b hb => ⟨(f3 b hb).1.2.2.2.1, (f3 b hb).1.2.1, (f3 b hb).1.2.2.2.2.1, (f3 b hb).1.2.2.2.2.2⟩
      have nC : H5 s3.heap.objs.size = none := by
        have z : H5 ce.locals = none := I6.free
        rw [cL] at z
        exact z
      obtain ⟨m, hn, _⟩ := I6.loc
      have hn : s6.heap.Ns ce.locals m := hn
      rw [cL] at hn
      exact hRR D s3.heap.objs.size s6 m H5 I7 qq hn (I3.fpOk (Nat.le_refl _) nC)
    · intro P' σ' H' s' Nx Post I' q' hp
      refine thnF (pi1.run P' s' σ' H' _ I' q') fun xv s10 hx => thnF hx fun itv s11 h11 => ?_
      obtain ⟨it1, fp1, tn1, J1, H11, e1, I11, T1, st11, f11, q1⟩ := h11
      subst e1
      have loop1 : codeAny (model X.prog X.w) X.A (.compLoop (DC3 kx vx t0 i0 t1 i1 t2 i2 ifs0 ifs1 ifs2 scope pos) 1 (.ref it1) (.ref D) ce)
          (fun r s' => match r with
            | .ok _ => Post s'
            | .error _ => False) s11 := by
        refine run_loop (XB := X.blk s3 H3 scope ce fp) (P := P') (vs := vs1) rfl hc T1 (I11.weak (wipe_length _ _) (fun j v e => (wipe_some e).1)) st11 (fun b hb => (f11 b hb).1) (fun _ hn b hb => ⟨hn b hb, (f11 b hb).2⟩) pg1 pt1 q1 (fun s6 H5 I6 qq => hp _ _ _ I6 (.wipe hv1 _) qq) (fun Iv tv n hn => dc3_loop1 (hs2 ce) Iv tv n hn) ?_
        intro P2 σ2 H2' s2' Nx1 Post1 I2' q2 hp1
        refine thnF (pi2.run P2 s2' σ2 H2' _ I2' q2) fun xv s12 hx => thnF hx fun itv s13 h13 => ?_
        obtain ⟨it2, fp2, tn2, J2, H13, e2, I13, T2, st13, f13, q3⟩ := h13
        subst e2
        have loop2 : codeAny (model X.prog X.w) X.A (.compLoop (DC3 kx vx t0 i0 t1 i1 t2 i2 ifs0 ifs1 ifs2 scope pos) 2 (.ref it2) (.ref D) ce)
            (fun r s' => match r with
              | .ok _ => Post1 s'
              | .error _ => False) s13 := by
          refine run_loop (XB := X.blk s3 H3 scope ce fp) (P := P2) (vs := vs2) rfl hc T2 (I13.weak (wipe_length _ _) (fun j v e => (wipe_some e).1)) st13 (fun b hb => (f13 b hb).1) (fun _ hn b hb => ⟨hn b hb, (f13 b hb).2⟩) pg2 pt2 q3 (fun s6 H5 I6 qq => hp1 _ _ _ I6 (.wipe hv2 _) qq) (fun Iv tv n hn => dc3_loop2 Iv tv n hn) ?_
          intro P3 σ3 H3' s3' Nx2 Post2 I3' q4 hp2
          refine thnF (pk.run _ s3' σ3 H3' _ I3' q4) fun z s14 ⟨yk, H10, I10, r10, q10⟩ => ?_
          refine thnF (pe.run _ s14 σ3 H10 _ I10 q10) fun z2 s15 ⟨yv, H12, I12, r12, kvs, k, ek, hD12, hz12, nx⟩ => ?_
          subst ek
          exact d_dictSet (X := X.blk s3 H3 scope ce fp) I12 hD12 hz12 r10 r12 fun s16 I16 => hp2 _ _ _ I16 (.refl _ _) nx
        exact dc3_start2 loop2 (T2.self X.A 0 _ _ _ st13 loop2)
      exact dc3_start1 loop1 (T1.self X.A 0 _ _ _ st11 loop1)
  exact codeAny_compStart_dict loop (T.self X.A 0 _ _ _ st4 loop)
theorem pe_dc3 {X : Cx} {kx vx t0 i0 t1 i1 t2 i2 : Expr} {ifs0 ifs1 ifs2 : List Expr} {scope : Scope} {own : List (Str × Nat)} {vs1 vs2 : List Nat} {pos : Pos} {wi wi1 wi2 : TI} {g g1 g2 : TG} {tt tt1 tt2 : TT} {tk tv : TE}
    (hc : X.calm = true) (hN : X.N.Nodup) (hi : PI X t0 i0 wi) (ok : BlkOk X.N X.env.scope scope own) (hv1 : ∀ i ∈ vs1, i ∈ own.map (·.2)) (hv2 : ∀ i ∈ vs2, i ∈ vs1)
    (hg : ∀ (s : Shared) (H : Hp) (C : Addr) (cl : List (Str × Addr)) (fp : List Addr), PG (X.blk s H scope (compEnvC scope cl C X.env) fp) t0 g) (ht : ∀ (s : Shared) (H : Hp) (C : Addr) (cl : List (Str × Addr)) (fp : List Addr), PTs (X.blk s H scope (compEnvC scope cl C X.env) fp) ifs0 tt)
    (hi1 : ∀ (s : Shared) (H : Hp) (C : Addr) (cl : List (Str × Addr)) (fp : List Addr), PI (X.blk s H scope (compEnvC scope cl C X.env) fp) t1 i1 wi1)
    (hg1 : ∀ (s : Shared) (H : Hp) (C : Addr) (cl : List (Str × Addr)) (fp : List Addr), PG (X.blk s H scope (compEnvC scope cl C X.env) fp) t1 g1) (ht1 : ∀ (s : Shared) (H : Hp) (C : Addr) (cl : List (Str × Addr)) (fp : List Addr), PTs (X.blk s H scope (compEnvC scope cl C X.env) fp) ifs1 tt1)
    (hi2 : ∀ (s : Shared) (H : Hp) (C : Addr) (cl : List (Str × Addr)) (fp : List Addr), PI (X.blk s H scope (compEnvC scope cl C X.env) fp) t2 i2 wi2)
    (hg2 : ∀ (s : Shared) (H : Hp) (C : Addr) (cl : List (Str × Addr)) (fp : List Addr), PG (X.blk s H scope (compEnvC scope cl C X.env) fp) t2 g2) (ht2 : ∀ (s : Shared) (H : Hp) (C : Addr) (cl : List (Str × Addr)) (fp : List Addr), PTs (X.blk s H scope (compEnvC scope cl C X.env) fp) ifs2 tt2)
    (hk : ∀ (s : Shared) (H : Hp) (C : Addr) (cl : List (Str × Addr)) (fp : List Addr), PE (X.blk s H scope (compEnvC scope cl C X.env) fp) kx tk)
    (he : ∀ (s : Shared) (H : Hp) (C : Addr) (cl : List (Str × Addr)) (fp : List Addr), PE (X.blk s H scope (compEnvC scope cl C X.env) fp) vx tv) (hs : ∀ x, foldedSetIterable i0 X.env x = pure x := by intro _; rfl)
    (hs1 : ∀ env x, foldedSetIterable i1 env x = pure x := by intro _ _; rfl) (hs2 : ∀ env x, foldedSetIterable i2 env x = pure x := by intro _ _; rfl) :
    PE X (DC3 kx vx t0 i0 t1 i1 t2 i2 ifs0 ifs1 ifs2 scope pos) (tDc3 wi g tt wi1 g1 tt1 wi2 g2 tt2 tk tv (own.map (·.2)) vs1 vs2) := by
  refine ⟨fun pins s σ H Q I h => ?_⟩
  rw [arm_eval_DictComp]
  refine dc3_core hc hN I hi ok hv1 hv2 hg ht hi1 hg1 ht1 hi2 hg2 ht2 hk he hs hs1 hs2 h fun D C s' m H' I' q hn f => ⟨m, hn, fun h'' sb => ?_⟩
  obtain ⟨f0, f1, f2, f3, f4, f5⟩ := f
  exact ⟨.ref D, H', I'.turned (t' := s'.toks) (fun b o hb e => (sb.2 b hb).trans e) f0 f1 f3 f4 f5, rfl, q⟩
end ZG

set_option Elab.async false
set_option linter.all false
set_option maxRecDepth 100000
set_option maxHeartbeats 4000000
/-! dict comprehensions with three clauses, as data -/
namespace Pu
open PySem PySem.Spec PyProof.Rows L2 ZG
abbrev KVs := List (PyData × PyData)
def foldO {α : Type} (f : PyData → α → Option α) : List PyData → α → Option α
  | [], a => some a
  | d :: ds, a => (f d a).bind (foldO f ds)
def d3End (g : PyData → Rho → Option Rho) (fk f : Rho → Re PyData) (ρ : Rho) (d : PyData) (acc : KVs) : Option KVs := match g d ρ with
  | none => none
  | some ρ1 => match fk ρ1, f ρ1 with
    | .ok (.int n), .ok z => if okLen (acc.length + 1) = true ∧ lookI acc n = none ∧ imm z = true then some (acc ++ [(.int n, z)]) else none
    | _, _ => none
def d3Nx (g : PyData → Rho → Option Rho) (its : Rho → Re (List PyData)) (vs : List Nat) (s : Rho → PyData → KVs → Option KVs) (ρ : Rho) (d : PyData) (acc : KVs) : Option KVs := match g d ρ with
  | none => none
  | some ρ1 => match its ρ1 with
    | .ok ds => foldO (s (wipeR ρ1 vs)) ds acc
    | _ => none
def rDc3 (its : Rho → Re (List PyData)) (vs : List Nat) (g : PyData → Rho → Option Rho) (its1 : Rho → Re (List PyData)) (vs1 : List Nat) (g1 : PyData → Rho → Option Rho) (its2 : Rho → Re (List PyData)) (vs2 : List Nat) (g2 : PyData → Rho → Option Rho) (fk f : Rho → Re PyData) : Rho → Re PyData := fun ρ =>
  (its ρ).andThen fun ds => match foldO (d3Nx g its1 vs1 (d3Nx g1 its2 vs2 (d3End g2 fk f)) (wipeR ρ vs)) ds [] with | some kvs => .ok (dicD kvs) | none => .bad
theorem wipe_none : ∀ (l : List Nat) (τ : L2.St), (∀ i ∈ l, i < τ.length → τ[i]? = some none) → wipe τ l = τ := by
  intro l
  induction l with
  | nil => intro τ _; rfl
  | cons v l ih =>
    intro τ h
    show (wipe τ l).set v none = τ
    rw [ih τ fun i hi => h i (List.mem_cons_of_mem _ hi)]
    by_cases hv : v < τ.length
    · have := h v List.mem_cons_self hv
      obtain ⟨h1, h2⟩ := List.getElem?_eq_some_iff.mp this
      rw [← h2, List.set_getElem_self]
    · rw [List.set_eq_of_length_le (by omega)]
theorem wipe_idem (σ : L2.St) (vs : List Nat) : wipe (wipe σ vs) vs = wipe σ vs := by
  refine wipe_none vs _ fun i hi hl => ?_
  have mem : ∀ (l : List Nat) (i : Nat), i ∈ l → i < (wipe σ l).length → (wipe σ l)[i]? = some none := by
    intro l
    induction l with
    | nil => intro i h; cases h
    | cons v l ih =>
      intro i h hl
      show ((wipe σ l).set v none)[i]? = some none
      have hl' : i < (wipe σ l).length := by
        have hl2 : i < ((wipe σ l).set v none).length := hl
        rwa [List.length_set] at hl2
      by_cases e : v = i
      · subst e
        rw [List.getElem?_set_self hl']
      · rw [List.getElem?_set_ne e]
        exact ih i ((List.mem_cons.mp h).resolve_left fun z => e z.symm) hl'
  exact mem vs i hi hl
section
variable {X : Cx} {M : Nat → Bool} {F FB : Fx} {E : L2.St → XK} {σ : L2.St} {ρ : Rho} {H H' H1 H2 Hs : Hp} {Dd : Addr} {K : PySem.W.Frag}
def Bl (Dd : Addr) (H H' : Hp) : Prop := ∀ a u, a ≠ Dd → H a = some u → H' a = some u
theorem Bl.refl : Bl Dd H H := fun _ _ _ h => h
theorem Bl.trans (a : Bl Dd H H1) (b : Bl Dd H1 H2) : Bl Dd H H2 := fun x u n h => b x u n (a x u n h)
theorem Bl.same (s : Same H H') : Bl Dd H H' := fun x u _ h => s x u h
def AccAt (K : PySem.W.Frag) (Dd : Addr) (H : Hp) (acc : KVs) : Prop := ∃ (ks : List L2.Key) (xs : List V) (ds : List PyData), H Dd = some (.dK (ks.zip xs)) ∧ ks.length = xs.length ∧ RpA K H (fun _ => False) xs ds ∧ acc = (ks.map kD).zip ds
theorem AccAt.same {acc : KVs} (a : AccAt K Dd H acc) (s : Same H H') : AccAt K Dd H' acc := by
  obtain ⟨ks, xs, ds, h1, h2, h3, h4⟩ := a
  exact ⟨ks, xs, ds, s _ _ h1, h2, h3.same s, h4⟩
theorem noOwn (hM : ∀ i, M i = false) {a : Addr} : ¬ OwnA M σ ρ a := fun ⟨i, _, m, _⟩ => by
  rw [hM i] at m
  cases m
theorem ER.bl (hM : ∀ i, M i = false) (e : ER X.K M (inBlk F Dd) σ H ρ) {acc acc' : KVs} (b : Bl Dd H H') (h1 : AccAt X.K Dd H acc) (h2 : AccAt X.K Dd H' acc') : ER X.K M (inBlk F Dd) σ H' ρ where
  len := e.len
  old := fun a u q => nomatch q
  new := fun a q => by
    refine e.new a ?_
    cases hh : H a with
    | none => rfl
    | some u =>
      by_cases c : a = Dd
      · obtain ⟨_, _, _, h, _⟩ := h2
        rw [c, h] at q
        cases q
      · rw [b a u c hh] at q
        cases q
  im := fun i d r m => by
    obtain ⟨v, s, r⟩ := e.im i d r m
    exact ⟨v, s, r.keep (fun a u q x => b a u (fun z => by
      rcases x with x | x
      · exact x.1.2 z
      · obtain ⟨_, _, _, h, _⟩ := h1
        rw [z, h] at q
        cases q
        exact x trivial) q) fun a u x q => x⟩
  ow := fun i d r m => by
    rw [hM i] at m
    cases m
  ap := fun i j d e' p mi mj _ _ _ _ => by
    rw [hM i] at mi
    cases mi
/-- one clause's loop -/
theorem lvl {J : It} {S : Addr → Prop} {Hw : Hp} {ds : List PyData} {vs ts : List Nat} {gg : PyData → Rho → Option Rho} {step : PyData → KVs → Option KVs} {inner : L2.St → Hp → (Hp → Prop) → Prop} {Fin : Hp → Prop} {acc0 tot : KVs}
    (hM : ∀ i, M i = false) (hts : ∀ i ∈ ts, i ∈ vs) (er : ER X.K M (inBlk F Dd) σ Hs ρ) (wk : Walks X.K S J ds Hw) (hkp : ∀ H2, Bl Dd Hs H2 → Kp S Hw H2) (hS : ∀ a, S a → (inBlk F Dd).S0 a)
    (hgg : ∀ d acc acc', step d acc = some acc' → ∃ ρ1, gg d (wipeR ρ vs) = some ρ1)
    (hstep : ∀ d acc acc' ρ1 σ2 H2 (Nx : Hp → Prop), step d acc = some acc' → gg d (wipeR ρ vs) = some ρ1 → ER X.K M (inBlk F Dd) σ2 H2 ρ1 → AccAt X.K Dd H2 acc → (∀ H3, AccAt X.K Dd H3 acc' → Bl Dd H2 H3 → Nx H3) → inner σ2 H2 Nx)
    (e : foldO step ds acc0 = some tot) (a0 : AccAt X.K Dd Hs acc0) (fin : ∀ H', AccAt X.K Dd H' tot → Bl Dd Hs H' → Fin H') :
    LoopS J (canG X M ts gg) (canT X M E0s yesR) vs inner σ Hs Fin := by
  refine ⟨fun i m H2 => m = ds.length - i ∧ i ≤ ds.length ∧ Bl Dd Hs H2 ∧ ∃ acc, AccAt X.K Dd H2 acc ∧ foldO step (ds.drop i) acc = some tot, ⟨ds.length, by simp, Nat.zero_le _, .refl, acc0, a0, e⟩, ?_⟩
  rintro i m H2 ⟨rfl, hi', bl, acc, ac, fo⟩
  by_cases hlt : i < ds.length
  · obtain ⟨go, yl⟩ := (wk H2 (hkp H2 bl) i).1 _ (List.getElem?_eq_getElem hlt)
    rw [drop_get (List.getElem?_eq_getElem hlt)] at fo
    have fo : (step ds[i] acc).bind (foldO step (ds.drop (i + 1))) = some tot := fo
    obtain ⟨acc', g1, g2⟩ := Option.bind_eq_some_iff.mp fo
    refine .inr ⟨go, fun H3 => Bl Dd Hs H3 ∧ AccAt X.K Dd H3 acc', fun H3 x => ⟨ds.length - (i + 1), by omega, rfl, by omega, x.1, acc', x.2, g2⟩, fun x H3 y => ?_⟩
    obtain ⟨s3, rx⟩ := yl x H3 y
    obtain ⟨ρ1, q3⟩ := hgg _ _ _ g1
    have bl3 : Bl Dd Hs H3 := bl.trans (.same s3)
    have ac3 := ac.same s3
    obtain ⟨erw, _⟩ := er.wipe (vs := vs) fun i _ => hM i
    have erb := erw.bl hM bl3 a0 ac3
    refine ⟨inBlk F Dd, wipeR ρ vs, ds[i], ρ1, erb, rx.wide fun a z => ⟨hS a z, fun _ => noOwn hM⟩, q3, fun σ4 er4 ev4 wp4 ow4 => ⟨?_, ?_⟩⟩
    · rw [wp4 vs hts]
      exact wipe_idem σ vs
    · refine ⟨inBlk F Dd, ρ1, er4, fun H5 s5 => ?_⟩
      show (if true = true then _ else _)
      rw [if_pos rfl]
      exact hstep _ _ _ _ _ _ _ g1 q3 (er4.same s5) (ac3.same s5) fun H6 ac6 bl6 => ⟨(bl3.trans (.same s5)).trans bl6, ac6⟩
  · have ei : i = ds.length := by omega
    subst ei
    rw [List.drop_length] at fo
    have fo : some acc = some tot := fo
    cases fo
    exact .inl ⟨(wk H2 (hkp H2 bl) _).2 rfl, fin H2 ac bl⟩
/-- the pair that is stored -/
theorem end_run {g2 : PyData → Rho → Option Rho} {fk f : Rho → Re PyData} {lk fr lk1 fr1 : Bool} (hM : ∀ i, M i = false) {d : PyData} {acc acc' : KVs} {ρ1 : Rho} {σ2 : L2.St} {Nx : Hp → Prop} (h1 : d3End g2 fk f ρ d acc = some acc') (h2 : g2 d ρ = some ρ1) (er : ER X.K M (inBlk F Dd) σ2 H2 ρ1) (ac : AccAt X.K Dd H2 acc)
    (nx : ∀ H3, AccAt X.K Dd H3 acc' → Bl Dd H2 H3 → Nx H3) : canE X M E0s lk1 fr1 fk σ2 H2 fun y H7 => canE X M E0s lk fr f σ2 H7 fun z H8 => ∃ kvs k, y = kV k ∧ H8 Dd = some (.dK kvs) ∧ kvs.length < sizeLine ∧ Nx (upd H8 Dd (.dK (putK kvs k z))) := by
  unfold d3End at h1
  rw [h2] at h1
  have h1 : (match fk ρ1, f ρ1 with
    | .ok (.int n), .ok z => if okLen (acc.length + 1) = true ∧ lookI acc n = none ∧ imm z = true then some (acc ++ [(.int n, z)]) else none
    | _, _ => none) = some acc' := h1
  split at h1
  · rename_i n z qk qf
    obtain ⟨cc, h1⟩ : (okLen (acc.length + 1) = true ∧ lookI acc n = none ∧ imm z = true) ∧ acc ++ [(.int n, z)] = acc' := by
      by_cases cc : okLen (acc.length + 1) = true ∧ lookI acc n = none ∧ imm z = true
      · rw [if_pos cc] at h1
        exact ⟨cc, Option.some.inj h1⟩
      · rw [if_neg cc] at h1
        cases h1
    subst h1
    refine ⟨inBlk F Dd, ρ1, er, ?_⟩
    rw [qk]
    refine fun kv H5 s5 rk _ => ?_
    cases rk with
    | int _ =>
      refine ⟨inBlk F Dd, ρ1, er.same s5, ?_⟩
      rw [qf]
      refine fun v H6 s6 r6 _ => ?_
      have s56 : Same H2 H6 := s5.trans s6
      obtain ⟨ks, xs, ds, e6, lz, rr, rfl⟩ := ac.same s56
      have lo := look_of n lz rr
      rw [cc.2.1] at lo
      have acl : (ks.zip xs).length < sizeLine := by
        have := of_decide_eq_true cc.1
        rw [zip_len lz rr.length] at this
        exact Nat.lt_of_lt_of_le (Nat.lt_of_succ_le this) (by decide)
      have ez : putK (ks.zip xs) (Sum.inl n : L2.Key) v = (ks ++ [(Sum.inl n : L2.Key)]).zip (xs ++ [v]) := by
        rw [putK_new v lo, List.zip_append lz]
        rfl
      refine ⟨ks.zip xs, Sum.inl n, rfl, e6, acl, nx _ ⟨ks ++ [(Sum.inl n : L2.Key)], xs ++ [v], ds ++ [z], ?_, ?_, ?_, ?_⟩ fun a u ne q => ?_⟩
      · rw [ez]
        exact upd_same
      · rw [List.length_append, List.length_append, lz]
        rfl
      · have rz : Rp X.K H6 (fun _ => False) v z := r6.noAddr cc.2.2
        refine (rr.append (.cons rz .nil)).keep (fun a u qa xa => ?_) fun _ _ x _ => x
        rw [upd_ne]
        · exact qa
        · intro za
          subst za
          rcases xa with xa | xa
          · exact xa
          · rw [e6] at qa
            cases qa
            exact xa trivial
      · rw [List.map_append, List.zip_append (by rw [List.length_map, lz, rr.length])]
        rfl
      · rw [upd_ne ne]
        exact s56 _ _ q
  · cases h1
theorem nx_gg {g : PyData → Rho → Option Rho} {its : Rho → Re (List PyData)} {vs : List Nat} {s : Rho → PyData → KVs → Option KVs} {d : PyData} {acc acc' : KVs} (h : d3Nx g its vs s ρ d acc = some acc') : ∃ ρ1, g d ρ = some ρ1 := by
  unfold d3Nx at h
  cases q : g d ρ with
  | none =>
    rw [q] at h
    cases h
  | some ρ1 => exact ⟨ρ1, rfl⟩
theorem end_gg {g : PyData → Rho → Option Rho} {fk f : Rho → Re PyData} {d : PyData} {acc acc' : KVs} (h : d3End g fk f ρ d acc = some acc') : ∃ ρ1, g d ρ = some ρ1 := by
  unfold d3End at h
  cases q : g d ρ with
  | none =>
    rw [q] at h
    cases h
  | some ρ1 => exact ⟨ρ1, rfl⟩
theorem nx_ds {g : PyData → Rho → Option Rho} {its : Rho → Re (List PyData)} {vs : List Nat} {s : Rho → PyData → KVs → Option KVs} {d : PyData} {acc acc' : KVs} {ρ1 : Rho} (h : d3Nx g its vs s ρ d acc = some acc') (h2 : g d ρ = some ρ1) : ∃ ds, its ρ1 = .ok ds ∧ foldO (s (wipeR ρ1 vs)) ds acc = some acc' := by
  unfold d3Nx at h
  rw [h2] at h
  have h : (match its ρ1 with
    | .ok ds => foldO (s (wipeR ρ1 vs)) ds acc
    | _ => none) = some acc' := h
  cases q : its ρ1 with
  | ok ds =>
    rw [q] at h
    exact ⟨ds, rfl, h⟩
  | ex c =>
    rw [q] at h
    cases h
  | bad =>
    rw [q] at h
    cases h
theorem acc_kp {acc : KVs} (ac : AccAt X.K Dd H acc) {S : Addr → Prop} (hS : ∀ a, S a → a ≠ Dd) {H2 : Hp} (b : Bl Dd H H2) : Kp S H H2 := fun a u q x => b a u (fun z => by
  rcases x with x | x
  · exact hS a x z
  · obtain ⟨_, _, _, h, _⟩ := ac
    rw [z, h] at q
    cases q
    exact x trivial) q
theorem dc3_run {ts vs ts1 vs1 ts2 vs2 : List Nat} {wi : TI} {its its1 its2 : Rho → Re (List PyData)} {gg gg1 gg2 : PyData → Rho → Option Rho} {fk f : Rho → Re PyData} {lk fr lk1 fr1 : Bool} (hi : ∀ σ H ρ, ER X.K M F σ H ρ → ∀ R, WI X M F E σ ρ H (its ρ) R → wi σ H R)
    (hM : ∀ i, M i = false) (hts : ∀ i ∈ ts, i ∈ vs) (hts1 : ∀ i ∈ ts1, i ∈ vs1) (hts2 : ∀ i ∈ ts2, i ∈ vs2) (er : ER X.K M F σ H ρ) {Q : VK} (w : WE X M F E lk true σ ρ H (rDc3 its vs gg its1 vs1 gg1 its2 vs2 gg2 fk f ρ) Q) :
    tDc3 wi (canG X M ts gg) (canT X M E0s yesR) (canI X M E0s its1) (canG X M ts1 gg1) (canT X M E0s yesR) (canI X M E0s its2) (canG X M ts2 gg2) (canT X M E0s yesR) (canE X M E0s lk1 fr1 fk) (canE X M E0s lk fr f) vs vs1 vs2 σ H Q := by
  refine hi σ H ρ er _ ?_
  unfold rDc3 at w
  cases q : its ρ with
  | ex c =>
    rw [q] at w
    exact w
  | bad =>
    rw [q] at w
    exact w
  | ok ds =>
    rw [q] at w
    have w : WE X M F E lk true σ ρ H (match foldO (d3Nx gg its1 vs1 (d3Nx gg1 its2 vs2 (d3End gg2 fk f)) (wipeR ρ vs)) ds [] with | some kvs => .ok (dicD kvs) | none => .bad) Q := w
    cases q2 : foldO (d3Nx gg its1 vs1 (d3Nx gg1 its2 vs2 (d3End gg2 fk f)) (wipeR ρ vs)) ds [] with
    | none =>
      rw [q2] at w
      exact w.elim
    | some tot =>
      rw [q2] at w
      refine fun J H1 sm wk Dd hD => ?_
      have er1 := er.same sm
      have erb : ER X.K M (inBlk F Dd) σ (upd H1 Dd (.dK [])) ρ := er1.blk hD (same_new hD) upd_same
      have a0 : AccAt X.K Dd (upd H1 Dd (.dK [])) [] := ⟨[], [], [], upd_same, rfl, .nil, rfl⟩
      have bl1 : ∀ H2, Bl Dd (upd H1 Dd (.dK [])) H2 → Same H1 H2 := fun H2 b a u h => by
        have : a ≠ Dd := fun z => by
          rw [z, hD] at h
          cases h
        refine b a u this ?_
        rw [upd_ne this]
        exact h
      refine lvl hM hts erb wk (fun H2 b => kp_same (bl1 H2 b)) (fun a z => ⟨z.1.1, fun y => z.2 (y ▸ hD)⟩) (fun d acc acc' h => nx_gg h) (fun d acc acc' ρ1 σ2 H2 Nx h h2 er2 ac nx => ?_) q2 a0 fun H' ac b => ?_
      · obtain ⟨ds1, q3, f3⟩ := nx_ds h h2
        refine ⟨inBlk F Dd, ρ1, er2, ?_⟩
        rw [q3]
        refine fun J1 H4 s4 wk1 => ?_
        have er4 := er2.same s4
        have ac4 := ac.same s4
        refine lvl hM hts1 er4 wk1 (fun H2 b => acc_kp ac4 (fun a z => z.1.1.2) b) (fun a z => z.1.1) (fun d acc acc' h => nx_gg h) (fun d acc acc' ρ2 σ3 H3 Nx1 h h2 er3 ac nx1 => ?_) f3 ac4 fun H' ac b => nx H' ac ((Bl.same s4).trans b)
        obtain ⟨ds2, q4, f4⟩ := nx_ds h h2
        refine ⟨inBlk F Dd, ρ2, er3, ?_⟩
        rw [q4]
        refine fun J2 H5 s5 wk2 => ?_
        have er5 := er3.same s5
        have ac5 := ac.same s5
        exact lvl hM hts2 er5 wk2 (fun H2 b => acc_kp ac5 (fun a z => z.1.1.2) b) (fun a z => z.1.1) (fun d acc acc' h => end_gg h) (fun d acc acc' ρ3 σ4 H6 Nx2 h h2 er6 ac nx2 => end_run hM h h2 er6 ac nx2) f4 ac5 fun H' ac b => nx1 H' ac ((Bl.same s5).trans b)
      · obtain ⟨ks, xs, dd, h1, h2, h3, rfl⟩ := ac
        have s1 := bl1 H' b
        refine w (.ref Dd) H' (sm.trans s1) (.dic h1 (er1.freshS _ hD) h2 (h3.wide fun _ z => z.elim)) fun _ => ⟨Dd, rfl, sm.free hD, .dic h1 h2 (h3.wide fun _ z => z.elim)⟩
theorem de_dc3 {kx vx t0 i0 t1 i1 t2 i2 : Expr} {scope : Scope} {own : List (Str × Nat)} {ts ts1 ts2 : List Nat} {pos : Pos} (vs vs1 vs2 : List Nat) {its its1 its2 : Rho → Re (List PyData)} {gg gg1 gg2 : PyData → Rho → Option Rho} {fk f : Rho → Re PyData} {lk fr lk1 fr1 : Bool}
    (hM : ∀ i, M i = false) (hc : X.calm = true) (hN : X.N.Nodup) (hi : DI X M F E t0 i0 its) (ok : BlkOk X.N X.env.scope scope own) (hv1 : ∀ i ∈ vs1, i ∈ vs) (hv2 : ∀ i ∈ vs2, i ∈ vs1)
    (hg : ∀ (s : Shared) (H : Hp) (C : Addr) (cl : List (Str × Addr)) (fp : List Addr) (F : Fx), DG (X.blk s H scope (compEnvC scope cl C X.env) fp) M F t0 ts gg)
    (hi1 : ∀ (s : Shared) (H : Hp) (C : Addr) (cl : List (Str × Addr)) (fp : List Addr) (F : Fx), DI (X.blk s H scope (compEnvC scope cl C X.env) fp) M F E0s t1 i1 its1)
    (hg1 : ∀ (s : Shared) (H : Hp) (C : Addr) (cl : List (Str × Addr)) (fp : List Addr) (F : Fx), DG (X.blk s H scope (compEnvC scope cl C X.env) fp) M F t1 ts1 gg1)
    (hi2 : ∀ (s : Shared) (H : Hp) (C : Addr) (cl : List (Str × Addr)) (fp : List Addr) (F : Fx), DI (X.blk s H scope (compEnvC scope cl C X.env) fp) M F E0s t2 i2 its2)
    (hg2 : ∀ (s : Shared) (H : Hp) (C : Addr) (cl : List (Str × Addr)) (fp : List Addr) (F : Fx), DG (X.blk s H scope (compEnvC scope cl C X.env) fp) M F t2 ts2 gg2)
    (hk : ∀ (s : Shared) (H : Hp) (C : Addr) (cl : List (Str × Addr)) (fp : List Addr) (F : Fx), DE (X.blk s H scope (compEnvC scope cl C X.env) fp) M F E0s lk1 fr1 kx fk)
    (he : ∀ (s : Shared) (H : Hp) (C : Addr) (cl : List (Str × Addr)) (fp : List Addr) (F : Fx), DE (X.blk s H scope (compEnvC scope cl C X.env) fp) M F E0s lk fr vx f)
    (hvs : own.map (·.2) = vs := by rfl) (hts : ∀ i ∈ ts, i ∈ vs := by decide) (hts1 : ∀ i ∈ ts1, i ∈ vs1 := by decide) (hts2 : ∀ i ∈ ts2, i ∈ vs2 := by decide) (hs : ∀ x, foldedSetIterable i0 X.env x = pure x := by intro _; rfl)
    (hs1 : ∀ env x, foldedSetIterable i1 env x = pure x := by intro _ _; rfl) (hs2 : ∀ env x, foldedSetIterable i2 env x = pure x := by intro _ _; rfl) :
    DE X M F E lk true (.DictComp kx vx [⟨t0, i0, [], 0⟩, ⟨t1, i1, [], 0⟩, ⟨t2, i2, [], 0⟩] scope pos) (rDc3 its vs gg its1 vs1 gg1 its2 vs2 gg2 fk f) := by
  subst hvs
  obtain ⟨wi, pw, hi⟩ := hi
  exact ⟨_, pe_dc3 (ifs0 := []) (ifs1 := []) (ifs2 := []) (g := canG X M ts gg) (tt := canT X M E0s yesR) (wi1 := canI X M E0s its1) (g1 := canG X M ts1 gg1) (tt1 := canT X M E0s yesR) (wi2 := canI X M E0s its2) (g2 := canG X M ts2 gg2) (tt2 := canT X M E0s yesR) (tk := canE X M E0s lk1 fr1 fk) (tv := canE X M E0s lk fr f) hc hN pw ok hv1 hv2
    (fun s H C cl fp => canG_ok (hg s H C cl fp)) (fun s H C cl fp => dts_nil (E := E0s)) (fun s H C cl fp => canI_ok (hi1 s H C cl fp)) (fun s H C cl fp => canG_ok (hg1 s H C cl fp)) (fun s H C cl fp => dts_nil (E := E0s)) (fun s H C cl fp => canI_ok (hi2 s H C cl fp)) (fun s H C cl fp => canG_ok (hg2 s H C cl fp)) (fun s H C cl fp => dts_nil (E := E0s))
    (fun s H C cl fp => canE_ok (hk s H C cl fp)) (fun s H C cl fp => canE_ok (he s H C cl fp)) hs hs1 hs2, fun σ H ρ er Q w => dc3_run hi hM hts hts1 hts2 er w⟩
end
end Pu

set_option Elab.async false
set_option linter.all false
set_option maxRecDepth 100000
set_option maxHeartbeats 2000000
/-! sorted(d) of any number of whole keys; t in ts, items of any depth; what is not looked at -/
namespace ZG
open PySem PySem.Spec PyProof.Rows L2
theorem call_sortedDL {X : Cx} (hcalm : X.calm = true) : CallR X (.builtin "sorted") (fun xs H Q => ∃ (a : Addr) (kvs : List (L2.Key × V)) (ks : List Int), xs = [.ref a] ∧ Rd H a (.dK kvs) ∧ kvs.map (·.1) = ks.map Sum.inl ∧
    ∀ (ys : List Int) (p : Addr), ys.Perm ks → ys.Pairwise (· ≤ ·) → H p = none → Q (.ref p) (upd H p (.lst (ys.map V.int)))) := by
  intro pins s σ H xs us Q I r q
  obtain ⟨a, kvs, ks, ex, hd, hks, q⟩ := q
  subst ex
  rw [Vals.ref1 r]
  obtain ⟨z, lo, vs, rel, dd⟩ := dk_rd I.hok hd
  obtain ⟨ep, hat⟩ := dd.dictAt
  have hkeys : vs.map (·.1) = ks.map Sum.inl := rel.keys.symm.trans hks
  have hl : vs.length = ks.length := by
    have e := congrArg List.length hkeys
    rw [List.length_map, List.length_map] at e
    exact e
  have h16 : vs.length ≤ sizeLine := by rw [← rel.length]; exact z
  refine Calls.call_function_entry PyProof.Rows.kind_sorted PyProof.Rows.plain_sorted PyProof.Rows.entry_sorted (PyProof.Rows.args_sorted1 _) ?_
  unfold Builtin.«sorted»
  refine wpAny_bind (m := checkCount "sorted" 1 1 _) (wpAny_pure ?_)
  refine wpAny_bind (PySem.W.kdu_collect (A := X.A.in1) (PySem.W.kdl_dict (knd := mixKind X.prog X.w) (kvs := vs) (ep := ep) lo) (I.ok.hd hcalm) hat h16 fun h' tk acc hk hacc => ?_)
  have hal : acc.toList.length = ks.length := by rw [Array.length_toList, hacc.1, hl]
  have hS : IntsAre acc.toList ks := ints_each hal fun j v e => by
    obtain ⟨k, x, e1, e2⟩ := hacc.2 j v (by rw [← Array.getElem?_toList]; exact e)
    have e3 : (vs.map (·.1))[j]? = some k := by rw [List.getElem?_map, e1]; rfl
    rw [hkeys, List.getElem?_map] at e3
    cases e4 : ks[j]? with
    | none => rw [e4] at e3; cases e3
    | some y =>
      rw [e4] at e3
      have e5 : Sum.inl y = k := Option.some.inj e3
      subst e5
      rcases keyIs_shape (show keyIs (Sum.inl y) v = true from e2) with ⟨i, t, ek, ev⟩ | ⟨z, t, ek, ev⟩
      · cases ek
        exact ⟨y, t, rfl, ev⟩
      · cases ek
  have I1 : Inv X pins σ H { s with heap := h', toks := tk } := I.kept hk
  have hz2 : acc.toList.length ≤ sizeLine := by rw [hal, ← hl]; exact h16
  refine wpAny_bind (wpAny_newList ?_ hz2)
  have hoL : (h'.push (seqObj "list" acc.toList.toArray 0)).get? h'.objs.size = some (seqObj "list" acc.toList.toArray 0) := Heap.get?_push_size _ rfl
  show wpAny _ _ _ _ _ { s with heap := h'.push (seqObj "list" acc.toList.toArray 0), toks := tk }
  refine wpAny_bind (wpAny_holding (wpAny_call_entry PyProof.Rows.slot_list_sort ⟨_, hoL, rfl⟩ PyProof.Rows.entry_list_sort
    (SrtO.list_sort_ord (s := { s with heap := h'.push (seqObj "list" acc.toList.toArray 0), toks := tk }) SrtO.swo_int hoL hz2 (fun h2 => SrtO.ints_sortable hS h2) fun out h1 h2 => ⟨_, rfl, ?_⟩) (PyProof.Rows.args_list_sort _)))
  obtain ⟨k1, k2, k3⟩ := SrtO.ints_out hS h1 h2
  obtain ⟨e', he'⟩ := PyProof.Rows.sortedHeap_at (vs := acc.toList) (out := out.toArray) hoL
  have hlen : ((out.map SrtO.iv).map V.int).length ≤ sizeLine := by
    rw [List.length_map, k2.length_eq, ← hl]
    exact h16
  refine wpAny_pure ⟨_, rfl, .ref h'.objs.size, upd H h'.objs.size (.lst ((out.map SrtO.iv).map V.int)), I1.laid (t' := tk) (fun b u e => ?_) (Nat.le_refl _)
    (show ObjOk X.prog X.w _ _ _ (.lst ((out.map SrtO.iv).map V.int)) from ⟨hlen, out, e', vals_of_ints k1, he'⟩), rfl, q _ _ k2 k3 (I1.hok.fresh (Nat.le_refl _))⟩
  have hb : b < h'.objs.size := Heap.lt_size e
  rw [PyProof.Rows.sortedHeap_old (Nat.ne_of_lt hb) (by rw [size_push']; exact Nat.lt_succ_of_lt hb)]
  exact Heap.get?_push_of_some _ e
def rInZ (neg : Bool) (K : PySem.W.Frag) : R2 := fun x y H Q => ∃ d ds, Dp K H x d ∧ (Dp K H y (.list ds) ∨ Dp K H y (.tuple ds)) ∧ SeqAt.shaped d = true ∧ SeqAt.shaped (.list ds) = true ∧ Q (.bl (if neg = true then !ds.any fun z => PyData.eqv z d else ds.any fun z => PyData.eqv z d)) H
theorem op_inZ {X : Cx} (hu : X.A.units + 65 < cLine) : OpR X (compareOp .In) (rInZ false X.K) := by
  intro pins s σ H x y v u Q I rx ry h
  obtain ⟨d, ds, hd, he, sd, se, q⟩ := h
  obtain ⟨as, r1⟩ := Dp.reads I d x v hd rx
  rcases he with he | he
  · obtain ⟨bs, r2⟩ := Dp.reads I (.list ds) y u he ry
    exact SeqAt.in_list_reads r2 r1 (SeqAt.canLay_of_shaped se) (SeqAt.canLay_of_shaped sd) (room_in_shaped sd hu) ⟨.bl _, H, I, rfl, q⟩
  · obtain ⟨bs, r2⟩ := Dp.reads I (.tuple ds) y u he ry
    exact SeqAt.in_tuple_reads r2 r1 (SeqAt.canLay_of_shaped se) (SeqAt.canLay_of_shaped sd) (room_in_shaped sd hu) ⟨.bl _, H, I, rfl, q⟩
theorem op_notInZ {X : Cx} (hu : X.A.units + 65 < cLine) : OpR X (compareOp .NotIn) (rInZ true X.K) := by
  intro pins s σ H x y v u Q I rx ry h
  obtain ⟨d, ds, hd, he, sd, se, q⟩ := h
  obtain ⟨as, r1⟩ := Dp.reads I d x v hd rx
  rcases he with he | he
  · obtain ⟨bs, r2⟩ := Dp.reads I (.list ds) y u he ry
    exact SeqAt.notIn_list_reads r2 r1 (SeqAt.canLay_of_shaped se) (SeqAt.canLay_of_shaped sd) (room_in_shaped sd hu) ⟨.bl _, H, I, rfl, q⟩
  · obtain ⟨bs, r2⟩ := Dp.reads I (.tuple ds) y u he ry
    exact SeqAt.notIn_tuple_reads r2 r1 (SeqAt.canLay_of_shaped se) (SeqAt.canLay_of_shaped sd) (room_in_shaped sd hu) ⟨.bl _, H, I, rfl, q⟩
end ZG
namespace Pu
open PySem PySem.Spec PyProof.Rows L2 ZG
section
variable {X : Cx} {M : Nat → Bool} {F : Fx} {E : L2.St → XK} {ρ : Rho} {K : PySem.W.Frag} {H : Hp} {la fa lb fb : Bool} {a b : Expr} {f g : Rho → Re PyData} {pos : Pos}
def bSortL : List PyData → Option PyData := fun ds => match ds with
  | [d] => (kvsOf d).bind fun kvs => (keysOf kvs).bind fun ns => some (.list ((srtZ ns).map PyData.int))
  | _ => none
theorem s_sortL : SemL K (fun xs H Q => ∃ (a : Addr) (kvs : List (L2.Key × V)) (ks : List Int), xs = [.ref a] ∧ Rd H a (.dK kvs) ∧ kvs.map (·.1) = ks.map Sum.inl ∧
    ∀ (ys : List Int) (p : Addr), ys.Perm ks → ys.Pairwise (· ≤ ·) → H p = none → Q (.ref p) (upd H p (.lst (ys.map V.int)))) true bSortL := fun S H xs ds z Q new r q k => by
  unfold bSortL at q
  split at q
  · obtain ⟨kvs, q1, q⟩ := Option.bind_eq_some_iff.mp q
    obtain ⟨ns, q2, q⟩ := Option.bind_eq_some_iff.mp q
    cases q
    cases r with
    | cons r1 r2 =>
      cases r2
      obtain ⟨a, ks, xs, rfl, hr, hk⟩ := dic_in r1 q1 q2
      refine ⟨a, _, ns, rfl, hr, hk, fun ys p hp hs hn => ?_⟩
      have e := srtZ_uniq hp hs
      subst e
      exact k _ _ (same_new hn) (.lst upd_same (new _ hn) (RpA.ints _)) fun _ => ⟨p, rfl, hn, .lst upd_same (RpA.ints _)⟩
  · cases q
def oInZ (neg : Bool) : PyData → PyData → Option PyData := fun d e => match e with
  | .list ds => if SeqAt.shaped d = true ∧ SeqAt.shaped (.list ds) = true then some (.bool (if neg = true then !ds.any fun z => PyData.eqv z d else ds.any fun z => PyData.eqv z d)) else none
  | .tuple ds => if SeqAt.shaped d = true ∧ SeqAt.shaped (.list ds) = true ∧ SeqAt.shaped (.tuple ds) = true then some (.bool (if neg = true then !ds.any fun z => PyData.eqv z d else ds.any fun z => PyData.eqv z d)) else none
  | _ => none
theorem s_inZ (neg : Bool) : SemB K (rInZ neg K) false (oInZ neg) := fun S H x y d e z Q new rx ry q k => by
  unfold oInZ at q
  split at q
  · obtain ⟨h, rfl⟩ := if_some q
    exact ⟨d, _, rx.dp h.1, .inl (ry.dp h.2), h.1, h.2, k _ H (Same.refl H) (.bl _) fun z => nomatch z⟩
  · obtain ⟨h, rfl⟩ := if_some q
    exact ⟨d, _, rx.dp h.1, .inr (ry.dp h.2.2), h.1, h.2.1, k _ H (Same.refl H) (.bl _) fun z => nomatch z⟩
  · cases q
/-- a piece that nothing is said of -/
def rBad : Rho → Re PyData := fun _ => .bad
theorem de_bad {e : Expr} {lk fr : Bool} : DE X M F E lk fr e rBad := ⟨fun _ _ _ => False, ⟨fun _ _ _ _ _ _ h => h.elim⟩, fun _ _ _ _ _ w => w.elim⟩
def sBad : Rho → Sr := fun _ => .bad
theorem ds_bad {st : Stmt} : DS X M F E st sBad := ⟨fun _ _ _ => False, ⟨fun _ _ _ _ _ _ h => h.elim⟩, fun _ _ _ _ _ w => w.elim⟩
end
end Pu

set_option Elab.async false
set_option linter.all false
set_option maxRecDepth 100000
set_option maxHeartbeats 4000000
/-! hurdles of a drawing -/
namespace Pu
open PySem PySem.Spec PyProof.Rows L2 ZG
def atB (B : List (List Int)) (k : Int) : List Int := (B[k.toNat]?).getD []
theorem atB_map (B : List (List Int)) : (upI 0 B.length).map (atB B) = B := by
  refine List.ext_getElem? fun i => ?_
  rw [List.getElem?_map]
  by_cases h : i < B.length
  · have e : (upI 0 B.length)[i]? = some (i : Int) := by
      unfold upI
      rw [List.getElem?_map, List.getElem?_range h]
      simp
    rw [e]
    show some (atB B (i : Int)) = _
    unfold atB
    rw [Int.toNat_natCast, List.getElem?_eq_getElem h]
    rfl
  · rw [List.getElem?_eq_none (by rw [upI_length]; omega), List.getElem?_eq_none (by omega)]
    rfl
theorem atB_get {B : List (List Int)} {k : Int} (h : k ∈ upI 0 B.length) : B[k.toNat]? = some (atB B k) ∧ atB B k ∈ B := by
  have := up_mem.mp h
  have hi : k.toNat < B.length := by omega
  unfold atB
  rw [List.getElem?_eq_getElem hi]
  exact ⟨rfl, List.getElem_mem hi⟩
def keyP (L : List (Int × Int)) (P : List Int) : List Int := P.flatMap fun k => [(lnAt L k).1, (lnAt L k).2]
def keysB (L : List (Int × Int)) (B : List (List Int)) : List Int := B.flatMap (keyP L)
structure BOk (N : Nat) (B : List (List Int)) : Prop where
  nd : B.flatten.Nodup
  inn : ∀ k ∈ B.flatten, k ∈ upI 0 N
  ne : ∀ P ∈ B, P ≠ []
  len : B.length ≤ N
section
variable {L : List (Int × Int)} {T : Int → Int} {B : List (List Int)}
theorem sub_flat : ∀ {A B : List (List Int)}, A.Sublist B → A.flatten.Sublist B.flatten
  | _, _, .slnil => .slnil
  | _, _, .cons a h => by
    rw [List.flatten_cons]
    exact (sub_flat h).trans (List.sublist_append_right _ _)
  | _, _, .cons₂ a h => by
    rw [List.flatten_cons, List.flatten_cons]
    exact (List.Sublist.refl _).append (sub_flat h)
theorem BOk.filter {N : Nat} (b : BOk N B) (p : List Int → Bool) : BOk N (B.filter p) where
  nd := (sub_flat List.filter_sublist).nodup b.nd
  inn := fun k hk => b.inn k ((sub_flat List.filter_sublist).subset hk)
  ne := fun P hP => b.ne P (List.mem_filter.mp hP).1
  len := Nat.le_trans (List.length_filter_le _ _) b.len
theorem keys_flat : ∀ B : List (List Int), keysB L B = keyP L B.flatten
  | [] => rfl
  | P :: B => by
    have := keys_flat B
    unfold keysB keyP at this ⊢
    rw [List.flatMap_cons, List.flatten_cons, List.flatMap_append, this]
theorem sub_key {A B : List Int} (h : A.Sublist B) : (keyP L A).Sublist (keyP L B) := by
  unfold keyP
  induction h with
  | slnil => exact .slnil
  | cons a _ ih =>
    rw [List.flatMap_cons]
    exact ih.trans (List.sublist_append_right _ _)
  | cons_cons a _ ih =>
    rw [List.flatMap_cons, List.flatMap_cons]
    exact (List.Sublist.refl _).append ih
theorem lnAt_map : (upI 0 L.length).map (lnAt L) = L := by
  refine List.ext_getElem? fun i => ?_
  rw [List.getElem?_map]
  by_cases h : i < L.length
  · have e : (upI 0 L.length)[i]? = some (i : Int) := by
      unfold upI
      rw [List.getElem?_map, List.getElem?_range h]
      simp
    rw [e]
    show some (lnAt L (i : Int)) = _
    unfold lnAt
    rw [Int.toNat_natCast, List.getElem?_eq_getElem h]
    rfl
  · rw [List.getElem?_eq_none (by rw [upI_length]; omega), List.getElem?_eq_none (by omega)]
    rfl
theorem key_all : keyP L (upI 0 L.length) = L.flatMap fun l => [l.1, l.2] := by
  have e := lnAt_map (L := L)
  unfold keyP
  conv => rhs; rw [← e]
  rw [List.flatMap_map]
theorem key_nd (Z : Lin L T) {F : List Int} (nd : F.Nodup) (inn : ∀ k ∈ F, k ∈ upI 0 L.length) : (keyP L F).Nodup := by
  have p : F.Perm ((upI 0 L.length).filter fun k => decide (k ∈ F)) := (List.perm_ext_iff_of_nodup nd (List.Pairwise.filter _ (up_nodup _ _))).mpr fun x => by
    rw [List.mem_filter, decide_eq_true_eq]
    exact ⟨fun h => ⟨inn x h, h⟩, fun h => h.2⟩
  have q : (keyP L F).Perm (keyP L ((upI 0 L.length).filter fun k => decide (k ∈ F))) := p.flatMap_right _
  refine q.symm.nodup ((sub_key (B := upI 0 L.length) List.filter_sublist).nodup ?_)
  rw [key_all]
  exact Z.pm.symm.nodup (up_nodup _ _)
theorem keys_nd (Z : Lin L T) (b : BOk L.length B) : (keysB L B).Nodup := by
  rw [keys_flat]
  exact key_nd Z b.nd b.inn
theorem key_in (Z : Lin L T) {F : List Int} (inn : ∀ k ∈ F, k ∈ upI 0 L.length) {x : Int} (h : x ∈ keyP L F) : x ∈ upI 0 (2 * L.length) := by
  obtain ⟨k, hk, q⟩ := List.mem_flatMap.mp h
  have m := (lnAt_get (inn k hk)).2
  have := Z.inn m
  rcases List.mem_cons.mp q with rfl | q
  · exact this.1
  · rw [List.mem_singleton.mp q]
    exact this.2
theorem keys_in (Z : Lin L T) (b : BOk L.length B) {x : Int} (h : x ∈ keysB L B) : x ∈ upI 0 (2 * L.length) := by
  rw [keys_flat] at h
  exact key_in Z b.inn h
/-- the bad part to which a spot belongs -/
def own (L : List (Int × Int)) (B : List (List Int)) (s : Int) : List Int := (B.filter fun P => decide (s ∈ keyP L P)).headD []
theorem own_f (s : Int) : ∀ {B : List (List Int)}, (keysB L B).Nodup → (B.filter fun P => decide (s ∈ keyP L P)) = if s ∈ keysB L B then [own L B s] else []
  | [], _ => by simp [keysB]
  | P :: B, nd => by
    have e : keysB L (P :: B) = keyP L P ++ keysB L B := by unfold keysB; rw [List.flatMap_cons]
    rw [e] at nd ⊢
    obtain ⟨_, n2, n3⟩ := List.nodup_append.mp nd
    have ih := own_f s n2
    unfold own
    by_cases c : s ∈ keyP L P
    · have c2 : s ∉ keysB L B := fun q => n3 _ c _ q rfl
      rw [if_neg c2] at ih
      rw [List.filter_cons_of_pos (by simp [c]), ih, if_pos (List.mem_append_left _ c)]
      rfl
    · rw [List.filter_cons_of_neg (by simp [c]), ih]
      by_cases c2 : s ∈ keysB L B
      · rw [if_pos c2, if_pos (List.mem_append_right _ c2)]
        rfl
      · rw [if_neg c2, if_neg fun q => (List.mem_append.mp q).elim c c2]
theorem own_eq {s : Int} {P : List Int} (nd : (keysB L B).Nodup) (hP : P ∈ B) (hs : s ∈ keyP L P) : own L B s = P := by
  have m : P ∈ B.filter fun P => decide (s ∈ keyP L P) := List.mem_filter.mpr ⟨hP, by simp [hs]⟩
  rw [own_f s nd] at m
  split at m
  · exact (List.mem_singleton.mp m).symm
  · cases m
def told (L : List (Int × Int)) (B : List (List Int)) : List Int := (upI 0 (2 * L.length)).flatMap fun s => (upI 0 B.length).filter fun k => decide (s ∈ keyP L (atB B k))
theorem told_in {k : Int} (h : k ∈ told L B) : k ∈ upI 0 B.length := by
  obtain ⟨s, _, h⟩ := List.mem_flatMap.mp h
  exact (List.mem_filter.mp h).1
theorem flat_if {α β : Type} (c : α → Prop) [DecidablePred c] (f : α → β) : ∀ l : List α, (l.flatMap fun s => if c s then [f s] else []) = (l.filter fun s => decide (c s)).map f
  | [] => rfl
  | a :: l => by
    rw [List.flatMap_cons, flat_if c f l]
    by_cases h : c a
    · rw [if_pos h, List.filter_cons_of_pos (by simp [h])]
      rfl
    · rw [if_neg h, List.filter_cons_of_neg (by simp [h])]
      rfl
theorem told_map (nd : (keysB L B).Nodup) : (told L B).map (atB B) = ((upI 0 (2 * L.length)).filter fun s => decide (s ∈ keysB L B)).map (own L B) := by
  unfold told
  rw [List.map_flatMap, ← flat_if]
  have e : (fun s => ((upI 0 B.length).filter fun k => decide (s ∈ keyP L (atB B k))).map (atB B)) = fun s => if s ∈ keysB L B then [own L B s] else [] := by
    funext s
    rw [← own_f s nd]
    have := List.filter_map (f := atB B) (p := fun P => decide (s ∈ keyP L P)) (l := upI 0 B.length)
    rw [atB_map] at this
    rw [this]
    rfl
  rw [e]
theorem told_len (nd : (keysB L B).Nodup) : (told L B).length ≤ 2 * L.length := by
  have := congrArg List.length (told_map nd)
  rw [List.length_map, List.length_map] at this
  rw [this]
  refine Nat.le_trans (List.length_filter_le _ _) ?_
  rw [upI_length]
  exact Nat.le_refl _
theorem srt_keys (Z : Lin L T) (b : BOk L.length B) : srtZ (keysB L B) = (upI 0 (2 * L.length)).filter fun s => decide (s ∈ keysB L B) := by
  refine (srtZ_uniq ((List.perm_ext_iff_of_nodup (List.Pairwise.filter _ (up_nodup _ _)) (keys_nd Z b)).mpr fun x => ?_) (List.Pairwise.filter _ ((up_asc 0 _).imp fun h => Int.le_of_lt h))).symm
  rw [List.mem_filter, decide_eq_true_eq]
  exact ⟨fun h => h.2, fun h => ⟨keys_in Z b h, h⟩⟩
theorem flat_apart : ∀ {B : List (List Int)} {i j : Nat} {P Q : List Int}, B.flatten.Nodup → B[i]? = some P → B[j]? = some Q → i ≠ j → ∀ x ∈ P, x ∉ Q
  | [], i, j, _, _, _, h, _, _ => by simp at h
  | A :: B, 0, 0, _, _, _, _, _, n => (n rfl).elim
  | A :: B, 0, j + 1, P, Q, nd, h1, h2, _ => fun x hx hq => by
    rw [List.flatten_cons] at nd
    have e : A = P := by simpa using h1
    subst e
    have h2 : B[j]? = some Q := by simpa using h2
    exact (List.nodup_append.mp nd).2.2 x hx x (List.mem_flatten.mpr ⟨Q, List.mem_of_getElem? h2, hq⟩) rfl
  | A :: B, i + 1, 0, P, Q, nd, h1, h2, _ => fun x hx hq => by
    rw [List.flatten_cons] at nd
    have e : A = Q := by simpa using h2
    subst e
    have h1 : B[i]? = some P := by simpa using h1
    exact (List.nodup_append.mp nd).2.2 x hq x (List.mem_flatten.mpr ⟨P, List.mem_of_getElem? h1, hx⟩) rfl
  | A :: B, i + 1, j + 1, P, Q, nd, h1, h2, n => by
    rw [List.flatten_cons] at nd
    exact flat_apart (B := B) (i := i) (j := j) (List.nodup_append.mp nd).2.1 (by simpa using h1) (by simpa using h2) fun e => n (by rw [e])
theorem atB_inj {N : Nat} (b : BOk N B) {i j : Int} (hi : i ∈ upI 0 B.length) (hj : j ∈ upI 0 B.length) (h : atB B i = atB B j) : i = j := by
  by_cases e : i = j
  · exact e
  · obtain ⟨g1, m1⟩ := atB_get hi
    obtain ⟨g2, m2⟩ := atB_get hj
    have a := up_mem.mp hi
    have c := up_mem.mp hj
    have ap := flat_apart b.nd g1 g2 (by omega)
    cases q : atB B i with
    | nil => exact (b.ne _ m1 q).elim
    | cons x P => exact (ap x (by rw [q]; exact List.mem_cons_self) (by rw [← h, q]; exact List.mem_cons_self)).elim
theorem part_len {N : Nat} (b : BOk N B) {P : List Int} (h : P ∈ B) : P.length ≤ N := by
  have := php P (upI 0 N) ((List.sublist_flatten_of_mem h).nodup b.nd) fun x hx => b.inn x (List.mem_flatten.mpr ⟨P, h, hx⟩)
  rwa [upI_length] at this
/-! ### how often the spots of a part begin -/
def begZ (T : List Int) (k : Int) : Nat := ((upI 0 T.length).filter fun a => decide (valZ T a = k) && decide (valZ T (a - 1) ≠ k)).length
theorem val_at1 {T : List Int} {p : Int} (hp : p ∈ upI 0 T.length) : atZ T (p - 1) = some (valZ T (p - 1)) ∧ valZ T (p - 1) ∈ T := by
  have h := up_mem.mp hp
  have e : ∃ j : Nat, j < T.length ∧ ixN T.length (p - 1) = some j := by
    unfold ixN
    by_cases c : 0 ≤ p - 1
    · rw [if_pos c, if_pos (by omega)]
      exact ⟨_, by omega, rfl⟩
    · rw [if_neg c]
      by_cases c2 : (T.length : Int) + (p - 1) < 0
      · omega
      · refine ⟨((T.length : Int) + (p - 1)).toNat, by omega, ?_⟩
        first
          | rw [if_neg c2]
          | rw [if_pos (by omega)]
        first
          | rfl
          | (congr 1; omega)
  obtain ⟨j, hj, e⟩ := e
  have e2 : atZ T (p - 1) = some T[j] := by
    unfold atZ
    rw [e]
    exact List.getElem?_eq_getElem hj
  unfold valZ
  rw [e2]
  exact ⟨rfl, List.getElem_mem hj⟩
theorem val_memT {T : List Int} {p : Int} (hp : p ∈ upI 0 T.length) : valZ T p ∈ T := by
  have h := up_mem.mp hp
  obtain ⟨x, e1, e2⟩ := atZ_p (ns := T) (i := p) h.1 (by omega)
  unfold valZ
  rw [e1]
  exact List.mem_of_getElem? e2
theorem atD_f (T : List Int) (f : Int → PyData) (i : Int) : atD (T.map f) i = (atZ T i).map f := by
  unfold atD atZ
  rw [List.length_map]
  cases ixN T.length i with
  | none => rfl
  | some j => simp
def hurZ (L : List (Int × Int)) (B : List (List Int)) : List (List Int) := ((upI 0 B.length).filter fun k => decide (begZ (told L B) k < 2)).map (atB B)
theorem hur_len : (hurZ L B).length ≤ B.length := by
  unfold hurZ
  rw [List.length_map]
  refine Nat.le_trans (List.length_filter_le _ _) ?_
  rw [upI_length]
  exact Nat.le_refl _
def greZ (L : List (Int × Int)) (B : List (List Int)) : List (List Int) := (hurZ L B).filter fun H => (hurZ L (B.filter fun P => decide (P ≠ H))).any fun P => decide (P ∉ hurZ L B)
theorem eqv_t (a b : List Int) : PyData.eqv (tI a) (tI b) = decide (a = b) := by
  have h := zok_eqv 1 (tI a) (tI b) (zok_tI 0 a) (zok_tI 0 b)
  by_cases e : a = b
  · rw [decide_eq_true e]
    exact h.mpr (by rw [e])
  · rw [decide_eq_false e]
    refine Bool.eq_false_iff.mpr fun q => e (tI_inj (h.mp q))
theorem beg_cnt {N : Nat} (b : BOk N B) {T : List Int} (hT : ∀ t ∈ T, t ∈ upI 0 B.length) {k : Int} (hk : k ∈ upI 0 B.length) :
    ((((upI 0 T.length).filter fun a => decide (atB B (valZ T a) ≠ atB B (valZ T (a - 1)))).map fun a => tI (atB B (valZ T a))).countP fun z => PyData.eqv z (tI (atB B k))) = begZ T k := by
  rw [List.countP_map, List.countP_eq_length_filter, List.filter_filter]
  unfold begZ
  congr 1
  refine List.filter_congr fun a ha => ?_
  show (PyData.eqv (tI (atB B (valZ T a))) (tI (atB B k)) && _) = _
  rw [eqv_t]
  have h1 := hT _ (val_memT ha)
  have h2 := hT _ (val_at1 ha).2
  by_cases c : valZ T a = k
  · rw [c, decide_eq_true rfl, decide_eq_true rfl, Bool.true_and, Bool.true_and]
    by_cases c2 : valZ T (a - 1) = k
    · rw [c2]
      simp
    · have n : ¬ atB B k = atB B (valZ T (a - 1)) := fun q => c2 (atB_inj b h2 hk q.symm)
      simp [c2, n]
  · have n : ¬ atB B (valZ T a) = atB B k := fun q => c (atB_inj b h1 hk q)
    simp [c, n]
/-! ### the dict of the spots -/
theorem gKv_app (ks : List Int) (n : Int) (h : Int → PyData) : gKv (ks ++ [n]) h = gKv ks h ++ [(.int n, h n)] := by
  unfold gKv
  rw [List.map_append]
  rfl
theorem fold_g {α : Type} {e : α → PyData} {step : PyData → KVs → Option KVs} {kf : α → List Int} {h : Int → PyData} : ∀ {as : List α}, (∀ a ∈ as, ∀ ks : List Int, (ks ++ kf a).Nodup → (ks ++ kf a).length ≤ 9999 → step (e a) (gKv ks h) = some (gKv (ks ++ kf a) h)) → ∀ ks : List Int, (ks ++ as.flatMap kf).Nodup → (ks ++ as.flatMap kf).length ≤ 9999 →
    foldO step (as.map e) (gKv ks h) = some (gKv (ks ++ as.flatMap kf) h)
  | [], _, ks, _, _ => by
    rw [List.flatMap_nil, List.append_nil]
    rfl
  | a :: as, st, ks, nd, hl => by
    rw [List.flatMap_cons, ← List.append_assoc] at nd hl ⊢
    have s1 := st a List.mem_cons_self ks (List.nodup_append.mp nd).1 (by rw [List.length_append] at hl; omega)
    show (step (e a) (gKv ks h)).bind (foldO step (as.map e)) = _
    rw [s1]
    exact fold_g (fun a' ha' => st a' (List.mem_cons_of_mem _ ha')) _ nd hl
theorem d3_end {g : PyData → Rho → Option Rho} {fk f : Rho → Re PyData} {ρ ρ1 : Rho} {ks : List Int} {n : Int} {h : Int → PyData} (hg : g (.int n) ρ = some ρ1) (hk : fk ρ1 = .ok (.int n)) (hf : f ρ1 = .ok (h n)) (nn : n ∉ ks) (hl : ks.length ≤ 9998) (him : imm (h n) = true) : d3End g fk f ρ (.int n) (gKv ks h) = some (gKv (ks ++ [n]) h) := by
  unfold d3End
  rw [hg]
  show (match fk ρ1, f ρ1 with
    | .ok (.int n), .ok z => if okLen ((gKv ks h).length + 1) = true ∧ lookI (gKv ks h) n = none ∧ imm z = true then some (gKv ks h ++ [(PyData.int n, z)]) else none
    | _, _ => none) = _
  rw [hk, hf]
  show (if okLen ((gKv ks h).length + 1) = true ∧ lookI (gKv ks h) n = none ∧ imm (h n) = true then some (gKv ks h ++ [(PyData.int n, h n)]) else none) = _
  have l : (gKv ks h).length = ks.length := by
    unfold gKv
    rw [List.length_map]
  rw [if_pos ⟨by rw [l]; exact decide_eq_true (by omega), look_gno nn, him⟩, gKv_app]
theorem d3_nx {g : PyData → Rho → Option Rho} {its : Rho → Re (List PyData)} {vs : List Nat} {s : Rho → PyData → KVs → Option KVs} {ρ ρ1 : Rho} {d : PyData} {acc : KVs} {ds : List PyData} (hg : g d ρ = some ρ1) (hi : its ρ1 = .ok ds) : d3Nx g its vs s ρ d acc = foldO (s (wipeR ρ1 vs)) ds acc := by
  unfold d3Nx
  rw [hg]
  show (match its ρ1 with
    | .ok ds => foldO (s (wipeR ρ1 vs)) ds acc
    | _ => none) = _
  rw [hi]
theorem sortL_g {ks : List Int} {h : Int → PyData} : bSortL [gD ks h] = some (lI (srtZ ks)) := by
  show ((some (gKv ks h)).bind fun kvs => (keysOf kvs).bind fun ns => some (PyData.list ((srtZ ns).map PyData.int))) = _
  have : keysOf (gKv ks h) = some ks := by
    unfold keysOf gKv
    rw [List.map_map]
    exact asInts_map ks
  show ((keysOf (gKv ks h)).bind fun ns => some (PyData.list ((srtZ ns).map PyData.int))) = _
  rw [this]
  rfl
end
end Pu

set_option Elab.async false
set_option linter.all false
set_option maxRecDepth 100000
set_option maxHeartbeats 4000000
/-! readings of a closed row -/
namespace Pu
open PySem PySem.Spec PyProof.Rows L2
def nrv (r : List Int) : List Int := r.reverse.map fun x => -x
def IsRot (r t : List Int) : Prop := ∃ a b, r = a ++ b ∧ t = b ++ a
def Rd (r t : List Int) : Prop := IsRot r t ∨ IsRot (nrv r) t
theorem IsRot.refl (r : List Int) : IsRot r r := ⟨[], r, rfl, by simp⟩
theorem IsRot.symm {r t : List Int} (h : IsRot r t) : IsRot t r := by
  obtain ⟨a, b, e1, e2⟩ := h
  exact ⟨b, a, e2, e1⟩
theorem IsRot.trans {r t u : List Int} (h : IsRot r t) (k : IsRot t u) : IsRot r u := by
  obtain ⟨a, b, e1, e2⟩ := h
  obtain ⟨c, d, e3, e4⟩ := k
  subst e1 e4
  have e : b ++ a = c ++ d := e2.symm.trans e3
  rcases List.append_eq_append_iff.mp e with ⟨x, h1, h2⟩ | ⟨x, h1, h2⟩
  · subst h1 h2
    exact ⟨x, d ++ b, by simp, by simp⟩
  · subst h1 h2
    exact ⟨a ++ c, x, by simp, by simp⟩
theorem nrv_app (a b : List Int) : nrv (a ++ b) = nrv b ++ nrv a := by
  unfold nrv
  rw [List.reverse_append, List.map_append]
theorem nrv_nrv (r : List Int) : nrv (nrv r) = r := by
  unfold nrv
  rw [← List.map_reverse, List.reverse_reverse, List.map_map]
  have : ((fun x : Int => -x) ∘ fun x : Int => -x) = id := by
    funext x
    show - -x = x
    omega
  rw [this, List.map_id]
theorem IsRot.nrv {r t : List Int} (h : IsRot r t) : IsRot (nrv r) (nrv t) := by
  obtain ⟨a, b, e1, e2⟩ := h
  subst e1 e2
  exact ⟨Pu.nrv b, Pu.nrv a, nrv_app _ _, nrv_app _ _⟩
theorem Rd.symm {r t : List Int} (h : Rd r t) : Rd t r := by
  rcases h with h | h
  · exact .inl h.symm
  · have := h.symm.nrv
    rw [nrv_nrv] at this
    exact .inr this
theorem Rd.trans {r t u : List Int} (h : Rd r t) (k : Rd t u) : Rd r u := by
  rcases h with h | h
  · rcases k with k | k
    · exact .inl (h.trans k)
    · exact .inr (h.nrv.trans k)
  · rcases k with k | k
    · exact .inr (h.trans k)
    · have := h.nrv
      rw [nrv_nrv] at this
      exact .inl (this.trans k)
theorem IsRot.perm {r t : List Int} (h : IsRot r t) : r.Perm t := by
  obtain ⟨a, b, e1, e2⟩ := h
  subst e1 e2
  exact List.perm_append_comm
theorem ab_neg (x : Int) : abZ (-x) = abZ x := by
  unfold abZ
  by_cases h : x < 0
  · rw [if_pos h, if_neg (by omega)]
  · by_cases h2 : x = 0
    · subst h2
      rfl
    · rw [if_neg h, if_pos (by omega)]
      omega
theorem nrv_ab (r : List Int) : ((nrv r).map abZ).Perm (r.map abZ) := by
  unfold nrv
  rw [List.map_map]
  have : (abZ ∘ fun x : Int => -x) = abZ := by
    funext x
    exact ab_neg x
  rw [this]
  exact (List.reverse_perm r).map _
theorem Rd.perm {r t : List Int} (h : Rd r t) : (r.map abZ).Perm (t.map abZ) := by
  rcases h with h | h
  · exact h.perm.map _
  · exact (nrv_ab r).symm.trans (h.perm.map _)
theorem Rd.uniq {t u : List Int} {n : Int} (nd : (t.map abZ).Nodup) (h : Rd t u) (ht : t.head? = some n) (hu : u.head? = some n) (hn : n ≠ 0) : t = u := by
  rcases h with ⟨a, b, e1, e2⟩ | ⟨a, b, e1, e2⟩
  · cases a with
    | nil => subst e1 e2; simp
    | cons x a =>
      cases b with
      | nil => subst e1 e2; simp
      | cons y b =>
        subst e1 e2
        have hx : x = n := by simpa using ht
        have hy : y = n := by simpa using hu
        subst hx hy
        simp at nd
  · have mu : n ∈ u := by
      cases u with
      | nil => cases hu
      | cons y u =>
        have : y = n := by simpa using hu
        rw [this]
        exact List.mem_cons_self
    have mt : n ∈ nrv t := by
      rw [e1]
      rw [e2] at mu
      rcases List.mem_append.mp mu with q | q
      · exact List.mem_append_right _ q
      · exact List.mem_append_left _ q
    unfold nrv at mt
    obtain ⟨z, hz, e⟩ := List.mem_map.mp mt
    have hz := List.mem_reverse.mp hz
    cases t with
    | nil => cases hz
    | cons y t =>
      have hy : y = n := by simpa using ht
      subst hy
      have ez : z = -y := by omega
      rcases List.mem_cons.mp hz with q | q
      · omega
      · rw [List.map_cons, List.nodup_cons] at nd
        exact (nd.1 (List.mem_map.mpr ⟨z, q, by rw [ez, ab_neg]⟩)).elim
/-- the readings, told one by one -/
def rotZ (r : List Int) (k : Int) : List Int := r.drop k.toNat ++ r.take k.toNat
def rdsZ (r : List Int) : List (List Int) := (upI 0 r.length).map (rotZ r) ++ (upI 0 r.length).map (rotZ (nrv r))
theorem rot_is (r : List Int) (k : Int) : IsRot r (rotZ r k) := ⟨r.take k.toNat, r.drop k.toNat, (List.take_append_drop _ _).symm, rfl⟩
theorem rot_mem {r s t : List Int} (hl : r.length = s.length) (hr : r ≠ []) : t ∈ (upI 0 r.length).map (rotZ s) ↔ IsRot s t := by
  constructor
  · intro h
    obtain ⟨k, _, rfl⟩ := List.mem_map.mp h
    exact rot_is s k
  · rintro ⟨a, b, rfl, rfl⟩
    have r0 : 0 < r.length := List.length_pos_iff.mpr hr
    rw [List.length_append] at hl
    by_cases c : b = []
    · subst c
      exact List.mem_map.mpr ⟨0, up_mem.mpr (by omega), by simp [rotZ]⟩
    · have b0 : 0 < b.length := List.length_pos_iff.mpr c
      exact List.mem_map.mpr ⟨(a.length : Int), up_mem.mpr (by omega), by simp [rotZ]⟩
theorem nrv_len (r : List Int) : (nrv r).length = r.length := by
  unfold nrv
  simp
theorem rds_mem {r t : List Int} (hr : r ≠ []) : t ∈ rdsZ r ↔ Rd r t := by
  unfold rdsZ Rd
  rw [List.mem_append, rot_mem rfl hr, rot_mem (nrv_len r).symm hr]
end Pu

set_option Elab.async false
set_option linter.all false
set_option maxRecDepth 100000
set_option maxHeartbeats 4000000
/-! signings of a plain row -/
namespace Pu
open PySem PySem.Spec PyProof.Rows L2
def ext1 (acc : List (List Int)) (p : Int) : List (List Int) := acc.flatMap fun a => [a ++ [p], a ++ [-p]]
def sgF (row : List Int) : List (List Int) := row.foldl ext1 [[]]
def wsZ : List Int → Int → List Int
  | [], _ => []
  | p :: r, s => (if s % 2 = 0 then p else -p) :: wsZ r (s / 2)
theorem wsZ_len : ∀ (r : List Int) (s : Int), (wsZ r s).length = r.length
  | [], _ => rfl
  | p :: r, s => by
    show (wsZ r (s / 2)).length + 1 = r.length + 1
    rw [wsZ_len r]
theorem ext1_len (acc : List (List Int)) (p : Int) : (ext1 acc p).length = 2 * acc.length := by
  unfold ext1
  induction acc with
  | nil => rfl
  | cons a acc ih =>
    rw [List.flatMap_cons, List.length_append, ih, List.length_cons]
    simp
    omega
theorem fold_len : ∀ (r : List Int) (acc : List (List Int)), (r.foldl ext1 acc).length = 2 ^ r.length * acc.length
  | [], acc => by simp
  | p :: r, acc => by
    rw [List.foldl_cons, fold_len r, ext1_len, List.length_cons, Nat.pow_succ, Nat.mul_assoc]
theorem mem_fold : ∀ (r : List Int) (acc : List (List Int)) (x : List Int), x ∈ r.foldl ext1 acc ↔ ∃ a ∈ acc, ∃ s : Nat, s < 2 ^ r.length ∧ x = a ++ wsZ r (s : Int)
  | [], acc, x => by
    constructor
    · intro h
      exact ⟨x, h, 0, by simp, by simp [wsZ]⟩
    · rintro ⟨a, ha, s, _, e⟩
      rw [e]
      simpa [wsZ] using ha
  | p :: r, acc, x => by
    rw [List.foldl_cons, mem_fold r]
    constructor
    · rintro ⟨a', ha', s', hs, e⟩
      obtain ⟨a, ha, q⟩ := List.mem_flatMap.mp ha'
      rcases List.mem_cons.mp q with q | q
      · refine ⟨a, ha, 2 * s', by rw [List.length_cons, Nat.pow_succ]; omega, ?_⟩
        rw [e, q]
        show a ++ [p] ++ wsZ r s' = a ++ ((if ((2 * s' : Nat) : Int) % 2 = 0 then p else -p) :: wsZ r (((2 * s' : Nat) : Int) / 2))
        rw [if_pos (by omega), show ((2 * s' : Nat) : Int) / 2 = s' by omega]
        simp
      · refine ⟨a, ha, 2 * s' + 1, by rw [List.length_cons, Nat.pow_succ]; omega, ?_⟩
        rw [e, List.mem_singleton.mp q]
        show a ++ [-p] ++ wsZ r s' = a ++ ((if ((2 * s' + 1 : Nat) : Int) % 2 = 0 then p else -p) :: wsZ r (((2 * s' + 1 : Nat) : Int) / 2))
        rw [if_neg (by omega), show ((2 * s' + 1 : Nat) : Int) / 2 = s' by omega]
        simp
    · rintro ⟨a, ha, s, hs, e⟩
      rw [List.length_cons, Nat.pow_succ] at hs
      by_cases c : (s : Int) % 2 = 0
      · refine ⟨a ++ [p], List.mem_flatMap.mpr ⟨a, ha, by simp⟩, s / 2, by omega, ?_⟩
        rw [e]
        show a ++ ((if (s : Int) % 2 = 0 then p else -p) :: wsZ r ((s : Int) / 2)) = a ++ [p] ++ wsZ r ((s / 2 : Nat) : Int)
        rw [if_pos c, show ((s / 2 : Nat) : Int) = (s : Int) / 2 by omega]
        simp
      · refine ⟨a ++ [-p], List.mem_flatMap.mpr ⟨a, ha, by simp⟩, s / 2, by omega, ?_⟩
        rw [e]
        show a ++ ((if (s : Int) % 2 = 0 then p else -p) :: wsZ r ((s : Int) / 2)) = a ++ [-p] ++ wsZ r ((s / 2 : Nat) : Int)
        rw [if_neg c, show ((s / 2 : Nat) : Int) = (s : Int) / 2 by omega]
        simp
theorem mem_sgF {r x : List Int} : x ∈ sgF r ↔ ∃ s : Nat, s < 2 ^ r.length ∧ x = wsZ r (s : Int) := by
  unfold sgF
  rw [mem_fold]
  simp
/-- only the last bits count -/
theorem ws_low : ∀ (r : List Int) (s : Int), ∃ s' : Nat, s' < 2 ^ r.length ∧ wsZ r s = wsZ r (s' : Int)
  | [], s => ⟨0, by simp, rfl⟩
  | p :: r, s => by
    obtain ⟨s', h, e⟩ := ws_low r (s / 2)
    by_cases c : s % 2 = 0
    · refine ⟨2 * s', by rw [List.length_cons, Nat.pow_succ]; omega, ?_⟩
      show (if s % 2 = 0 then p else -p) :: wsZ r (s / 2) = (if ((2 * s' : Nat) : Int) % 2 = 0 then p else -p) :: wsZ r (((2 * s' : Nat) : Int) / 2)
      rw [if_pos c, if_pos (by omega), e, show ((2 * s' : Nat) : Int) / 2 = s' by omega]
    · refine ⟨2 * s' + 1, by rw [List.length_cons, Nat.pow_succ]; omega, ?_⟩
      show (if s % 2 = 0 then p else -p) :: wsZ r (s / 2) = (if ((2 * s' + 1 : Nat) : Int) % 2 = 0 then p else -p) :: wsZ r (((2 * s' + 1 : Nat) : Int) / 2)
      rw [if_neg c, if_neg (by omega), e, show ((2 * s' + 1 : Nat) : Int) / 2 = s' by omega]
theorem ws_in (r : List Int) (s : Int) : wsZ r s ∈ sgF r := by
  obtain ⟨s', h, e⟩ := ws_low r s
  exact mem_sgF.mpr ⟨s', h, e⟩
theorem ws_zero : ∀ r : List Int, wsZ r 0 = r
  | [] => rfl
  | p :: r => by
    show (if (0 : Int) % 2 = 0 then p else -p) :: wsZ r (0 / 2) = p :: r
    rw [if_pos (by decide), show (0 : Int) / 2 = 0 by decide, ws_zero r]
theorem self_in (r : List Int) : r ∈ sgF r := by
  have := ws_in r 0
  rwa [ws_zero] at this
theorem ws_ab : ∀ (r : List Int) (s : Int), (∀ x ∈ r, 0 < x) → (wsZ r s).map abZ = r
  | [], _, _ => rfl
  | p :: r, s, h => by
    have hp := h p List.mem_cons_self
    show abZ (if s % 2 = 0 then p else -p) :: (wsZ r (s / 2)).map abZ = p :: r
    rw [ws_ab r _ fun x hx => h x (List.mem_cons_of_mem _ hx)]
    congr 1
    unfold abZ
    split <;> split <;> omega
theorem bMin_l {l : List Int} (h : l ≠ []) : bMinA [lI l] = some (.int (mnZ l)) := by
  cases l with
  | nil => exact absurd rfl h
  | cons x xs =>
    show (match asInts ((x :: xs).map PyData.int) with | some (n :: ns) => some (PyData.int (minZ n ns)) | _ => none) = _
    rw [asInts_map]
    rfl
end Pu

set_option Elab.async false
set_option linter.all false
set_option maxRecDepth 100000
set_option maxHeartbeats 4000000
/-! y = [.. for .. for ..] on one row -/
namespace Pu
open PySem PySem.Spec PyProof.Rows L2
section
variable {X : Cx} {M : Nat → Bool} {F : Fx} {E : L2.St → XK}
variable {elt tg iter tg1 iter1 : Expr} {ifs ifs1 : List Expr} {scope : Scope} {own : List (Str × Nat)} {ts ts1 vs1 : List Nat} {pos : Pos} {its its1 : Rho → Re (List PyData)} {gg gg1 : PyData → Rho → Option Rho} {tt tt1 : Rho → Re Bool} {f : Rho → Re PyData} {lk fr : Bool}
theorem ds_setLc2 (vs : List Nat) {i : Nat} {y : Str} {py spos : Pos} (m : M i = false) (hc : X.calm = true) (hN : X.N.Nodup) (hi : DI X M F E tg iter its) (ok : BlkOk X.N X.env.scope scope own) (hv : ∀ i ∈ vs, M i = false) (hvv : ∀ i ∈ vs1, i ∈ vs)
    (hg : ∀ (s : Shared) (H : Hp) (C : Addr) (cl : List (Str × Addr)) (fp : List Addr) (F : Fx), DG (X.blk s H scope (compEnvC scope cl C X.env) fp) M F tg ts gg)
    (ht : ∀ (s : Shared) (H : Hp) (C : Addr) (cl : List (Str × Addr)) (fp : List Addr), DTs (X.blk s H scope (compEnvC scope cl C X.env) fp) M E0s ifs tt)
    (hi1 : ∀ (s : Shared) (H : Hp) (C : Addr) (cl : List (Str × Addr)) (fp : List Addr) (F : Fx), DI (X.blk s H scope (compEnvC scope cl C X.env) fp) M F E0s tg1 iter1 its1)
    (hg1 : ∀ (s : Shared) (H : Hp) (C : Addr) (cl : List (Str × Addr)) (fp : List Addr) (F : Fx), DG (X.blk s H scope (compEnvC scope cl C X.env) fp) M F tg1 ts1 gg1)
    (ht1 : ∀ (s : Shared) (H : Hp) (C : Addr) (cl : List (Str × Addr)) (fp : List Addr), DTs (X.blk s H scope (compEnvC scope cl C X.env) fp) M E0s ifs1 tt1)
    (he : ∀ (s : Shared) (H : Hp) (C : Addr) (cl : List (Str × Addr)) (fp : List Addr) (F : Fx), DE (X.blk s H scope (compEnvC scope cl C X.env) fp) M F E0s lk fr elt f)
    (hsw : swapsWith (.ListComp elt [⟨tg, iter, ifs, 0⟩, ⟨tg1, iter1, ifs1, 0⟩] scope pos) (some (.Name y py)) spos.line X.env = pure true)
    (hy : X.N[i]? = some y := by rfl) (hyl : X.env.scope.names.lookup y = some .local := by rfl)
    (hvs : own.map (·.2) = vs := by rfl) (hts : ∀ i ∈ ts, i ∈ vs := by decide) (hts1 : ∀ i ∈ ts1, i ∈ vs1 := by decide) (hs : ∀ x, foldedSetIterable iter X.env x = pure x := by intro _; rfl) (hs1 : ∀ env x, foldedSetIterable iter1 env x = pure x := by intro _ _; rfl) :
    DS X M F E (.Assign [.Name y py] (.ListComp elt [⟨tg, iter, ifs, 0⟩, ⟨tg1, iter1, ifs1, 0⟩] scope pos) spos) (sSet i lk (rLc2 its vs gg tt its1 vs1 gg1 tt1 f)) := by
  subst hvs
  obtain ⟨wi, pw, hi⟩ := hi
  refine ⟨_, ps_setLc2 (g := canG X M ts gg) (tt := canT X M E0s tt) (wi1 := canI X M E0s its1) (g1 := canG X M ts1 gg1) (tt1 := canT X M E0s tt1) (te := canE X M E0s lk fr f) hc hN hy hyl hsw pw ok hvv (fun s H C cl fp => canG_ok (hg s H C cl fp)) (fun s H C cl fp => ht s H C cl fp)
    (fun s H C cl fp => canI_ok (hi1 s H C cl fp)) (fun s H C cl fp => canG_ok (hg1 s H C cl fp)) (fun s H C cl fp => ht1 s H C cl fp) (fun s H C cl fp => canE_ok (he s H C cl fp)) hs hs1, fun σ H ρ er D w => ?_⟩
  refine lc2_run (lk := lk) (fr := fr) (X := X) hi hv (fun i h => hv i (hvv i h)) hts hts1 er ?_
  refine ws_step er w fun d v H1 e sm r _ w1 => ?_
  by_cases hd : lk = true → imm d = true
  · rw [if_pos hd] at w1
    exact w1 _ H1 ((er.same sm).set m (rp_lk r hd)) fun a u q n => ⟨q, fun o => n ((own_set m).mp o)⟩
  · rw [if_neg hd] at w1
    exact w1.elim
end
end Pu

set_option Elab.async false
set_option linter.all false
set_option maxRecDepth 100000
set_option maxHeartbeats 4000000
/-! objects of the program's own classes -/
namespace Pu
open PySem PySem.Spec PyProof.Rows L2
/-- an object of the class c as data -/
def insD (c : Str) (ks : List Str) (ds : List PyData) : PyData := .dict ((.bool false, .tuple [.str c, .none]) :: (ks.map PyData.str).zip ds)
def isS (f : Str) : PyData → Bool
  | .str s => decide (s = f)
  | _ => false
def fldO (kvs : List (PyData × PyData)) (f : Str) : Option PyData := (kvs.find? fun p => isS f p.1).map (·.2)
section
variable {X : Cx} {M : Nat → Bool} {F : Fx} {E : L2.St → XK} {la fa lb fb : Bool} {e : Expr} {pos : Pos}
theorem fld_cons (k f : Str) (d : PyData) (kvs : List (PyData × PyData)) : fldO ((.str k, d) :: kvs) f = if k = f then some d else fldO kvs f := by
  unfold fldO
  rw [List.find?_cons]
  by_cases h : k = f
  · rw [if_pos h]
    show Option.map _ (match decide (k = f) with | true => some _ | false => _) = _
    rw [decide_eq_true h]
    rfl
  · rw [if_neg h]
    show Option.map _ (match decide (k = f) with | true => some _ | false => _) = _
    rw [decide_eq_false h]
theorem fld_look {K : PySem.W.Frag} {H : Hp} {S : Addr → Prop} {f : Str} {z : PyData} : ∀ {ks : List Str} {xs : List V} {ds : List PyData}, ks.length = xs.length → RpA K H S xs ds → fldO ((ks.map PyData.str).zip ds) f = some z → ∃ v, List.lookup f (ks.zip xs) = some v ∧ Rp K H S v z
  | [], _, _, _, _, h => by cases h
  | k :: ks, [], _, hl, _, _ => by cases hl
  | k :: ks, x :: xs, _, hl, .cons (d := d) (ds := ds) r rs, h => by
    rw [List.map_cons, List.zip_cons_cons, fld_cons] at h
    rw [List.zip_cons_cons, List.lookup_cons]
    by_cases c : k = f
    · rw [if_pos c] at h
      cases h
      have : (f == k) = true := by rw [c]; exact beq_self_eq_true f
      rw [this]
      exact ⟨x, rfl, r⟩
    · rw [if_neg c] at h
      have : (f == k) = false := beq_eq_false_iff_ne.mpr fun q => c q.symm
      rw [this]
      exact fld_look (by simpa using hl) rs h
theorem fld_none {K : PySem.W.Frag} {H : Hp} {S : Addr → Prop} {f : Str} : ∀ {ks : List Str} {xs : List V} {ds : List PyData}, ks.length = xs.length → RpA K H S xs ds → fldO ((ks.map PyData.str).zip ds) f = none → List.lookup f (ks.zip xs) = none
  | [], _, _, _, _, _ => rfl
  | k :: ks, [], _, hl, _, _ => by cases hl
  | k :: ks, x :: xs, _, hl, .cons (d := d) (ds := ds) r rs, h => by
    rw [List.map_cons, List.zip_cons_cons, fld_cons] at h
    rw [List.zip_cons_cons, List.lookup_cons]
    by_cases c : k = f
    · rw [if_pos c] at h
      cases h
    · rw [if_neg c] at h
      have : (f == k) = false := beq_eq_false_iff_ne.mpr fun q => c q.symm
      rw [this]
      exact fld_none (by simpa using hl) rs h
/-- the fields of an object of the class c -/
def objF (c : Str) : PyData → Option (List (PyData × PyData))
  | .dict ((.bool false, .tuple [.str c', _]) :: kvs) => if c' = c then some kvs else none
  | _ => none
def rFld (c f : Str) (g : Rho → Re PyData) : Rho → Re PyData := fun ρ => (g ρ).andThen fun d => liftO ((objF c d).bind fun kvs => fldO kvs f)
theorem obj_of {K : PySem.W.Frag} {H : Hp} {S : Addr → Prop} {v : V} {d : PyData} {c : Str} {kvs : List (PyData × PyData)} (r : Rp K H S v d) (h : objF c d = some kvs) :
    ∃ (a dx : Addr) (ks : List Str) (xs : List V) (ds : List PyData), v = .ref a ∧ H a = some (.ins (He.ga K c) dx (ks.zip xs)) ∧ ks.length = xs.length ∧ RpA K H S xs ds ∧ kvs = (ks.map PyData.str).zip ds := by
  cases r with
  | @dit a dx c' tag ks xs ds h1 h2 h3 h4 =>
    have h : (if c' = c then some ((ks.map PyData.str).zip ds) else none) = some kvs := h
    by_cases q : c' = c
    · rw [if_pos q] at h
      cases h
      subst q
      exact ⟨a, dx, ks, xs, ds, rfl, h1, h3, h4, rfl⟩
    · rw [if_neg q] at h
      cases h
  | non => cases h
  | bl b => cases h
  | int i => cases h
  | str x => cases h
  | tup _ _ => cases h
  | lst _ _ _ => cases h
  | scr _ _ => cases h
  | dic _ _ _ _ => cases h
  | dif _ _ _ => cases h
/-- o.f -/
theorem de_fld {c f : Str} {g : Rho → Re PyData} (hC : Cls X.K (He.ga X.K c)) (hN : NoAttr X.K (He.ga X.K c) f) (ha : DE X M F E la fa e g) (hb : attributeBase e f X.env (eval e X.env) = eval e X.env := by rfl) : DE X M F E la false (.Attribute e f pos) (rFld c f g) := by
  obtain ⟨t, pa, ha⟩ := ha
  refine ⟨_, pe_fld pa hb, fun σ H ρ er Q z => ?_⟩
  refine ha σ H ρ er _ (we_step z fun d v H1 _ s r1 _ z1 => ?_)
  cases q : objF c d with
  | none =>
    rw [q] at z1
    exact z1.elim
  | some kvs =>
    rw [q] at z1
    obtain ⟨a, dx, ks, xs, ds, ev, h1, hl, rs, ek⟩ := obj_of r1 q
    subst ek
    cases q2 : fldO ((ks.map PyData.str).zip ds) f with
    | none =>
      have z1 : WE X M F E la false σ ρ H1 (liftO (fldO ((ks.map PyData.str).zip ds) f)) Q := z1
      rw [q2] at z1
      exact z1.elim
    | some y =>
      have z1 : WE X M F E la false σ ρ H1 (liftO (fldO ((ks.map PyData.str).zip ds) f)) Q := z1
      rw [q2] at z1
      obtain ⟨u, lu, ru⟩ := fld_look hl rs q2
      exact ⟨a, _, dx, _, u, ev, h1, hC, hN, lu, z1 u H1 (Same.refl H1) ru fun w => nomatch w⟩
/-- a method that raises nothing -/
structure HasM (P : Program) (w : World) (K : PySem.W.Frag) (mg : Str → Option Value) (base : Heap) (k : Nat) (c m : Str) (ps : List Str) (f : List PyData → Re PyData) : Prop where
  cl : Cls K (He.ga K c)
  ex : ∃ (fA : Addr) (fd : FuncData), FnOk P w K mg base (L2.CX P w) k fA fd ps (spD mg f K) ∧ Meth K (He.ga K c) m fA ∧ Binds K fd ps []
def noEx : Re PyData → Re PyData
  | .ok d => .ok d
  | _ => .bad
def rMth (c m : Str) (ff : List PyData → Re PyData) (g : Rho → Re PyData) (gs : Rho → Re (List PyData)) : Rho → Re PyData := fun ρ => (g ρ).andThen fun d => match objF c d with
  | some kvs => if fldO kvs m = none then (gs ρ).andThen fun ds => noEx (ff (d :: ds)) else .bad
  | none => .bad
theorem passM : Passes (L2.CX X.prog X.w) X fun _ _ _ => False := fun _ _ _ _ _ _ _ c => by
  obtain ⟨_, _, _, _, _, _, _, _, _, _, _, _, z⟩ := c
  exact z.elim
/-- o.m(e, ..) -/
theorem de_meth {c m : Str} {k : Nat} {ps : List Str} {ff : List PyData → Re PyData} {g : Rho → Re PyData} {a : Expr} {es : List Expr} {gs : Rho → Re (List PyData)} {p1 : Pos} {pl : Sem Bool} (h : HasM X.prog X.w X.K X.mg X.base k c m ps ff) (hr : Room k X.A) (ho : DE X M F E la fa e g) (ha : DA X M F E lb (a :: es) gs)
    (he : starEach (a :: es) X.env = (false, eval a X.env) :: starEach es X.env := by rfl) (hpl : (backTo pos (starEach es X.env)).any (·.1) = false := by rfl)
    (hev : eval (.Call (.Attribute e m p1) (a :: es) [] pos) X.env = (do
      let ov ← eval e X.env
      standAt p1.atName
      let __x ← holding [ov] (getMethod ov m pl)
      match __x with
        | (f, first) => callWith pos f first (backTo pos (starEach (a :: es) X.env)) (backToKw pos (keywordEach [] X.env))) := by rfl) :
    DE X M F E (la || lb) false (.Call (.Attribute e m p1) (a :: es) [] pos) (rMth c m ff g gs) := by
  obtain ⟨ta, pa, ho⟩ := ho
  obtain ⟨tb, pb, ha⟩ := ha
  obtain ⟨fA, fd, G, hm, bb⟩ := h.ex
  refine ⟨_, pe_meth (dvs := []) (ds := []) (E := fun _ _ _ => False) pa h.cl hm G hr bb .nil passM pb he hpl hev, fun σ H ρ er Q z => ?_⟩
  refine ho σ H ρ er _ (we_step z fun d v H1 _ s r1 _ z1 => ?_)
  cases q : objF c d with
  | none =>
    rw [q] at z1
    exact z1.elim
  | some kvs =>
    rw [q] at z1
    obtain ⟨ad, dx, ks, xs, ds, ev, h1, hl, rs, ek⟩ := obj_of r1 q
    subst ek
    have z1 : WE X M F E (la || lb) false σ ρ H1 (if fldO ((ks.map PyData.str).zip ds) m = none then (gs ρ).andThen fun ds => noEx (ff (d :: ds)) else .bad) Q := z1
    cases q2 : fldO ((ks.map PyData.str).zip ds) m with
    | some y =>
      rw [q2, if_neg (by simp)] at z1
      exact z1.elim
    | none =>
      rw [q2, if_pos rfl] at z1
      refine ⟨ad, dx, _, ev, h1, fld_none hl rs q2, ?_⟩
      refine ha σ H1 ρ (er.same s) _ (we_stepA z1 fun es' vs H2 _ s2 r2 z2 => ?_)
      refine ⟨d :: es', RS M F σ ρ (la || lb), ?_, ((er.same s).same s2).freshS, ?_⟩
      · rw [List.append_nil]
        exact .cons ((r1.wide rs_or1).same s2) (r2.wide rs_or2)
      · cases q3 : ff (d :: es') with
        | ok y =>
          rw [q3] at z2
          exact fun v' H' s' r' => z2 v' H' s' r' fun w => nomatch w
        | ex cc =>
          rw [q3] at z2
          exact z2.elim
        | bad =>
          rw [q3] at z2
          exact z2.elim
/-! ### the fields that __init__ stores -/
/-- the object that __init__ fills, with the address of its own dict -/
def slfD (c : Str) (dx : Addr) (ks : List Str) (ds : List PyData) : PyData := .dict ((.bool false, .tuple [.str c, .int (dx : Nat)]) :: (ks.map PyData.str).zip ds)
def addF (f : Str) (d : PyData) : PyData → PyData
  | .dict kvs => .dict (kvs ++ [(.str f, d)])
  | x => x
def sFldS (c : Str) (i : Nat) (f : Str) (g : Rho → Re PyData) : Rho → Sr := fun ρ => (g ρ).st ρ fun d => match ρ[i]? with
  | some (some dd) => match objF c dd with
    | some kvs => if kvs.length < 1000 ∧ fldO kvs f = none ∧ imm d = true then .nx (ρ.set i (some (addF f d dd))) else .bad
    | none => .bad
  | _ => .bad
theorem putF_new {f : Str} {v : V} : ∀ {l : List (Str × V)}, List.lookup f l = none → putF f v l = l ++ [(f, v)]
  | [], _ => rfl
  | (g, u) :: l, h => by
    have e : putF f v ((g, u) :: l) = if g = f then (g, v) :: l else (g, u) :: putF f v l := rfl
    rw [List.lookup_cons] at h
    have ne : ¬ g = f := fun q => by
      have : (f == g) = true := by rw [q]; exact beq_self_eq_true f
      rw [this] at h
      cases h
    have : (f == g) = false := beq_eq_false_iff_ne.mpr fun q => ne q.symm
    rw [this] at h
    rw [e, if_neg ne, putF_new h]
    rfl
theorem ds_fldS {c : Str} {i : Nat} {x f : Str} {a : Expr} {g : Rho → Re PyData} {p1 p2 : Pos} (hC : Cls X.K (He.ga X.K c)) (hN : NoAttr X.K (He.ga X.K c) f) (m : M i = true) (h : DE X M F E la fa a g) (hNx : X.N[i]? = some x := by rfl) (hv : Vis X.env.scope x := by first | exact Or.inl rfl | exact Or.inr (Or.inl rfl) | exact Or.inr (Or.inr rfl)) (hd : (x == ("__debug__" : Str)) = false := by decide) (hcd : (x == ("__classdict__" : Str)) = false := by decide)
    (hs : swapsWith a (some (.Attribute (.Name x p1) f p2)) pos.line X.env = pure false := by rfl) : DS X M F E (.Assign [.Attribute (.Name x p1) f p2] a pos) (sFldS c i f g) := by
  obtain ⟨ta, pa, h⟩ := h
  refine ⟨_, ps_fld (pe_var hNx hv hd hcd) pa hs, fun σ H ρ er D w => ?_⟩
  refine h σ H ρ er _ (ws_step er w fun d v H1 e1 s1 r1 _ w1 => ?_)
  have er1 := er.same s1
  cases q : ρ[i]? with
  | none =>
    rw [q] at w1
    exact w1.elim
  | some o =>
    cases o with
    | none =>
      rw [q] at w1
      exact w1.elim
    | some dd =>
      rw [q] at w1
      obtain ⟨pp, sp, z0, w0⟩ := er1.ow i dd q m
      refine ⟨.ref pp, sp, ?_⟩
      have w2 : WS X M F E σ H1 ρ (match objF c dd with
        | some kvs => if kvs.length < 1000 ∧ fldO kvs f = none ∧ imm d = true then .nx (ρ.set i (some (addF f d dd))) else .bad
        | none => .bad) D := w1
      clear w1
      cases qk : objF c dd with
      | none =>
        rw [qk] at w2
        exact w2.elim
      | some kvs =>
        rw [qk] at w2
        have w3 : WS X M F E σ H1 ρ (if kvs.length < 1000 ∧ fldO kvs f = none ∧ imm d = true then .nx (ρ.set i (some (addF f d dd))) else .bad) D := w2
        clear w2
        by_cases cc : kvs.length < 1000 ∧ fldO kvs f = none ∧ imm d = true
        · rw [if_pos cc] at w3
          obtain ⟨c1, c2, c3⟩ := cc
          cases w0 with
          | lst e r => cases qk
          | dic e l r => cases qk
          | @dit dx c' ks xs ds e l r =>
            have qk : (if c' = c then some ((ks.map PyData.str).zip ds) else none) = some kvs := qk
            by_cases ec : c' = c
            · rw [if_pos ec] at qk
              cases qk
              subst ec
              have ln := fld_none l r c2
              have len : (ks.zip xs).length < 1000 := by
                rw [List.length_zip, List.length_map, ← r.length] at c1
                rw [List.length_zip]
                exact c1
              have ez : putF f v (ks.zip xs) = (ks ++ [f]).zip (xs ++ [v]) := by
                rw [putF_new ln, List.zip_append l]
                rfl
              have ed : addF f d (.dict ((.bool false, .tuple [.str c', .int (dx : Nat)]) :: (ks.map PyData.str).zip ds)) = .dict ((.bool false, .tuple [.str c', .int (dx : Nat)]) :: ((ks ++ [f]).map PyData.str).zip (ds ++ [d])) := by
                rw [List.map_append, List.zip_append (by rw [List.length_map, l, r.length])]
                rfl
              have rA := r.append (.cons (r1.noAddr c3) .nil)
              have ndx : dx ≠ pp := fun z => by
                have h2 := e.2
                rw [z, e.1] at h2
                cases h2
              obtain ⟨er3, ev3⟩ := er1.put (o := .ins (He.ga X.K c') dx ((ks ++ [f]).zip (xs ++ [v]))) (d' := addF f d (.dict ((.bool false, .tuple [.str c', .int (dx : Nat)]) :: (ks.map PyData.str).zip ds))) m q sp (by
                rw [ed]
                refine .dit ⟨upd_same, by rw [upd_ne ndx]; exact e.2⟩ (by rw [List.length_append, List.length_append, l]; rfl) (rA.keep (fun a u qa xa => ?_) fun _ _ x _ => x)
                rw [upd_ne]
                · exact qa
                · intro za
                  subst za
                  rcases xa with xa | xa
                  · exact xa.2 rfl ⟨i, _, m, q, sp⟩
                  · rw [e.1] at qa
                    cases qa
                    exact xa trivial)
              refine ⟨pp, _, dx, _, rfl, e.1, hC, hN, len, ?_⟩
              rw [ez]
              exact w3 σ _ er3 ev3
            · rw [if_neg ec] at qk
              cases qk
        · rw [if_neg cc] at w3
          exact w3.elim
/-! ### objects made -/
/-- what is left of the object at a with its dict at dx, or an error -/
def postI (mg : Str → Option Value) (K : PySem.W.Frag) (c : Str) (a dx : Addr) (H : Hp) (Q : VK) (Ex : XK) : Re PyData → Prop
  | .ok d => ∀ (H' : Hp) (ks : List Str) (xs : List V) (es : List PyData), d = insD c ks es → H' a = some (.ins (He.ga K c) dx (ks.zip xs)) → ks.length = xs.length → (∀ S', RpA K H' S' xs es) → (∀ p u, p ≠ a → H p = some u → H' p = some u) → Q .non H'
  | .ex cc => ∀ (C : Addr) (H' : Hp), mg cc = some (.ref C) → (∀ p u, p ≠ a → H p = some u → H' p = some u) → Ex (.ref C) none H'
  | .bad => False
/-- what __init__ says of the object at a with its dict at dx; f: the fields that it leaves, or an error -/
def spI (mg : Str → Option Value) (c : Str) (f : Addr → List PyData → Re PyData) (K : PySem.W.Frag) : Sp := fun vs H Q Ex => ∃ (a dx : Addr) (vs' : List V) (ds : List PyData) (S : Addr → Prop), vs = .ref a :: vs' ∧ H a = some (.ins (He.ga K c) dx []) ∧ H dx = some (.own a) ∧ RpA K H S vs' ds ∧ (∀ p, H p = none → S p) ∧ ¬ S a ∧ postI mg K c a dx H Q Ex (f dx ds)
/-- the fields that are left, as the object's data -/
def fin (c : Str) (dx : Addr) : PyData → Re PyData
  | .dict ((.bool false, .tuple [.str c', .int j]) :: kvs) => if c' = c ∧ j = ((dx : Nat) : Int) ∧ (kvs.all fun p => imm p.2) = true then .ok (.dict ((.bool false, .tuple [.str c, .none]) :: kvs)) else .bad
  | _ => .bad
def runI (c : Str) (n m : Nat) (s : Rho → Sr) (dx : Addr) (ds : List PyData) : Re PyData := if ds.length = n then (match s (some (slfD c dx [] []) :: (ds.map some ++ List.replicate (m - (n + 1)) none)) with
  | .nx ρ => (match ρ[0]? with | some (some d) => fin c dx d | _ => .bad)
  | .ex cc _ => .ex cc
  | _ => .bad) else .bad
end
end Pu

set_option Elab.async false
set_option linter.all false
set_option maxRecDepth 100000
set_option maxHeartbeats 4000000
/-! objects made: C(e, ..) -/
namespace Pu
open PySem PySem.Spec PyProof.Rows L2
section
variable {P : Program} {w : World} {K : PySem.W.Frag} {mg : Str → Option Value} {base : Heap} {x qual : Str} {params : Arguments} {body : List Stmt} {scope : Scope} {dvs : List V} {kws : List (Str × V)} {fA : Addr} {fd : FuncData}
theorem immAll_of : ∀ {ks : List PyData} {es : List PyData}, ks.length = es.length → ((ks.zip es).all fun p => imm p.2) = true → immAll es = true
  | [], [], _, _ => by rw [immAll]
  | k :: ks, e :: es, hl, h => by
    rw [List.zip_cons_cons, List.all_cons, Bool.and_eq_true] at h
    rw [immAll_cons, h.1, immAll_of (by simpa using hl) h.2]
    rfl
  | [], _ :: _, hl, _ => by cases hl
  | _ :: _, [], hl, _ => by cases hl
theorem init_ok {N ps : List Str} {k n : Nat} {c : Str} (Fd : FunD K x qual params body scope dvs kws fA fd) (S : FnScope N ps scope) (hn : ps.length = n + 1) (M : Nat → Bool) (h0 : M 0 = true) (hM : ∀ i, i < n → M (i + 1) = false) (s : Rho → Sr)
    (hb : ∀ (cdv : Value) (A : Around) (outer : List Env) (sh : Shared) (H : Hp) (Ex : XK), Gd (cxOf (L2.CX P w) P w K mg base N qual scope fA cdv A outer sh H Ex) (fun _ => Ex) k →
      ∀ F : Fx, DSs (cxOf (L2.CX P w) P w K mg base N qual scope fA cdv A outer sh H Ex) M F (fun _ => Ex) body s) :
    FnOk P w K mg base (L2.CX P w) (k + 1) fA fd ps (spI mg c (runI c n N.length s) K) := by
  refine Fd.ok S (fun vs H Q E h => ?_) fun cdv A outer sh H vs Q Ex hr h => ?_
  · obtain ⟨a, dx, vs', ds, Sx, ev, _, _, r, _, _, h⟩ := h
    unfold runI at h
    by_cases hl : ds.length = n
    · rw [ev, List.length_cons, r.length, hl, hn]
    · rw [if_neg hl] at h
      exact h.elim
  · obtain ⟨a, dx, vs', ds, Sx, ev, hA, hD, r, new, nS, h⟩ := h
    subst ev
    unfold runI at h
    by_cases hl : ds.length = n
    · rw [if_pos hl] at h
      have tk : Takes (cxOf (L2.CX P w) P w K mg base N qual scope fA cdv A outer sh H Ex) (fun cls d σ H => Ex cls d H) := takes_of rfl rfl rfl rfl
      have gd : Gd (cxOf (L2.CX P w) P w K mg base N qual scope fA cdv A outer sh H Ex) (fun _ => Ex) k := ⟨hr, fun σ => passAt tk σ, tk, passes_of rfl, rfl, rfl⟩
      obtain ⟨t, pt, ht⟩ := hb cdv A outer sh H Ex gd ⟨fun p => if p = a then none else H p, fun p => Sx p ∨ p = a⟩
      refine ⟨t, pt, ?_⟩
      have hNl : n + 1 ≤ N.length := by
        have := congrArg List.length S.pre
        rw [List.length_take] at this
        omega
      have r0 : ∀ i d, (ds.map some ++ List.replicate (N.length - (n + 1)) none : Rho)[i]? = some (some d) → i < n ∧ ds[i]? = some d := fun i d q => by
        by_cases hi : i < n
        · rw [List.getElem?_append_left (by rw [List.length_map, hl]; exact hi), List.getElem?_map] at q
          refine ⟨hi, ?_⟩
          cases e : ds[i]? with
          | none =>
            rw [e] at q
            cases q
          | some d' =>
            rw [e] at q
            cases q
            rfl
        · rw [List.getElem?_append_right (by rw [List.length_map, hl]; omega), List.getElem?_replicate] at q
          split at q <;> cases q
      generalize hρ : (some (slfD c dx [] []) :: (ds.map some ++ List.replicate (N.length - (n + 1)) none) : Rho) = ρ0 at h
      have g0 : ρ0[0]? = some (some (slfD c dx [] [])) := by
        rw [← hρ]
        rfl
      have g1 : ∀ i d, ρ0[i + 1]? = some (some d) → i < n ∧ ds[i]? = some d := fun i d q => by
        rw [← hρ, List.getElem?_cons_succ] at q
        exact r0 i d q
      have s0 : (L2.start N (.ref a :: vs'))[0]? = some (some (.ref a)) := start_get rfl
      have only : ∀ i d, ρ0[i]? = some (some d) → M i = true → i = 0 := fun i d q m => by
        cases i with
        | zero => rfl
        | succ i =>
          rw [hM i (g1 i d q).1] at m
          cases m
      have own : ∀ b, OwnA M (L2.start N (.ref a :: vs')) ρ0 b → b = a := fun b o => by
        obtain ⟨i, d, m, q, sq⟩ := o
        have := only i d q m
        subst this
        rw [s0] at sq
        cases sq
        rfl
      have er : ER K M ⟨fun p => if p = a then none else H p, fun p => Sx p ∨ p = a⟩ (L2.start N (.ref a :: vs')) H ρ0 := by
        refine ⟨?_, fun b u q => ?_, fun b q => .inl (new b q), fun i d q m => ?_, fun i d q m => ?_, fun i j d e p mi mj q1 q2 s1 s2 => ?_⟩
        · rw [← hρ]
          unfold L2.start
          rw [List.length_cons, List.length_append, List.length_append, List.length_map, List.length_map, List.length_replicate, List.length_replicate, List.length_cons, r.length, hl]
          omega
        · have q : (if b = a then none else H b) = some u := q
          by_cases cb : b = a
          · rw [if_pos cb] at q
            cases q
          · rw [if_neg cb] at q
            exact q
        · cases i with
          | zero =>
            rw [h0] at m
            cases m
          | succ i =>
            obtain ⟨hi, e⟩ := g1 i d q
            obtain ⟨v, hv, rv⟩ := r.get' e
            exact ⟨v, start_get (by rw [List.getElem?_cons_succ]; exact hv), rv.wide fun b xb => ⟨.inl xb, fun _ o => nS (own b o ▸ xb)⟩⟩
        · have := only i d q m
          subst this
          rw [g0] at q
          cases q
          exact ⟨a, s0, ⟨if_pos rfl, .inr rfl⟩, .dit (ks := []) (xs := []) (ds := []) ⟨hA, hD⟩ rfl .nil⟩
        · rw [only i d q1 mi, only j e q2 mj]
      have ndx : ¬ OwnA M (L2.start N (.ref a :: vs')) ρ0 dx := fun o => by
        rw [own dx o, hA] at hD
        cases hD
      have frame : ∀ {σ' H' ρ'}, Evo M (L2.start N (.ref a :: vs')) H ρ0 σ' H' ρ' → ∀ p u, p ≠ a → H p = some u → H' p = some u := fun ev p u np hp => (ev p u hp fun o => np (own p o)).1
      refine ht _ H _ er _ ?_
      cases q : s ρ0 with
      | nx ρ' =>
        rw [q] at h
        have h : postI mg K c a dx H Q Ex (match ρ'[0]? with | some (some d) => fin c dx d | _ => .bad) := h
        intro σ' H' er' ev
        cases q0 : ρ'[0]? with
        | none =>
          rw [q0] at h
          exact h.elim
        | some o =>
          cases o with
          | none =>
            rw [q0] at h
            exact h.elim
          | some d =>
            rw [q0] at h
            obtain ⟨p, hp, z, wo⟩ := er'.ow 0 d q0 h0
            cases wo with
            | lst e r2 => exact h.elim
            | dic e l r2 => exact h.elim
            | @dit dx' c' ks xs es e l r2 =>
              have ef : fin c dx (.dict ((.bool false, .tuple [.str c', .int (dx' : Nat)]) :: (ks.map PyData.str).zip es)) = if c' = c ∧ ((dx' : Nat) : Int) = ((dx : Nat) : Int) ∧ (((ks.map PyData.str).zip es).all fun p => imm p.2) = true then .ok (.dict ((.bool false, .tuple [.str c, .none]) :: (ks.map PyData.str).zip es)) else .bad := by
                rfl
              have h : postI mg K c a dx H Q Ex (fin c dx (.dict ((.bool false, .tuple [.str c', .int (dx' : Nat)]) :: (ks.map PyData.str).zip es))) := h
              rw [ef] at h
              by_cases cc : c' = c ∧ ((dx' : Nat) : Int) = ((dx : Nat) : Int) ∧ (((ks.map PyData.str).zip es).all fun p => imm p.2) = true
              · rw [if_pos cc] at h
                obtain ⟨c1, c2, c3⟩ := cc
                have c2 : dx' = dx := Int.ofNat.inj c2
                subst c1 c2
                have hd2 := (ev dx' _ hD ndx).1
                have e2 := e.2
                rw [hd2] at e2
                cases e2
                have im := immAll_of (by rw [List.length_map, l, r2.length]) c3
                exact h H' ks xs es rfl e.1 l (fun S' => r2.noAddr im) (frame ev)
              · rw [if_neg cc] at h
                exact h.elim
      | rt d =>
        rw [q] at h
        exact h.elim
      | ex cc ρ' =>
        rw [q] at h
        exact fun C σ' H' m er' ev => h C H' m (frame ev)
      | bk ρ' =>
        rw [q] at h
        exact h.elim
      | ct ρ' =>
        rw [q] at h
        exact h.elim
      | bad =>
        rw [q] at h
        exact h.elim
    · rw [if_neg hl] at h
      exact h.elim
end
/-- the class c makes objects: its __init__ -/
structure HasI (P : Program) (w : World) (K : PySem.W.Frag) (mg : Str → Option Value) (base : Heap) (k : Nat) (c : Str) (ps : List Str) (f : Addr → List PyData → Re PyData) : Prop where
  gC : mg c = some (.ref (He.ga K c))
  ex : ∃ (fA : Addr) (fd : FuncData), FnOk P w K mg base (L2.CX P w) k fA fd ps (spI mg c f K) ∧ Mk K (He.ga K c) fA ∧ Binds K fd ps []
open Classical in
noncomputable def mkI (f : Addr → List PyData → Re PyData) (ds : List PyData) : Re PyData := if ∀ dx, f dx ds = f 0 ds then f 0 ds else .bad
theorem mkI_of {f : Addr → List PyData → Re PyData} {ds : List PyData} {r : Re PyData} (h : ∀ dx, f dx ds = r) : mkI f ds = r := by
  unfold mkI
  rw [if_pos fun dx => (h dx).trans (h 0).symm, h 0]
section
variable {X : Cx} {M : Nat → Bool} {F : Fx} {Ex : XK} {la fa : Bool} {a : Expr} {pos : Pos}
theorem de_make {c : Str} {k : Nat} {ps : List Str} {ff : Addr → List PyData → Re PyData} {es : List Expr} {gs : Rho → Re (List PyData)} {p : Pos} (h : HasI X.prog X.w X.K X.mg X.base k c ps ff) (hr : Room (k + 1) X.A) (hx : Passes (L2.CX X.prog X.w) X Ex) (ha : DA X M F (fun _ => Ex) la (a :: es) gs)
    (hg : Gl X c := by rfl) (hdb : (c == ("__debug__" : Str)) = false := by decide) (he : starEach (a :: es) X.env = (false, eval a X.env) :: starEach es X.env := by rfl) (hpl : (backTo pos (starEach es X.env)).any (·.1) = false := by rfl) :
    DE X M F (fun _ => Ex) la false (.Call (.Name c p) (a :: es) [] pos) (rCall (mkI ff) gs) := by
  obtain ⟨t, pa, ha⟩ := ha
  obtain ⟨fA, fd, G, hm, bb⟩ := h.ex
  refine ⟨_, pe_make (dvs := []) (ds := []) (E := Ex) hm G hr hg h.gC bb .nil hx pa hdb he hpl, fun σ H ρ er Q z => ?_⟩
  refine ha σ H ρ er _ (we_stepA z fun ds vs H1 _ s r1 z1 => ?_)
  intro x dx nx ndx ne
  have er1 := er.same s
  have keep : ∀ b u, H1 b = some u → upd (upd H1 dx (.own x)) x (.ins (He.ga X.K c) dx []) b = some u := fun b u hb => by
    have b1 : b ≠ x := fun q => by
      rw [q, nx] at hb
      cases hb
    have b2 : b ≠ dx := fun q => by
      rw [q, ndx] at hb
      cases hb
    rw [upd_ne b1, upd_ne b2]
    exact hb
  refine ⟨x, dx, vs, ds, fun p => RS M F σ ρ la p ∧ p ≠ x, by rw [List.append_nil], upd_same, by rw [upd_ne ne, upd_same], ?_, fun p hp => ?_, fun q => q.2 rfl, ?_⟩
  · refine r1.thru.keep (fun b u hb _ => keep b u hb) fun b u sb hb => ⟨sb.1, fun q => sb.2 (by rw [q]; exact nx)⟩
  · by_cases c1 : p = x
    · rw [c1, upd_same] at hp
      cases hp
    · by_cases c2 : p = dx
      · rw [c2, upd_ne ne, upd_same] at hp
        cases hp
      · rw [upd_ne c1, upd_ne c2] at hp
        exact ⟨er1.freshS p hp, c1⟩
  · have z1 : WE X M F (fun _ => Ex) la false σ ρ H1 (mkI ff ds) Q := z1
    by_cases un : ∀ dx, ff dx ds = ff 0 ds
    · have em : mkI ff ds = ff 0 ds := by
        unfold mkI
        rw [if_pos un]
      rw [em] at z1
      rw [un dx]
      have same : ∀ H', (∀ p u, p ≠ x → upd (upd H1 dx (.own x)) x (.ins (He.ga X.K c) dx []) p = some u → H' p = some u) → Same H1 H' := fun H' fr b u hb => fr b u (fun q => by rw [q, nx] at hb; cases hb) (keep b u hb)
      cases q : ff 0 ds with
      | ok d =>
        rw [q] at z1
        intro H' ks xs es ed hA hl rs fr
        refine ⟨rfl, z1 (.ref x) H' (same H' fr) ?_ fun w => nomatch w⟩
        rw [ed]
        exact .dit hA (er1.freshS x nx) hl (rs _)
      | ex cc =>
        rw [q] at z1
        intro C H' hmg fr
        exact z1 C H' hmg (same H' fr)
      | bad =>
        rw [q] at z1
        exact z1.elim
    · have em : mkI ff ds = .bad := by
        unfold mkI
        rw [if_neg un]
      rw [em] at z1
      exact z1.elim
end
end Pu

set_option Elab.async false
set_option linter.all false
set_option maxRecDepth 100000
set_option maxHeartbeats 4000000
/-! o.m() -/
namespace Pu
open PySem PySem.Spec PyProof.Rows L2
section
variable {X : Cx} {M : Nat → Bool} {F : Fx} {E : L2.St → XK} {la fa : Bool} {e : Expr} {pos : Pos}
def rMth0 (c m : Str) (ff : List PyData → Re PyData) (g : Rho → Re PyData) : Rho → Re PyData := rMth c m ff g fun _ => .ok []
theorem de_meth0 {c m : Str} {k : Nat} {ps : List Str} {ff : List PyData → Re PyData} {g : Rho → Re PyData} {p1 : Pos} {pl : Sem Bool} (h : HasM X.prog X.w X.K X.mg X.base k c m ps ff) (hr : Room k X.A) (ho : DE X M F E la fa e g)
    (hev : eval (.Call (.Attribute e m p1) [] [] pos) X.env = (do
      let ov ← eval e X.env
      standAt p1.atName
      let __x ← holding [ov] (getMethod ov m pl)
      match __x with
        | (f, first) => callWith pos f first (backTo pos (starEach [] X.env)) (backToKw pos (keywordEach [] X.env))) := by rfl) :
    DE X M F E la false (.Call (.Attribute e m p1) [] [] pos) (rMth0 c m ff g) := by
  obtain ⟨ta, pa, ho⟩ := ho
  obtain ⟨fA, fd, G, hm, bb⟩ := h.ex
  refine ⟨_, pe_meth0 (dvs := []) (ds := []) (E := fun _ _ _ => False) pa h.cl hm G hr bb .nil passM hev, fun σ H ρ er Q z => ?_⟩
  refine ho σ H ρ er _ (we_step z fun d v H1 _ s r1 _ z1 => ?_)
  cases q : objF c d with
  | none =>
    rw [q] at z1
    exact z1.elim
  | some kvs =>
    rw [q] at z1
    obtain ⟨ad, dx, ks, xs, ds, ev, h1, hl, rs, ek⟩ := obj_of r1 q
    subst ek
    have z1 : WE X M F E la false σ ρ H1 (if fldO ((ks.map PyData.str).zip ds) m = none then noEx (ff [d]) else .bad) Q := z1
    cases q2 : fldO ((ks.map PyData.str).zip ds) m with
    | some y =>
      rw [q2, if_neg (by simp)] at z1
      exact z1.elim
    | none =>
      rw [q2, if_pos rfl] at z1
      refine ⟨ad, dx, _, ev, h1, fld_none hl rs q2, ?_⟩
      refine ⟨[d], RS M F σ ρ la, .cons r1 .nil, (er.same s).freshS, ?_⟩
      cases q3 : ff [d] with
      | ok y =>
        rw [q3] at z1
        exact fun v' H' s' r' => z1 v' H' s' r' fun w => nomatch w
      | ex cc =>
        rw [q3] at z1
        exact z1.elim
      | bad =>
        rw [q3] at z1
        exact z1.elim
end
/-! ### what the head tells of a class -/
def clsB : Stmt → List Stmt
  | .ClassDef _ _ _ b _ _ _ _ _ _ _ => b
  | _ => []
def FnM (K : PySem.W.Frag) (c m q : Str) (st : Stmt) : Prop := Cls K (He.ga K c) ∧ ∃ (fA : Addr) (fd : FuncData), FunD K m q (defArgs st) (defBody st) (defScope st) [] [] fA fd ∧ Meth K (He.ga K c) m fA
def FnI (K : PySem.W.Frag) (mg : Str → Option Value) (c q : Str) (st : Stmt) : Prop := mg c = some (.ref (He.ga K c)) ∧ ∃ (fA : Addr) (fd : FuncData), FunD K "__init__" q (defArgs st) (defBody st) (defScope st) [] [] fA fd ∧ Mk K (He.ga K c) fA
section
variable {P : Program} {w : World} {K : PySem.W.Frag} {mg : Str → Option Value} {base : Heap}
theorem hasM_of {c m q : Str} {st : Stmt} {N ps : List Str} {k : Nat} (h : FnM K c m q st) (S : FnScope N ps (defScope st)) (M : Nat → Bool) (hM : ∀ i, i < ps.length → M i = false) (s : Rho → Sr)
    (hbn : ∀ (kV doc pm : Value) (an : Option Addr) (cdv ct : Value) (us : List Value), us.length = ps.length → bindArgs (PySem.W.fnOf m q (defArgs st) (defBody st) (defScope st) .none kV doc pm an cdv ct) ⟨us, []⟩ = pure (ps.zip us))
    (hb : ∀ (fA : Addr) (cdv : Value) (A : Around) (outer : List Env) (sh : Shared) (H : Hp) (Ex : XK), Gd (cxOf (L2.CX P w) P w K mg base N q (defScope st) fA cdv A outer sh H Ex) (fun _ => Ex) k →
      ∀ F : Fx, DSs (cxOf (L2.CX P w) P w K mg base N q (defScope st) fA cdv A outer sh H Ex) M F (fun _ => Ex) (defBody st) s) :
    HasM P w K mg base (k + 1) c m ps (runF ps.length N.length s) := by
  obtain ⟨hc, fA, fd, Fd, hm⟩ := h
  exact ⟨hc, fA, fd, def_ok Fd S M hM s fun cdv A outer sh H Ex G F => hb fA cdv A outer sh H Ex G F, hm, Fd.bindsN hbn⟩
theorem hasI_of {c q : Str} {st : Stmt} {N ps : List Str} {k n : Nat} (h : FnI K mg c q st) (S : FnScope N ps (defScope st)) (hn : ps.length = n + 1) (M : Nat → Bool) (h0 : M 0 = true) (hM : ∀ i, i < n → M (i + 1) = false) (s : Rho → Sr)
    (hbn : ∀ (kV doc pm : Value) (an : Option Addr) (cdv ct : Value) (us : List Value), us.length = ps.length → bindArgs (PySem.W.fnOf "__init__" q (defArgs st) (defBody st) (defScope st) .none kV doc pm an cdv ct) ⟨us, []⟩ = pure (ps.zip us))
    (hb : ∀ (fA : Addr) (cdv : Value) (A : Around) (outer : List Env) (sh : Shared) (H : Hp) (Ex : XK), Gd (cxOf (L2.CX P w) P w K mg base N q (defScope st) fA cdv A outer sh H Ex) (fun _ => Ex) k →
      ∀ F : Fx, DSs (cxOf (L2.CX P w) P w K mg base N q (defScope st) fA cdv A outer sh H Ex) M F (fun _ => Ex) (defBody st) s) :
    HasI P w K mg base (k + 1) c ps (runI c n N.length s) := by
  obtain ⟨hc, fA, fd, Fd, hm⟩ := h
  exact ⟨hc, fA, fd, init_ok Fd S hn M h0 hM s fun cdv A outer sh H Ex G F => hb fA cdv A outer sh H Ex G F, hm, Fd.bindsN hbn⟩
theorem fnM_of {c m q : Str} {st : Stmt} {fa : List He.Fa} {fx : List Fx2} {fn : List He.DefD} (cc : SaysP fa fx fn K) (i j l : Nat)
    (hd : fn[i]? = some ⟨(c, some m), m, q, defArgs st, defBody st, defScope st, [], []⟩ := by rfl) (hg : fa[j]? = some (.cls c) := by rfl) (hm : fa[l]? = some (.meth c m) := by rfl) : FnM K c m q st := by
  obtain ⟨fd, Fd⟩ := cc.d.def_ i hd
  exact ⟨He.cls_ok (cc.d.fact j hg), _, fd, Fd, He.meth_ok (cc.d.fact l hm)⟩
theorem fnI_of {h : Heap} {c q : Str} {st : Stmt} {fa : List He.Fa} {fx : List Fx2} {fn : List He.DefD} (X : K.In h) (G : h.Ns mainGlobals mg) (cc : SaysP fa fx fn K) (i j l : Nat)
    (hd : fn[i]? = some ⟨(c, some "__init__"), "__init__", q, defArgs st, defBody st, defScope st, [], []⟩ := by rfl) (hg : fa[j]? = some (.glo c) := by rfl) (hm : fa[l]? = some (.mkr c) := by rfl) : FnI K mg c q st := by
  obtain ⟨fd, Fd⟩ := cc.d.def_ i hd
  exact ⟨He.glo_ok X G (cc.d.fact j hg), _, fd, Fd, He.mkr_ok (cc.d.fact l hm)⟩
end
end Pu

set_option Elab.async false
set_option linter.all false
set_option maxRecDepth 100000
set_option maxHeartbeats 4000000
/-! [x] * n; an object made inside of try -/
namespace Pu
open PySem PySem.Spec PyProof.Rows L2
theorem rpA_rep {K : PySem.W.Frag} {H : Hp} {S : Addr → Prop} {xs : List V} {ds : List PyData} (r : RpA K H S xs ds) : ∀ n : Nat, RpA K H S (List.replicate n xs).flatten (List.replicate n ds).flatten
  | 0 => .nil
  | n + 1 => by
    rw [List.replicate_succ, List.replicate_succ, List.flatten_cons, List.flatten_cons]
    exact r.append (rpA_rep r n)
def oRepL : PyData → PyData → Option PyData := fun d e => match d, e with
  | .list ds, .int k => if okLen (ds.length * k.toNat) = true ∧ -2 ^ 63 ≤ k ∧ k < 2 ^ 63 then some (.list (List.replicate k.toNat ds).flatten) else none
  | _, _ => none
theorem s_repL {K : PySem.W.Frag} : SemB K rRep true oRepL := fun S H x y d e z Q new rx ry q k => by
  unfold oRepL at q
  split at q
  · obtain ⟨hl, rfl⟩ := if_some q
    cases rx with
    | lst h1 s1 r1 =>
      cases ry with
      | int j =>
        refine ⟨_, _, _, rfl, rfl, h1, hl.2.1, hl.2.2, by rw [r1.length]; exact okLen_le hl.1, fun p hp => ?_⟩
        exact k _ _ (same_new hp) (.lst upd_same (new p hp) ((rpA_rep r1 _).same (same_new hp))) fun _ => frs_lst hp (rpA_rep r1 _)
  · cases q
section
variable {X : Cx} {M : Nat → Bool} {E : L2.St → XK} {la : Bool} {s u : Rho → Sr} {pos : Pos}
def canA (X : Cx) (M : Nat → Bool) (E : L2.St → XK) (la : Bool) (f : Rho → Re (List PyData)) : TA := fun σ H Q => ∃ (F : Fx) (ρ : Rho), ER X.K M F σ H ρ ∧ WA X M F E la σ ρ H (f ρ) Q
theorem canA_ok {es : List Expr} {f : Rho → Re (List PyData)} (h : ∀ F, DA X M F E la es f) : PA X es (canA X M E la f) := ⟨fun pos pins sh σ H Q I ⟨F, ρ, er, w⟩ => by
  obtain ⟨t, pt, h⟩ := h F
  exact pt.run pos pins sh σ H Q I (h σ H ρ er Q w)⟩
/-- try: return C(e, ..); except c as n: suite, the suite reads n alone -/
noncomputable def sTryMk (c : Str) (i m : Nat) (ff : Addr → List PyData → Re PyData) (gs : Rho → Re (List PyData)) (u : Rho → Sr) : Rho → Sr := fun ρ => match gs ρ with
  | .ok ds => (match mkI ff ds with
    | .ok d => .rt d
    | .ex c' => if c' = c ∧ i < m then (match u (List.replicate m none) with | .rt d => .rt d | _ => .bad) else .bad
    | .bad => .bad)
  | _ => .bad
theorem ds_tryMk {F : Fx} {c n cl : Str} {C : Addr} {i m : Nat} {suite : List Stmt} {b0 : Stmt} {np pos' pos2 pos3 p : Pos} {k : Nat} {ps : List Str} {ff : Addr → List PyData → Re PyData} {a : Expr} {es : List Expr} {gs : Rho → Re (List PyData)}
    (G : Gd X E (k + 1)) (Ec : ErrC X.K X.mg c C) (hn : Gl X c ∧ (c == ("__debug__" : Str)) = false) (mi : M i = false) (hN : X.N.Nodup) (hI : HasI X.prog X.w X.K X.mg X.base k cl ps ff)
    (ha : ∀ (W : WX) (pn : List (Addr × Obj)) (xe : Value → Shared → Prop), Gd (X.tr pn xe) (fun σ cls d H => W cls d σ H) (k + 1) → ∀ F, DA (X.tr pn xe) M F (fun σ cls d H => W cls d σ H) la (a :: es) gs)
    (hs : ∀ (a : Addr) (oe : Obj) (pn : List (Addr × Obj)) (F : Fx), Zc (.ref C) none oe → (∃ vs, oe.data = .fields vs) → DSE (X.suite a ((a, oe) :: pn)) M F E0s i a (b0 :: suite) u)
    (hi : X.N[i]? = some n := by rfl) (hln : X.env.kindOf n = some .local := by rfl) (hNm : X.N.length = m := by rfl)
    (hg : ∀ pn xe, Gl (X.tr pn xe) cl := by intro _ _; rfl) (hdb : (cl == ("__debug__" : Str)) = false := by decide) (he : ∀ pn xe, starEach (a :: es) (X.tr pn xe).env = (false, eval a (X.tr pn xe).env) :: starEach es (X.tr pn xe).env := by intro _ _; rfl) (hpl : ∀ pn xe, (backTo pos2 (starEach es (X.tr pn xe).env)).any (·.1) = false := by intro _ _; rfl) :
    DS X M F E (.Try [.Return (some (.Call (.Name cl p) (a :: es) [] pos2)) pos3] [.ExceptHandler (some (.Name c np)) (some n) (b0 :: suite) pos'] [] [] pos) (sTryMk c i m ff gs u) := by
  obtain ⟨fA, fd, Fo, hm, bb⟩ := hI.ex
  refine ⟨_, ps_try_as (tb := fun W => tRet (tMake (He.ga X.K cl) (spI X.mg cl ff X.K) [] (fun cls d H' => ∀ σ, σ.length = X.N.length → W cls d σ H') (canA X M (fun σ cls d H => W cls d σ H) la gs))) (ts := fun a cls d D σ H => (cls = .ref C ∧ d = none) ∧ canSE X M E0s i a u D σ H) G.stk G.frm hN hi hln ⟨hn.1, hn.2, .inl Ec.gC⟩ G.tk
    (fun W pn xe tk po => pss_one (ps_ret ?_)) (fun a oe cls d pn hz hf => ⟨fun pins sh σ H D I ⟨⟨e1, e2⟩, q⟩ => ?_⟩), fun σ H ρ er D w => ?_⟩
  · have gd : Gd (X.tr pn xe) (fun σ cls d H => W cls d σ H) (k + 1) := ⟨G.room, fun σ => passAt tk σ, tk, po, G.stk, G.frm⟩
    refine pe_make (X := X.tr pn xe) (dvs := []) (ds := []) hm Fo gd.room (hg pn xe) hI.gC bb .nil ?_ (canA_ok fun F => ha W pn xe gd F) hdb (he pn xe) (hpl pn xe)
    intro pins σ H s e s' I cx
    refine gd.pass σ pins H s e s' I ?_
    obtain ⟨x1, x2, x3, x4, x5, y1, y2, y3, y4, y5, y6, y7, z⟩ := cx
    exact ⟨x1, x2, x3, x4, x5, y1, y2, y3, y4, y5, y6, y7, z σ I.len⟩
  · subst e1 e2
    exact (canSE_ok (fun F => hs a oe pn F hz hf)).run pins sh σ H D I q
  · unfold sTryMk at w
    cases q : gs ρ with
    | ex cc =>
      rw [q] at w
      exact w.elim
    | bad =>
      rw [q] at w
      exact w.elim
    | ok ds =>
      rw [q] at w
      have w : WS X M F E σ H ρ (match mkI ff ds with
        | .ok d => .rt d
        | .ex c' => if c' = c ∧ i < m then (match u (List.replicate m none) with | .rt d => .rt d | _ => .bad) else .bad
        | .bad => .bad) D := w
      refine ⟨F, ρ, er, ?_⟩
      rw [q]
      intro vs H1 s1 r1 x dx nx ndx ne
      have er1 := er.same s1
      have keep : ∀ b u, H1 b = some u → upd (upd H1 dx (.own x)) x (.ins (He.ga X.K cl) dx []) b = some u := fun b u hb => by
        have b1 : b ≠ x := fun q => by
          rw [q, nx] at hb
          cases hb
        have b2 : b ≠ dx := fun q => by
          rw [q, ndx] at hb
          cases hb
        rw [upd_ne b1, upd_ne b2]
        exact hb
      have same : ∀ H', (∀ p u, p ≠ x → upd (upd H1 dx (.own x)) x (.ins (He.ga X.K cl) dx []) p = some u → H' p = some u) → Same H1 H' := fun H' fr b u hb => fr b u (fun q => by rw [q, nx] at hb; cases hb) (keep b u hb)
      refine ⟨x, dx, vs, ds, fun p => RS M F σ ρ la p ∧ p ≠ x, by rw [List.append_nil], upd_same, by rw [upd_ne ne, upd_same], ?_, fun p hp => ?_, fun q => q.2 rfl, ?_⟩
      · refine r1.thru.keep (fun b u hb _ => keep b u hb) fun b u sb hb => ⟨sb.1, fun q => sb.2 (by rw [q]; exact nx)⟩
      · by_cases c1 : p = x
        · rw [c1, upd_same] at hp
          cases hp
        · by_cases c2 : p = dx
          · rw [c2, upd_ne ne, upd_same] at hp
            cases hp
          · rw [upd_ne c1, upd_ne c2] at hp
            exact ⟨er1.freshS p hp, c1⟩
      · by_cases un : ∀ dx, ff dx ds = ff 0 ds
        · have em : mkI ff ds = ff 0 ds := by
            unfold mkI
            rw [if_pos un]
          rw [em] at w
          rw [un dx]
          cases q2 : ff 0 ds with
          | ok d =>
            rw [q2] at w
            intro H' ks xs es ed hA hl rs fr
            refine ⟨rfl, w (.ref x) H' (er1.old.trans (same H' fr)) ?_⟩
            rw [ed]
            exact .dit hA (er1.new x nx) hl (rs _)
          | ex cc =>
            rw [q2] at w
            have w5 : WS X M F E σ H ρ (if cc = c ∧ i < m then (match u (List.replicate m none) with | .rt d => .rt d | _ => .bad) else .bad) D := w
            clear w
            by_cases hc : cc = c ∧ i < m
            · rw [if_pos hc] at w5
              obtain ⟨hc, hl2⟩ := hc
              subst hc
              intro C' H' hmg fr σ' hσ
              rw [Ec.gC] at hmg
              cases hmg
              have lσ : σ'.length = m := hσ.trans hNm
              refine ⟨true, Ec.eP, fun _ a ha => ?_, fun z => nomatch z⟩
              have sm := er1.old.trans (same H' fr)
              have er2 : ER X.K M F (σ'.set i (some (.ref a))) H' (List.replicate m none) := by
                refine ⟨?_, sm, fun b hb => er1.new b ?_, fun j d qq _ => ?_, fun j d qq _ => ?_, fun j k d e p _ _ q1 _ _ _ => ?_⟩
                · rw [List.length_set, List.length_replicate, lσ]
                · cases qb : H1 b with
                  | none => rfl
                  | some u =>
                    rw [same H' fr b u qb] at hb
                    cases hb
                · rw [List.getElem?_replicate] at qq
                  split at qq <;> cases qq
                · rw [List.getElem?_replicate] at qq
                  split at qq <;> cases qq
                · rw [List.getElem?_replicate] at q1
                  split at q1 <;> cases q1
              refine ⟨⟨rfl, rfl⟩, F, _, er2, List.getElem?_set_self (by rw [lσ]; exact hl2), ?_⟩
              revert w5
              generalize u (List.replicate m none) = r
              intro w5
              cases r with
              | rt d => exact w5
              | ex c2 ρ2 => exact w5.elim
              | nx ρ2 => exact w5.elim
              | bk ρ2 => exact w5.elim
              | ct ρ2 => exact w5.elim
              | bad => exact w5.elim
            · rw [if_neg hc] at w5
              exact w5.elim
          | bad =>
            rw [q2] at w
            exact w.elim
        · have em : mkI ff ds = .bad := by
            unfold mkI
            rw [if_neg un]
          rw [em] at w
          exact w.elim
end
end Pu

set_option Elab.async false
set_option linter.all false
set_option maxRecDepth 100000
set_option maxHeartbeats 4000000
/-! defs that call themselves (a block of nothing promised); x = y.pop(), x = y.pop(e); x.extend(list); list(range(..)) -/
namespace Pu
open PySem PySem.Spec PyProof.Rows L2
section
variable {X : Cx} {M : Nat → Bool} {F : Fx} {E : L2.St → XK} {σ σ1 : L2.St} {ρ ρ1 : Rho} {H H' H1 : Hp} {D : Ends}
variable {la fa lb fb : Bool} {a b : Expr} {f g : Rho → Re PyData} {pos : Pos}
theorem dss_bad {b : List Stmt} : DSs X M F E b sBad := ⟨fun _ _ _ => False, ⟨fun _ _ _ _ _ _ h => h.elim⟩, fun _ _ _ _ _ w => w.elim⟩
/-! ### x = y.pop() -/
def sSetPop0 (i j : Nat) : Rho → Sr := fun ρ => match getL ρ j with
  | some es => (match es.getLast? with
    | some y => if i ≠ j then .nx ((ρ.set j (some (.list es.dropLast))).set i (some y)) else .bad
    | none => .bad)
  | none => .bad
theorem ds_setPop0 {i j : Nat} {x y : Str} {p0 q1 q2 q3 : Pos} (m : M i = false) (mj : M j = true) (hNd : X.N.Nodup) (hi : X.N[i]? = some x := by rfl) (hx : Loc X.env.scope x := by first | exact Or.inl rfl | exact Or.inr rfl)
    (hNy : X.N[j]? = some y := by rfl) (hvy : Vis X.env.scope y := by first | exact Or.inl rfl | exact Or.inr (Or.inl rfl) | exact Or.inr (Or.inr rfl)) (hdy : (y == ("__debug__" : Str)) = false := by decide) (hcdy : (y == ("__classdict__" : Str)) = false := by decide)
    (hbase2 : attributeBase (.Name y q1) "pop" X.env (eval (.Name y q1) X.env) = eval (.Name y q1) X.env := by rfl) (hline2 : (q2.endLine == q3.line) = true := by rfl)
    (hs : swapsWith (.Call (.Attribute (.Name y q1) "pop" q2) [] [] q3) (some (.Name x p0)) pos.line X.env = pure false := by rfl) (hw : swappedStores [.Name x p0] (.Call (.Attribute (.Name y q1) "pop" q2) [] [] q3) X.env = pure none := by rfl)
    (hf : X.fn x = true ∨ X.env.scope.names.lookup x = some .local := by first | exact .inl rfl | exact .inr rfl) :
    DS X M F E (.Assign [.Name x p0] (.Call (.Attribute (.Name y q1) "pop" q2) [] [] q3) pos) (sSetPop0 i j) := by
  refine ⟨_, ps_asg (pe_bm0 PySem.F.plainAttrs_list PySem.F.slot_list_pop PySem.F.type_list_pop mt_pop (pe_var hNy hvy hdy hcdy) hbase2 hline2) (pg_name hNd hi hx hf) hs hw, fun σ H ρ er1 D w1 => ?_⟩
  unfold sSetPop0 at w1
  cases hl2 : getL ρ j with
  | none =>
    rw [hl2] at w1
    exact w1.elim
  | some es =>
    rw [hl2] at w1
    obtain ⟨qq, ys, hs2, hy, ry⟩ := er1.lst mj hl2
    cases hg : es.getLast? with
    | none =>
      simp only [hg] at w1
      exact w1.elim
    | some yd =>
      simp only [hg] at w1
      by_cases hij : i ≠ j
      · rw [if_pos hij] at w1
        have hel : es[es.length - 1]? = some yd := by rw [← List.getLast?_eq_getElem?]; exact hg
        obtain ⟨yv, hyv, ryv⟩ := ry.get' hel
        rw [← ry.length] at hyv
        obtain ⟨er2, ev2⟩ := er1.putL mj hl2 hs2 hy ry.dropLast
        refine ⟨.ref qq, hs2, sq_l hy, qq, ys, yv, rfl, rfl, hy, hyv, ?_⟩
        have ryv2 := ryv.keep (Evo.kp er1 ev2) fun a u x q => Evo.rs ev2 a u x q
        exact w1 _ _ (er2.set m ryv2) (ev2.trans fun a u q n => ⟨q, fun o => n ((own_set m).mp o)⟩)
      · rw [if_neg hij] at w1
        exact w1.elim
/-! ### x = y.pop(e) -/
def sSetPop (i j : Nat) (f : Rho → Re PyData) : Rho → Sr := fun ρ => match getL ρ j with
  | some _ => (f ρ).st ρ fun d => match popAt ρ j d with
    | some (y, es') => if i ≠ j then .nx ((ρ.set j (some (.list es'))).set i (some y)) else .bad
    | none => .bad
  | none => .bad
theorem ds_setPop {i j : Nat} {x y : Str} {p0 q1 q2 q3 : Pos} (m : M i = false) (mj : M j = true) (hNd : X.N.Nodup) (h : DE X M F E la fa a f) (hi : X.N[i]? = some x := by rfl) (hx : Loc X.env.scope x := by first | exact Or.inl rfl | exact Or.inr rfl)
    (hNy : X.N[j]? = some y := by rfl) (hvy : Vis X.env.scope y := by first | exact Or.inl rfl | exact Or.inr (Or.inl rfl) | exact Or.inr (Or.inr rfl)) (hdy : (y == ("__debug__" : Str)) = false := by decide) (hcdy : (y == ("__classdict__" : Str)) = false := by decide)
    (hbase2 : attributeBase (.Name y q1) "pop" X.env (eval (.Name y q1) X.env) = eval (.Name y q1) X.env := by rfl)
    (hfew2 : ((backTo q3 (starEach (a :: []) X.env)).all (fun x => !x.1) && (backToKw q3 (keywordEach [] X.env)).all (fun x => x.1.isSome)
      && decide ((a :: ([] : List Expr)).length + ([] : List Keyword).length + (if ([] : List Keyword).isEmpty then 0 else 1) < 30)) = true := by rfl)
    (hline2 : (q2.endLine == q3.line) = true := by rfl) (hst2 : starEach (a :: []) X.env = (false, eval a X.env) :: starEach [] X.env := by rfl) (hplain2 : (backTo q3 (starEach [] X.env)).any (·.1) = false := by rfl)
    (hs : swapsWith (.Call (.Attribute (.Name y q1) "pop" q2) [a] [] q3) (some (.Name x p0)) pos.line X.env = pure false := by rfl) (hw : swappedStores [.Name x p0] (.Call (.Attribute (.Name y q1) "pop" q2) [a] [] q3) X.env = pure none := by rfl)
    (hf : X.fn x = true ∨ X.env.scope.names.lookup x = some .local := by first | exact .inl rfl | exact .inr rfl) :
    DS X M F E (.Assign [.Name x p0] (.Call (.Attribute (.Name y q1) "pop" q2) [a] [] q3) pos) (sSetPop i j f) := by
  obtain ⟨t, pa, h⟩ := h
  refine ⟨_, ps_asg (pe_bm PySem.F.plainAttrs_list PySem.F.slot_list_pop PySem.F.type_list_pop mt_popAt (pe_var hNy hvy hdy hcdy) (pa_cons pa pa_nil hst2) hbase2 hfew2 hline2 hst2 hplain2) (pg_name hNd hi hx hf) hs hw, fun σ H ρ er D w => ?_⟩
  unfold sSetPop at w
  cases hl2 : getL ρ j with
  | none =>
    rw [hl2] at w
    exact w.elim
  | some es =>
    rw [hl2] at w
    obtain ⟨qq, ys, hs2, hy, ry⟩ := er.lst mj hl2
    refine ⟨.ref qq, hs2, sq_l hy, h σ H ρ er _ (ws_step er w fun d v H1 e sm r _ w1 => ?_)⟩
    cases hp : popAt ρ j d with
    | none =>
      rw [hp] at w1
      exact w1.elim
    | some z =>
      obtain ⟨y0, es'⟩ := z
      rw [hp] at w1
      have w1 : WS X M F E σ H1 ρ (if i ≠ j then .nx ((ρ.set j (some (.list es'))).set i (some y0)) else .bad) D := w1
      by_cases hij : i ≠ j
      · rw [if_pos hij] at w1
        obtain ⟨es2, n, k, g1, rfl, g2, g3, g4, rfl⟩ := popAt_some hp
        rw [hl2] at g1
        cases g1
        cases r
        have er1 := er.same sm
        refine rpop_ok (X := X) (j := j) (sm _ _ hy) (ry.same sm) g2 g3 g4 fun v rv hv' => ?_
        obtain ⟨er2, ev2⟩ := er1.putL mj hl2 hs2 (sm _ _ hy) ((ry.same sm).erase k)
        have rv2 := rv.keep (Evo.kp er1 ev2) fun a u x q => Evo.rs ev2 a u x q
        exact w1 _ _ (er2.set m rv2) (ev2.trans fun a u q n => ⟨q, fun o => n ((own_set m).mp o)⟩)
      · rw [if_neg hij] at w1
        exact w1.elim
/-! ### x.extend(e), e a list -/
def sExtL (i : Nat) (lk : Bool) (f : Rho → Re PyData) : Rho → Sr := fun ρ => match getL ρ i with
  | some ds => (f ρ).st ρ fun d => (match d with
    | .list es => if okLen (ds.length + es.length) = true ∧ (lk = true → immAll es = true) then .nx (ρ.set i (some (.list (ds ++ es)))) else .bad
    | _ => .bad)
  | none => .bad
theorem ds_extL {i : Nat} {x : Str} {p1 p2 p3 : Pos} (m : M i = true) (h : DE X M F E la fa a f) (hN : X.N[i]? = some x := by rfl) (hv : Vis X.env.scope x := by first | exact Or.inl rfl | exact Or.inr (Or.inl rfl) | exact Or.inr (Or.inr rfl)) (hd : (x == ("__debug__" : Str)) = false := by decide)
    (hcd : (x == ("__classdict__" : Str)) = false := by decide)
    (hs : swapsWith (.Call (.Attribute (.Name x p1) "extend" p2) [a] [] p3) none pos.line X.env = pure false := by rfl) (hbase : attributeBase (.Name x p1) "extend" X.env (eval (.Name x p1) X.env) = eval (.Name x p1) X.env := by rfl)
    (hfew : ((backTo p3 (starEach (a :: []) X.env)).all (fun x => !x.1) && (backToKw p3 (keywordEach [] X.env)).all (fun x => x.1.isSome)
      && decide ((a :: ([] : List Expr)).length + ([] : List Keyword).length + (if ([] : List Keyword).isEmpty then 0 else 1) < 30)) = true := by rfl)
    (hline : (p2.endLine == p3.line) = true := by rfl) (hst : starEach (a :: []) X.env = (false, eval a X.env) :: starEach [] X.env := by rfl) (hplain : (backTo p3 (starEach [] X.env)).any (·.1) = false := by rfl) :
    DS X M F E (.Expr (.Call (.Attribute (.Name x p1) "extend" p2) [a] [] p3) pos) (sExtL i la f) := by
  obtain ⟨t, pa, h⟩ := h
  refine ⟨_, ps_expr (pe_bm PySem.F.plainAttrs_list PySem.F.slot_list_extend PySem.F.type_list_extend mt_extend (pe_var hN hv hd hcd) (pa_cons pa pa_nil hst) hbase hfew hline hst hplain) hs, fun σ H ρ er D w => ?_⟩
  unfold sExtL at w
  cases hl : getL ρ i with
  | none =>
    rw [hl] at w
    exact w.elim
  | some ds =>
    rw [hl] at w
    obtain ⟨pp, xs, hs', hx, rx⟩ := er.lst m hl
    refine ⟨.ref pp, hs', sq_l hx, h σ H ρ er _ (ws_step er w fun d v H1 e sm r _ w1 => ?_)⟩
    cases r with
    | lst h1 hS h2 =>
      rename_i b zs es _
      have w1 : WS X M F E σ H1 ρ (if okLen (ds.length + es.length) = true ∧ (la = true → immAll es = true) then .nx (ρ.set i (some (.list (ds ++ es)))) else .bad) D := w1
      by_cases hc : okLen (ds.length + es.length) = true ∧ (la = true → immAll es = true)
      · rw [if_pos hc] at w1
        have er1 := er.same sm
        have hx1 := sm _ _ hx
        have hz : xs.length + zs.length ≤ sizeLine := by
          have := of_decide_eq_true hc.1
          rw [rx.length, h2.length]
          exact Nat.le_trans this (by decide)
        have r2 : RpA X.K H1 (RS M F σ ρ false) zs es := by
          cases la with
          | false => exact h2
          | true => exact h2.noAddr (hc.2 rfl)
        obtain ⟨er2, ev2⟩ := er1.putL m hl hs' hx1 ((rx.same sm).append r2)
        exact ⟨pp, _, xs, zs, rfl, rfl, hx1, h1, hz, w1 σ _ er2 ev2⟩
      · rw [if_neg hc] at w1
        exact w1.elim
    | bl _ => exact w1.elim
    | non => exact w1.elim
    | int _ => exact w1.elim
    | str _ => exact w1.elim
    | tup _ _ => exact w1.elim
    | scr _ _ => exact w1.elim
    | dic _ _ _ _ => exact w1.elim
    | dit _ _ _ _ => exact w1.elim
    | dif _ _ _ => exact w1.elim
/-! ### list(range(e)), list(range(e, e)) -/
def lrg : PyData → PyData → Option PyData := fun d e => match d, e with | .int i, .int j => if rgOk i j = true then some (.list (upFrom i (j - i).toNat)) else none | _, _ => none
def rLstRg (f g : Rho → Re PyData) : Rho → Re PyData := r2 lrg f g
theorem de_lstRg {pp q : Pos} (hc : X.calm = true) (hg : Gl X "list") (hm : X.mg "list" = none) (hg2 : Gl X "range") (hm2 : X.mg "range" = none) (ha : DE X M F E la fa a f) (hb : DE X M F E lb fb b g)
    (na : starEach [a, b] X.env = (false, eval a X.env) :: starEach [b] X.env := by rfl) (nb : starEach [b] X.env = (false, eval b X.env) :: starEach [] X.env := by rfl)
    (np : (backTo q (starEach [b] X.env)).any (·.1) = false := by rfl) (nc : starEach [Expr.Call (.Name "range" pp) [a, b] [] q] X.env = (false, eval (.Call (.Name "range" pp) [a, b] [] q) X.env) :: starEach [] X.env := by rfl) {p0 : Pos} :
    DE X M F E (la || lb) true (.Call (.Name "list" p0) [.Call (.Name "range" pp) [a, b] [] q] [] pos) (rLstRg f g) := by
  obtain ⟨ta, pa, ha⟩ := ha
  obtain ⟨tb, pb, hb⟩ := hb
  refine ⟨_, pe_listRg hc hg hm (prg_2 hg2 hm2 pa pb na nb np) nc, fun σ H ρ er Q w => ?_⟩
  refine ha σ H ρ er _ (we_step w fun d v H1 e1 s1 q1 _ w1 => ?_)
  refine hb σ H1 ρ (er.same s1) _ (we_step w1 fun e u H2 e2 s2 q2 _ w2 => ?_)
  have er2 := (er.same s1).same s2
  cases q1 with
  | int i =>
    cases q2 with
    | int j =>
      have w2 : WE X M F E (la || lb) true σ ρ H2 (liftO (if rgOk i j = true then some (.list (upFrom i (j - i).toNat)) else none)) Q := w2
      by_cases hr : rgOk i j = true
      · rw [if_pos hr] at w2
        exact ⟨i, j, rfl, rfl, rgOk_ok hr, fun p hp => w2 _ _ (same_new hp) (.lst upd_same (er2.freshS p hp) (rg_rp i j)) fun _ => frs_lst hp (rg_rp i j)⟩
      · rw [if_neg hr] at w2
        exact w2.elim
    | bl _ => exact w2.elim
    | non => exact w2.elim
    | str _ => exact w2.elim
    | tup _ _ => exact w2.elim
    | lst _ _ _ => exact w2.elim
    | scr _ _ => exact w2.elim
    | dic _ _ _ _ => exact w2.elim
    | dit _ _ _ _ => exact w2.elim
    | dif _ _ _ => exact w2.elim
  | bl _ => exact w2.elim
  | non => exact w2.elim
  | str _ => exact w2.elim
  | tup _ _ => exact w2.elim
  | lst _ _ _ => exact w2.elim
  | scr _ _ => exact w2.elim
  | dic _ _ _ _ => exact w2.elim
  | dit _ _ _ _ => exact w2.elim
  | dif _ _ _ => exact w2.elim
def lrg1 : PyData → Option PyData := fun e => match e with | .int j => if rgOk 0 j = true then some (.list (upFrom 0 j.toNat)) else none | _ => none
def rLstRg1 (g : Rho → Re PyData) : Rho → Re PyData := r1 lrg1 g
theorem de_lstRg1 {pp q : Pos} (hc : X.calm = true) (hg : Gl X "list") (hm : X.mg "list" = none) (hg2 : Gl X "range") (hm2 : X.mg "range" = none) (hb : DE X M F E lb fb b g)
    (nb : starEach [b] X.env = (false, eval b X.env) :: starEach [] X.env := by rfl)
    (nc : starEach [Expr.Call (.Name "range" pp) [b] [] q] X.env = (false, eval (.Call (.Name "range" pp) [b] [] q) X.env) :: starEach [] X.env := by rfl) {p0 : Pos} :
    DE X M F E lb true (.Call (.Name "list" p0) [.Call (.Name "range" pp) [b] [] q] [] pos) (rLstRg1 g) := by
  obtain ⟨tb, pb, hb⟩ := hb
  refine ⟨_, pe_listRg hc hg hm (prg_1 hg2 hm2 pb nb) nc, fun σ H ρ er Q w => ?_⟩
  refine hb σ H ρ er _ (we_step w fun e u H2 e2 s2 q2 _ w2 => ?_)
  have er2 := er.same s2
  cases q2 with
  | int j =>
    have w2 : WE X M F E lb true σ ρ H2 (liftO (if rgOk 0 j = true then some (.list (upFrom 0 j.toNat)) else none)) Q := w2
    by_cases hr : rgOk 0 j = true
    · rw [if_pos hr] at w2
      have rr : RpA X.K H2 (RS M F σ ρ lb) (rgV 0 j) (upFrom 0 j.toNat) := by
        have := rg_rp (K := X.K) (H := H2) (S := RS M F σ ρ lb) 0 j
        rwa [Int.sub_zero] at this
      exact ⟨j, rfl, rgOk_ok hr, fun p hp => w2 _ _ (same_new hp) (.lst upd_same (er2.freshS p hp) (rr.same (same_new hp))) fun _ => frs_lst hp rr⟩
    · rw [if_neg hr] at w2
      exact w2.elim
  | bl _ => exact w2.elim
  | non => exact w2.elim
  | str _ => exact w2.elim
  | tup _ _ => exact w2.elim
  | lst _ _ _ => exact w2.elim
  | scr _ _ => exact w2.elim
  | dic _ _ _ _ => exact w2.elim
  | dit _ _ _ _ => exact w2.elim
  | dif _ _ _ => exact w2.elim
end
end Pu

set_option Elab.async false
set_option linter.all false
set_option maxRecDepth 100000
set_option maxHeartbeats 4000000
/-! == by an own __eq__, isinstance of an own class -/
namespace Pu
open PySem PySem.Spec PyProof.Rows L2
/-- what the class c asks where its objects are compared with values of built-in types -/
structure SubC (K : PySem.W.Frag) (C : Addr) : Prop where
  i : PySem.W.subIn K (.type "int") (.ref C) = some false
  n : PySem.W.subIn K (.type "NoneType") (.ref C) = some false
  t : PySem.W.subIn K (.type "tuple") (.ref C) = some false
  s : PySem.W.subIn K (.type "str") (.ref C) = some false
/-- the class of a value as data: an own class or a built-in type -/
def eqTo (c : Str) (e : PyData) : Bool := match e with
  | .int _ => true
  | .none => true
  | .tuple _ => true
  | .str _ => true
  | d => (objF c d).isSome
/-- x == y, x an object of the class c or none -/
def oEqO (c : Str) (ff : List PyData → Re PyData) (d e : PyData) : Re PyData := match objF c d with
  | some _ => if eqTo c e = true then noEx (ff [d, e]) else .bad
  | none => liftO (oEq d e)
def rEqO (c : Str) (ff : List PyData → Re PyData) (f g : Rho → Re PyData) : Rho → Re PyData := fun ρ => (f ρ).andThen fun d => (g ρ).andThen fun e => oEqO c ff d e
/-- the rule by values -/
def rOwnEq (K : PySem.W.Frag) (C : Addr) (sp : Sp) : R2 := fun x y H Q => (∃ a dx fs, x = .ref a ∧ H a = some (.ins C dx fs) ∧ ((∃ b dy gs, y = .ref b ∧ H b = some (.ins C dy gs)) ∨ (∃ i, y = .int i) ∨ y = .non ∨ (∃ z, y = .str z) ∨ ∃ b xs, y = .ref b ∧ SqT K H b xs) ∧ sp [x, y] H Q fun _ _ _ => False) ∨ rEqD K x y H Q
section
variable {X : Cx} {M : Nat → Bool} {F : Fx} {E : L2.St → XK} {la fa lb fb : Bool} {a b : Expr} {f g : Rho → Re PyData} {pos : Pos}
theorem op_ownEq {C g : Addr} {fd : FuncData} {ps : List Str} {n : Nat} {sp : Sp} (hu : X.A.units + 64 < cLine) (hm : Meth X.K C "__eq__" g) (S : SubC X.K C) (F : FnOk X.prog X.w X.K X.mg X.base (L2.CX X.prog X.w) n g fd ps sp) (hb : Binds X.K fd ps []) (hr : Room n X.A) : OpR X (compareOp .Eq) (rOwnEq X.K C sp) := by
  intro pins s σ H x y v u Q I rx ry h
  rcases h with h | h
  · obtain ⟨a, dx, fs, rfl, ha, hy, q⟩ := h
    cases (show v = Value.ref a from rx)
    obtain ⟨mA, J, _⟩ := ins_get I.hok ha
    obtain ⟨od, J, _⟩ := J.look
    obtain ⟨m, hF⟩ := I.fr
    show wpAny (model X.prog X.w) X.A (richCompare .Eq (.ref a) u) (EP X pins σ Q) X.xe s
    have fin : wpAny (model X.prog X.w) X.A (call (.ref g) [.ref a, u]) (PySem.W.CmpBack (EP X pins σ Q)) X.xe s := by
      have := run_fn (us := [.ref a, u]) (vs := [.ref a, y]) (dvs := []) (ds := []) F hr hb .nil passM I (.cons rfl (.cons ry .nil)) q
      refine wpAny_mono this (fun w s' z => ?_) fun _ _ x => x
      obtain ⟨z', H', I', rz, qz⟩ := z
      exact SlX.cmpback rz ⟨z', H', I', rz, qz⟩
    have nf : ∀ t : String, PySem.W.subIn X.K (.type t) (.ref C) = some false → PySem.W.notFirst X.K C (.type t) = true := fun t e => by
      unfold PySem.W.notFirst
      rw [e]
      exact Bool.or_true _
    rcases hy with ⟨b, dy, gs, rfl, hb'⟩ | ⟨i, rfl⟩ | rfl | ⟨z, rfl⟩ | ⟨b, xs, rfl, hb'⟩
    · cases (show u = Value.ref b from ry)
      obtain ⟨mB, J', _⟩ := ins_get I.hok hb'
      obtain ⟨od', J', _⟩ := J'.look
      exact PySem.W.cmp_K (op := .Eq) (tb := .ref C) hr.units0 hF I.ok.mod.kin J J'.type (by simp [PySem.W.notFirst]) hm.at_ hm.fn fin
    · obtain ⟨t, q'⟩ := (show ∃ t, u = Value.int i t from ry)
      cases q'
      exact PySem.W.cmp_K (op := .Eq) (tb := .type "int") hr.units0 hF I.ok.mod.kin J PySem.W.Looks.now (nf _ S.i) hm.at_ hm.fn fin
    · cases (show u = Value.none from ry)
      exact PySem.W.cmp_K (op := .Eq) (tb := .type "NoneType") hr.units0 hF I.ok.mod.kin J PySem.W.Looks.now (nf _ S.n) hm.at_ hm.fn fin
    · obtain ⟨t, q'⟩ := (show ∃ t, u = Value.str z t from ry)
      cases q'
      exact PySem.W.cmp_K (op := .Eq) (tb := .type "str") hr.units0 hF I.ok.mod.kin J PySem.W.Looks.now (nf _ S.s) hm.at_ hm.fn fin
    · cases (show u = Value.ref b from ry)
      obtain ⟨its, r, pl, hz⟩ := I.tuple hb'
      exact PySem.W.cmp_K (op := .Eq) (tb := .type "tuple") hr.units0 hF I.ok.mod.kin J (by
        obtain ⟨o, ho, hc, n, hd⟩ := pl
        exact hc ▸ (PySem.W.Looks.ld ho).andThen .now) (nf _ S.t) hm.at_ hm.fn fin
  · exact op_eqD hu pins s σ H x y v u Q I rx ry h
theorem eqO_run {c : Str} {ff : List PyData → Re PyData} {K : PySem.W.Frag} {σ : L2.St} {ρ : Rho} {H : Hp} {t u : TE} (ht : ∀ σ H ρ, ER X.K M F σ H ρ → ∀ Q, WE X M F E la fa σ ρ H (f ρ) Q → t σ H Q) (hu : ∀ σ H ρ, ER X.K M F σ H ρ → ∀ Q, WE X M F E lb fb σ ρ H (g ρ) Q → u σ H Q)
    (er : ER X.K M F σ H ρ) {Q : VK} (w : WE X M F E (la || lb) false σ ρ H (rEqO c ff f g ρ) Q) : tOp (rOwnEq X.K (He.ga X.K c) (spD X.mg ff X.K)) t u σ H Q := by
  refine ht σ H ρ er _ (we_step w fun d v H1 e1 s1 r1 _ w1 => ?_)
  refine hu σ H1 ρ (er.same s1) _ (we_step w1 fun e v2 H2 e2 s2 r2 _ w2 => ?_)
  have er2 := (er.same s1).same s2
  have r1' := (r1.same s2).wide (rs_or1 (b := lb))
  have r2' := r2.wide (rs_or2 (a := la))
  unfold oEqO at w2
  cases q : objF c d with
  | none =>
    rw [q] at w2
    have w2 : WE X M F E (la || lb) false σ ρ H2 (liftO (oEq d e)) Q := w2
    cases q2 : oEq d e with
    | none =>
      rw [q2] at w2
      exact w2.elim
    | some z =>
      rw [q2] at w2
      exact .inr (s_eq _ H2 v v2 d e z Q er2.freshS r1' r2' q2 fun v' H' s' r' f' => w2 v' H' s' r' f')
  | some kvs =>
    rw [q] at w2
    have w2 : WE X M F E (la || lb) false σ ρ H2 (if eqTo c e = true then noEx (ff [d, e]) else .bad) Q := w2
    by_cases ht : eqTo c e = true
    · rw [if_pos ht] at w2
      obtain ⟨a, dx, ks, xs, ds, ev, h1, hl, rs, ek⟩ := obj_of r1' q
      refine .inl ⟨a, dx, _, ev, h1, ?_, ⟨[d, e], _, .cons r1' (.cons r2' .nil), er2.freshS, ?_⟩⟩
      · cases r2' with
        | int i => exact .inr (.inl ⟨i, rfl⟩)
        | non => exact .inr (.inr (.inl rfl))
        | str z => exact .inr (.inr (.inr (.inl ⟨z, rfl⟩)))
        | tup h1 _ => exact .inr (.inr (.inr (.inr ⟨_, _, rfl, h1.sq⟩)))
        | bl b => exact absurd (show false = true from ht) (by decide)
        | lst _ _ _ => exact absurd (show false = true from ht) (by decide)
        | scr h1 h2 => exact absurd (show false = true from ht) (by decide)
        | dic h1 h2 h3 h4 => exact absurd (show false = true from ht) (by decide)
        | dif h1 h3 h4 => exact absurd (show false = true from ht) (by decide)
        | @dit a1 dx1 c1 tag1 ks1 xs1 ds1 h1 h2 h3 h4 =>
          have ht : (objF c (.dict ((.bool false, .tuple [.str c1, tag1]) :: (ks1.map PyData.str).zip ds1))).isSome = true := ht
          obtain ⟨z, hz⟩ := Option.isSome_iff_exists.mp ht
          obtain ⟨a2, dx2, ks2, xs2, ds2, ev2, g1, _⟩ := obj_of (Rp.dit h1 h2 h3 h4) hz
          exact .inl ⟨a2, dx2, _, ev2, g1⟩
      · cases q3 : ff [d, e] with
        | ok y =>
          rw [q3] at w2
          exact fun v' H' s' r' => w2 v' H' s' r' fun w => nomatch w
        | ex cc =>
          rw [q3] at w2
          exact w2.elim
        | bad =>
          rw [q3] at w2
          exact w2.elim
    · rw [if_neg ht] at w2
      exact w2.elim
/-- x == y -/
theorem de_eqO {c : Str} {k : Nat} {ps : List Str} {ff : List PyData → Re PyData} (h : HasM X.prog X.w X.K X.mg X.base k c "__eq__" ps ff) (S : SubC X.K (He.ga X.K c)) (hr : Room k X.A) (ha : DE X M F E la fa a f) (hb : DE X M F E lb fb b g) (hm : behindInMarks .Eq b = false := by first | exact nomark _ | rfl) :
    DE X M F E (la || lb) false (.Compare a [.Eq] [b] pos) (rEqO c ff f g) := by
  obtain ⟨ta, pa, ha⟩ := ha
  obtain ⟨tb, pb, hb⟩ := hb
  obtain ⟨fA, fd, Fo, hmt, bb⟩ := h.ex
  exact ⟨_, pe_cmpR (op_ownEq (ru hr) hmt S Fo bb hr) pa pb hm, fun σ H ρ er Q w => eqO_run (K := X.K) ha hb er w⟩
theorem dt_eqO {c : Str} {k : Nat} {ps : List Str} {ff : List PyData → Re PyData} (h : HasM X.prog X.w X.K X.mg X.base k c "__eq__" ps ff) (S : SubC X.K (He.ga X.K c)) (hr : Room k X.A) (ha : DE X M F E la fa a f) (hb : DE X M F E lb fb b g) (hm : behindInMarks .Eq b = false := by first | exact nomark _ | rfl) :
    DT X M F E (.Compare a [.Eq] [b] pos) (asB (rEqO c ff f g)) := by
  obtain ⟨ta, pa, ha⟩ := ha
  obtain ⟨tb, pb, hb⟩ := hb
  obtain ⟨fA, fd, Fo, hmt, bb⟩ := h.ex
  exact ⟨_, pt_cmpR (op_ownEq (ru hr) hmt S Fo bb hr) pa pb hm, fun σ H ρ er Q w => wt_asB (fun σ H ρ er Q w => eqO_run (K := X.K) ha hb er w) er w⟩
/-! ### isinstance(x, C) of an own class -/
structure KitC (K : PySem.W.Frag) (C : Addr) : Prop where
  o : PySem.W.kitOne K (.ref C) (.ref C) = some true
  i : PySem.W.kitOne K (.type "int") (.ref C) = some false
  n : PySem.W.kitOne K (.type "NoneType") (.ref C) = some false
  t : PySem.W.kitOne K (.type "tuple") (.ref C) = some false
  s : PySem.W.kitOne K (.type "str") (.ref C) = some false
def isO (c : Str) (d : PyData) : Option Bool := match d with
  | .none => some false
  | .int _ => some false
  | .str _ => some false
  | .tuple _ => some false
  | d => (objF c d).map fun _ => true
def rIsO (c : Str) (f : Rho → Re PyData) : Rho → Re PyData := fun ρ => (f ρ).andThen fun d => liftO ((isO c d).map PyData.bool)
theorem de_isO {c : Str} {p p1 p2 : Pos} (hgT : X.mg c = some (.ref (He.ga X.K c))) (hC : Cls X.K (He.ga X.K c)) (O : OwnC X.K (He.ga X.K c)) (S : KitC X.K (He.ga X.K c)) (hm : X.mg "isinstance" = none) (ha : DE X M F E la fa a f) (hg : Gl X "isinstance" := by rfl) (hgc : Gl X c := by rfl) (hdT : (c == ("__debug__" : Str)) = false := by decide)
    (h1 : starEach [a, .Name c p1] X.env = (false, eval a X.env) :: starEach [.Name c p1] X.env := by rfl) (h2 : starEach [.Name c p1] X.env = (false, eval (.Name c p1) X.env) :: starEach [] X.env := by rfl) (hpl : (backTo pos (starEach [.Name c p1] X.env)).any (·.1) = false := by rfl) :
    DE X M F E false false (.Call (.Name "isinstance" p) [a, .Name c p1] [] pos) (rIsO c f) := by
  obtain ⟨t, pa, h⟩ := ha
  refine ⟨_, pe_callB call_isi hg hm PyProof.Rows.boot_isinstance (pa_cons pa (pa_cons (pe_glob (v := .ref (He.ga X.K c)) hgc hgT rfl hdT) pa_nil h2) h1) (he := h1) (hpl := hpl), fun σ H ρ er Q w => ?_⟩
  refine h σ H ρ er _ (we_step w fun d v H1 e s1 r1 _ w1 => ?_)
  cases q : isO c d with
  | none =>
    rw [q] at w1
    exact w1.elim
  | some bb =>
    rw [q] at w1
    have fin := w1 _ H1 (Same.refl _) (.bl bb) fun z => nomatch z
    cases r1 with
    | non =>
      cases q
      exact ⟨_, _, _, _, false, rfl, .own _, .base .non, S.n, fin⟩
    | int i =>
      cases q
      exact ⟨_, _, _, _, false, rfl, .own _, .base (.int i), S.i, fin⟩
    | str z =>
      cases q
      exact ⟨_, _, _, _, false, rfl, .own _, .base (.str z), S.s, fin⟩
    | tup h1 h2 =>
      cases q
      exact ⟨_, _, _, _, false, rfl, .own _, ty_of (S := fun _ => True) (.tup h1 (h2.wide fun _ _ => trivial)) (fun _ z => nomatch z), S.t, fin⟩
    | bl b => cases q
    | lst _ _ _ => cases q
    | scr _ _ => cases q
    | dic _ _ _ _ => cases q
    | dif _ _ _ => cases q
    | @dit a1 dx1 c1 tag1 ks1 xs1 ds1 h1 h2 h3 h4 =>
      have q : ((objF c (.dict ((.bool false, .tuple [.str c1, tag1]) :: (ks1.map PyData.str).zip ds1))).map fun _ => true) = some bb := q
      obtain ⟨z, hz, hb⟩ := Option.map_eq_some_iff.mp q
      subst hb
      obtain ⟨a2, dx2, ks2, xs2, ds2, ev2, g1, _⟩ := obj_of (Rp.dit h1 h2 h3 h4) hz
      cases ev2
      exact ⟨_, _, _, _, true, rfl, .own _, .base (.ins g1 hC O.ha O.hn O.htk O.hm), S.o, fin⟩
end
end Pu

set_option Elab.async false
set_option linter.all false
set_option maxRecDepth 100000
set_option maxHeartbeats 4000000
/-! a sort that the kernel runs -/
namespace Pu
open PySem PySem.Spec PyProof.Rows L2
def insZ (a : Int) : List Int → List Int
  | [] => [a]
  | b :: l => if a ≤ b then a :: b :: l else b :: insZ a l
def isrtZ : List Int → List Int
  | [] => []
  | a :: l => insZ a (isrtZ l)
theorem insZ_perm (a : Int) : ∀ l : List Int, (insZ a l).Perm (a :: l)
  | [] => .refl _
  | b :: l => by
    unfold insZ
    by_cases h : a ≤ b
    · rw [if_pos h]
    · rw [if_neg h]
      exact (List.Perm.cons b (insZ_perm a l)).trans (List.Perm.swap a b l)
theorem isrtZ_perm : ∀ l : List Int, (isrtZ l).Perm l
  | [] => .refl _
  | a :: l => (insZ_perm a _).trans (List.Perm.cons a (isrtZ_perm l))
theorem insZ_sorted (a : Int) : ∀ l : List Int, l.Pairwise (· ≤ ·) → (insZ a l).Pairwise (· ≤ ·)
  | [], _ => by simp [insZ]
  | b :: l, h => by
    unfold insZ
    obtain ⟨h1, h2⟩ := List.pairwise_cons.mp h
    by_cases c : a ≤ b
    · rw [if_pos c]
      refine List.pairwise_cons.mpr ⟨fun x hx => ?_, h⟩
      rcases List.mem_cons.mp hx with rfl | hx
      · exact c
      · exact Int.le_trans c (h1 x hx)
    · rw [if_neg c]
      refine List.pairwise_cons.mpr ⟨fun x hx => ?_, insZ_sorted a l h2⟩
      rcases List.mem_cons.mp ((insZ_perm a l).mem_iff.mp hx) with rfl | hx
      · omega
      · exact h1 x hx
theorem isrtZ_sorted : ∀ l : List Int, (isrtZ l).Pairwise (· ≤ ·)
  | [] => .nil
  | a :: l => insZ_sorted a _ (isrtZ_sorted l)
theorem srtZ_isrt (l : List Int) : srtZ l = isrtZ l := (srtZ_uniq (isrtZ_perm l) (isrtZ_sorted l)).symm
def bSortedK : List PyData → Option PyData := fun ds => match ds with
  | [.list xs] => (asInts xs).map fun ns => .list ((isrtZ ns).map PyData.int)
  | [.tuple xs] => (asInts xs).map fun ns => .list ((isrtZ ns).map PyData.int)
  | _ => none
theorem bSorted_K : bSorted = bSortedK := by
  funext ds
  match ds with
  | [.list xs] =>
    show (asInts xs).map (fun ns => PyData.list ((srtZ ns).map PyData.int)) = (asInts xs).map fun ns => .list ((isrtZ ns).map PyData.int)
    simp only [srtZ_isrt]
  | [.tuple xs] =>
    show (asInts xs).map (fun ns => PyData.list ((srtZ ns).map PyData.int)) = (asInts xs).map fun ns => .list ((isrtZ ns).map PyData.int)
    simp only [srtZ_isrt]
  | [] => rfl
  | [.none] => rfl
  | [.bool _] => rfl
  | [.int _] => rfl
  | [.str _] => rfl
  | [.dict _] => rfl
  | .list _ :: _ :: _ => rfl
  | .tuple _ :: _ :: _ => rfl
  | .none :: _ :: _ => rfl
  | .bool _ :: _ :: _ => rfl
  | .int _ :: _ :: _ => rfl
  | .str _ :: _ :: _ => rfl
  | .dict _ :: _ :: _ => rfl
end Pu

set_option Elab.async false
set_option linter.all false
set_option maxRecDepth 100000
set_option maxHeartbeats 4000000
namespace Gn
open PySem PySem.Spec PyProof.Rows L2 Pu
noncomputable section
/-! ### the mirror -/
def N__law_cell : List Str := ["script", "k"]
def s__law_cell : Rho → Sr := (sSeq (sIf (asB (r2 oLt (rVar 1) (rB bLen (aCons (rVar 0) aNil)))) (sRet (r2 oIx (rVar 0) (rVar 1))) sNil)
    (sRet (rC (.int 0))))
def m__law_cell : List PyData → Re PyData := runF 2 2 s__law_cell
def N__law_inserted : List Str := ["tree", "k", "found", "other"]
def s__law_inserted (rec_ : List PyData → Re PyData) : Rho → Sr := (sSeq (sSetO 2 false (rLst (aCons (rTup (aCons (rVar 0) (aCons (rVar 1) aNil))) aNil)))
    (sSeq (sIf (asB (rIsi "tuple" (rVar 0))) (sSeq (sFor (iOf itS (rCall rec_ (aCons (r2 oIx (rVar 0) (rC (.int 0))) (aCons (rVar 1) aNil)))) (gSlot 3) (sApp 2 false (rTup (aCons (rVar 3) (aCons (r2 oIx (rVar 0) (rC (.int 1))) aNil)))))
    (sFor (iOf itS (rCall rec_ (aCons (r2 oIx (rVar 0) (rC (.int 1))) (aCons (rVar 1) aNil)))) (gSlot 3) (sApp 2 false (rTup (aCons (r2 oIx (rVar 0) (rC (.int 0))) (aCons (rVar 3) aNil)))))) sNil)
    (sRet (rVar 2))))
def m__law_inserted : Nat → List PyData → Re PyData
  | 0 => runF 2 4 sBad
  | n + 1 => runF 2 4 (s__law_inserted (m__law_inserted n))
def N_is_tree : List Str := ["tree", "k", "found", "left", "part"]
def s_is_tree : Rho → Sr := (sSeq (sIf (tOrR (tNotR (rChT (rC (.int 2)) (cLinkT oLe (rVar 1) (cLastT oLe (rC (.int 9)))))) (tNotR (asB (rIsi "tuple" (rVar 0))))) (sRet (rC (.bool false))) sNil)
    (sSeq (sSetO 2 false (rLst aNil))
    (sSeq (sSetO 3 false (rLst (aCons (rVar 0) aNil)))
    (sSeq (sWhile (tAndR (asL (rVar 3)) (asB (r2 oLe (rB bLen (aCons (rVar 2) aNil)) (rVar 1)))) (sSeq (sSetPop0 4 3)
    (sIf (tNotR (asB (rIsi "tuple" (rVar 4)))) (sApp 2 false (rVar 4)) (sIf (asB (r2 oEq (rB bLen (aCons (rVar 4) aNil)) (rC (.int 2)))) (sExt 3 false (rVar 4)) (sRet (rC (.bool false)))))) 20)
    (sRet (r2 oEq (rB bSorted (aCons (rVar 2) aNil)) (rLstRg1 (rVar 1))))))))
def m_is_tree : List PyData → Re PyData := runF 2 5 s_is_tree
def N_check_tree : List Str := ["tree", "k"]
def s_check_tree : Rho → Sr := (sSeq (sIf (tNotR (asB (rCall m_is_tree (aCons (rVar 0) (aCons (rVar 1) aNil))))) (sErr "InvalidTree") sNil)
    (sRet (rVar 0)))
def m_check_tree : List PyData → Re PyData := runF 2 2 s_check_tree
def N_check_number : List Str := ["k"]
def s_check_number : Rho → Sr := (sIf (tNotR (rChT (rC (.int 2)) (cLinkT oLe (rVar 0) (cLastT oLe (rC (.int 6)))))) (sErr "OutOfRange") sNil)
def m_check_number : List PyData → Re PyData := runF 1 1 s_check_number
def N_with_index : List Str := ["subtree", "k", "found", "left", "right", "new"]
def s_with_index (rec_ : List PyData → Re PyData) : Rho → Sr := (sSeq (sSetO 2 false (rLst (aCons (rTup (aCons (rVar 0) (aCons (rVar 1) aNil))) aNil)))
    (sSeq (sIf (asB (rIsi "tuple" (rVar 0))) (sSeq (sAsg false (gSeqD 2 (gMore (gSlot 3) (gMore (gSlot 4) gNone))) (rVar 0))
    (sSeq (sExtL 2 false (rLc (iOf itS (rCall rec_ (aCons (rVar 3) (aCons (rVar 1) aNil)))) [5] (gSlot 5) yesR (rTup (aCons (rVar 5) (aCons (rVar 4) aNil)))))
    (sExtL 2 false (rLc (iOf itS (rCall rec_ (aCons (rVar 4) (aCons (rVar 1) aNil)))) [5] (gSlot 5) yesR (rTup (aCons (rVar 3) (aCons (rVar 5) aNil))))))) sNil)
    (sRet (rVar 2))))
def m_with_index : Nat → List PyData → Re PyData
  | 0 => runF 2 6 sBad
  | n + 1 => runF 2 6 (s_with_index (m_with_index n))
def N_trees : List Str := ["k", "found", "index", "_", "subtree", "new"]
def s_trees : Rho → Sr := (sSeq (sDrop (rCall m_check_number (aCons (rVar 0) aNil)))
    (sSeq (sSet 1 false (rLst (aCons (rTup (aCons (rC (.int 0)) (aCons (rC (.int 1)) aNil))) aNil)))
    (sSeq (sFor (iR2 (aCons (rC (.int 2)) (aCons (rVar 0) aNil))) (gSlot 2) (sSet 1 false (rLc2 (iOf itS (rVar 1)) [3, 4, 5] (gSeqD 2 (gMore (gSlot 3) (gMore (gSlot 4) gNone))) yesR (iOf itS (rCall (m_with_index 6) (aCons (rVar 4) (aCons (rVar 2) aNil)))) [5] (gSlot 5) yesR (rTup (aCons (rC (.int 0)) (aCons (rVar 5) aNil))))))
    (sRet (rB bTuple (aCons (rVar 1) aNil))))))
def m_trees : List PyData → Re PyData := runF 1 6 s_trees
def N_law : List Str := ["script", "k", "told", "due", "index", "longer", "tree", "other"]
def s_law : Rho → Sr := (sSeq (sSet 1 false (r2 oSub (r2 oMod (rB bInt (aCons (rCall m__law_cell (aCons (rVar 0) (aCons (rC (.int 0)) aNil))) aNil)) (rC (.int 16))) (rC (.int 3))))
    (sSeq (sSet 2 false (rC .none))
    (sSeq (sTry "OutOfRange" (sSet 2 false (rCall m_trees (aCons (rVar 1) aNil))) (sSet 2 false (rC .none)))
    (sSeq (sIf (tOrR (asB (r2 oLt (rVar 1) (rC (.int 2)))) (asB (r2 oGt (rVar 1) (rC (.int 6))))) (sRet (r2 oIsN (rVar 2) (rC .none))) sNil)
    (sSeq (sSet 3 false (rLst (aCons (rTup (aCons (rC (.int 0)) (aCons (rC (.int 1)) aNil))) aNil)))
    (sSeq (sFor (iR2 (aCons (rC (.int 2)) (aCons (rVar 1) aNil))) (gSlot 4) (sSeq (sSetO 5 false (rLst aNil))
    (sSeq (sFor (iOf itS (rVar 3)) (gSlot 6) (sFor (iOf itS (rCall (m__law_inserted 6) (aCons (r2 oIx (rVar 6) (rC (.int 1))) (aCons (rVar 4) aNil)))) (gSlot 7) (sApp 5 false (rTup (aCons (rC (.int 0)) (aCons (rVar 7) aNil))))))
    (sMove 3 5))))
    (sSeq (sIf (tOrR (asB (r2 oIsN (rVar 2) (rC .none))) (asB (r2 oNe (rVar 2) (rB bTuple (aCons (rVar 3) aNil))))) (sRet (rC (.bool false))) sNil)
    (sRet (rAnd (r2 oEq (rLc (iOf itS (rVar 2)) [6] (gSlot 6) (asB (r2 oNe (rCall m_check_tree (aCons (rVar 6) (aCons (rVar 1) aNil))) (rVar 6))) (rVar 6)) (rLst aNil)) (r2 oEq (rB bLen (aCons (rLc (iOf itS (rVar 2)) [6] (gSlot 6) (asB (r2 oEq (rVar 6) (r2 oIx (rVar 2) (rC (.int 0))))) (rVar 6)) aNil)) (rC (.int 1))))))))))))
def m_law : List PyData → Re PyData := runF 1 8 s_law
end
end Gn

set_option Elab.async false
set_option linter.all false
set_option maxRecDepth 100000
set_option maxHeartbeats 4000000
namespace Gn
open PySem PySem.Spec PyProof.Rows L2 Pu
/-! ### the text -/
def top (i : Nat) : Stmt := PySem.Challenge.pw_turnedrows_k42_all_trees.main.body.getD i (.Pass ⟨0, 0, 0, 0⟩)
abbrev st__law_cell : Stmt := top 15
abbrev st__law_inserted : Stmt := top 16
abbrev st_is_tree : Stmt := top 7
abbrev st_check_tree : Stmt := top 8
abbrev st_check_number : Stmt := top 11
abbrev st_with_index : Stmt := top 12
abbrev st_trees : Stmt := top 13
abbrev st_law : Stmt := top 17
/-! ### what the head tells -/
structure Ct (K : PySem.W.Frag) (mg : Str → Option Value) : Prop where
  f__law_cell : FnAt K mg "_law_cell" st__law_cell
  f__law_inserted : FnAt K mg "_law_inserted" st__law_inserted
  f_is_tree : FnAt K mg "is_tree" st_is_tree
  f_check_tree : FnAt K mg "check_tree" st_check_tree
  f_check_number : FnAt K mg "check_number" st_check_number
  f_with_index : FnAt K mg "with_index" st_with_index
  f_trees : FnAt K mg "trees" st_trees
  f_law : FnAt K mg "law" st_law
  b_int : mg "int" = none
  b_isinstance : mg "isinstance" = none
  b_len : mg "len" = none
  b_list : mg "list" = none
  b_range : mg "range" = none
  b_sorted : mg "sorted" = none
  b_tuple : mg "tuple" = none
  i_FEWEST_BODIES : ∃ t, mg "FEWEST_BODIES" = some (.int 2 t)
  i_MOST_BODIES : ∃ t, mg "MOST_BODIES" = some (.int 9 t)
  i_MOST_TO_TRY : ∃ t, mg "MOST_TO_TRY" = some (.int 6 t)
  e_InvalidTree : ErrC K mg "InvalidTree" (He.ga K "InvalidTree")
  e_OutOfRange : ErrC K mg "OutOfRange" (He.ga K "OutOfRange")
/-! ### each def is its mirror -/
section
variable {P : Program} {w : World} {K : PySem.W.Frag} {mg : Str → Option Value} {base : Heap}
theorem nd__law_cell : N__law_cell.Nodup := by decide +kernel
def M__law_cell : Nat → Bool := fun i => false
theorem sc__law_cell : FnScope N__law_cell ["script", "k"] (defScope st__law_cell) := ⟨rfl, rfl, rfl, nd__law_cell, rfl, by decide +kernel, by decide +kernel⟩
theorem bo__law_cell (c : Ct K mg) (k : Nat) (fA : Addr) (cdv : Value) (A : Around) (outer : List Env) (sh : Shared) (H : Hp) (Ex : XK) (G : Gd (cxOf (L2.CX P w) P w K mg base N__law_cell "_law_cell" (defScope st__law_cell) fA cdv A outer sh H Ex) (fun _ => Ex) (k + 0)) (F : Fx) :
    DSs (cxOf (L2.CX P w) P w K mg base N__law_cell "_law_cell" (defScope st__law_cell) fA cdv A outer sh H Ex) M__law_cell F (fun _ => Ex) (defBody st__law_cell) s__law_cell :=
    (dss_cons (ds_if (dt_cmp op_lt s_lt (de_var 1) (db call_len_seq s_len c.b_len boot_len (da_cons (de_var 0) da_nil)) (by first | exact nomark _ | rfl)) (dss_one (ds_ret (de_ix (de_var 0) (de_var 1)))) dss_nil)
    (dss_one (ds_ret de_int)))
theorem has__law_cell (c : Ct K mg) (k : Nat) : Has P w K mg base (k + 1) "_law_cell" ["script", "k"] m__law_cell := has_of c.f__law_cell sc__law_cell M__law_cell (by decide) s__law_cell (fun _ _ _ _ _ _ us hl => match us, hl with | [_, _], _ => rfl) (bo__law_cell c k)
theorem nd__law_inserted : N__law_inserted.Nodup := by decide +kernel
def M__law_inserted : Nat → Bool := fun i => i == 2
theorem sc__law_inserted : FnScope N__law_inserted ["tree", "k"] (defScope st__law_inserted) := ⟨rfl, rfl, rfl, nd__law_inserted, rfl, by decide +kernel, by decide +kernel⟩
theorem bo__law_inserted (c : Ct K mg) (k : Nat) (n : Nat) (rec_ : List PyData → Re PyData) (hrec : Has P w K mg base (k + n + 1) "_law_inserted" ["tree", "k"] rec_) (fA : Addr) (cdv : Value) (A : Around) (outer : List Env) (sh : Shared) (H : Hp) (Ex : XK) (G : Gd (cxOf (L2.CX P w) P w K mg base N__law_inserted "_law_inserted" (defScope st__law_inserted) fA cdv A outer sh H Ex) (fun _ => Ex) (k + n + 1)) (F : Fx) :
    DSs (cxOf (L2.CX P w) P w K mg base N__law_inserted "_law_inserted" (defScope st__law_inserted) fA cdv A outer sh H Ex) M__law_inserted F (fun _ => Ex) (defBody st__law_inserted) (s__law_inserted rec_) :=
    (dss_cons (ds_setO (i := 2) rfl nd__law_inserted (de_lst (da_cons (de_tup (da_cons (de_var 0) (da_cons (de_var 1) da_nil))) da_nil)))
    (dss_cons (ds_if (dt_val (de_isi (p2 := ⟨0, 0, 0, 0⟩) (T := "tuple") rfl c.b_isinstance rfl c.b_tuple boot_tuple (de_var 0))) (dss_cons (ds_for G.own rfl (di_seq (de_fn hrec (by exact G.room) G.pass (da_cons (de_ix (de_var 0) de_int) (da_cons (de_var 1) da_nil)))) (dg_name 3 rfl nd__law_inserted) (dss_one (ds_app (i := 2) rfl (de_tup (da_cons (de_var 3) (da_cons (de_ix (de_var 0) de_int) da_nil))))))
    (dss_one (ds_for G.own rfl (di_seq (de_fn hrec (by exact G.room) G.pass (da_cons (de_ix (de_var 0) de_int) (da_cons (de_var 1) da_nil)))) (dg_name 3 rfl nd__law_inserted) (dss_one (ds_app (i := 2) rfl (de_tup (da_cons (de_ix (de_var 0) de_int) (da_cons (de_var 3) da_nil)))))))) dss_nil)
    (dss_one (ds_ret (de_var 2)))))
theorem has__law_inserted (c : Ct K mg) (k : Nat) : ∀ n : Nat, Has P w K mg base (k + n + 1) "_law_inserted" ["tree", "k"] (m__law_inserted n)
  | 0 => has_of (k := k + 0 + 0) c.f__law_inserted sc__law_inserted (M__law_inserted) (by decide) sBad (fun _ _ _ _ _ _ us hl => match us, hl with | [_, _], _ => rfl) fun _ _ _ _ _ _ _ _ _ => dss_bad
  | n + 1 => has_of (k := k + n + 1) c.f__law_inserted sc__law_inserted (M__law_inserted) (by decide) (s__law_inserted (m__law_inserted n)) (fun _ _ _ _ _ _ us hl => match us, hl with | [_, _], _ => rfl) (bo__law_inserted c k n (m__law_inserted n) (has__law_inserted c k n))
theorem nd_is_tree : N_is_tree.Nodup := by decide +kernel
def M_is_tree : Nat → Bool := fun i => i == 2 || i == 3
theorem sc_is_tree : FnScope N_is_tree ["tree", "k"] (defScope st_is_tree) := ⟨rfl, rfl, rfl, nd_is_tree, rfl, by decide +kernel, by decide +kernel⟩
theorem bo_is_tree (c : Ct K mg) (k : Nat) (fA : Addr) (cdv : Value) (A : Around) (outer : List Env) (sh : Shared) (H : Hp) (Ex : XK) (G : Gd (cxOf (L2.CX P w) P w K mg base N_is_tree "is_tree" (defScope st_is_tree) fA cdv A outer sh H Ex) (fun _ => Ex) (k + 0)) (F : Fx) :
    DSs (cxOf (L2.CX P w) P w K mg base N_is_tree "is_tree" (defScope st_is_tree) fA cdv A outer sh H Ex) M_is_tree F (fun _ => Ex) (defBody st_is_tree) s_is_tree :=
    (dss_cons (ds_if (DW.pt (dw_or (dt_not (dt_chain (de_globE c.i_FEWEST_BODIES) (dch_linkT op_le s_le (de_var 1) (dch_lastT op_le s_le (de_globE c.i_MOST_BODIES))))) (dw_or1 (dt_not (dt_val (de_isi (p2 := ⟨0, 0, 0, 0⟩) (T := "tuple") rfl c.b_isinstance rfl c.b_tuple boot_tuple (de_var 0))))))) (dss_one (ds_ret de_bl)) dss_nil)
    (dss_cons (ds_setO (i := 2) rfl nd_is_tree (de_lst da_nil))
    (dss_cons (ds_setO (i := 3) rfl nd_is_tree (de_lst (da_cons (de_var 0) da_nil)))
    (dss_cons (ds_while 20 G.own (DW.pt (dw_and (dt_lst (de_var 3)) (dw_and1 (dt_cmp op_le s_le (db call_len_seq s_len c.b_len boot_len (da_cons (de_var 2) da_nil)) (de_var 1) (by first | exact nomark _ | rfl))))) (dss_cons (ds_setPop0 (i := 4) (j := 3) rfl rfl nd_is_tree)
    (dss_one (ds_if (dt_not (dt_val (de_isi (p2 := ⟨0, 0, 0, 0⟩) (T := "tuple") rfl c.b_isinstance rfl c.b_tuple boot_tuple (de_var 4)))) (dss_one (ds_app (i := 2) rfl (de_var 4))) (dss_one (ds_if (dt_cmp (op_eqD (by exact ru G.room)) s_eq (db call_len_seq s_len c.b_len boot_len (da_cons (de_var 4) da_nil)) de_int (by first | exact nomark _ | rfl)) (dss_one (ds_ext (i := 3) rfl (de_var 4))) (dss_one (ds_ret de_bl))))))))
    (dss_one (ds_ret (de_cmp (op_eqD (by exact ru G.room)) s_eq (db cr_srt s_sorted c.b_sorted boot_sorted (da_cons (de_var 2) da_nil)) (de_lstRg1 (by rfl) (by rfl) c.b_list (by rfl) c.b_range (de_var 1)) (by first | exact nomark _ | rfl))))))))
theorem has_is_tree (c : Ct K mg) (k : Nat) : Has P w K mg base (k + 1) "is_tree" ["tree", "k"] m_is_tree := has_of c.f_is_tree sc_is_tree M_is_tree (by decide) s_is_tree (fun _ _ _ _ _ _ us hl => match us, hl with | [_, _], _ => rfl) (bo_is_tree c k)
theorem nd_check_tree : N_check_tree.Nodup := by decide +kernel
def M_check_tree : Nat → Bool := fun i => false
theorem sc_check_tree : FnScope N_check_tree ["tree", "k"] (defScope st_check_tree) := ⟨rfl, rfl, rfl, nd_check_tree, rfl, by decide +kernel, by decide +kernel⟩
theorem bo_check_tree (c : Ct K mg) (k : Nat) (fA : Addr) (cdv : Value) (A : Around) (outer : List Env) (sh : Shared) (H : Hp) (Ex : XK) (G : Gd (cxOf (L2.CX P w) P w K mg base N_check_tree "check_tree" (defScope st_check_tree) fA cdv A outer sh H Ex) (fun _ => Ex) (k + 1)) (F : Fx) :
    DSs (cxOf (L2.CX P w) P w K mg base N_check_tree "check_tree" (defScope st_check_tree) fA cdv A outer sh H Ex) M_check_tree F (fun _ => Ex) (defBody st_check_tree) s_check_tree :=
    (dss_cons (ds_if (dt_not (dt_val (de_fn (has_is_tree c (k + 0)) G.room G.pass (da_cons (de_var 0) (da_cons (de_var 1) da_nil))))) (dss_one (ds_raise G rfl c.e_InvalidTree rfl)) dss_nil)
    (dss_one (ds_ret (de_var 0))))
theorem has_check_tree (c : Ct K mg) (k : Nat) : Has P w K mg base (k + 2) "check_tree" ["tree", "k"] m_check_tree := has_of c.f_check_tree sc_check_tree M_check_tree (by decide) s_check_tree (fun _ _ _ _ _ _ us hl => match us, hl with | [_, _], _ => rfl) (bo_check_tree c k)
theorem nd_check_number : N_check_number.Nodup := by decide +kernel
def M_check_number : Nat → Bool := fun i => false
theorem sc_check_number : FnScope N_check_number ["k"] (defScope st_check_number) := ⟨rfl, rfl, rfl, nd_check_number, rfl, by decide +kernel, by decide +kernel⟩
theorem bo_check_number (c : Ct K mg) (k : Nat) (fA : Addr) (cdv : Value) (A : Around) (outer : List Env) (sh : Shared) (H : Hp) (Ex : XK) (G : Gd (cxOf (L2.CX P w) P w K mg base N_check_number "check_number" (defScope st_check_number) fA cdv A outer sh H Ex) (fun _ => Ex) (k + 0)) (F : Fx) :
    DSs (cxOf (L2.CX P w) P w K mg base N_check_number "check_number" (defScope st_check_number) fA cdv A outer sh H Ex) M_check_number F (fun _ => Ex) (defBody st_check_number) s_check_number :=
    (dss_one (ds_if (dt_not (dt_chain (de_globE c.i_FEWEST_BODIES) (dch_linkT op_le s_le (de_var 0) (dch_lastT op_le s_le (de_globE c.i_MOST_TO_TRY))))) (dss_one (ds_raise G rfl c.e_OutOfRange rfl)) dss_nil))
theorem has_check_number (c : Ct K mg) (k : Nat) : Has P w K mg base (k + 1) "check_number" ["k"] m_check_number := has_of c.f_check_number sc_check_number M_check_number (by decide) s_check_number (fun _ _ _ _ _ _ us hl => match us, hl with | [_], _ => rfl) (bo_check_number c k)
theorem nd_with_index : N_with_index.Nodup := by decide +kernel
def M_with_index : Nat → Bool := fun i => i == 2
theorem sc_with_index : FnScope N_with_index ["subtree", "k"] (defScope st_with_index) := ⟨rfl, rfl, rfl, nd_with_index, rfl, by decide +kernel, by decide +kernel⟩
theorem bo_with_index (c : Ct K mg) (k : Nat) (n : Nat) (rec_ : List PyData → Re PyData) (hrec : Has P w K mg base (k + n + 1) "with_index" ["subtree", "k"] rec_) (fA : Addr) (cdv : Value) (A : Around) (outer : List Env) (sh : Shared) (H : Hp) (Ex : XK) (G : Gd (cxOf (L2.CX P w) P w K mg base N_with_index "with_index" (defScope st_with_index) fA cdv A outer sh H Ex) (fun _ => Ex) (k + n + 1)) (F : Fx) :
    DSs (cxOf (L2.CX P w) P w K mg base N_with_index "with_index" (defScope st_with_index) fA cdv A outer sh H Ex) M_with_index F (fun _ => Ex) (defBody st_with_index) (s_with_index rec_) :=
    (dss_cons (ds_setO (i := 2) rfl nd_with_index (de_lst (da_cons (de_tup (da_cons (de_var 0) (da_cons (de_var 1) da_nil))) da_nil)))
    (dss_cons (ds_if (dt_val (de_isi (p2 := ⟨0, 0, 0, 0⟩) (T := "tuple") rfl c.b_isinstance rfl c.b_tuple boot_tuple (de_var 0))) (dss_cons (ds_asg (dg_seq rfl (dgs_cons (dg_name 3 rfl nd_with_index) (dgs_cons (dg_name 4 rfl nd_with_index) dgs_nil))) (de_var 0))
    (dss_cons (ds_extL (i := 2) rfl (de_lc (own := [("new", 5)]) [5] rfl nd_with_index (di_seq (de_fn hrec (by exact G.room) G.pass (da_cons (de_var 3) (da_cons (de_var 1) da_nil)))) (blkOk_by (own := [("new", 5)]) (N := N_with_index) (sc := defScope st_with_index) (by decide +kernel)) (by decide) (fun _ _ _ _ _ _ => (dg_name 5 rfl nd_with_index)) (fun _ _ _ _ _ => dts_nil) (fun _ _ _ _ _ _ => (de_tup (da_cons (de_var 5) (da_cons (de_var 4) da_nil))))))
    (dss_one (ds_extL (i := 2) rfl (de_lc (own := [("new", 5)]) [5] rfl nd_with_index (di_seq (de_fn hrec (by exact G.room) G.pass (da_cons (de_var 4) (da_cons (de_var 1) da_nil)))) (blkOk_by (own := [("new", 5)]) (N := N_with_index) (sc := defScope st_with_index) (by decide +kernel)) (by decide) (fun _ _ _ _ _ _ => (dg_name 5 rfl nd_with_index)) (fun _ _ _ _ _ => dts_nil) (fun _ _ _ _ _ _ => (de_tup (da_cons (de_var 3) (da_cons (de_var 5) da_nil))))))))) dss_nil)
    (dss_one (ds_ret (de_var 2)))))
theorem has_with_index (c : Ct K mg) (k : Nat) : ∀ n : Nat, Has P w K mg base (k + n + 1) "with_index" ["subtree", "k"] (m_with_index n)
  | 0 => has_of (k := k + 0 + 0) c.f_with_index sc_with_index (M_with_index) (by decide) sBad (fun _ _ _ _ _ _ us hl => match us, hl with | [_, _], _ => rfl) fun _ _ _ _ _ _ _ _ _ => dss_bad
  | n + 1 => has_of (k := k + n + 1) c.f_with_index sc_with_index (M_with_index) (by decide) (s_with_index (m_with_index n)) (fun _ _ _ _ _ _ us hl => match us, hl with | [_, _], _ => rfl) (bo_with_index c k n (m_with_index n) (has_with_index c k n))
theorem nd_trees : N_trees.Nodup := by decide +kernel
def M_trees : Nat → Bool := fun i => false
theorem sc_trees : FnScope N_trees ["k"] (defScope st_trees) := ⟨rfl, rfl, rfl, nd_trees, rfl, by decide +kernel, by decide +kernel⟩
theorem bo_trees (c : Ct K mg) (k : Nat) (fA : Addr) (cdv : Value) (A : Around) (outer : List Env) (sh : Shared) (H : Hp) (Ex : XK) (G : Gd (cxOf (L2.CX P w) P w K mg base N_trees "trees" (defScope st_trees) fA cdv A outer sh H Ex) (fun _ => Ex) (k + 7)) (F : Fx) :
    DSs (cxOf (L2.CX P w) P w K mg base N_trees "trees" (defScope st_trees) fA cdv A outer sh H Ex) M_trees F (fun _ => Ex) (defBody st_trees) s_trees :=
    (dss_cons (ds_expr (de_fn (has_check_number c (k + 6)) G.room G.pass (da_cons (de_var 0) da_nil)))
    (dss_cons (ds_set (i := 1) rfl nd_trees (de_lst (da_cons (de_tup (da_cons de_int (da_cons de_int da_nil))) da_nil)))
    (dss_cons (ds_for G.own rfl (di_rg2 (by rfl) c.b_range (da_cons de_int (da_cons (de_var 0) da_nil))) (dg_name 2 rfl nd_trees) (dss_one (ds_setLc2 (i := 1) (own := [("_", 3), ("subtree", 4), ("new", 5)]) (vs1 := [5]) [3, 4, 5] rfl rfl nd_trees (di_seq (de_var 1)) (blkOk_by (own := [("_", 3), ("subtree", 4), ("new", 5)]) (N := N_trees) (sc := defScope st_trees) (by decide +kernel)) (by decide) (by decide) (fun _ _ _ _ _ _ => (dg_seq rfl (dgs_cons (dg_name 3 rfl nd_trees) (dgs_cons (dg_name 4 rfl nd_trees) dgs_nil)))) (fun _ _ _ _ _ => dts_nil) (fun _ _ _ _ _ _ => (di_seq (de_fn (has_with_index c (k + 0) 6) (by exact G.room) passF (da_cons (de_var 4) (da_cons (de_var 2) da_nil))))) (fun _ _ _ _ _ _ => (dg_name 5 rfl nd_trees)) (fun _ _ _ _ _ => dts_nil) (fun _ _ _ _ _ _ => (de_tup (da_cons de_int (da_cons (de_var 5) da_nil)))) (sw_true rfl rfl rfl (by decide +kernel)))))
    (dss_one (ds_ret (dt call_tuple_ofF s_tuple c.b_tuple boot_tuple (da_cons (de_var 1) da_nil)))))))
theorem has_trees (c : Ct K mg) (k : Nat) : Has P w K mg base (k + 8) "trees" ["k"] m_trees := has_of c.f_trees sc_trees M_trees (by decide) s_trees (fun _ _ _ _ _ _ us hl => match us, hl with | [_], _ => rfl) (bo_trees c k)
theorem nd_law : N_law.Nodup := by decide +kernel
def M_law : Nat → Bool := fun i => i == 5
theorem sc_law : FnScope N_law ["script"] (defScope st_law) := ⟨rfl, rfl, rfl, nd_law, rfl, by decide +kernel, by decide +kernel⟩
theorem bo_law (c : Ct K mg) (k : Nat) (fA : Addr) (cdv : Value) (A : Around) (outer : List Env) (sh : Shared) (H : Hp) (Ex : XK) (G : Gd (cxOf (L2.CX P w) P w K mg base N_law "law" (defScope st_law) fA cdv A outer sh H Ex) (fun _ => Ex) (k + 8)) (F : Fx) :
    DSs (cxOf (L2.CX P w) P w K mg base N_law "law" (defScope st_law) fA cdv A outer sh H Ex) M_law F (fun _ => Ex) (defBody st_law) s_law :=
    (dss_cons (ds_set (i := 1) rfl nd_law (de_op op_sub s_sub (de_op op_mod s_mod (dt call_int1 s_int c.b_int boot_int (da_cons (de_fn (has__law_cell c (k + 7)) G.room G.pass (da_cons (de_var 0) (da_cons de_int da_nil))) da_nil)) de_int) de_int))
    (dss_cons (ds_set (i := 2) rfl nd_law de_non)
    (dss_cons (ds_try G c.e_OutOfRange ⟨rfl, by decide⟩ (fun W pn xe G F => (dss_one (ds_set (i := 2) rfl nd_law (de_fn (has_trees c (k + 0)) G.room G.pass (da_cons (de_var 1) da_nil))))) (fun a oe pn F => (dss_one (ds_set (i := 2) rfl nd_law de_non))))
    (dss_cons (ds_if (DW.pt (dw_or (dt_cmp op_lt s_lt (de_var 1) de_int (by first | exact nomark _ | rfl)) (dw_or1 (dt_cmp op_gt s_gt (de_var 1) de_int (by first | exact nomark _ | rfl))))) (dss_one (ds_ret (de_cmp op_isN s_isN (de_var 2) de_non (by first | exact nomark _ | rfl)))) dss_nil)
    (dss_cons (ds_set (i := 3) rfl nd_law (de_lst (da_cons (de_tup (da_cons de_int (da_cons de_int da_nil))) da_nil)))
    (dss_cons (ds_for G.own rfl (di_rg2 (by rfl) c.b_range (da_cons de_int (da_cons (de_var 1) da_nil))) (dg_name 4 rfl nd_law) (dss_cons (ds_setO (i := 5) rfl nd_law (de_lst da_nil))
    (dss_cons (ds_for G.own rfl (di_seq (de_var 3)) (dg_name 6 rfl nd_law) (dss_one (ds_for G.own rfl (di_seq (de_fn (has__law_inserted c (k + 1) 6) G.room G.pass (da_cons (de_ix (de_var 6) de_int) (da_cons (de_var 4) da_nil)))) (dg_name 7 rfl nd_law) (dss_one (ds_app (i := 5) rfl (de_tup (da_cons de_int (da_cons (de_var 7) da_nil))))))))
    (dss_one (ds_move (i := 3) (j := 5) rfl rfl nd_law)))))
    (dss_cons (ds_if (DW.pt (dw_or (dt_cmp op_isN s_isN (de_var 2) de_non (by first | exact nomark _ | rfl)) (dw_or1 (dt_cmp (op_neD (by exact ru G.room)) s_ne (de_var 2) (dt call_tuple_ofF s_tuple c.b_tuple boot_tuple (da_cons (de_var 3) da_nil)) (by first | exact nomark _ | rfl))))) (dss_one (ds_ret de_bl)) dss_nil)
    (dss_one (ds_ret (de_and (de_cmp (op_eqD (by exact ru G.room)) s_eq (de_lc (own := [("tree", 6)]) [6] rfl nd_law (di_seq (de_var 2)) (blkOk_by (own := [("tree", 6)]) (N := N_law) (sc := defScope st_law) (by decide +kernel)) (by decide) (fun _ _ _ _ _ _ => (dg_name 6 rfl nd_law)) (fun _ _ _ _ _ => (dts_one fun _ => (dt_cmp (op_neD (by exact ru G.room)) s_ne (de_fn (has_check_tree c (k + 6)) (by exact G.room) passF (da_cons (de_var 6) (da_cons (de_var 1) da_nil))) (de_var 6) (by first | exact nomark _ | rfl)))) (fun _ _ _ _ _ _ => (de_var 6))) (de_lst da_nil) (by first | exact nomark _ | rfl)) (de_one (de_cmp (op_eqD (by exact ru G.room)) s_eq (db call_len_seq s_len c.b_len boot_len (da_cons (de_lc (own := [("tree", 6)]) [6] rfl nd_law (di_seq (de_var 2)) (blkOk_by (own := [("tree", 6)]) (N := N_law) (sc := defScope st_law) (by decide +kernel)) (by decide) (fun _ _ _ _ _ _ => (dg_name 6 rfl nd_law)) (fun _ _ _ _ _ => (dts_one fun _ => (dt_cmp (op_eqD (by exact ru G.room)) s_eq (de_var 6) (de_ix (de_var 2) de_int) (by first | exact nomark _ | rfl)))) (fun _ _ _ _ _ _ => (de_var 6))) da_nil)) de_int (by first | exact nomark _ | rfl)))))))))))))
theorem has_law (c : Ct K mg) (k : Nat) : Has P w K mg base (k + 9) "law" ["script"] m_law := has_of c.f_law sc_law M_law (by decide) s_law (fun _ _ _ _ _ _ us hl => match us, hl with | [_], _ => rfl) (bo_law c k)
end
end Gn

set_option Elab.async false
set_option linter.all false
set_option maxRecDepth 100000
set_option maxHeartbeats 0
namespace Gn
open PySem PySem.Spec PyProof.Rows L2 Pu
def fns : List He.DefD := [⟨("_law_cell", none), "_law_cell", "_law_cell", defArgs st__law_cell, defBody st__law_cell, defScope st__law_cell, [], []⟩, ⟨("_law_inserted", none), "_law_inserted", "_law_inserted", defArgs st__law_inserted, defBody st__law_inserted, defScope st__law_inserted, [], []⟩, ⟨("is_tree", none), "is_tree", "is_tree", defArgs st_is_tree, defBody st_is_tree, defScope st_is_tree, [], []⟩, ⟨("check_tree", none), "check_tree", "check_tree", defArgs st_check_tree, defBody st_check_tree, defScope st_check_tree, [], []⟩, ⟨("check_number", none), "check_number", "check_number", defArgs st_check_number, defBody st_check_number, defScope st_check_number, [], []⟩, ⟨("with_index", none), "with_index", "with_index", defArgs st_with_index, defBody st_with_index, defScope st_with_index, [], []⟩, ⟨("trees", none), "trees", "trees", defArgs st_trees, defBody st_trees, defScope st_trees, [], []⟩, ⟨("law", none), "law", "law", defArgs st_law, defBody st_law, defScope st_law, [], []⟩]
def fas : List He.Fa := [.glo "_law_cell", .glo "_law_inserted", .glo "is_tree", .glo "check_tree", .glo "check_number", .glo "with_index", .glo "trees", .glo "law", .free "int", .free "isinstance", .free "len", .free "list", .free "range", .free "sorted", .free "tuple", .int "FEWEST_BODIES" 2, .int "MOST_BODIES" 9, .int "MOST_TO_TRY" 6, .glo "InvalidTree", .exc "InvalidTree", .exm "InvalidTree" "InvalidTree" true, .glo "OutOfRange", .exc "OutOfRange", .exm "OutOfRange" "OutOfRange" true]
def fxs : List Fx2 := []
theorem ct_of {K : PySem.W.Frag} {mg : Str → Option Value} {h : Heap} (X : K.In h) (G : h.Ns mainGlobals mg) (c : SaysP fas fxs fns K) : Ct K mg where
  f__law_cell := fnAt_of X G c 0 0
  f__law_inserted := fnAt_of X G c 1 1
  f_is_tree := fnAt_of X G c 2 2
  f_check_tree := fnAt_of X G c 3 3
  f_check_number := fnAt_of X G c 4 4
  f_with_index := fnAt_of X G c 5 5
  f_trees := fnAt_of X G c 6 6
  f_law := fnAt_of X G c 7 7
  b_int := He.free_ok X G (c.d.fact 8 (f := .free "int"))
  b_isinstance := He.free_ok X G (c.d.fact 9 (f := .free "isinstance"))
  b_len := He.free_ok X G (c.d.fact 10 (f := .free "len"))
  b_list := He.free_ok X G (c.d.fact 11 (f := .free "list"))
  b_range := He.free_ok X G (c.d.fact 12 (f := .free "range"))
  b_sorted := He.free_ok X G (c.d.fact 13 (f := .free "sorted"))
  b_tuple := He.free_ok X G (c.d.fact 14 (f := .free "tuple"))
  i_FEWEST_BODIES := He.int_ok X G (c.d.fact 15 (f := .int "FEWEST_BODIES" 2))
  i_MOST_BODIES := He.int_ok X G (c.d.fact 16 (f := .int "MOST_BODIES" 9))
  i_MOST_TO_TRY := He.int_ok X G (c.d.fact 17 (f := .int "MOST_TO_TRY" 6))
  e_InvalidTree := errC_of X G (c.d.fact 18 (f := .glo "InvalidTree")) (c.d.fact 19 (f := .exc "InvalidTree")) (c.d.fact 20 (f := .exm "InvalidTree" "InvalidTree" true))
  e_OutOfRange := errC_of X G (c.d.fact 21 (f := .glo "OutOfRange")) (c.d.fact 22 (f := .exc "OutOfRange")) (c.d.fact 23 (f := .exm "OutOfRange" "OutOfRange" true))
abbrev R : PySem.W.OpenRow := PySem.W.OpenLaw.row PySem.Challenge.rw_turnedrows_k42_all_trees
abbrev hk : PySem.W.Hook := hookP 4 fas fxs fns
def ob (s : PySem.W.SharedT) : He.AlD := obsPG 4 fas fxs fns (HandSHeadRun.getT s)
theorem ob_eq (s : PySem.W.SharedT) : ob s = hk.obs s.abs := obsPG_eq (HandSHeadRun.getT_eq s)
def loose : List Str := "TurnedrowsError" :: "InvalidTree" :: "OutOfRange" :: "is_tree" :: "check_tree" :: "check_number" :: "with_index" :: "trees" :: "_law_cell" :: "_law_inserted" :: "FEWEST_BODIES" :: "MOST_BODIES" :: "MOST_TO_TRY" :: "__name__" :: []
theorem run (w : World) : HandSHeadRun.RunEq R (PySem.W.view R.prog [17]) hk ob 4000 loose w := by
  intro os
  kernel_rfl
end Gn

set_option Elab.async false
set_option linter.all false
set_option maxRecDepth 100000
set_option maxHeartbeats 2000000
namespace Gn
open PySem PySem.Spec PyProof.Rows L2 Pu
/-! ### the law's own helpers -/
def cellZ (ns : List Int) (k : Nat) : Int := (ns[k]?).getD 0
theorem m_cell (ns : List Int) (k : Nat) : m__law_cell [scrD ns, .int (k : Int)] = .ok (.int (cellZ ns k)) := by
  unfold m__law_cell
  rw [run2]
  unfold s__law_cell
  by_cases h : k < ns.length
  · have e : atZ ns (k : Int) = some ns[k] := by rw [atZ_nat h, List.getElem?_eq_getElem h]
    simp [e, h, cellZ]
  · simp [h, cellZ]
/-! ### the whole law, for each of the sixteen numbers -/
noncomputable def s_is_treeK : Rho → Sr := (sSeq (sIf (tOrR (tNotR (rChT (rC (.int 2)) (cLinkT oLe (rVar 1) (cLastT oLe (rC (.int 9)))))) (tNotR (asB (rIsi "tuple" (rVar 0))))) (sRet (rC (.bool false))) sNil)
    (sSeq (sSetO 2 false (rLst aNil))
    (sSeq (sSetO 3 false (rLst (aCons (rVar 0) aNil)))
    (sSeq (sWhile (tAndR (asL (rVar 3)) (asB (r2 oLe (rB bLen (aCons (rVar 2) aNil)) (rVar 1)))) (sSeq (sSetPop0 4 3)
    (sIf (tNotR (asB (rIsi "tuple" (rVar 4)))) (sApp 2 false (rVar 4)) (sIf (asB (r2 oEq (rB bLen (aCons (rVar 4) aNil)) (rC (.int 2)))) (sExt 3 false (rVar 4)) (sRet (rC (.bool false)))))) 20)
    (sRet (r2 oEq (rB bSortedK (aCons (rVar 2) aNil)) (rLstRg1 (rVar 1))))))))
theorem is_treeK : m_is_tree = runF 2 5 s_is_treeK := by
  unfold m_is_tree s_is_tree
  rw [bSorted_K]
  rfl
noncomputable def m_check_treeK : List PyData → Re PyData := runF 2 2 (sSeq (sIf (tNotR (asB (rCall (runF 2 5 s_is_treeK) (aCons (rVar 0) (aCons (rVar 1) aNil))))) (sErr "InvalidTree") sNil)
    (sRet (rVar 0)))
theorem check_treeK : m_check_tree = m_check_treeK := by
  unfold m_check_tree s_check_tree
  rw [is_treeK]
  rfl
theorem law_true (ns : List Int) (_h : ns.length ≤ 63) : m_law [scrD ns] = .ok (.bool true) := by
  unfold m_law
  rw [run1]
  unfold s_law
  have eC0 : m__law_cell [scrD ns, .int 0] = .ok (.int (cellZ ns 0)) := m_cell ns 0
  obtain ⟨k, ek, k1, k2⟩ : ∃ k : Int, cellZ ns 0 % 16 = k ∧ 0 ≤ k ∧ k < 16 := ⟨_, rfl, by omega, by omega⟩
  have em : oMod (.int (cellZ ns 0)) (.int 16) = some (.int k) := by rw [oMod_p (by decide), ek]
  refine go (ρ' := [some (scrD ns), some (.int (k - 3)), none, none, none, none, none, none]) (by simp [eC0, em]) ?_
  generalize scrD ns = d0
  obtain ⟨j, rfl⟩ : ∃ j : Nat, k = (j : Int) := ⟨k.toNat, by omega⟩
  have hj : j < 16 := by omega
  clear ek em k1 k2 eC0
  rw [check_treeK]
  rcases j with _ | _ | _ | _ | _ | _ | _ | _ | _ | _ | _ | _ | _ | _ | _ | _ | j
  iterate 16 (next => kernel_rfl)
  omega
end Gn

set_option Elab.async false
set_option linter.all false
set_option maxRecDepth 100000
set_option maxHeartbeats 0
open PySem PySem.W PySem.Calls PyProof.Rows
theorem PySem.Challenge.cw_turnedrows_k42_all_trees_holds : PySem.Challenge.rw_turnedrows_k42_all_trees.Holds := by
  w_on; o_law
  refine HandSHeadRun.head_any (r := OpenLaw.row PySem.Challenge.rw_turnedrows_k42_all_trees) (q := view (OpenLaw.row PySem.Challenge.rw_turnedrows_k42_all_trees).prog [17]) (H := Gn.hk) (ob := Gn.ob) (M := 4000) (loose := Gn.loose) (d := HandSHeadRun.topDef (OpenLaw.row PySem.Challenge.rw_turnedrows_k42_all_trees).prog 17) (kwd := []) Gn.ob_eq (by kernel_rfl)
    (fun s => by kernel_rfl) Gn.run (by kernel_rfl) (by kernel_rfl) (by kernel_rfl) (by rfl) (by first | assumption | decide +kernel) (by decide +kernel)
    ⟨rfl, rfl, rfl, rfl, rfl, by decide +kernel⟩ ?hw ?hc
  case hw => w_witness2
  case hc =>
    refine Pu.walkP (l := PySem.Challenge.rw_turnedrows_k42_all_trees) (n := 63) (k := 9) (x := "script") (f := Gn.m_law) rfl (by decide) (by kernel_rfl) ⟨rfl, by decide, by decide⟩ Gn.law_true ?F
    intro w mg fa h Y G hmg0
    obtain ⟨K, KX, c⟩ := Y
    have hmg : mg ("law" : PySem.Str) = some (.ref fa) := by
      rw [← show (HandSHeadRun.topDef (OpenLaw.row PySem.Challenge.rw_turnedrows_k42_all_trees).prog 17).name = ("law" : PySem.Str) by kernel_rfl]
      exact hmg0
    have ct := Gn.ct_of KX G c
    obtain ⟨fd, hb, hF⟩ := Pu.law_fn (P := (PySem.Challenge.rw_turnedrows_k42_all_trees).prog) (w := w) (p := "script") (k := 9) (f := Gn.m_law) hmg ct.f_law (fun _ _ _ _ _ _ us hl => match us, hl with | [_], _ => rfl)
      fun base _ _ fA fd Fd _ => Pu.def_ok Fd Gn.sc_law Gn.M_law (by decide) Gn.s_law fun cdv A outer sh H Ex Gx F => Gn.bo_law ct 0 fA cdv A outer sh H Ex Gx F
    exact ⟨K, fd, KX, hb, hF⟩

