import PyProof.Rows.All
import Wide.All
import OpenK.AllK
import Wide.FinOn
import HandS.Base
import HandS.Call
import HandS.List
import HandS.Dict
import HandS.SetKeys
import HandS.Set
import HandS.Strs
import HandS.ForMost
import HandS.Exc
import HandS.ExcOwn
import HandS.WordsExc
import HandS.Star
import HandS.IsInst
import HandS.Flow
import HandS.DictComp
import HandS.Walk
import HandS.Deep
import KE.SortData
import KE.KExcInit
import KE.KExcIs
import HandS.ExcField
import HandS.ExcIs
import HandS.TryMany
import KE.KDictPairs
import HandS.SetFor
import HandS.Style
import KE.KDictZip
import PyProof.TupleOfGen
import PyProof.Rows.ListStrD
import HandS.Zip
import HandS.TupAny
import HandS.More
import KE.GoesEnum
import PySem.Challenge.RW_slowship_k17_webs_behind_edits
import HandS.Ends
import KE.RegKIsAll
import KE.KExcLine
import KE.RegKTryMore
section
set_option Elab.async false
set_option linter.all false
set_option maxRecDepth 100000
set_option maxHeartbeats 4000000
/-! New tuples, told with the object that they are (no dict of its own): what dict(..) of a tuple asks. -/
namespace Ab
open PySem PySem.Spec PyProof.Rows L2
abbrev tupO (its : List Value) : Obj := { cls := .type "tuple", data := .seq its.toArray }
section
variable {X : Cx} {pins : List (Addr × Obj)} {σ : L2.St} {H : Hp} {s : Shared}
theorem laidT {xs : List V} {its : List Value} {t' : Nat} (I : Inv X pins σ H s) (r : Vals xs its) (hz : xs.length ≤ sizeLine) : Inv X pins σ (upd H s.heap.objs.size (.frz (tupO its) (.tup xs))) { s with heap := s.heap.push (tupO its), toks := t' } := by
  have hp : (s.heap.push (tupO its)).get? s.heap.objs.size = some (tupO its) := Heap.get?_push_size _ rfl
  refine I.laid (o := .frz (tupO its) (.tup xs)) (fun b u e => Heap.get?_push_of_some _ e) (Nat.le_refl _) ⟨hp, hz, its, r, ⟨_, hp, rfl, _, rfl⟩⟩
def tTupN (t : TA) : TE := fun σ H Q => t σ H fun xs H1 => xs.length ≤ sizeLine ∧ ∀ p o, H1 p = none → o.dict = none → Q (.ref p) (upd H1 p (.frz o (.tup xs)))
theorem pe_tupN {es : List Expr} {t : TA} {x1 : Nat} {pos : Pos} (h : PA X es t) : PE X (.Tuple es x1 pos) (tTupN t) := ⟨fun pins s σ H Q I hq =>
  wpAny_Tuple_spliced (thn (h.run pos pins s σ H _ I hq) fun us s1 ⟨xs, H1, I1, r, z, q⟩ =>
    ⟨by rw [← r.length]; exact z, ⟨.ref s1.heap.objs.size, _, laidT (t' := s1.toks) I1 r z, rfl, q _ (tupO us) (I1.hok.fresh (Nat.le_refl _)) rfl⟩⟩)⟩
def rTupOfN (K : PySem.W.Frag) : List V → Hp → VK → Prop := fun xs H Q => ∃ p ys, xs = [.ref p] ∧ ((SqL K H p ys ∧ ∀ l o, H l = none → o.dict = none → Q (.ref l) (upd H l (.frz o (.tup ys)))) ∨ (SqT K H p ys ∧ Q (.ref p) H))
theorem call_tupN : CallR X (.type "tuple") (rTupOfN X.K) := by
  rintro pins s σ H xs us Q I r ⟨p, ys, rfl, h⟩
  obtain ⟨u, rfl, rx⟩ := vals1 r
  cases rx
  rcases h with ⟨hq, q⟩ | ⟨hq, q⟩
  · obtain ⟨its, rv, pl, hz⟩ := I.list hq
    have hl := rv.length
    refine call_tuple_list pl.isList (fun h' kp => ?_) (by rw [List.size_toArray]; omega)
    have J : Inv X pins σ H { s with heap := h' } := I.kept (t' := s.toks) kp
    exact ⟨.ref h'.objs.size, _, laidT (t' := s.toks) J rv hz, rfl, q _ (tupO its) (J.hok.fresh (Nat.le_refl _)) rfl⟩
  · obtain ⟨its, rv, pl, hz⟩ := I.tuple hq
    exact call_tuple_same pl ⟨.ref p, H, I, rfl, q⟩
def rCatTN (K : PySem.W.Frag) : R2 := fun x y H Q => ∃ a b xs ys, x = .ref a ∧ y = .ref b ∧ SqT K H a xs ∧ SqT K H b ys ∧ xs ≠ [] ∧ xs.length + ys.length ≤ sizeLine ∧
  (ys = [] → Q (.ref a) H) ∧ (ys ≠ [] → ∀ p o, H p = none → o.dict = none → Q (.ref p) (upd H p (.frz o (.tup (xs ++ ys)))))
theorem op_catTN : OpR X (binaryOp .Add) (rCatTN X.K) := by
  rintro pins s σ H x y v u Q I rx ry ⟨a, b, xs, ys, rfl, rfl, ha, hb, hx, hz, q1, q2⟩
  obtain rfl : v = Value.ref a := rx
  obtain rfl : u = Value.ref b := ry
  obtain ⟨i1, r1, p1, _⟩ := I.tuple ha
  obtain ⟨i2, r2, p2, _⟩ := I.tuple hb
  refine HT.cat_tup p1 p2 (fun z => hx (r1.nil_iff.mp z)) (fun z => ⟨.ref a, H, I, rfl, q1 (r2.nil_iff.mp z)⟩) (fun z => ?_) (by rw [← r1.length, ← r2.length]; exact hz)
  exact ⟨.ref s.heap.objs.size, _, laidT (t' := s.toks) I (r1.append r2) (by rw [List.length_append]; exact hz), rfl, q2 (fun w => z (r2.nil_iff.mpr w)) _ (tupO (i1 ++ i2)) (I.hok.fresh (Nat.le_refl _)) rfl⟩
def rSlTN (K : PySem.W.Frag) : V → Option Int → Option Int → Hp → VK → Prop := fun x lo hi H Q => ∃ a xs, x = .ref a ∧ SqT K H a xs ∧
  ¬ (HT.sIx xs.length 0 lo = 0 ∧ HT.sIx xs.length xs.length hi = xs.length) ∧ ∀ p o, H p = none → o.dict = none → Q (.ref p) (upd H p (.frz o (.tup (cutV xs lo hi))))
theorem sl_tupN : SlR X (rSlTN X.K) := by
  rintro pins s σ H x v vl vu lo hi sl Q I rx hs pl pu ⟨a, xs, rfl, hx, hw, q⟩
  obtain rfl : v = Value.ref a := rx
  obtain ⟨its, r, ht, hz⟩ := I.tuple hx
  have hn : its.toArray.size = xs.length := by rw [List.size_toArray]; exact r.length.symm
  refine ⟨"tuple", _, PyProof.Rows.slot_tuple_getitem.lookup, ht.typeIs, HT.getItem_tuple_cut ht hs pl pu (by rw [hn]; exact hw) ?_ (by rw [hn]; exact hz)⟩
  rw [hn]
  have rc := (r.drop (HT.sIx xs.length 0 lo)).take (HT.sIx xs.length xs.length hi - HT.sIx xs.length 0 lo)
  have key := laidT (t' := s.toks) I rc (Nat.le_trans (cutV_length xs lo hi) hz)
  exact ⟨.ref s.heap.objs.size, _, key, rfl, q _ _ (I.hok.fresh (Nat.le_refl _)) rfl⟩
end
end Ab
end
section
set_option Elab.async false
set_option linter.all false
set_option maxRecDepth 100000
set_option maxHeartbeats 4000000
/-! Sets of keys (ints, texts), their tables told well enough to be gathered. -/
namespace Ab
open PySem PySem.Spec PyProof.Rows L2
def keyX (e : Int × Value) : Key := match e.2 with
  | .int k _ => .inl k
  | .str x _ => .inr x
  | _ => .inl 0
def GoodX (w : World) (e : Int × Value) : Prop := (∃ k t, e.2 = Value.int k t ∧ e.1 = hashInt k) ∨ ∃ x t, e.2 = Value.str x t ∧ e.1 = hashStr w x
/-- the set at a: its keys in the order they came -/
def SetX (w : World) (h : Heap) (a : Addr) (ks : List Key) : Prop :=
  ∃ o es ep t, h.get? a = some o ∧ o.ExactSet ∧ o.data = .set es ep t ∧ (∀ e ∈ es.toList, GoodX w e) ∧ (es.toList.map keyX).Perm ks ∧ ks.Nodup ∧
    es.size < scanBound ∧ t.fits es.size = true ∧ Ris t.place.toList ∧ (w.params.followText "set-order" = true ∨ t.led = true)
section
variable {P : Program} {w : World} {h h' : Heap} {a : Addr} {ks : List Key}
theorem SetX.at (R : SetX w h a ks) (k : ∀ o, h.get? a = some o → h'.get? a = some o) : SetX w h' a ks := by
  obtain ⟨o, es, ep, t, ho, r⟩ := R
  exact ⟨o, es, ep, t, k o ho, r⟩
theorem goodX_is {e : Int × Value} (g : GoodX w e) (k : Key) : (mixKind P w).is k e.2 = true ↔ keyX e = k := by
  obtain ⟨e1, e2⟩ := e
  rcases g with ⟨i, t, h1, _⟩ | ⟨x, t, h1, _⟩
  · dsimp only at h1
    subst h1
    cases k with
    | inl j => show Value.isInt j (.int i t) = true ↔ (Sum.inl i : Key) = Sum.inl j; simp [Value.isInt]
    | inr y => show Value.isStrOf y (.int i t) = true ↔ (Sum.inl i : Key) = Sum.inr y; simp [Value.isStrOf]
  · dsimp only at h1
    subst h1
    cases k with
    | inl j => show Value.isInt j (.str x t) = true ↔ (Sum.inr x : Key) = Sum.inl j; simp [Value.isInt]
    | inr y => show Value.isStrOf y (.str x t) = true ↔ (Sum.inr x : Key) = Sum.inr y; simp [Value.isStrOf]
theorem goodX_elems {l : List (Int × Value)} (g : ∀ e ∈ l, GoodX w e) : ElemsOf (mixKind P w) l := fun e he => by
  have ge := g e he
  rcases ge with ⟨i, t, h1, h2⟩ | ⟨x, t, h1, h2⟩
  · exact ⟨⟨.inl i, (goodX_is (P := P) (.inl ⟨i, t, h1, h2⟩) _).mpr (by simp [keyX, h1]), h2⟩, by rw [h1]; rfl⟩
  · exact ⟨⟨.inr x, (goodX_is (P := P) (.inr ⟨x, t, h1, h2⟩) _).mpr (by simp [keyX, h1]), h2⟩, by rw [h1]; rfl⟩
theorem goodX_mem {l : List (Int × Value)} (g : ∀ e ∈ l, GoodX w e) (k : Key) : k ∈ l.map keyX ↔ ∃ e ∈ l, (mixKind P w).is k e.2 = true := by
  rw [List.mem_map]
  exact ⟨fun ⟨e, he, q⟩ => ⟨e, he, (goodX_is (g e he) k).mpr q⟩, fun ⟨e, he, q⟩ => ⟨e, he, (goodX_is (g e he) k).mp q⟩⟩
theorem goodX_new {k : Key} {u : Value} (r : RelV (kV k) u) : GoodX w ((mixKind P w).hash k, u) ∧ keyX ((mixKind P w).hash k, u) = k := by
  cases k with
  | inl i => obtain ⟨t, rfl⟩ := r; exact ⟨.inl ⟨i, t, rfl, rfl⟩, rfl⟩
  | inr x => obtain ⟨t, rfl⟩ := r; exact ⟨.inr ⟨x, t, rfl, rfl⟩, rfl⟩
def hasK (ks : List Key) (k : Key) : Bool := ks.any fun j => decide (j = k)
theorem hasK_iff {k : Key} : hasK ks k = true ↔ k ∈ ks := by
  unfold hasK
  rw [List.any_eq_true]
  exact ⟨fun ⟨j, hj, e⟩ => by rw [← of_decide_eq_true e]; exact hj, fun h => ⟨k, h, decide_eq_true rfl⟩⟩
def addK (ks : List Key) (k : Key) : List Key := if hasK ks k = true then ks else ks ++ [k]
theorem SetX.setOf (R : SetX w h a ks) : h.SetOf (mixKind P w) a (hasK ks) ks.length := by
  obtain ⟨o, es, ep, t, ho, hex, hd, g, pm, nd, hb, hf, hr, hl⟩ := R
  refine ⟨o, es, ep, t, ho, hex, hd, goodX_elems g, fun k => ?_, hb, hf, ?_⟩
  · rw [hasK_iff, ← pm.mem_iff]
    exact goodX_mem g k
  · rw [← pm.length_eq, List.length_map, Array.length_toList]
variable {A : Around} {E : Value → Shared → Prop} {s : Shared}
theorem setX_tail {gv : Bool → Sem Unit} (hg : ∀ (b : Bool) (s₁ : Shared) (Q' : Unit → Shared → Prop), Q' () s₁ → wpAny (model P w) A (gv b) Q' E s₁) {o : Obj} {es es1 : Array (Int × Value)} {ep : Nat} {t t2 : SetTable} {js : List Key}
    (ho : s.heap.get? a = some o) (hex : o.ExactSet) (hd : o.data = .set es ep t) (g1 : ∀ e ∈ es1.toList, GoodX w e) (pm1 : (es1.toList.map keyX).Perm js) (nd1 : js.Nodup) (hb1 : es1.size < scanBound) (hf2 : t2.fits es1.size = true) (hr : Ris t2.place.toList)
    (hl : w.params.followText "set-order" = true ∨ t2.led = true) {wd : Bool} {R : Option Bool → Shared → Prop} (hR : ∀ h', Heap.SameBut a s.heap h' → SetX w h' a js → R (some true) { s with heap := h' }) :
    wpAny (model P w) A (do
        storeSet a es1 t2
        if (!wd && t2.tooFull) = true then do
            gv (relayAll t2 es1 (SetTable.grown es1.size)).2.2
            storeSet a (relayAll t2 es1 (SetTable.grown es1.size)).1 (relayAll t2 es1 (SetTable.grown es1.size)).2.1
            pure (some true)
          else pure (some true)) R E s := by
  refine wpAny_bind (wpAny_storeSet_of ho hd ?_ (fits_of_scanBound hb1))
  have o1 := store_at (es' := es1) (t' := t2) ho hd
  have k1 := Heap.SameBut.update s.heap a (Obj.putSet es1 t2)
  by_cases hc : (!wd && t2.tooFull) = true
  · rw [if_pos hc]
    have pm := relayAll_perm t2 es1 (SetTable.grown es1.size)
    have f3 := relayAll_fits t2 es1 (SetTable.grown es1.size)
    have r3 := relayAll_ris t2 es1 (SetTable.grown es1.size)
    have l3 := relayAll_led t2 es1 (SetTable.grown es1.size)
    generalize relayAll t2 es1 (SetTable.grown es1.size) = Z at pm f3 r3 l3 ⊢
    obtain ⟨es2, t3, gave⟩ := Z
    dsimp only at pm f3 r3 l3 ⊢
    have hsz : es2.size = es1.size := by rw [← Array.length_toList, pm.length_eq, Array.length_toList]
    have hb2 : es2.size < scanBound := by rw [hsz]; exact hb1
    refine wpAny_bind (hg _ _ _ (wpAny_bind (wpAny_storeSet_of o1 rfl ?_ (fits_of_scanBound hb2))))
    refine wpAny_pure (hR _ (k1.trans (Heap.SameBut.update _ a _)) ⟨_, es2, _, t3, store_at (es' := es2) (t' := t3) o1 rfl, hex, rfl, fun e he => g1 e (pm.mem_iff.mp he), (pm.map keyX).trans pm1, nd1, hb2, f3, r3, hl.imp id fun z => by rw [l3]; exact z⟩)
  · rw [if_neg hc]
    exact wpAny_pure (hR _ k1 ⟨_, es1, _, t2, o1, hex, rfl, g1, pm1, nd1, hb1, hf2, hr, hl⟩)
theorem setX_hashed {k : Key} {u : Value} {Q : Bool → Shared → Prop} (ru : RelV (kV k) u) (R : SetX w s.heap a ks) (room : ks.length + 1 < scanBound) (hQ : ∀ h', Heap.SameBut a s.heap h' → SetX w h' a (addK ks k) → Q (!hasK ks k) { s with heap := h' }) :
    wpAny (model P w) A (setAddHashed a u ((mixKind P w).hash k)) Q E s := by
  obtain ⟨o, es, ep, t, ho, hex, hd, g, pm, nd, hb, hf, hr, hl⟩ := R
  have hkey : (mixKind P w).is k u = true := kV_is ru
  have hsc : u.scannable = true := key_scan ru
  have hel : ElemsOf (mixKind P w) es.toList := goodX_elems g
  unfold setAddHashed setAddHashedIn
  refine wpAny_holding (wpAny_bind (wpAny_setState_of ho hd hf ?_))
  dsimp only
  rw [byScan_of hsc hb hel]
  simp only [↓reduceIte]
  unfold setAddByScan
  refine wpAny_bind (wpAny_bind (wpAny_rule (wpAny_bind (wpAny_setScan_of hkey ho hd hf hel ?_))))
  cases hfi : List.findIdx? (fun e => (mixKind P w).is k e.2) es.toList with
  | some j =>
    dsimp only
    obtain ⟨hj, pj, _⟩ := List.findIdx?_eq_some_iff_getElem.mp hfi
    have hk : hasK ks k = true := hasK_iff.mpr (pm.mem_iff.mp ((goodX_mem (P := P) g k).mpr ⟨es.toList[j], List.getElem_mem hj, pj⟩))
    refine wpAny_pure (wpAny_pure ?_)
    have q := hQ s.heap (Heap.SameBut.refl a s.heap) (by unfold addK; rw [if_pos hk]; exact ⟨o, es, ep, t, ho, hex, hd, g, pm, nd, hb, hf, hr, hl⟩)
    rw [hk] at q
    exact q
  | none =>
    dsimp only
    have hn : k ∉ es.toList.map keyX := fun z => by
      obtain ⟨e, he, q⟩ := (goodX_mem (P := P) g k).mp z
      have c := List.findIdx?_eq_none_iff.mp hfi e he
      rw [q] at c
      cases c
    have hk : hasK ks k = false := by
      cases q : hasK ks k with
      | false => rfl
      | true => exact absurd (pm.mem_iff.mpr (hasK_iff.mp q)) hn
    have hgw : ∀ (b : Bool) {s₁ : Shared} {Q' : Unit → Shared → Prop}, Q' () s₁ → wpAny (model P w) A (match b with | true => rule "set.scan.the-table-gave-way" | false => pure ()) Q' E s₁ :=
      fun b s₁ Q' q => by cases b <;> first | exact wpAny_pure q | exact wpAny_rule q
    have p1 := layNew_perm t es ((mixKind P w).hash k) u
    have f1 := layNew_fits t es ((mixKind P w).hash k) u
    have r1 := layNew_ris t es ((mixKind P w).hash k) u hr
    have l1 := layNew_led t es ((mixKind P w).hash k) u
    generalize layNew t es ((mixKind P w).hash k) u = Z at p1 f1 r1 l1 ⊢
    obtain ⟨es1, t1, wd, gave⟩ := Z
    dsimp only at p1 f1 r1 l1 ⊢
    rw [Array.toList_push] at p1
    obtain ⟨gn, kn⟩ := goodX_new (P := P) ru
    have pk : (es1.toList.map keyX).Perm (addK ks k) := by
      have q := p1.map keyX
      rw [List.map_append, List.map_singleton, kn] at q
      unfold addK
      rw [if_neg (by rw [hk]; decide)]
      exact q.trans (pm.append_right [k])
    have g1 : ∀ e ∈ es1.toList, GoodX w e := fun e he => by
      rcases List.mem_append.mp (p1.mem_iff.mp he) with z | z
      · exact g e z
      · rw [List.mem_singleton.mp z]; exact gn
    have nd1 : (addK ks k).Nodup := by
      unfold addK
      rw [if_neg (by rw [hk]; decide)]
      exact List.nodup_append.mpr ⟨nd, by simp, fun x hx y hy => by rw [List.mem_singleton.mp hy]; exact fun z => hn (pm.mem_iff.mpr (z ▸ hx))⟩
    have hb1 : es1.size < scanBound := by
      have q := p1.length_eq
      have q2 := pm.length_eq
      rw [List.length_append, List.length_singleton, Array.length_toList, Array.length_toList] at q
      rw [List.length_map, Array.length_toList] at q2
      omega
    have hled : w.params.followText "set-order" = true ∨ t1.led = true := hl.imp id fun z => by rw [l1]; exact z
    have fin : ∀ h', Heap.SameBut a s.heap h' → SetX w h' a (addK ks k) → Q true { s with heap := h' } := fun h' sb r => by
      have q := hQ h' sb r
      rw [hk] at q
      exact q
    refine wpAny_bind (hgw _ ?_)
    split
    · refine wpAny_bind ?_
      rw [hashByValue_scannable 8 hsc]
      refine wpAny_pure ?_
      refine setX_tail ?_ ho hex hd g1 pk nd1 hb1 ?_ ?_ ?_ ?_
      · intro b s₁ Q' q; cases b <;> first | exact wpAny_pure q | exact wpAny_rule q
      · first | (split <;> first | exact f1 | exact SetTable.fits_plain_off f1) | exact f1
      · first | (split <;> exact r1) | exact r1
      · first | (split <;> exact hled) | exact hled
      · intro h' sb r; dsimp only; exact wpAny_pure (fin h' sb r)
    · refine wpAny_bind (wpAny_pure ?_)
      simp only [↓reduceIte]
      refine setX_tail ?_ ho hex hd g1 pk nd1 hb1 f1 r1 hled ?_
      · intro b s₁ Q' q; cases b <;> first | exact wpAny_pure q | exact wpAny_rule q
      · intro h' sb r; dsimp only; exact wpAny_pure (fin h' sb r)
end
end Ab
end
section
set_option Elab.async false
set_option linter.all false
set_option maxRecDepth 100000
set_option maxHeartbeats 4000000
namespace Ab
open PySem PySem.Spec PyProof.Rows L2
section
variable {P : Program} {w : World} {a : Addr} {ks : List Key} {A : Around} {E : Value → Shared → Prop} {s : Shared}
theorem setX_add {k : Key} {u : Value} {Q : Value → Shared → Prop} (ru : RelV (kV k) u) (R : SetX w s.heap a ks) (room : ks.length + 1 < scanBound) (hQ : ∀ h' tk, Heap.SameBut a s.heap h' → SetX w h' a (addK ks k) → Q .none { s with heap := h', toks := tk }) :
    wpAny (model P w) A (call (.builtin "set.add") [.ref a, u]) Q E s := by
  have hS : s.heap.SetOf (mixKind P w) a (hasK ks) ks.length := R.setOf
  refine wpAny_call_entry F.slot_set_add hS.typeIs F.entry_set_add ?_ (F.args_set_add_2 _ _)
  unfold Builtin.«set.add» Builtin.Frozenset.oneOther
  simp only [List.isEmpty_nil, bind_assoc]
  unfold Builtin.Frozenset.addrOf setAdd
  refine wpAny_bind (wpAny_pure ?_)
  try dsimp only
  refine wpAny_bind (wpAny_pure ?_)
  try dsimp only
  refine wpAny_bind (wpAny_holding (wpAny_bind ((mixKind P w).pyHash (kV_is ru) ?_)))
  refine setX_hashed (s := { s with toks := s.toks + 1 }) ru R room fun h' sb r => ?_
  show wpAny _ _ (ret Value.none) _ _ _
  exact wpAny_pure ⟨_, rfl, hQ h' _ sb r⟩
theorem setX_fresh {h : Heap} (w : World) : SetX w (h.push { cls := .type "set", dict := none, data := .set #[] 0 (.fresh 0 0 (!w.params.followText "set-order")) }) h.objs.size [] :=
  ⟨_, #[], 0, _, Heap.get?_push_size _ rfl, ⟨rfl, rfl, rfl⟩, rfl, (fun e he => by simp at he), .nil, .nil, (by decide), (by rfl), List.Pairwise.nil, by
    show _ ∨ (!w.params.followText "set-order") = true
    cases w.params.followText "set-order"
    · exact .inr rfl
    · exact .inl rfl⟩
end
/-! ### over the abstract heap -/
def SetO' (w : World) (a : Addr) (ks : List Key) : HO := .ext fun h => SetX w h a ks
theorem setO_ok {w : World} {P : Program} {H : Hp} {h : Heap} {a : Addr} {ks : List Key} (R : SetX w h a ks) : ObjOk P w H h a (SetO' w a ks) := by
  have ⟨o, _, _, _, ho, _⟩ := R
  exact ⟨R, ⟨o, ho⟩, fun h1 h2 p k => p.at k⟩
section
variable {X : Cx}
theorem setO_at {pins : List (Addr × Obj)} {σ : L2.St} {H : Hp} {s : Shared} {a : Addr} {ks : List Key} (I : Inv X pins σ H s) (ha : H a = some (SetO' X.w a ks)) : SetX X.w s.heap a ks := (I.hok a _ ha).1
/-- set() -/
def rSetN (w : World) : List V → Hp → VK → Prop := fun xs H Q => xs = [] ∧ ∀ p, H p = none → Q (.ref p) (upd H p (SetO' w p []))
theorem crSetN : CallR X (.type "set") (rSetN X.w) := by
  rintro pins s σ H xs us Q I r ⟨rfl, q⟩
  cases r
  refine setR_new fun _ => ?_
  exact ⟨.ref _, _, I.laid (t' := s.toks) (fun b u e => Heap.get?_push_of_some _ e) (Nat.le_refl _) (setO_ok (setX_fresh X.w)), rfl, q _ (I.hok.fresh (Nat.le_refl _))⟩
/-- found.add(k) -/
def rSAddX (w : World) : V → List V → Hp → VK → Prop := fun x xs H Q => ∃ (a : Addr) (k : Key) (ks : List Key), x = V.ref a ∧ xs = [kV k] ∧ H a = some (SetO' w a ks) ∧ ks.length + 1 < scanBound ∧ Q .non (upd H a (SetO' w a (addK ks k)))
theorem mt_saddX : MtR X "set.add" (rSAddX X.w) := by
  rintro pins s σ H x xs v us Q I rx rxs ⟨a, k, ks, rfl, rfl, ha, room, q⟩
  obtain rfl : v = Value.ref a := rx
  obtain ⟨u, rfl, ru⟩ := vals1 rxs
  refine setX_add ru (setO_at I ha) room fun h' tk sb new => ?_
  have he : ∃ u, h'.get? a = some u := by
    have ⟨o, _, _, _, ho, _⟩ := new
    exact ⟨o, ho⟩
  exact ⟨.non, _, I.write (e := a) (t' := tk) (by rw [ha]; trivial) (.inl rfl) (fun b u hb hu => (sb.2 b hb).trans hu) he (setO_ok new), rfl, q⟩
def tSAddX (w : World) (to : TE) (t : TA) : TE := fun σ H Q => to σ H fun x H1 => (∃ a ks, x = V.ref a ∧ H1 a = some (SetO' w a ks)) ∧ t σ H1 fun xs H2 => rSAddX w x xs H2 Q
variable {o e : Expr} {es : List Expr} {to : TE} {t : TA} {apos cpos : Pos}
theorem pe_saddX (ho : PE X o to) (ha : PA X (e :: es) t) (hbase : attributeBase o "add" X.env (eval o X.env) = eval o X.env := by rfl)
    (hfew : ((backTo cpos (starEach (e :: es) X.env)).all (fun x => !x.1) && (backToKw cpos (keywordEach [] X.env)).all (fun x => x.1.isSome) && decide ((e :: es).length + ([] : List Keyword).length + (if ([] : List Keyword).isEmpty then 0 else 1) < 30)) = true := by rfl)
    (hline : (apos.endLine == cpos.line) = true := by rfl) (hs : starEach (e :: es) X.env = (false, eval e X.env) :: starEach es X.env := by rfl) (hplain : (backTo cpos (starEach es X.env)).any (·.1) = false := by rfl) :
    PE X (.Call (.Attribute o "add" apos) (e :: es) [] cpos) (tSAddX X.w to t) := ⟨fun pins s σ H Q I h => by
  refine wpAny_Call_method_late hbase hfew hline rfl (thn (ho.run pins s σ H _ I h) fun v s1 ⟨x, H1, I1, r1, ty, q1⟩ => ?_)
  obtain ⟨a, ks, rfl, hka⟩ := ty
  have hS : s1.heap.SetOf (mixKind X.prog X.w) a (hasK ks) ks.length := (setO_at I1 hka).setOf
  obtain rfl : v = Value.ref a := r1
  refine ⟨"set", "set.add", F.plainAttrs_set, F.slot_set_add, F.type_set_add, hS.typeIs, hS.noDict, ?_⟩
  have hA := ha.run cpos pins s1 σ H1 _ I1 q1
  rw [hs] at hA ⊢
  refine Calls.callWith_builtin (by show (false || (backTo cpos (starEach es X.env)).any (·.1)) = false; rw [hplain] <;> rfl) (Calls.evalArgs_plain (thn hA fun us s2 ⟨vs, H2, I2, r2, q2⟩ => ?_))
  exact mt_saddX pins s2 σ H2 (.ref a) vs (.ref a) us Q I2 rfl r2 q2⟩
/-- k in found -/
def rSInX (w : World) (neg : Bool) : V → V → Hp → VK → Prop := fun x y H Q => ∃ (k : Key) (a : Addr) (ks : List Key), x = kV k ∧ y = V.ref a ∧ H a = some (SetO' w a ks) ∧ Q (.bl (if neg then !hasK ks k else hasK ks k)) H
theorem op_sinX : OpR X (compareOp .In) (rSInX X.w false) := by
  rintro pins s σ H x y v u Q I rx ry ⟨k, a, ks, rfl, rfl, ha, q⟩
  obtain rfl : u = Value.ref a := ry
  exact wpAny_inSet_of (kV_is rx) (key_scan rx) ((setO_at I ha).setOf (P := X.prog)) ⟨.bl (hasK ks k), H, I.tok _, rfl, q⟩
theorem op_snotinX : OpR X (compareOp .NotIn) (rSInX X.w true) := by
  rintro pins s σ H x y v u Q I rx ry ⟨k, a, ks, rfl, rfl, ha, q⟩
  obtain rfl : u = Value.ref a := ry
  exact wpAny_notInSet_of (kV_is rx) (key_scan rx) ((setO_at I ha).setOf (P := X.prog)) ⟨.bl (!hasK ks k), H, I.tok _, rfl, q⟩
end
end Ab
end
section
set_option Elab.async false
set_option linter.all false
set_option maxRecDepth 100000
set_option maxHeartbeats 4000000
/-! A machine over plain data beside the abstract heap: what a def does, told as a function of data and of a store of the cells that it may change. -/
namespace Ab
open PySem PySem.Spec PyProof.Rows L2

abbrev Dt := PyData
abbrev SetP (P : Program) (w : World) (a : Addr) (ks : List Key) : HO := SetO' w a ks
/-- what a name holds: data that never changes, the n-th cell of the store, or the script (a list of ints from outside) -/
inductive Sl where
  | d (x : PyData)
  | r (n : Nat)
  | s (ns : List Int)
inductive Cell where
  | lst (xs : List Sl)
  | dct (kvs : List (Key × Sl))
  | set (ks : List Key)
  | gone
abbrev AEnv := List (Option Sl)
abbrev ASto := List Cell
/-- an error on its way: its class's name, its fields (none: the class has no __init__ of its own) -/
structure AErr where
  nm : Str
  fs : Option (List (Str × PyData))
inductive Res (α : Type) where
  | ok (a : α) (M : ASto)
  | ex (e : AErr) (M : ASto)
  | no
def Res.bind {α β : Type} (r : Res α) (k : α → ASto → Res β) : Res β := match r with
  | .ok a M => k a M
  | .ex e M => .ex e M
  | .no => .no

mutual
/-- data in W: every list and tuple of it stands there -/
inductive Dq (K : PySem.W.Frag) (W : Hp) : V → PyData → Prop
  | non : Dq K W .non .none
  | bl (b : Bool) : Dq K W (.bl b) (.bool b)
  | int (i : Int) : Dq K W (.int i) (.int i)
  | str (x : Str) : Dq K W (.str x) (.str x)
  | lst {a : Addr} {xs : List V} {ds : List PyData} : W a = some (.lst xs) → DqAll K W xs ds → Dq K W (.ref a) (.list ds)
  | tup {a : Addr} {ob : Obj} {xs : List V} {ds : List PyData} : W a = some (.frz ob (.tup xs)) → ob.dict = none → DqAll K W xs ds → Dq K W (.ref a) (.tuple ds)
inductive DqAll (K : PySem.W.Frag) (W : Hp) : List V → List PyData → Prop
  | nil : DqAll K W [] []
  | cons {v : V} {vs : List V} {d : PyData} {ds : List PyData} : Dq K W v d → DqAll K W vs ds → DqAll K W (v :: vs) (d :: ds)
end
mutual
theorem Dq.dp {K : PySem.W.Frag} {W : Hp} : ∀ {v : V} {d : PyData}, Dq K W v d → L2.Dp K W v d
  | _, _, .non => .non
  | _, _, .bl b => .bl b
  | _, _, .int i => .int i
  | _, _, .str x => .str x
  | _, _, .lst hs ha => .lst (SqL.of hs) (DqAll.dp ha)
  | _, _, .tup hs _ ha => .tup (.inl (.inr ⟨_, hs⟩)) (DqAll.dp ha)
theorem DqAll.dp {K : PySem.W.Frag} {W : Hp} : ∀ {vs : List V} {ds : List PyData}, DqAll K W vs ds → L2.DpAll K W vs ds
  | _, _, .nil => .nil
  | _, _, .cons a b => .cons (Dq.dp a) (DqAll.dp b)
end
section
variable (P : Program) (w : World) (K : PySem.W.Frag) (mg : Str → Option Value)
def SlRel (W : Hp) (as : List Addr) (v : V) : Sl → Prop
  | .d x => Dq K W v x
  | .r n => ∃ a, as[n]? = some a ∧ v = .ref a
  | .s ns => ∃ a, v = .ref a ∧ SqL K W a (ns.map V.int)
def CellOk (W : Hp) (as : List Addr) (H : Hp) (a : Addr) : Cell → Prop
  | .lst xs => W a = none ∧ ∃ vs, H a = some (.lst vs) ∧ Paired (SlRel K W as) vs xs
  | .dct kvs => W a = none ∧ ∃ es, H a = some (.dK es) ∧ Paired (fun (e : Key × V) (s : Key × Sl) => e.1 = s.1 ∧ SlRel K W as e.2 s.2) es kvs
  | .set ks => W a = none ∧ H a = some (SetP P w a ks)
  | .gone => W a ≠ none
/-- a pair that is walked: the tuple's own object is not told -/
def SlW (W : Hp) (as : List Addr) (v : V) (s : Sl) : Prop := SlRel K W as v s ∨ ∃ a vs ds, v = .ref a ∧ s = .d (.tuple ds) ∧ Rd W a (.tup vs) ∧ DqAll K W vs ds
structure Own (W : Hp) (as : List Addr) (M : ASto) (H : Hp) : Prop where
  sub : ∀ a o, W a = some o → H a = some o
  len : as.length = M.length
  nd : as.Nodup
  cell : ∀ (n : Nat) (a : Addr) (c : Cell), as[n]? = some a → M[n]? = some c → CellOk P w K W as H a c
structure Go (W : Hp) (as : List Addr) (H : Hp) (W' : Hp) (as' : List Addr) (M' : ASto) (H' : Hp) : Prop where
  same : Same W W'
  pre : ∃ bs, as' = as ++ bs ∧ ∀ a ∈ bs, H a = none
  own : Own P w K W' as' M' H'
  keep : ∀ a o, H a = some o → a ∉ as → H' a = some o
  new : ∀ a, W' a ≠ none → W a ≠ none ∨ a ∈ as ∨ H a = none
def EnvR (W : Hp) (as : List Addr) (σ : L2.St) (ds : AEnv) : Prop := σ.length = ds.length ∧ ∀ (i : Nat) (s : Sl), ds[i]? = some (some s) → ∃ v, σ[i]? = some (some v) ∧ SlRel K W as v s
/-- an error and what it carries, in the heap behind it -/
def ErrRel (W : Hp) (H : Hp) (e : AErr) (cls : Value) (dd : Option Addr) : Prop := ∃ C, mg e.nm = some (.ref C) ∧ cls = .ref C ∧ match e.fs with
  | none => dd = none
  | some fs => ∃ (d : Addr) (vs : List (Str × V)), dd = some d ∧ H d = some (.xd vs) ∧ Paired (fun (x : Str × V) (y : Str × PyData) => x.1 = y.1 ∧ Dq K W x.2 y.2) vs fs
end

section
variable {P : Program} {w : World} {K : PySem.W.Frag} {mg : Str → Option Value}
mutual
theorem Dq.up {W W' : Hp} (h : Same W W') : ∀ {v : V} {d : PyData}, Dq K W v d → Dq K W' v d
  | _, _, .non => .non
  | _, _, .bl b => .bl b
  | _, _, .int i => .int i
  | _, _, .str x => .str x
  | _, _, .lst hs ha => .lst (h _ _ hs) (DqAll.up h ha)
  | _, _, .tup hs hn ha => .tup (h _ _ hs) hn (DqAll.up h ha)
theorem DqAll.up {W W' : Hp} (h : Same W W') : ∀ {vs : List V} {ds : List PyData}, DqAll K W vs ds → DqAll K W' vs ds
  | _, _, .nil => .nil
  | _, _, .cons a b => .cons (Dq.up h a) (DqAll.up h b)
end
theorem SqL.up {W W' : Hp} {a : Addr} {xs : List V} (h : Same W W') (hs : SqL K W a xs) : SqL K W' a xs := h.seq hs
theorem SqT.up {W W' : Hp} {a : Addr} {xs : List V} (h : Same W W') (hs : SqT K W a xs) : SqT K W' a xs := by
  rcases hs with (q | ⟨o, q⟩) | q
  · exact .inl (.inl (h _ _ q))
  · exact .inl (.inr ⟨o, h _ _ q⟩)
  · exact .inr q
theorem SlRel.up {W W' : Hp} {as bs : List Addr} {v : V} {s : Sl} (h : Same W W') (r : SlRel K W as v s) : SlRel K W' (as ++ bs) v s := by
  cases s with
  | d x => exact Dq.up h r
  | r n =>
    obtain ⟨a, h1, h2⟩ := r
    refine ⟨a, ?_, h2⟩
    rw [List.getElem?_append_left (List.getElem?_eq_some_iff.mp h1).1]
    exact h1
  | s ns =>
    obtain ⟨a, h1, h2⟩ := r
    exact ⟨a, h1, SqL.up h h2⟩
theorem Paired.imp' {α β : Type} {R S : α → β → Prop} (h : ∀ a b, R a b → S a b) : ∀ {xs : List α} {ys : List β}, Paired R xs ys → Paired S xs ys
  | _, _, .nil => .nil
  | _, _, .cons a b => .cons (h _ _ a) (Paired.imp' h b)
theorem Go.refl {W : Hp} {as : List Addr} {M : ASto} {H : Hp} (o : Own P w K W as M H) : Go P w K W as H W as M H :=
  ⟨Same.refl W, ⟨[], by simp, by simp⟩, o, fun _ _ h _ => h, fun _ h => .inl h⟩
theorem Go.trans {W W1 W2 : Hp} {as as1 as2 : List Addr} {M1 M2 : ASto} {H H1 H2 : Hp} (a : Go P w K W as H W1 as1 M1 H1) (b : Go P w K W1 as1 H1 W2 as2 M2 H2) : Go P w K W as H W2 as2 M2 H2 := by
  obtain ⟨b1, rfl, f1⟩ := a.pre
  obtain ⟨b2, rfl, f2⟩ := b.pre
  have nd := b.own.nd
  have k1 : ∀ x o, H x = some o → x ∉ as → H1 x = some o ∧ x ∉ as ++ b1 := fun x o hx hn => ⟨a.keep x o hx hn, fun m => by
    rcases List.mem_append.mp m with m | m
    · exact hn m
    · rw [f1 x m] at hx; cases hx⟩
  have back : ∀ x, H1 x = none → x ∈ as ∨ H x = none := fun x hx => by
    by_cases m : x ∈ as
    · exact .inl m
    · refine .inr ?_
      cases e : H x with
      | none => rfl
      | some o =>
        rw [a.keep x o e m] at hx
        cases hx
  refine ⟨a.same.trans b.same, ⟨b1 ++ b2, by rw [List.append_assoc], fun x m => ?_⟩, b.own, fun x o hx hn => ?_, fun x hx => ?_⟩
  · rcases List.mem_append.mp m with m | m
    · exact f1 x m
    · rcases back x (f2 x m) with q | q
      · exact absurd rfl (List.nodup_append.mp nd |>.2.2 x (List.mem_append_left _ q) x m)
      · exact q
  · obtain ⟨p1, p2⟩ := k1 x o hx hn
    exact b.keep x o p1 p2
  · rcases b.new x hx with q | q | q
    · exact a.new x q
    · rcases List.mem_append.mp q with q | q
      · exact .inr (.inl q)
      · exact .inr (.inr (f1 x q))
    · rcases back x q with q | q
      · exact .inr (.inl q)
      · exact .inr (.inr q)
theorem Go.rel {W W' : Hp} {as as' : List Addr} {M' : ASto} {H H' : Hp} {v : V} {s : Sl} (g : Go P w K W as H W' as' M' H') (r : SlRel K W as v s) : SlRel K W' as' v s := by
  obtain ⟨bs, rfl, _⟩ := g.pre
  exact r.up g.same
theorem Go.rels {W W' : Hp} {as as' : List Addr} {M' : ASto} {H H' : Hp} {vs : List V} {ss : List Sl} (g : Go P w K W as H W' as' M' H') (r : Paired (SlRel K W as) vs ss) : Paired (SlRel K W' as') vs ss :=
  Paired.imp' (fun _ _ q => g.rel q) r
theorem Go.env {W W' : Hp} {as as' : List Addr} {M' : ASto} {H H' : Hp} {σ : L2.St} {ds : AEnv} (g : Go P w K W as H W' as' M' H') (r : EnvR K W as σ ds) : EnvR K W' as' σ ds :=
  ⟨r.1, fun i s h => let ⟨v, h1, h2⟩ := r.2 i s h; ⟨v, h1, g.rel h2⟩⟩
/-- what is known in W stands in H -/
theorem Own.dq {W : Hp} {as : List Addr} {M : ASto} {H : Hp} {v : V} {d : PyData} (o : Own P w K W as M H) (r : Dq K W v d) : Dq K H v d := Dq.up o.sub r
theorem Own.seq {W : Hp} {as : List Addr} {M : ASto} {H : Hp} {a : Addr} {xs : List V} (o : Own P w K W as M H) (r : W a = some (.lst xs)) : SqL K H a xs := SqL.of (o.sub _ _ r)
theorem Own.tup {W : Hp} {as : List Addr} {M : ASto} {H : Hp} {a : Addr} {xs : List V} (o : Own P w K W as M H) (r : Rd W a (.tup xs)) : SqT K H a xs := .inl (r.elim (fun e => .inl (o.sub _ _ e)) fun ⟨_, e⟩ => .inr ⟨_, o.sub _ _ e⟩)
/-- a new object that never changes -/
theorem Own.newW {W : Hp} {as : List Addr} {M : ASto} {H : Hp} (o : Own P w K W as M H) {p : Addr} (hp : H p = none) (x : HO) : Go P w K W as H (upd W p x) as M (upd H p x) := by
  have wp : W p = none := by
    cases e : W p with
    | none => rfl
    | some u => rw [o.sub p u e] at hp; cases hp
  have np : ∀ {a : Addr} {u : HO}, H a = some u → a ≠ p := fun {a u} e z => by rw [z, hp] at e; cases e
  have sm : Same W (upd W p x) := fun a u e => by rw [upd_ne (np (o.sub a u e))]; exact e
  refine ⟨sm, ⟨[], by simp, by simp⟩, ⟨fun a u e => ?_, o.len, o.nd, fun n a c h1 h2 => ?_⟩, fun a u e _ => by rw [upd_ne (np e)]; exact e, fun a h => ?_⟩
  · by_cases ha : a = p
    · rw [ha, upd_same] at e ⊢
      exact e
    · rw [upd_ne ha] at e ⊢
      exact o.sub a u e
  · have q := o.cell n a c h1 h2
    cases c with
    | lst xs =>
      obtain ⟨q0, vs, q1, q2⟩ := q
      refine ⟨by rw [upd_ne (np q1)]; exact q0, vs, by rw [upd_ne (np q1)]; exact q1, Paired.imp' (fun v s r => ?_) q2⟩
      have := SlRel.up (bs := []) sm r
      rwa [List.append_nil] at this
    | dct kvs =>
      obtain ⟨q0, vs, q1, q2⟩ := q
      refine ⟨by rw [upd_ne (np q1)]; exact q0, vs, by rw [upd_ne (np q1)]; exact q1, Paired.imp' (fun v s r => ⟨r.1, ?_⟩) q2⟩
      have := SlRel.up (bs := []) sm r.2
      rwa [List.append_nil] at this
    | set ks =>
      obtain ⟨q0, q1⟩ := q
      exact ⟨by rw [upd_ne (np q1)]; exact q0, by rw [upd_ne (np q1)]; exact q1⟩
    | gone =>
      obtain ⟨u, hu⟩ := Option.ne_none_iff_exists'.mp q
      show upd W p x a ≠ none
      rw [upd_ne (np (o.sub a u hu))]
      exact q
  · by_cases ha : a = p
    · exact .inr (.inr (by rw [ha]; exact hp))
    · rw [upd_ne ha] at h
      exact .inl h
theorem CellOk.up {W W' : Hp} {as bs : List Addr} {H H' : Hp} {a : Addr} {c : Cell} (sm : Same W W') (hW : W' a = W a) (hH : H' a = H a) (q : CellOk P w K W as H a c) : CellOk P w K W' (as ++ bs) H' a c := by
  cases c with
  | lst xs =>
    obtain ⟨q0, vs, q1, q2⟩ := q
    exact ⟨hW.trans q0, vs, hH.trans q1, Paired.imp' (fun v s r => SlRel.up sm r) q2⟩
  | dct kvs =>
    obtain ⟨q0, vs, q1, q2⟩ := q
    exact ⟨hW.trans q0, vs, hH.trans q1, Paired.imp' (fun v s r => ⟨r.1, SlRel.up sm r.2⟩) q2⟩
  | set ks => exact ⟨hW.trans q.1, hH.trans q.2⟩
  | gone =>
    show W' a ≠ none
    rw [hW]
    exact q
/-- a new cell -/
theorem Own.newC {W : Hp} {as : List Addr} {M : ASto} {H : Hp} (o : Own P w K W as M H) {p : Addr} (hp : H p = none) {x : HO} {c : Cell} (hc : CellOk P w K W (as ++ [p]) (upd H p x) p c) : Go P w K W as H W (as ++ [p]) (M ++ [c]) (upd H p x) := by
  have wp : W p = none := by
    cases e : W p with
    | none => rfl
    | some u => rw [o.sub p u e] at hp; cases hp
  have np : ∀ {a : Addr} {u : HO}, H a = some u → a ≠ p := fun {a u} e z => by rw [z, hp] at e; cases e
  have pin : p ∉ as := fun pin => by
    obtain ⟨n, hn⟩ := List.mem_iff_getElem?.mp pin
    have hl : n < M.length := by rw [← o.len]; exact (List.getElem?_eq_some_iff.mp hn).1
    have q := o.cell n p M[n] hn (List.getElem?_eq_getElem hl)
    cases e : M[n] with
    | lst xs =>
      rw [e] at q
      obtain ⟨_, vs, q1, _⟩ := q
      rw [hp] at q1; cases q1
    | dct kvs =>
      rw [e] at q
      obtain ⟨_, vs, q1, _⟩ := q
      rw [hp] at q1; cases q1
    | set ks =>
      rw [e] at q
      have q1 := q.2
      rw [hp] at q1; cases q1
    | gone =>
      rw [e] at q
      exact q wp
  refine ⟨Same.refl W, ⟨[p], rfl, fun a m => by rw [List.mem_singleton.mp m]; exact hp⟩, ⟨fun a u e => by rw [upd_ne (np (o.sub a u e))]; exact o.sub a u e, by simp [o.len], ?_, fun n a c' h1 h2 => ?_⟩, fun a u e _ => by rw [upd_ne (np e)]; exact e, fun a h => .inl h⟩
  · exact List.nodup_append.mpr ⟨o.nd, by simp, fun a m b mb => by rw [List.mem_singleton.mp mb]; exact fun z => pin (z ▸ m)⟩
  · by_cases hn : n < as.length
    · rw [List.getElem?_append_left hn] at h1
      rw [List.getElem?_append_left (by rw [← o.len]; exact hn)] at h2
      have ha : a ≠ p := fun z => pin (z ▸ List.mem_of_getElem? h1)
      exact (o.cell n a c' h1 h2).up (Same.refl W) rfl (upd_ne ha)
    · rw [List.getElem?_append_right (by omega)] at h1
      rw [List.getElem?_append_right (by rw [← o.len]; omega)] at h2
      have e0 : n - as.length = 0 := by
        have := (List.getElem?_eq_some_iff.mp h1).1
        simp at this
        omega
      have e1 : n - M.length = 0 := by rw [← o.len]; exact e0
      rw [e0] at h1
      rw [e1] at h2
      simp at h1 h2
      subst h1 h2
      exact hc
end
end Ab
end
section
set_option Elab.async false
set_option linter.all false
set_option maxRecDepth 100000
set_option maxHeartbeats 4000000
namespace Ab
open PySem PySem.Spec PyProof.Rows L2
section
variable (P : Program) (w : World) (K : PySem.W.Frag) (mg : Str → Option Value)
def MG {α β : Type} (rel : Hp → List Addr → α → β → Prop) (Q : α → Hp → Prop) (E : XK) (W : Hp) (as : List Addr) (H : Hp) : Res β → Prop
  | .ok b M' => ∀ a W' as' H', Go P w K W as H W' as' M' H' → rel W' as' a b → Q a H'
  | .ex e M' => ∀ cls dd W' as' H', Go P w K W as H W' as' M' H' → ErrRel K mg W' H' e cls dd → E cls dd H'
  | .no => False
abbrev rSl : Hp → List Addr → V → Sl → Prop := SlRel K
abbrev rSls : Hp → List Addr → List V → List Sl → Prop := fun W as => Paired (SlRel K W as)
abbrev rBl : Hp → List Addr → Bool → Bool → Prop := fun _ _ a b => a = b
structure SE (E : XK) (t : TE) (f : AEnv → ASto → Res Sl) : Prop where
  run : ∀ (ds : AEnv) (M : ASto) (σ : L2.St) (W : Hp) (as : List Addr) (H : Hp) (Q : VK), EnvR K W as σ ds → Own P w K W as M H → MG P w K mg (rSl K) Q E W as H (f ds M) → t σ H Q
structure ST (E : XK) (t : TT) (f : AEnv → ASto → Res Bool) : Prop where
  run : ∀ (ds : AEnv) (M : ASto) (σ : L2.St) (W : Hp) (as : List Addr) (H : Hp) (Q : Bool → Hp → Prop), EnvR K W as σ ds → Own P w K W as M H → MG P w K mg rBl Q E W as H (f ds M) → t σ H Q
structure SA (E : XK) (t : TA) (f : AEnv → ASto → Res (List Sl)) : Prop where
  run : ∀ (ds : AEnv) (M : ASto) (σ : L2.St) (W : Hp) (as : List Addr) (H : Hp) (Q : List V → Hp → Prop), EnvR K W as σ ds → Own P w K W as M H → MG P w K mg (rSls K) Q E W as H (f ds M) → t σ H Q
/-- an operation on two values; a call of a built-in -/
def SR (r : R2) (f : Sl → Sl → ASto → Res Sl) : Prop := ∀ (M : ASto) (W : Hp) (as : List Addr) (H : Hp) (x y : V) (s u : Sl) (Q : VK) (E : XK), Own P w K W as M H → SlRel K W as x s → SlRel K W as y u → MG P w K mg (rSl K) Q E W as H (f s u M) → r x y H Q
def SC (r : List V → Hp → VK → Prop) (f : List Sl → ASto → Res Sl) : Prop := ∀ (M : ASto) (W : Hp) (as : List Addr) (H : Hp) (xs : List V) (ss : List Sl) (Q : VK) (E : XK), Own P w K W as M H → Paired (SlRel K W as) xs ss → MG P w K mg (rSl K) Q E W as H (f ss M) → r xs H Q
inductive Out where
  | nx (ds : AEnv) (M : ASto)
  | rt (s : Sl) (M : ASto)
  | bk (ds : AEnv) (M : ASto)
  | ct (ds : AEnv) (M : ASto)
  | ex (e : AErr) (M : ASto)
  | no
def MO (D : Ends) (E : XK) (W : Hp) (as : List Addr) (H : Hp) : Out → Prop
  | .nx ds' M' => ∀ σ' W' as' H', Go P w K W as H W' as' M' H' → EnvR K W' as' σ' ds' → D.nx σ' H'
  | .rt s M' => ∀ v W' as' H', Go P w K W as H W' as' M' H' → SlRel K W' as' v s → D.rt v H'
  | .bk ds' M' => ∀ σ' W' as' H', Go P w K W as H W' as' M' H' → EnvR K W' as' σ' ds' → D.bk σ' H'
  | .ct ds' M' => ∀ σ' W' as' H', Go P w K W as H W' as' M' H' → EnvR K W' as' σ' ds' → D.ct σ' H'
  | .ex e M' => ∀ cls dd W' as' H', Go P w K W as H W' as' M' H' → ErrRel K mg W' H' e cls dd → E cls dd H'
  | .no => False
structure SS (E : XK) (ts : TS) (f : AEnv → ASto → Out) : Prop where
  run : ∀ (ds : AEnv) (M : ASto) (σ : L2.St) (W : Hp) (as : List Addr) (H : Hp) (D : Ends), EnvR K W as σ ds → Own P w K W as M H → MO P w K mg D E W as H (f ds M) → ts D σ H
/-- the two differ at these places alone -/
def But (tg : List Nat) (σ σ' : L2.St) : Prop := σ'.length = σ.length ∧ ∀ i : Nat, i ∉ tg → σ'[i]? = σ[i]?
abbrev Rl := Hp → List Addr → V → Sl → Prop
class TupRel (K : PySem.W.Frag) (rel : Rl) : Prop where
  to : ∀ W as v s, rel W as v s → SlW K W as v s
instance : TupRel K (SlRel K) := ⟨fun _ _ _ _ h => .inl h⟩
instance : TupRel K (SlW K) := ⟨fun _ _ _ _ h => h⟩
structure SG (rel : Rl) (g : TG) (f : Sl → AEnv → Option AEnv) (tg : List Nat) : Prop where
  run : ∀ (ds ds' : AEnv) (M : ASto) (σ : L2.St) (W : Hp) (as : List Addr) (H : Hp) (v : V) (s : Sl) (Q : L2.St → Hp → Prop), EnvR K W as σ ds → Own P w K W as M H → rel W as v s → f s ds = some ds' →
    (∀ σ', EnvR K W as σ' ds' → But tg σ σ' → Q σ' H) → g v σ H Q
structure SGs (g : TGs) (f : List PyData → AEnv → Option AEnv) (tg : List Nat) : Prop where
  run : ∀ (ds ds' : AEnv) (M : ASto) (σ : L2.St) (W : Hp) (as : List Addr) (H : Hp) (vs : List V) (xs : List PyData) (Q : L2.St → Hp → Prop), EnvR K W as σ ds → Own P w K W as M H → DqAll K W vs xs → f xs ds = some ds' →
    (∀ σ', EnvR K W as σ' ds' → But tg σ σ' → Q σ' H) → g vs σ H Q
/-- a def by what it does -/
def spF (F : List Sl → ASto → Res Sl) : Sp := fun vs H Q E => ∃ (W : Hp) (as : List Addr) (M : ASto) (ss : List Sl), Own P w K W as M H ∧ Paired (SlRel K W as) vs ss ∧ MG P w K mg (rSl K) Q E W as H (F ss M)
end

/-! ### the functions -/
def aVar (i : Nat) : AEnv → ASto → Res Sl := fun ds M => match ds[i]? with
  | some (some s) => .ok s M
  | _ => .no
def aC (d : PyData) : AEnv → ASto → Res Sl := fun _ M => .ok (.d d) M
def aOp (f : Sl → Sl → ASto → Res Sl) (A B : AEnv → ASto → Res Sl) : AEnv → ASto → Res Sl := fun ds M => (A ds M).bind fun x M1 => (B ds M1).bind fun y M2 => f x y M2
def aNil : AEnv → ASto → Res (List Sl) := fun _ M => .ok [] M
def aCons (A : AEnv → ASto → Res Sl) (B : AEnv → ASto → Res (List Sl)) : AEnv → ASto → Res (List Sl) := fun ds M => (A ds M).bind fun x M1 => (B ds M1).bind fun ys M2 => .ok (x :: ys) M2
def allD : List Sl → Option (List PyData)
  | [] => some []
  | .d x :: r => (allD r).map (x :: ·)
  | .r _ :: _ => none
  | .s _ :: _ => none
def aTup (A : AEnv → ASto → Res (List Sl)) : AEnv → ASto → Res Sl := fun ds M => (A ds M).bind fun ss M1 => match allD ss with
  | some xs => if xs.length ≤ 100000 then .ok (.d (.tuple xs)) M1 else .no
  | none => .no
def aLst (A : AEnv → ASto → Res (List Sl)) : AEnv → ASto → Res Sl := fun ds M => (A ds M).bind fun ss M1 => match allD ss with
  | some xs => if xs.length ≤ 100000 then .ok (.d (.list xs)) M1 else .no
  | none => .no
/-- a list that will be changed: a new cell -/
def aLstC (A : AEnv → ASto → Res (List Sl)) : AEnv → ASto → Res Sl := fun ds M => (A ds M).bind fun ss M1 => if ss.length ≤ 100000 then .ok (.r M1.length) (M1 ++ [.lst ss]) else .no
def aStar (A : AEnv → ASto → Res Sl) (B : AEnv → ASto → Res (List Sl)) : AEnv → ASto → Res (List Sl) := fun ds M => (A ds M).bind fun x M1 => match x with
  | .d (.list xs) => (B ds M1).bind fun ys M2 => .ok (xs.map Sl.d ++ ys) M2
  | .d (.tuple xs) => (B ds M1).bind fun ys M2 => .ok (xs.map Sl.d ++ ys) M2
  | _ => .no
def aCall (F : List Sl → ASto → Res Sl) (A : AEnv → ASto → Res (List Sl)) : AEnv → ASto → Res Sl := fun ds M => (A ds M).bind F
def aTest (A : AEnv → ASto → Res Sl) : AEnv → ASto → Res Bool := fun ds M => (A ds M).bind fun s M1 => match s with
  | .d (.bool b) => .ok b M1
  | _ => .no
def aAnd (A B : AEnv → ASto → Res Bool) : AEnv → ASto → Res Bool := fun ds M => (A ds M).bind fun b M1 => if b = true then B ds M1 else .ok false M1
def aOr (A B : AEnv → ASto → Res Bool) : AEnv → ASto → Res Bool := fun ds M => (A ds M).bind fun b M1 => if b = true then .ok true M1 else B ds M1
def aNot (A : AEnv → ASto → Res Bool) : AEnv → ASto → Res Bool := fun ds M => (A ds M).bind fun b M1 => .ok (!b) M1
def aIfE (T : AEnv → ASto → Res Bool) (A B : AEnv → ASto → Res Sl) : AEnv → ASto → Res Sl := fun ds M => (T ds M).bind fun b M1 => if b = true then A ds M1 else B ds M1
def aSeq (f g : AEnv → ASto → Out) : AEnv → ASto → Out := fun ds M => match f ds M with
  | .nx ds' M' => g ds' M'
  | o => o
def aNext : AEnv → ASto → Out := fun ds M => .nx ds M
def aBreak : AEnv → ASto → Out := fun ds M => .bk ds M
def aCont : AEnv → ASto → Out := fun ds M => .ct ds M
def resO {β : Type} (r : Res β) (k : β → ASto → Out) : Out := match r with
  | .ok b M => k b M
  | .ex e M => .ex e M
  | .no => .no
def aAsg (A : AEnv → ASto → Res Sl) (G : Sl → AEnv → Option AEnv) : AEnv → ASto → Out := fun ds M => resO (A ds M) fun s M1 => match G s ds with
  | some ds' => .nx ds' M1
  | none => .no
def aNm (i : Nat) : Sl → AEnv → Option AEnv := fun s ds => some (ds.set i (some s))
def aGNil : List PyData → AEnv → Option AEnv := fun xs ds => match xs with
  | [] => some ds
  | _ => none
def aGCons (g : Sl → AEnv → Option AEnv) (r : List PyData → AEnv → Option AEnv) : List PyData → AEnv → Option AEnv := fun xs ds => match xs with
  | x :: xs => (g (.d x) ds).bind (r xs)
  | [] => none
def aGTup (n : Nat) (g : List PyData → AEnv → Option AEnv) : Sl → AEnv → Option AEnv := fun s ds => match s with
  | .d (.tuple xs) => if xs.length = n then g xs ds else none
  | _ => none
def aIf (T : AEnv → ASto → Res Bool) (f g : AEnv → ASto → Out) : AEnv → ASto → Out := fun ds M => resO (T ds M) fun b M1 => if b = true then f ds M1 else g ds M1
def aRet (A : AEnv → ASto → Res Sl) : AEnv → ASto → Out := fun ds M => resO (A ds M) fun s M1 => .rt s M1
def aDrop (A : AEnv → ASto → Res Sl) : AEnv → ASto → Out := fun ds M => resO (A ds M) fun _ M1 => .nx ds M1
def fnR : Out → Res Sl
  | .rt s M => .ok s M
  | .nx _ M => .ok (.d .none) M
  | .ex e M => .ex e M
  | _ => .no
def startA (n : Nat) (ss : List Sl) : AEnv := ss.map some ++ List.replicate (n - ss.length) none

section
variable {P : Program} {w : World} {K : PySem.W.Frag} {mg : Str → Option Value}
theorem MG.go {α β : Type} {rel : Hp → List Addr → α → β → Prop} {Q : α → Hp → Prop} {E : XK} {W W1 : Hp} {as as1 : List Addr} {H H1 : Hp} {M1 : ASto} {r : Res β} (h : MG P w K mg rel Q E W as H r) (g : Go P w K W as H W1 as1 M1 H1) : MG P w K mg rel Q E W1 as1 H1 r := by
  cases r with
  | ok b M => exact fun a W' as' H' g' r' => h a W' as' H' (g.trans g') r'
  | ex e M => exact fun cls dd W' as' H' g' r' => h cls dd W' as' H' (g.trans g') r'
  | no => exact h
theorem MO.go {D : Ends} {E : XK} {W W1 : Hp} {as as1 : List Addr} {H H1 : Hp} {M1 : ASto} {r : Out} (h : MO P w K mg D E W as H r) (g : Go P w K W as H W1 as1 M1 H1) : MO P w K mg D E W1 as1 H1 r := by
  cases r with
  | nx b M => exact fun a W' as' H' g' r' => h a W' as' H' (g.trans g') r'
  | rt b M => exact fun a W' as' H' g' r' => h a W' as' H' (g.trans g') r'
  | bk b M => exact fun a W' as' H' g' r' => h a W' as' H' (g.trans g') r'
  | ct b M => exact fun a W' as' H' g' r' => h a W' as' H' (g.trans g') r'
  | ex e M => exact fun cls dd W' as' H' g' r' => h cls dd W' as' H' (g.trans g') r'
  | no => exact h
theorem MG.bind {α β α' β' : Type} {rel : Hp → List Addr → α → β → Prop} {rel' : Hp → List Addr → α' → β' → Prop} {Q : α → Hp → Prop} {Q1 : α' → Hp → Prop} {E : XK} {W : Hp} {as : List Addr} {H : Hp} {r : Res β'} {k : β' → ASto → Res β}
    (h : MG P w K mg rel Q E W as H (r.bind k)) (hk : ∀ s M1, r = .ok s M1 → ∀ a W1 as1 H1, Go P w K W as H W1 as1 M1 H1 → rel' W1 as1 a s → MG P w K mg rel Q E W1 as1 H1 (k s M1) → Q1 a H1) : MG P w K mg rel' Q1 E W as H r := by
  cases r with
  | ok b M => exact fun a W' as' H' g' r' => hk b M rfl a W' as' H' g' r' (MG.go (show MG P w K mg rel Q E W as H (k b M) from h) g')
  | ex e M => exact h
  | no => exact h
theorem MG.bindO {α' β' : Type} {rel' : Hp → List Addr → α' → β' → Prop} {D : Ends} {Q1 : α' → Hp → Prop} {E : XK} {W : Hp} {as : List Addr} {H : Hp} {r : Res β'} {k : β' → ASto → Out}
    (h : MO P w K mg D E W as H (resO r k)) (hk : ∀ s M1, r = .ok s M1 → ∀ a W1 as1 H1, Go P w K W as H W1 as1 M1 H1 → rel' W1 as1 a s → MO P w K mg D E W1 as1 H1 (k s M1) → Q1 a H1) : MG P w K mg rel' Q1 E W as H r := by
  cases r with
  | ok b M => exact fun a W' as' H' g' r' => hk b M rfl a W' as' H' g' r' (MO.go (show MO P w K mg D E W as H (k b M) from h) g')
  | ex e M => exact h
  | no => exact h
theorem MG.now {α β : Type} {rel : Hp → List Addr → α → β → Prop} {Q : α → Hp → Prop} {E : XK} {W : Hp} {as : List Addr} {H : Hp} {M : ASto} {b : β} {a : α} (h : MG P w K mg rel Q E W as H (.ok b M)) (o : Own P w K W as M H) (r : rel W as a b) : Q a H :=
  h a W as H (Go.refl o) r
theorem MG.new {Q : VK} {E : XK} {W : Hp} {as : List Addr} {H : Hp} {M : ASto} {d : PyData} {p : Addr} {x : HO} (h : MG P w K mg (rSl K) Q E W as H (.ok (.d d) M)) (o : Own P w K W as M H) (hp : H p = none) (r : Dq K (upd W p x) (.ref p) d) : Q (.ref p) (upd H p x) :=
  h (.ref p) (upd W p x) as (upd H p x) (o.newW hp x) r
theorem Own.same_new {W : Hp} {as : List Addr} {M : ASto} {H : Hp} (o : Own P w K W as M H) {p : Addr} (hp : H p = none) (x : HO) : Same W (upd W p x) := (o.newW hp x).same
theorem allD_rel {W : Hp} {as : List Addr} : ∀ {ss : List Sl} {vs : List V} {xs : List PyData}, Paired (SlRel K W as) vs ss → allD ss = some xs → DqAll K W vs xs
  | [], _, _, .nil, h => by cases h; exact .nil
  | .d x :: r, _, xs, .cons a b, h => by
    simp only [allD, Option.map_eq_some_iff] at h
    obtain ⟨ys, h1, rfl⟩ := h
    exact .cons a (allD_rel b h1)
  | .r n :: _, _, _, _, h => by cases h
  | .s n :: _, _, _, _, h => by cases h
theorem dqAll_rel {W : Hp} {as : List Addr} : ∀ {vs : List V} {xs : List PyData}, DqAll K W vs xs → Paired (SlRel K W as) vs (xs.map Sl.d)
  | _, _, .nil => .nil
  | _, _, .cons a b => .cons a (dqAll_rel b)
theorem DqAll.len {W : Hp} : ∀ {vs : List V} {xs : List PyData}, DqAll K W vs xs → vs.length = xs.length
  | _, _, .nil => rfl
  | _, _, .cons _ b => by simp [DqAll.len b]
theorem Paired.len {α β : Type} {R : α → β → Prop} : ∀ {xs : List α} {ys : List β}, Paired R xs ys → xs.length = ys.length
  | _, _, .nil => rfl
  | _, _, .cons _ b => by simp [Paired.len b]
theorem Paired.app {α β : Type} {R : α → β → Prop} : ∀ {xs xs' : List α} {ys ys' : List β}, Paired R xs ys → Paired R xs' ys' → Paired R (xs ++ xs') (ys ++ ys')
  | _, _, _, _, .nil, q => q
  | _, _, _, _, .cons a b, q => .cons a (Paired.app b q)
theorem sz_le {n : Nat} (h : n ≤ 100000) : n ≤ sizeLine := Nat.le_trans h (by decide)
variable {E : XK}
/-! ### expressions -/
theorem se_var (i : Nat) : SE P w K mg E (tVar i) (aVar i) := ⟨fun ds M σ W as H Q e o h => by
  unfold aVar at h
  split at h
  · rename_i s hs
    obtain ⟨v, h1, h2⟩ := e.2 i s hs
    exact ⟨v, h1, h.now o h2⟩
  · exact h.elim⟩
theorem se_int {i : Int} : SE P w K mg E (tC (.int i)) (aC (.int i)) := ⟨fun ds M σ W as H Q e o h => MG.now (a := V.int i) h o (.int i)⟩
theorem se_str {i : Str} : SE P w K mg E (tC (.str i)) (aC (.str i)) := ⟨fun ds M σ W as H Q e o h => MG.now (a := V.str i) h o (.str i)⟩
theorem se_bl {i : Bool} : SE P w K mg E (tC (.bl i)) (aC (.bool i)) := ⟨fun ds M σ W as H Q e o h => MG.now (a := V.bl i) h o (.bl i)⟩
theorem se_non : SE P w K mg E (tC .non) (aC .none) := ⟨fun ds M σ W as H Q e o h => MG.now (a := V.non) h o .non⟩
theorem se_op {r : R2} {f : Sl → Sl → ASto → Res Sl} {ta tb : TE} {A B : AEnv → ASto → Res Sl} (hr : SR P w K mg r f) (ha : SE P w K mg E ta A) (hb : SE P w K mg E tb B) : SE P w K mg E (tOp r ta tb) (aOp f A B) := ⟨fun ds M σ W as H Q e o h =>
  ha.run ds M σ W as H _ e o (MG.bind h fun x M1 _ v W1 as1 H1 g1 r1 h1 => hb.run ds M1 σ W1 as1 H1 _ (g1.env e) g1.own (MG.bind h1 fun y M2 _ u W2 as2 H2 g2 r2 h2 => hr M2 W2 as2 H2 v u x y Q E g2.own (g2.rel r1) r2 h2))⟩
theorem sa_nil : SA P w K mg E tNil aNil := ⟨fun ds M σ W as H Q e o h => MG.now (a := []) h o .nil⟩
theorem sa_cons {ta : TE} {tr : TA} {A : AEnv → ASto → Res Sl} {B : AEnv → ASto → Res (List Sl)} (ha : SE P w K mg E ta A) (hb : SA P w K mg E tr B) : SA P w K mg E (tCons ta tr) (aCons A B) := ⟨fun ds M σ W as H Q e o h =>
  ha.run ds M σ W as H _ e o (MG.bind h fun x M1 _ v W1 as1 H1 g1 r1 h1 => hb.run ds M1 σ W1 as1 H1 _ (g1.env e) g1.own (MG.bind h1 fun y M2 _ u W2 as2 H2 g2 r2 h2 => MG.now (a := v :: u) h2 g2.own (.cons (g2.rel r1) r2)))⟩
theorem sa_star {ta : TE} {tr : TA} {A : AEnv → ASto → Res Sl} {B : AEnv → ASto → Res (List Sl)} (ha : SE P w K mg E ta A) (hb : SA P w K mg E tr B) : SA P w K mg E (StX.tStar K ta tr) (aStar A B) := ⟨fun ds M σ W as H Q e o h =>
  ha.run ds M σ W as H _ e o (MG.bind h fun x M1 _ v W1 as1 H1 g1 r1 h1 => by
    split at h1
    · rename_i xs
      cases r1 with
      | @lst a vs _ hs hd => exact ⟨a, vs, rfl, .inr (g1.own.seq hs), hb.run ds M1 σ W1 as1 H1 _ (g1.env e) g1.own (MG.bind h1 fun y M2 _ u W2 as2 H2 g2 r2 h2 => MG.now (a := vs ++ u) h2 g2.own (Paired.app (dqAll_rel (DqAll.up g2.same hd)) r2))⟩
    · rename_i xs
      cases r1 with
      | @tup a ob vs _ hs hn hd => exact ⟨a, vs, rfl, .inl (g1.own.tup (.inr ⟨_, hs⟩)), hb.run ds M1 σ W1 as1 H1 _ (g1.env e) g1.own (MG.bind h1 fun y M2 _ u W2 as2 H2 g2 r2 h2 => MG.now (a := vs ++ u) h2 g2.own (Paired.app (dqAll_rel (DqAll.up g2.same hd)) r2))⟩
    · exact h1.elim)⟩
theorem se_tup {ta : TA} {A : AEnv → ASto → Res (List Sl)} (ha : SA P w K mg E ta A) : SE P w K mg E (tTupN ta) (aTup A) := ⟨fun ds M σ W as H Q e o h =>
  ha.run ds M σ W as H _ e o (MG.bind h fun ss M1 _ vs W1 as1 H1 g1 r1 h1 => by
    split at h1
    · rename_i xs hxs
      split at h1
      · rename_i hl
        have hd := allD_rel r1 hxs
        refine ⟨by rw [(DqAll.len hd)]; exact sz_le hl, fun p ob hp hn => h1.new g1.own hp (.tup upd_same hn (DqAll.up (g1.own.same_new hp _) hd))⟩
      · exact h1.elim
    · exact h1.elim)⟩
theorem se_lst {ta : TA} {A : AEnv → ASto → Res (List Sl)} (ha : SA P w K mg E ta A) : SE P w K mg E (tLst ta) (aLst A) := ⟨fun ds M σ W as H Q e o h =>
  ha.run ds M σ W as H _ e o (MG.bind h fun ss M1 _ vs W1 as1 H1 g1 r1 h1 => by
    split at h1
    · rename_i xs hxs
      split at h1
      · rename_i hl
        have hd := allD_rel r1 hxs
        refine ⟨by rw [(DqAll.len hd)]; exact sz_le hl, fun p hp => h1.new g1.own hp (.lst upd_same (DqAll.up (g1.own.same_new hp _) hd))⟩
      · exact h1.elim
    · exact h1.elim)⟩
theorem se_lstC {ta : TA} {A : AEnv → ASto → Res (List Sl)} (ha : SA P w K mg E ta A) : SE P w K mg E (tLst ta) (aLstC A) := ⟨fun ds M σ W as H Q e o h =>
  ha.run ds M σ W as H _ e o (MG.bind h fun ss M1 _ vs W1 as1 H1 g1 r1 h1 => by
    split at h1
    · rename_i hl
      refine ⟨by rw [Paired.len r1]; exact sz_le hl, fun p hp => ?_⟩
      have wp : W1 p = none := by
        cases z : W1 p with
        | none => rfl
        | some u => rw [g1.own.sub p u z] at hp; cases hp
      refine h1 (.ref p) _ _ _ (g1.own.newC hp (c := .lst ss) ⟨wp, vs, upd_same, Paired.imp' (fun v s q => SlRel.up (Same.refl W1) q) r1⟩) ⟨p, ?_, rfl⟩
      rw [← g1.own.len, List.getElem?_append_right (Nat.le_refl _)]
      simp
    · exact h1.elim)⟩
theorem se_call {F : List Sl → ASto → Res Sl} {ta : TA} {A : AEnv → ASto → Res (List Sl)} (ha : SA P w K mg E ta A) : SE P w K mg E (tCall (spF P w K mg F) [] E ta) (aCall F A) := ⟨fun ds M σ W as H Q e o h =>
  ha.run ds M σ W as H _ e o (MG.bind h fun ss M1 _ vs W1 as1 H1 g1 r1 h1 => ⟨W1, as1, M1, ss, g1.own, by rw [List.append_nil]; exact r1, h1⟩)⟩
theorem se_cb {r : List V → Hp → VK → Prop} {f : List Sl → ASto → Res Sl} {ta : TA} {A : AEnv → ASto → Res (List Sl)} (hr : SC P w K mg r f) (ha : SA P w K mg E ta A) : SE P w K mg E (tCB r ta) (aCall f A) := ⟨fun ds M σ W as H Q e o h =>
  ha.run ds M σ W as H _ e o (MG.bind h fun ss M1 _ vs W1 as1 H1 g1 r1 h1 => hr M1 W1 as1 H1 vs ss Q E g1.own r1 h1)⟩
/-! ### tests -/
theorem st_test {t : TE} {A : AEnv → ASto → Res Sl} (ha : SE P w K mg E t A) : ST P w K mg E (tTest t) (aTest A) := ⟨fun ds M σ W as H Q e o h =>
  ha.run ds M σ W as H _ e o (MG.bind h fun s M1 _ v W1 as1 H1 g1 r1 h1 => by
    split at h1
    · cases r1
      exact ⟨_, rfl, MG.now (a := _) h1 g1.own rfl⟩
    · exact h1.elim)⟩
theorem st_B {t : TE} {A : AEnv → ASto → Res Sl} (ha : SE P w K mg E t A) : ST P w K mg E (tB t) (aTest A) := ⟨fun ds M σ W as H Q e o h =>
  ha.run ds M σ W as H _ e o (MG.bind h fun s M1 _ v W1 as1 H1 g1 r1 h1 => by
    split at h1
    · cases r1
      exact ⟨_, rfl, MG.now (a := _) h1 g1.own rfl⟩
    · exact h1.elim)⟩
theorem st_and {t u : TT} {A B : AEnv → ASto → Res Bool} (ha : ST P w K mg E t A) (hb : ST P w K mg E u B) : ST P w K mg E (tAnd t u) (aAnd A B) := ⟨fun ds M σ W as H Q e o h =>
  ha.run ds M σ W as H _ e o (MG.bind h fun s M1 _ v W1 as1 H1 g1 r1 h1 => by
    cases r1
    cases s with
    | true => exact iteT (hb.run ds M1 σ W1 as1 H1 Q (g1.env e) g1.own h1)
    | false => exact iteF (MG.now (a := false) h1 g1.own rfl))⟩
theorem st_or {t u : TT} {A B : AEnv → ASto → Res Bool} (ha : ST P w K mg E t A) (hb : ST P w K mg E u B) : ST P w K mg E (tOr t u) (aOr A B) := ⟨fun ds M σ W as H Q e o h =>
  ha.run ds M σ W as H _ e o (MG.bind h fun s M1 _ v W1 as1 H1 g1 r1 h1 => by
    cases r1
    cases s with
    | true => exact iteT (MG.now (a := true) h1 g1.own rfl)
    | false => exact iteF (hb.run ds M1 σ W1 as1 H1 Q (g1.env e) g1.own h1))⟩
theorem st_not {t : TT} {A : AEnv → ASto → Res Bool} (ha : ST P w K mg E t A) : ST P w K mg E (tNot t) (aNot A) := ⟨fun ds M σ W as H Q e o h =>
  ha.run ds M σ W as H _ e o (MG.bind h fun s M1 _ v W1 as1 H1 g1 r1 h1 => by
    cases r1
    exact MG.now (a := !s) h1 g1.own rfl)⟩
theorem se_if {t : TT} {ta tb : TE} {T : AEnv → ASto → Res Bool} {A B : AEnv → ASto → Res Sl} (ht : ST P w K mg E t T) (ha : SE P w K mg E ta A) (hb : SE P w K mg E tb B) : SE P w K mg E (tIf t ta tb) (aIfE T A B) := ⟨fun ds M σ W as H Q e o h =>
  ht.run ds M σ W as H _ e o (MG.bind h fun s M1 _ v W1 as1 H1 g1 r1 h1 => by
    cases r1
    cases s with
    | true => exact iteT (ha.run ds M1 σ W1 as1 H1 Q (g1.env e) g1.own h1)
    | false => exact iteF (hb.run ds M1 σ W1 as1 H1 Q (g1.env e) g1.own h1))⟩
/-! ### statements -/
theorem ss_seq {t u : TS} {f g : AEnv → ASto → Out} (ha : SS P w K mg E t f) (hb : SS P w K mg E u g) : SS P w K mg E (tSeq t u) (aSeq f g) := ⟨fun ds M σ W as H D e o h => by
  refine ha.run ds M σ W as H { D with nx := u D } e o ?_
  unfold aSeq at h
  cases q : f ds M with
  | nx ds1 M1 =>
    rw [q] at h
    exact fun σ1 W1 as1 H1 g1 e1 => hb.run ds1 M1 σ1 W1 as1 H1 D e1 g1.own (MO.go h g1)
  | rt _ _ => rw [q] at h; exact h
  | bk _ _ => rw [q] at h; exact h
  | ct _ _ => rw [q] at h; exact h
  | ex _ _ => rw [q] at h; exact h
  | no => rw [q] at h; exact h⟩
theorem ss_next : SS P w K mg E tNext aNext := ⟨fun ds M σ W as H D e o h => h σ W as H (Go.refl o) e⟩
theorem ss_break : SS P w K mg E tBreak aBreak := ⟨fun ds M σ W as H D e o h => h σ W as H (Go.refl o) e⟩
theorem ss_cont : SS P w K mg E tCont aCont := ⟨fun ds M σ W as H D e o h => h σ W as H (Go.refl o) e⟩
theorem ss_never {f : AEnv → ASto → Out} (hf : ∀ ds M, f ds M = .no) : SS P w K mg E tNever f := ⟨fun ds M σ W as H D e o h => by rw [hf] at h; exact h⟩
theorem EnvR.set {W : Hp} {as : List Addr} {σ : L2.St} {ds : AEnv} {i : Nat} {v : V} {s : Sl} (e : EnvR K W as σ ds) (r : SlRel K W as v s) : EnvR K W as (σ.set i (some v)) (ds.set i (some s)) := by
  refine ⟨by simp [e.1], fun j u h => ?_⟩
  rw [List.getElem?_set] at h
  by_cases hij : i = j
  · subst hij
    rw [if_pos rfl] at h
    by_cases hl : i < ds.length
    · rw [if_pos hl] at h
      cases h
      exact ⟨v, by rw [List.getElem?_set, if_pos rfl, if_pos (by rw [e.1]; exact hl)], r⟩
    · rw [if_neg hl] at h; cases h
  · rw [if_neg hij] at h
    obtain ⟨v', h1, h2⟩ := e.2 j u h
    exact ⟨v', by rw [List.getElem?_set, if_neg hij]; exact h1, h2⟩
theorem But.refl (tg : List Nat) (σ : L2.St) : But tg σ σ := ⟨rfl, fun _ _ => rfl⟩
theorem But.trans {t u : List Nat} {σ σ1 σ2 : L2.St} (a : But t σ σ1) (b : But u σ1 σ2) : But (t ++ u) σ σ2 := ⟨b.1.trans a.1, fun i h => (b.2 i fun m => h (List.mem_append_right _ m)).trans (a.2 i fun m => h (List.mem_append_left _ m))⟩
theorem sg_name (i : Nat) : SG P w K (SlRel K) (gName i) (aNm i) [i] := ⟨fun ds ds' M σ W as H v s Q e o r h q => by
  cases h
  refine q _ (e.set r) ⟨by simp, fun j hj => ?_⟩
  rw [List.getElem?_set, if_neg (fun z => hj (by simp [z]))]⟩
theorem sgs_nil : SGs P w K gNil aGNil [] := ⟨fun ds ds' M σ W as H vs xs Q e o r h q => by
  cases r with
  | nil => cases h; exact ⟨rfl, q σ e (But.refl _ _)⟩
  | cons _ _ => cases h⟩
theorem sgs_cons {t : TG} {u : TGs} {g : Sl → AEnv → Option AEnv} {k : List PyData → AEnv → Option AEnv} {tg tk : List Nat} (h1 : SG P w K (SlRel K) t g tg) (h2 : SGs P w K u k tk) : SGs P w K (gCons t u) (aGCons g k) (tg ++ tk) := ⟨fun ds ds' M σ W as H vs xs Q e o r h q => by
  cases r with
  | nil => cases h
  | @cons v vs x xs a b =>
    obtain ⟨ds1, e1, e2⟩ := Option.bind_eq_some_iff.mp (show (g (.d x) ds).bind (k xs) = some ds' from h)
    exact ⟨v, vs, rfl, h1.run ds ds1 M σ W as H v (.d x) _ e o a e1 fun σ1 q1 b1 => h2.run ds1 ds' M σ1 W as H vs xs Q q1 o b e2 fun σ2 q2 b2 => q σ2 q2 (b1.trans b2)⟩⟩
theorem sg_tup {rel : Rl} [tr : TupRel K rel] {n : Nat} {t : TGs} {g : List PyData → AEnv → Option AEnv} {tg : List Nat} (h1 : SGs P w K t g tg) : SG P w K rel (gTup K n t) (aGTup n g) tg := ⟨fun ds ds' M σ W as H v s Q e o r0 h q => by
  have r := tr.to _ _ _ _ r0
  unfold aGTup at h
  split at h
  · split at h
    · rename_i xs hl
      obtain ⟨a, vs, rfl, hs, hd⟩ : ∃ a vs, v = .ref a ∧ Rd W a (.tup vs) ∧ DqAll K W vs xs := by
        rcases r with r | ⟨a, vs, ds2, e1, e2, e3, e4⟩
        · cases r with
          | @tup a ob vs _ hs hn hd => exact ⟨a, vs, rfl, .inr ⟨_, hs⟩, hd⟩
        · cases e2
          exact ⟨a, vs, e1, e3, e4⟩
      exact ⟨a, vs, rfl, o.tup hs, (DqAll.len hd).trans hl, h1.run ds ds' M σ W as H vs xs Q e o hd h q⟩
    · cases h
  · cases h⟩
theorem ss_asg {te : TE} {g : TG} {A : AEnv → ASto → Res Sl} {G : Sl → AEnv → Option AEnv} {tg : List Nat} (ha : SE P w K mg E te A) (hg : SG P w K (SlRel K) g G tg) : SS P w K mg E (tAsg te g) (aAsg A G) := ⟨fun ds M σ W as H D e o h =>
  ha.run ds M σ W as H _ e o (MG.bindO h fun s M1 _ v W1 as1 H1 g1 r1 h1 => by
    split at h1
    · rename_i ds' hds
      exact hg.run ds ds' M1 σ W1 as1 H1 v s D.nx (g1.env e) g1.own r1 hds fun σ' q _ => h1 σ' W1 as1 H1 (Go.refl g1.own) q
    · exact h1.elim)⟩
theorem ss_if {t : TT} {u v : TS} {T : AEnv → ASto → Res Bool} {f g : AEnv → ASto → Out} (ht : ST P w K mg E t T) (hf : SS P w K mg E u f) (hg : SS P w K mg E v g) : SS P w K mg E (tIfS t u v) (aIf T f g) := ⟨fun ds M σ W as H D e o h =>
  ht.run ds M σ W as H _ e o (MG.bindO h fun s M1 _ b W1 as1 H1 g1 r1 h1 => by
    cases r1
    cases s with
    | true => exact iteT (hf.run ds M1 σ W1 as1 H1 D (g1.env e) g1.own h1)
    | false => exact iteF (hg.run ds M1 σ W1 as1 H1 D (g1.env e) g1.own h1))⟩
theorem ss_ret {te : TE} {A : AEnv → ASto → Res Sl} (ha : SE P w K mg E te A) : SS P w K mg E (tRet te) (aRet A) := ⟨fun ds M σ W as H D e o h =>
  ha.run ds M σ W as H _ e o (MG.bindO h fun s M1 _ v W1 as1 H1 g1 r1 h1 => h1 v W1 as1 H1 (Go.refl g1.own) r1)⟩
theorem ss_drop {te : TE} {A : AEnv → ASto → Res Sl} (ha : SE P w K mg E te A) : SS P w K mg E (tDrop te) (aDrop A) := ⟨fun ds M σ W as H D e o h =>
  ha.run ds M σ W as H _ e o (MG.bindO h fun s M1 _ v W1 as1 H1 g1 r1 h1 => h1 σ W1 as1 H1 (Go.refl g1.own) (g1.env e))⟩
end
end Ab
end
section
set_option Elab.async false
set_option linter.all false
set_option maxRecDepth 100000
set_option maxHeartbeats 4000000
namespace Ab
open PySem PySem.Spec PyProof.Rows L2

/-! ### loops and comprehensions -/
def aForL (G : Sl → AEnv → Option AEnv) (f : AEnv → ASto → Out) : List Sl → AEnv → ASto → Out
  | [], ds, M => .nx ds M
  | x :: xs, ds, M => match G x ds with
    | none => .no
    | some ds1 => match f ds1 M with
      | .nx ds2 M2 => aForL G f xs ds2 M2
      | .ct ds2 M2 => aForL G f xs ds2 M2
      | .bk ds2 M2 => .nx ds2 M2
      | .rt s M2 => .rt s M2
      | .ex e M2 => .ex e M2
      | .no => .no
def aFor (I : AEnv → ASto → Res (List Sl)) (G : Sl → AEnv → Option AEnv) (f : AEnv → ASto → Out) : AEnv → ASto → Out := fun ds M => resO (I ds M) fun xs M1 => aForL G f xs ds M1
def wipeA (ds : AEnv) : List Nat → AEnv
  | [] => ds
  | v :: vs => (wipeA ds vs).set v none
def aLcL (G : Sl → AEnv → Option AEnv) (T : AEnv → ASto → Res Bool) (A : AEnv → ASto → Res Sl) (ds : AEnv) : List Sl → List PyData → ASto → Res (List PyData)
  | [], acc, M => .ok acc M
  | x :: xs, acc, M => match G x ds with
    | none => .no
    | some ds1 => match T ds1 M with
      | .ok false M1 => aLcL G T A ds xs acc M1
      | .ok true M1 => match A ds1 M1 with
        | .ok (.d y) M2 => aLcL G T A ds xs (acc ++ [y]) M2
        | _ => .no
      | _ => .no
def aLc (I : AEnv → ASto → Res (List Sl)) (G : Sl → AEnv → Option AEnv) (T : AEnv → ASto → Res Bool) (A : AEnv → ASto → Res Sl) (vs : List Nat) : AEnv → ASto → Res Sl := fun ds M =>
  (I ds M).bind fun xs M1 => if xs.length ≤ 100000 then (aLcL G T A (wipeA ds vs) xs [] M1).bind fun ys M2 => .ok (.d (.list ys)) M2 else .no
def aYes : AEnv → ASto → Res Bool := fun _ M => .ok true M
/-- while, at most n turns -/
def aWhileN (T : AEnv → ASto → Res Bool) (f : AEnv → ASto → Out) : Nat → AEnv → ASto → Out
  | 0, _, _ => .no
  | n + 1, ds, M => match T ds M with
    | .ok false M1 => .nx ds M1
    | .ok true M1 => match f ds M1 with
      | .nx ds2 M2 => aWhileN T f n ds2 M2
      | .ct ds2 M2 => aWhileN T f n ds2 M2
      | .bk ds2 M2 => .nx ds2 M2
      | .rt s M2 => .rt s M2
      | .ex e M2 => .ex e M2
      | .no => .no
    | _ => .no
def aWhile (n : Nat) (T : AEnv → ASto → Res Bool) (f : AEnv → ASto → Out) : AEnv → ASto → Out := aWhileN T f n

section
variable (P : Program) (w : World) (K : PySem.W.Frag) (mg : Str → Option Value)
/-- what is walked gives these items, whatever comes to the heap -/
def ItOk (rel : Rl) (J : It) (items : List Sl) (W : Hp) (as : List Addr) : Prop := ∃ (G : Hp → Prop) (Y : Nat → Hp → V → Hp → Prop), Walk J items.length G Y ∧ (∀ W' as' M' H', Own P w K W' as' M' H' → Same W W' → G H') ∧
  ∀ i x H H' s, Y i H x H' → items[i]? = some s → ∀ W1 bs M1, Own P w K W1 (as ++ bs) M1 H → Same W W1 → ∃ W2, Go P w K W1 (as ++ bs) H W2 (as ++ bs) M1 H' ∧ rel W2 (as ++ bs) x s
structure SI (rel : Rl) (E : XK) (t : TI) (f : AEnv → ASto → Res (List Sl)) : Prop where
  run : ∀ (ds : AEnv) (M : ASto) (σ : L2.St) (W : Hp) (as : List Addr) (H : Hp) (R : It → Hp → Prop), EnvR K W as σ ds → Own P w K W as M H →
    MG P w K mg (fun W' as' J items => ItOk P w K rel J items W' as') R E W as H (f ds M) → t σ H R
end
section
variable {P : Program} {w : World} {K : PySem.W.Frag} {mg : Str → Option Value} {E : XK}
theorem Go.up {W W' : Hp} {as as' : List Addr} {M' : ASto} {H H' : Hp} (g : Go P w K W as H W' as' M' H') : ∃ bs, as' = as ++ bs := let ⟨bs, h, _⟩ := g.pre; ⟨bs, h⟩
theorem wipeA_len (ds : AEnv) : ∀ vs, (wipeA ds vs).length = ds.length
  | [] => rfl
  | v :: vs => by unfold wipeA; rw [List.length_set, wipeA_len ds vs]
theorem EnvR.none {W : Hp} {as : List Addr} {σ : L2.St} {ds : AEnv} {i : Nat} (e : EnvR K W as σ ds) : EnvR K W as (σ.set i none) (ds.set i none) := by
  refine ⟨by simp [e.1], fun j u h => ?_⟩
  rw [List.getElem?_set] at h
  by_cases hij : i = j
  · subst hij
    rw [if_pos rfl] at h
    split at h <;> cases h
  · rw [if_neg hij] at h
    obtain ⟨v', h1, h2⟩ := e.2 j u h
    exact ⟨v', by rw [List.getElem?_set, if_neg hij]; exact h1, h2⟩
theorem EnvR.wipe {W : Hp} {as : List Addr} {σ : L2.St} {ds : AEnv} (e : EnvR K W as σ ds) : ∀ vs, EnvR K W as (L2.wipe σ vs) (wipeA ds vs)
  | [] => e
  | v :: vs => EnvR.none (EnvR.wipe e vs)
theorem ss_for {rel : Rl} {t : TI} {g : TG} {tb : TS} {I : AEnv → ASto → Res (List Sl)} {G : Sl → AEnv → Option AEnv} {f : AEnv → ASto → Out} (hi : SI P w K mg rel E t I) {tg : List Nat} (hg : SG P w K rel g G tg) (hf : SS P w K mg E tb f) : SS P w K mg E (tFor t g tb) (aFor I G f) := ⟨fun ds M σ W as H D e o h =>
  hi.run ds M σ W as H _ e o (MG.bindO h fun items M1 _ J W1 as1 H1 g1 r1 h1 => by
    obtain ⟨GG, Y, wk, hG, hY⟩ := r1
    refine for_it wk (fun i σ' H' => ∃ ds' M' W' as', Go P w K W1 as1 H1 W' as' M' H' ∧ EnvR K W' as' σ' ds' ∧ MO P w K mg D E W' as' H' (aForL G f (items.drop i) ds' M')) ⟨ds, M1, W1, as1, Go.refl g1.own, g1.env e, by simpa using h1⟩
      (fun i σ' H' _ ⟨ds', M', W', as', g', _, _⟩ => hG W' as' M' H' g'.own g'.same) (fun i x σ' H' H2 hi ⟨ds', M', W', as', g', e', m'⟩ y => ?_) (fun σ' H' ⟨ds', M', W', as', g', e', m'⟩ => ?_)
    · obtain ⟨bs, rfl⟩ := g'.up
      have hs : items[i]? = some items[i] := List.getElem?_eq_getElem hi
      obtain ⟨W2, g2, rx⟩ := hY i x H' H2 items[i] y hs W' bs M' g'.own g'.same
      rw [show items.drop i = items[i] :: items.drop (i + 1) from List.drop_eq_getElem_cons hi] at m'
      unfold aForL at m'
      split at m'
      · exact m'.elim
      · rename_i ds1 hds1
        have m2 := MO.go m' g2
        refine hg.run ds' ds1 M' σ' W2 (as1 ++ bs) H2 x items[i] _ (g2.env e') g2.own rx hds1 fun σ3 e3 _ => ?_
        refine hf.run ds1 M' σ3 W2 (as1 ++ bs) H2 _ e3 g2.own ?_
        cases q : f ds1 M' with
        | nx ds3 M3 => rw [q] at m2; exact fun σ4 W4 as4 H4 g4 e4 => ⟨ds3, M3, W4, as4, (g'.trans g2).trans g4, e4, MO.go m2 g4⟩
        | ct ds3 M3 => rw [q] at m2; exact fun σ4 W4 as4 H4 g4 e4 => ⟨ds3, M3, W4, as4, (g'.trans g2).trans g4, e4, MO.go m2 g4⟩
        | bk ds3 M3 => rw [q] at m2; exact m2
        | rt s M3 => rw [q] at m2; exact m2
        | ex s M3 => rw [q] at m2; exact m2
        | no => rw [q] at m2; exact m2
    · rw [List.drop_length] at m'
      exact m' σ' W' as' H' (Go.refl g'.own) e')⟩
theorem ss_while (n : Nat) {t : TT} {tb : TS} {T : AEnv → ASto → Res Bool} {f : AEnv → ASto → Out} (ht : ST P w K mg E t T) (hf : SS P w K mg E tb f) : SS P w K mg E (tWhile t tb) (aWhile n T f) := ⟨fun ds M σ W as H D e o h => by
  refine ⟨fun m σ' H' => ∃ ds' M' W' as', Go P w K W as H W' as' M' H' ∧ EnvR K W' as' σ' ds' ∧ MO P w K mg D E W' as' H' (aWhileN T f m ds' M'), ⟨n, ds, M, W, as, Go.refl o, e, h⟩, fun m σ' H' ⟨ds', M', W', as', g', e', m'⟩ => ?_⟩
  cases m with
  | zero => exact m'.elim
  | succ m =>
    unfold aWhileN at m'
    refine ht.run ds' M' σ' W' as' H' _ e' g'.own ?_
    cases q : T ds' M' with
    | ex s M3 => rw [q] at m'; exact m'.elim
    | no => rw [q] at m'; exact m'.elim
    | ok b M1 =>
      rw [q] at m'
      rintro b' W1 as1 H1 g1 rfl
      cases b' with
      | false => exact iteF (m' σ' W1 as1 H1 g1 (g1.env e'))
      | true =>
        refine iteT ⟨fun σ2 H2 => ∃ ds2 M2 W2 as2, Go P w K W as H W2 as2 M2 H2 ∧ EnvR K W2 as2 σ2 ds2 ∧ MO P w K mg D E W2 as2 H2 (aWhileN T f m ds2 M2), fun σ2 H2 x => ⟨m, by omega, x⟩, ?_⟩
        have m2 := MO.go m' g1
        dsimp only at m2
        refine hf.run ds' M1 σ' W1 as1 H1 _ (g1.env e') g1.own ?_
        cases q2 : f ds' M1 with
        | nx ds3 M3 => rw [q2] at m2; exact fun σ4 W4 as4 H4 g4 e4 => ⟨ds3, M3, W4, as4, (g'.trans g1).trans g4, e4, MO.go m2 g4⟩
        | ct ds3 M3 => rw [q2] at m2; exact fun σ4 W4 as4 H4 g4 e4 => ⟨ds3, M3, W4, as4, (g'.trans g1).trans g4, e4, MO.go m2 g4⟩
        | bk ds3 M3 => rw [q2] at m2; exact m2
        | rt s M3 => rw [q2] at m2; exact m2
        | ex s M3 => rw [q2] at m2; exact m2
        | no => rw [q2] at m2; exact m2⟩
/-- an object that the store does not know may change -/
theorem Own.frame {W : Hp} {as : List Addr} {M : ASto} {H : Hp} (o : Own P w K W as M H) {p : Addr} {x : HO} (hW : W p = none) (ha : p ∉ as) : Own P w K W as M (upd H p x) := by
  refine ⟨fun a u e => ?_, o.len, o.nd, fun n a c h1 h2 => ?_⟩
  · rw [upd_ne (fun z => by rw [z, hW] at e; cases e)]
    exact o.sub a u e
  · have hne : a ≠ p := fun z => ha (z ▸ List.mem_of_getElem? h1)
    have := (o.cell n a c h1 h2).up (bs := []) (Same.refl W) rfl (upd_ne (o := x) hne)
    rwa [List.append_nil] at this
theorem ST.yes : ST P w K mg E tYes aYes := ⟨fun ds M σ W as H Q e o h => MG.now (a := true) h o rfl⟩
theorem Own.live {W : Hp} {as : List Addr} {M : ASto} {H : Hp} (o : Own P w K W as M H) {p : Addr} (h : p ∈ as) : H p ≠ none := by
  obtain ⟨n, hn⟩ := List.mem_iff_getElem?.mp h
  have hl : n < M.length := by rw [← o.len]; exact (List.getElem?_eq_some_iff.mp hn).1
  have q := o.cell n p M[n] hn (List.getElem?_eq_getElem hl)
  cases e : M[n] with
  | lst xs =>
    rw [e] at q
    obtain ⟨_, vs, q1, _⟩ := q
    rw [q1]; simp
  | dct kvs =>
    rw [e] at q
    obtain ⟨_, vs, q1, _⟩ := q
    rw [q1]; simp
  | set ks =>
    rw [e] at q
    rw [q.2]; simp
  | gone =>
    rw [e] at q
    obtain ⟨u, hu⟩ := Option.ne_none_iff_exists'.mp q
    rw [o.sub p u hu]; simp
theorem aLcL_noex {G : Sl → AEnv → Option AEnv} {T : AEnv → ASto → Res Bool} {A : AEnv → ASto → Res Sl} {ds : AEnv} : ∀ {xs : List Sl} {acc : List PyData} {M : ASto} {e : AErr} {M' : ASto}, aLcL G T A ds xs acc M ≠ .ex e M'
  | [], acc, M, e, M', h => by cases h
  | x :: xs, acc, M, e, M', h => by
    unfold aLcL at h
    split at h
    · cases h
    · split at h
      · exact aLcL_noex h
      · split at h
        · exact aLcL_noex h
        · cases h
      · cases h
theorem wipe_at (σ : L2.St) (vs : List Nat) (i : Nat) : (wipe σ vs)[i]? = if i ∈ vs ∧ i < σ.length then some none else σ[i]? := by
  induction vs with
  | nil => simp [wipe]
  | cons v vs ih =>
    unfold wipe
    rw [List.getElem?_set, wipe_length]
    by_cases h : v = i
    · subst h
      by_cases hl : v < σ.length
      · simp [hl]
      · simp [hl]
    · rw [if_neg h, ih]
      simp [show ¬ i = v from fun z => h z.symm]
theorem But.wipe {tg vs : List Nat} {σ σ2 : L2.St} (h : But tg (wipe σ vs) σ2) (hs : ∀ i ∈ tg, i ∈ vs) : wipe σ2 vs = wipe σ vs := by
  refine List.ext_getElem? fun i => ?_
  have hl : σ2.length = σ.length := h.1.trans (wipe_length σ vs)
  rw [wipe_at, hl]
  by_cases hi : i ∈ vs ∧ i < σ.length
  · rw [if_pos hi, wipe_at, if_pos hi]
  · rw [if_neg hi]
    by_cases ht : i ∈ tg
    · have : ¬ i < σ.length := fun z => hi ⟨hs i ht, z⟩
      rw [List.getElem?_eq_none (by omega), List.getElem?_eq_none (by rw [wipe_length]; omega)]
    · exact h.2 i ht
theorem DqAll.app {W : Hp} : ∀ {vs us : List V} {xs ys : List PyData}, DqAll K W vs xs → DqAll K W us ys → DqAll K W (vs ++ us) (xs ++ ys)
  | _, _, _, _, .nil, q => q
  | _, _, _, _, .cons a b, q => .cons a (DqAll.app b q)
theorem se_lc {rel : Rl} {t : TI} {g : TG} {tt : TT} {te : TE} {I : AEnv → ASto → Res (List Sl)} {G : Sl → AEnv → Option AEnv} {T : AEnv → ASto → Res Bool} {A : AEnv → ASto → Res Sl} {tg vs : List Nat} (hi : SI P w K mg rel E t I) (hg : SG P w K rel g G tg) (hv : ∀ i ∈ tg, i ∈ vs)
    (ht : ST P w K mg E0 tt T) (ha : SE P w K mg E0 te A) : SE P w K mg E (tLc t g tt te vs) (aLc I G T A vs) := ⟨fun ds M σ W as H Q e o h =>
  hi.run ds M σ W as H _ e o (MG.bind h fun items M1 _ J W1 as1 H1 g1 r1 h1 => by
    split at h1
    · rename_i hlen
      intro D hD
      obtain ⟨GG, Y, wk, hG, hY⟩ := r1
      have wD : W1 D = none := by
        cases z : W1 D with
        | none => rfl
        | some u => rw [g1.own.sub D u z] at hD; cases hD
      have aD : D ∉ as1 := fun z => g1.own.live z hD
      obtain ⟨ys, M2, hr⟩ : ∃ ys M2, aLcL G T A (wipeA ds vs) items [] M1 = .ok ys M2 := by
        cases q : aLcL G T A (wipeA ds vs) items [] M1 with
        | ok ys M2 => exact ⟨ys, M2, rfl⟩
        | ex s M2 => exact absurd q aLcL_noex
        | no => rw [q] at h1; exact h1.elim
      rw [hr] at h1
      have e1 := (g1.env e).wipe vs
      refine lc_it wk (fun i H' => ∃ acc vs' M' W' as', Go P w K W1 as1 H1 W' as' M' H' ∧ W' D = none ∧ D ∉ as' ∧ H' D = some (.lst vs') ∧ DqAll K W' vs' acc ∧ acc.length ≤ i ∧ aLcL G T A (wipeA ds vs) (items.drop i) acc M' = .ok ys M2)
        ⟨[], [], M1, W1, as1, ⟨Same.refl _, ⟨[], by simp, by simp⟩, g1.own.frame wD aD, fun a u x _ => by rw [upd_ne (fun z => by rw [z, hD] at x; cases x)]; exact x, fun a x => .inl x⟩, wD, aD, upd_same, .nil, Nat.le_refl _, by simpa using hr⟩
        (fun i H' _ ⟨acc, vs', M', W', as', g', _⟩ => hG W' as' M' H' g'.own g'.same) (fun i x H' H2 hi ⟨acc, vs', M', W', as', g', w', a', hd, hq, hn, hr'⟩ y => ?_) (fun H' ⟨acc, vs', M', W', as', g', w', a', hd, hq, hn, hr'⟩ => ?_)
      · obtain ⟨bs, rfl⟩ := g'.up
        have hs : items[i]? = some items[i] := List.getElem?_eq_getElem hi
        obtain ⟨W2, g2, rx⟩ := hY i x H' H2 items[i] y hs W' bs M' g'.own g'.same
        -- what a step leaves of D
        have keepD : ∀ {W3 : Hp} {as3 : List Addr} {M3 : ASto} {H3 : Hp}, Go P w K W' (as1 ++ bs) H' W3 as3 M3 H3 → W3 D = none ∧ D ∉ as3 ∧ H3 D = some (.lst vs') := fun {W3 as3 M3 H3} g3 => by
          refine ⟨?_, ?_, g3.keep D _ hd a'⟩
          · cases z : W3 D with
            | none => rfl
            | some u =>
              rcases g3.new D (by rw [z]; simp) with q | q | q
              · exact absurd w' q
              · exact absurd q a'
              · rw [hd] at q; cases q
          · obtain ⟨cs, rfl, hc⟩ := g3.pre
            intro m
            rcases List.mem_append.mp m with m | m
            · exact a' m
            · have := hc D m
              rw [hd] at this; cases this
        rw [show items.drop i = items[i] :: items.drop (i + 1) from List.drop_eq_getElem_cons hi] at hr'
        unfold aLcL at hr'
        split at hr'
        · cases hr'
        · rename_i ds1 hds1
          refine hg.run _ ds1 M' (wipe σ vs) W2 (as1 ++ bs) H2 x items[i] _ (g2.env (g'.env e1)) g2.own rx hds1 fun σ3 e3 b3 => ⟨b3.wipe hv, ?_⟩
          refine ht.run ds1 M' σ3 W2 (as1 ++ bs) H2 _ e3 g2.own ?_
          split at hr'
          · rename_i M3 q
            rw [q]
            rintro b W3 as3 H3 g3 rfl
            obtain ⟨k1, k2, k3⟩ := keepD (g2.trans g3)
            exact iteF ⟨acc, vs', M3, W3, as3, g'.trans (g2.trans g3), k1, k2, k3, DqAll.up (g2.trans g3).same hq, by omega, hr'⟩
          · rename_i M3 q
            rw [q]
            rintro b W3 as3 H3 g3 rfl
            refine iteT (ha.run ds1 M3 σ3 W3 as3 H3 _ (g3.env e3) g3.own ?_)
            split at hr'
            · rename_i z M4 q4
              rw [q4]
              intro v W4 as4 H4 g4 rv
              have g24 := g2.trans (g3.trans g4)
              obtain ⟨k1, k2, k3⟩ := keepD g24
              have g14 := g'.trans g24
              have hz : acc.length < sizeLine := Nat.lt_of_le_of_lt hn (Nat.lt_of_lt_of_le (Nat.lt_of_lt_of_le hi hlen) (by decide))
              refine ⟨vs', k3, by rw [DqAll.len hq]; exact hz, acc ++ [z], vs' ++ [v], M4, W4, as4, ?_, k1, k2, upd_same, DqAll.app (DqAll.up g24.same hq) (.cons rv .nil), by simp; omega, hr'⟩
              exact ⟨g14.same, g14.pre, g14.own.frame k1 k2, fun a u x1 x2 => by rw [upd_ne (fun z => by rw [z, hD] at x1; cases x1)]; exact g14.keep a u x1 x2, g14.new⟩
            · cases hr'
          · cases hr'
      · rw [List.drop_length] at hr'
        unfold aLcL at hr'
        cases hr'
        have np : ∀ {a : Addr} {u : HO}, W' a = some u → a ≠ D := fun {a u} x z => by rw [z, w'] at x; cases x
        have sm : Same W' (upd W' D (.lst vs')) := fun a u x => by rw [upd_ne (np x)]; exact x
        refine h1 (.ref D) (upd W' D (.lst vs')) as' H' ⟨g'.same.trans sm, g'.pre, ⟨fun a u x => ?_, g'.own.len, g'.own.nd, fun n a c c1 c2 => ?_⟩, g'.keep, fun a x => ?_⟩ (.lst upd_same (DqAll.up sm hq))
        · by_cases ha : a = D
          · rw [ha, upd_same] at x
            rw [ha, ← x]; exact hd
          · rw [upd_ne ha] at x
            exact g'.own.sub a u x
        · have hne : a ≠ D := fun z => a' (z ▸ List.mem_of_getElem? c1)
          have := (g'.own.cell n a c c1 c2).up (bs := []) sm (upd_ne hne) rfl
          rwa [List.append_nil] at this
        · by_cases ha : a = D
          · exact .inr (.inr (by rw [ha]; exact hD))
          · rw [upd_ne ha] at x
            exact g'.new a x
    · exact h1.elim)⟩
end
end Ab
end
section
set_option Elab.async false
set_option linter.all false
set_option maxRecDepth 100000
set_option maxHeartbeats 4000000
namespace Ab
open PySem PySem.Spec PyProof.Rows L2

/-! ### reading a list, a tuple -/
def vwL (M : ASto) : Sl → Option (List PyData)
  | .d (.list xs) => some xs
  | .r n => match M[n]? with
    | some (.lst ss) => allD ss
    | _ => none
  | _ => none
def vwS (M : ASto) : Sl → Option (List PyData)
  | .d (.tuple xs) => some xs
  | s => vwL M s
def orF {α : Type} (f g : Res α) : Res α := match f with
  | .no => g
  | x => x
def rOr (r r' : R2) : R2 := fun x y H Q => r x y H Q ∨ r' x y H Q
def cOr (r r' : List V → Hp → VK → Prop) : List V → Hp → VK → Prop := fun x H Q => r x H Q ∨ r' x H Q
theorem OpR.or {X : Cx} {f : Value → Value → Sem Value} {r r' : R2} (h : OpR X f r) (h' : OpR X f r') : OpR X f (rOr r r') := by
  intro pins s σ H x y v u Q I rx ry q
  rcases q with q | q
  · exact h pins s σ H x y v u Q I rx ry q
  · exact h' pins s σ H x y v u Q I rx ry q
theorem CallR.or {X : Cx} {f : Value} {r r' : List V → Hp → VK → Prop} (h : CallR X f r) (h' : CallR X f r') : CallR X f (cOr r r') := by
  intro pins s σ H xs us Q I rx q
  rcases q with q | q
  · exact h pins s σ H xs us Q I rx q
  · exact h' pins s σ H xs us Q I rx q
/-! ### the functions -/
def aI2 (g : Int → Int → PyData) : Sl → Sl → ASto → Res Sl := fun s u M => match s, u with
  | .d (.int i), .d (.int j) => .ok (.d (g i j)) M
  | _, _ => .no
def aI2C (c : Int → Int → Bool) (g : Int → Int → PyData) : Sl → Sl → ASto → Res Sl := fun s u M => match s, u with
  | .d (.int i), .d (.int j) => if c i j = true then .ok (.d (g i j)) M else .no
  | _, _ => .no
def aEqD (neg : Bool) : Sl → Sl → ASto → Res Sl := fun s u M => match s, u with
  | .d x, .d y => if SeqAt.shaped x && SeqAt.shaped y then .ok (.d (.bool (if neg then !PyData.eqv x y else PyData.eqv x y))) M else .no
  | _, _ => .no
def flatD : PyData → Bool
  | .none => true
  | .bool _ => true
  | .int _ => true
  | .str _ => true
  | _ => false
def eqF : PyData → PyData → Bool
  | .none, .none => true
  | .bool a, .bool b => a == b
  | .bool a, .int b => (if a then 1 else 0) == b
  | .int a, .bool b => a == (if b then 1 else 0)
  | .int a, .int b => a == b
  | .str a, .str b => a == b
  | _, _ => false
/-- x in a list or tuple of flat things -/
def aInF (neg : Bool) : Sl → Sl → ASto → Res Sl := fun s u M => match s with
  | .d x => match vwS M u with
    | some ys => if flatD x && ys.all flatD then .ok (.d (.bool (if neg then !(ys.any fun y => eqF y x) else ys.any fun y => eqF y x))) M else .no
    | none => .no
  | _ => .no
/-- x in a list of any data -/
def aInD (neg : Bool) : Sl → Sl → ASto → Res Sl := fun s u M => match s with
  | .d x => match vwL M u with
    | some ys => if SeqAt.shaped x && SeqAt.shaped (.list ys) then .ok (.d (.bool (if neg then !(ys.any fun y => PyData.eqv y x) else ys.any fun y => PyData.eqv y x))) M else .no
    | none => .no
  | _ => .no
def aCat : Sl → Sl → ASto → Res Sl := fun s u M => match vwL M s, vwL M u with
  | some xs, some ys => if xs.length + ys.length ≤ 100000 then .ok (.d (.list (xs ++ ys))) M else .no
  | _, _ => .no
def aCatT : Sl → Sl → ASto → Res Sl := fun s u M => match s, u with
  | .d (.tuple (x :: xs)), .d (.tuple (y :: ys)) => if xs.length + ys.length ≤ 100000 then .ok (.d (.tuple (x :: xs ++ y :: ys))) M else .no
  | _, _ => .no
def aIsN (neg : Bool) : Sl → Sl → ASto → Res Sl := fun s u M => match s, u with
  | .d .none, .d .none => .ok (.d (.bool (!neg))) M
  | .d _, .d .none => .ok (.d (.bool neg)) M
  | .r _, .d .none => .ok (.d (.bool neg)) M
  | _, _ => .no
def aIx : Sl → Sl → ASto → Res Sl := fun s u M => match u with
  | .d (.int i) => match s with
    | .r n => match M[n]? with
      | some (.lst ss) => match atI ss i with
        | some x => .ok x M
        | none => .no
      | _ => .no
    | .d (.str z) => if z.length ≤ 100000 then match atI z.cps.toList i with
        | some c => .ok (.d (.str ⟨#[c]⟩)) M
        | none => .no
      else .no
    | s => match vwS M s with
      | some xs => match atI xs i with
        | some x => .ok (.d x) M
        | none => .no
      | none => .no
  | _ => .no
def aLen : List Sl → ASto → Res Sl
  | [.r n], M => match M[n]? with
    | some (.lst ss) => .ok (.d (.int ss.length)) M
    | _ => .no
  | [s], M => match vwS M s with
    | some xs => .ok (.d (.int xs.length)) M
    | none => .no
  | _, _ => .no
def aTupOf : List Sl → ASto → Res Sl
  | [s], M => match vwS M s with
    | some xs => .ok (.d (.tuple xs)) M
    | none => .no
  | _, _ => .no
def aListOf : List Sl → ASto → Res Sl
  | [s], M => match vwS M s with
    | some xs => .ok (.d (.list xs)) M
    | none => .no
  | _, _ => .no
/-- list(..) that will be changed -/
def aListOfC : List Sl → ASto → Res Sl
  | [s], M => match vwS M s with
    | some xs => .ok (.r M.length) (M ++ [.lst (xs.map Sl.d)])
    | none => .no
  | _, _ => .no
def bools : List PyData → Option (List Bool)
  | [] => some []
  | .bool b :: r => (bools r).map (b :: ·)
  | _ => none
def aAll : List Sl → ASto → Res Sl
  | [s], M => match (vwL M s).bind bools with
    | some bs => .ok (.d (.bool (bs.all id))) M
    | none => .no
  | _, _ => .no
def aAny : List Sl → ASto → Res Sl
  | [s], M => match (vwL M s).bind bools with
    | some bs => .ok (.d (.bool (bs.any id))) M
    | none => .no
  | _, _ => .no
def aAbs : List Sl → ASto → Res Sl
  | [.d (.int i)], M => .ok (.d (.int (if i < 0 then -i else i))) M
  | _, _ => .no
def aInt1 : List Sl → ASto → Res Sl
  | [.d (.int i)], M => .ok (.d (.int i)) M
  | [.d (.bool k)], M => .ok (.d (.int (if k then 1 else 0))) M
  | _, _ => .no
def aMin2 : List Sl → ASto → Res Sl
  | [.d (.int i), .d (.int j)], M => .ok (.d (.int (if j < i then j else i))) M
  | _, _ => .no
def cutD (xs : List PyData) (lo hi : Option Int) : List PyData := (xs.drop (HT.sIx xs.length 0 lo)).take (HT.sIx xs.length xs.length hi - HT.sIx xs.length 0 lo)
def aNoPart : AEnv → ASto → Res (Option Int) := fun _ M => .ok none M
def aPart (A : AEnv → ASto → Res Sl) : AEnv → ASto → Res (Option Int) := fun ds M => (A ds M).bind fun s M1 => match s with
  | .d (.int i) => .ok (some i) M1
  | _ => .no
def aSl (A : AEnv → ASto → Res Sl) (B C : AEnv → ASto → Res (Option Int)) : AEnv → ASto → Res Sl := fun ds M => (A ds M).bind fun s M1 => (B ds M1).bind fun lo M2 => (C ds M2).bind fun hi M3 => match vwL M3 s with
  | some xs => .ok (.d (.list (cutD xs lo hi))) M3
  | none => match s with
    | .d (.tuple xs) => if HT.sIx xs.length 0 lo = 0 ∧ HT.sIx xs.length xs.length hi = xs.length then .no else .ok (.d (.tuple (cutD xs lo hi))) M3
    | _ => .no
/-! items walked -/
def iSeqA (A : AEnv → ASto → Res Sl) : AEnv → ASto → Res (List Sl) := fun ds M => (A ds M).bind fun s M1 => match s with
  | .d (.list xs) => .ok (xs.map Sl.d) M1
  | .d (.tuple xs) => .ok (xs.map Sl.d) M1
  | _ => .no
def rangeL (lo : Int) : Nat → List Sl
  | 0 => []
  | n + 1 => rangeL lo n ++ [.d (.int (lo + n))]
def iRng1A (A : AEnv → ASto → Res (List Sl)) : AEnv → ASto → Res (List Sl) := fun ds M => (A ds M).bind fun ss M1 => match ss with
  | [.d (.int j)] => if -100000 ≤ j ∧ j ≤ 100000 then .ok (rangeL 0 j.toNat) M1 else .no
  | _ => .no
def iRng2A (A : AEnv → ASto → Res (List Sl)) : AEnv → ASto → Res (List Sl) := fun ds M => (A ds M).bind fun ss M1 => match ss with
  | [.d (.int i), .d (.int j)] => if -100000 ≤ i ∧ i ≤ 100000 ∧ -100000 ≤ j ∧ j ≤ 100000 then .ok (rangeL i (j - i).toNat) M1 else .no
  | _ => .no
def enumL : Nat → List PyData → List Sl
  | _, [] => []
  | k, x :: xs => .d (.tuple [.int k, x]) :: enumL (k + 1) xs
def iEnumA (A : AEnv → ASto → Res (List Sl)) : AEnv → ASto → Res (List Sl) := fun ds M => (A ds M).bind fun ss M1 => match ss with
  | [.d (.list xs)] => .ok (enumL 0 xs) M1
  | _ => .no
def zipL : List PyData → List PyData → List Sl
  | x :: xs, y :: ys => .d (.tuple [x, y]) :: zipL xs ys
  | _, _ => []
def iZipA (A : AEnv → ASto → Res (List Sl)) : AEnv → ASto → Res (List Sl) := fun ds M => (A ds M).bind fun ss M1 => match ss with
  | [.d (.list xs), .d (.list ys)] => .ok (zipL xs ys) M1
  | _ => .no
def iOrT (t u : TI) : TI := fun σ H R => t σ H R ∨ u σ H R
theorem PI.or {X : Cx} {tg e : Expr} {t u : TI} (h : PI X tg e t) (h' : PI X tg e u) : PI X tg e (iOrT t u) := ⟨fun pins s σ H R I q => by
  rcases q with q | q
  · exact h.run pins s σ H R I q
  · exact h'.run pins s σ H R I q⟩
/-- a list or a tuple -/
abbrev iSeqT (K : PySem.W.Frag) (t : TE) : TI := iOrT (iList K t) (iTup K t)
theorem pi_seq {X : Cx} {tg e : Expr} {t : TE} (h : PE X e t) : PI X tg e (iSeqT X.K t) := PI.or (pi_list h) (pi_tup h)

section
variable {P : Program} {w : World} {K : PySem.W.Frag} {mg : Str → Option Value} {E : XK}
theorem allD_all {W : Hp} {as : List Addr} : ∀ {ss : List Sl} {vs : List V} {xs : List PyData}, Paired (SlRel K W as) vs ss → allD ss = some xs → DqAll K W vs xs := fun r h => allD_rel r h
theorem vwL_rel {W : Hp} {as : List Addr} {M : ASto} {H : Hp} {s : Sl} {v : V} {xs : List PyData} (o : Own P w K W as M H) (r : SlRel K W as v s) (h : vwL M s = some xs) : ∃ a vs, v = .ref a ∧ H a = some (.lst vs) ∧ DqAll K W vs xs := by
  unfold vwL at h
  split at h
  · cases h
    cases r with
    | @lst a vs _ hs hd => exact ⟨a, vs, rfl, o.sub _ _ hs, hd⟩
  · rename_i n
    split at h
    · rename_i ss hn
      obtain ⟨a, ha, rfl⟩ := r
      obtain ⟨_, vs, h1, h2⟩ := o.cell n a _ ha hn
      exact ⟨a, vs, rfl, h1, allD_rel h2 h⟩
    · cases h
  · cases h
theorem vwS_rel {W : Hp} {as : List Addr} {M : ASto} {H : Hp} {s : Sl} {v : V} {xs : List PyData} (o : Own P w K W as M H) (r : SlRel K W as v s) (h : vwS M s = some xs) : ∃ a vs, v = .ref a ∧ (H a = some (.lst vs) ∨ ∃ ob, H a = some (.frz ob (.tup vs))) ∧ DqAll K W vs xs := by
  unfold vwS at h
  split at h
  · cases h
    cases r with
    | @tup a ob vs _ hs hn hd => exact ⟨a, vs, rfl, .inr ⟨ob, o.sub _ _ hs⟩, hd⟩
  · obtain ⟨a, vs, h1, h2, h3⟩ := vwL_rel o r h
    exact ⟨a, vs, h1, .inl h2, h3⟩
theorem DqAll.at {W : Hp} : ∀ {vs : List V} {xs : List PyData} {i : Nat} {x : PyData}, DqAll K W vs xs → xs[i]? = some x → ∃ v, vs[i]? = some v ∧ Dq K W v x
  | _, _, _, _, .nil, h => by simp at h
  | _, _, 0, _, .cons a b, h => by
    simp at h
    subst h
    exact ⟨_, rfl, a⟩
  | _, _, i + 1, x, .cons a b, h => by
    obtain ⟨v, h1, h2⟩ := DqAll.at (i := i) (x := x) b (by simpa using h)
    exact ⟨v, by simpa using h1, h2⟩
theorem Paired.at {α β : Type} {R : α → β → Prop} : ∀ {xs : List α} {ys : List β} {i : Nat} {y : β}, Paired R xs ys → ys[i]? = some y → ∃ x, xs[i]? = some x ∧ R x y
  | _, _, _, _, .nil, h => by simp at h
  | _, _, 0, _, .cons a b, h => by
    simp at h
    subst h
    exact ⟨_, rfl, a⟩
  | _, _, i + 1, x, .cons a b, h => by
    obtain ⟨v, h1, h2⟩ := Paired.at (i := i) (y := x) b (by simpa using h)
    exact ⟨v, by simpa using h1, h2⟩
theorem DqAll.drop {W : Hp} : ∀ {vs : List V} {xs : List PyData} (n : Nat), DqAll K W vs xs → DqAll K W (vs.drop n) (xs.drop n)
  | _, _, 0, r => r
  | _, _, _ + 1, .nil => .nil
  | _, _, n + 1, .cons _ b => DqAll.drop n b
theorem DqAll.take {W : Hp} : ∀ {vs : List V} {xs : List PyData} (n : Nat), DqAll K W vs xs → DqAll K W (vs.take n) (xs.take n)
  | _, _, 0, _ => .nil
  | _, _, _ + 1, .nil => .nil
  | _, _, n + 1, .cons a b => .cons a (DqAll.take n b)
theorem SR.or {r r' : R2} {f f' : Sl → Sl → ASto → Res Sl} (h : SR P w K mg r f) (h' : SR P w K mg r' f') : SR P w K mg (rOr r r') (fun s u M => orF (f s u M) (f' s u M)) := by
  intro M W as H x y s u Q E o rx ry m
  dsimp only at m
  cases q : f s u M with
  | no => rw [q] at m; exact .inr (h' M W as H x y s u Q E o rx ry m)
  | ok a M1 => rw [q] at m; exact .inl (h M W as H x y s u Q E o rx ry (by rw [q]; exact m))
  | ex a M1 => rw [q] at m; exact .inl (h M W as H x y s u Q E o rx ry (by rw [q]; exact m))
theorem SC.or {r r' : List V → Hp → VK → Prop} {f f' : List Sl → ASto → Res Sl} (h : SC P w K mg r f) (h' : SC P w K mg r' f') : SC P w K mg (cOr r r') (fun s M => orF (f s M) (f' s M)) := by
  intro M W as H x s Q E o rx m
  dsimp only at m
  cases q : f s M with
  | no => rw [q] at m; exact .inr (h' M W as H x s Q E o rx m)
  | ok a M1 => rw [q] at m; exact .inl (h M W as H x s Q E o rx (by rw [q]; exact m))
  | ex a M1 => rw [q] at m; exact .inl (h M W as H x s Q E o rx (by rw [q]; exact m))
theorem sr_I0 {gV : Int → Int → V} {g : Int → Int → PyData} (hg : ∀ i j W, Dq K W (gV i j) (g i j)) : SR P w K mg (rI0 gV) (aI2 g) := by
  intro M W as H x y s u Q E o rx ry m
  unfold aI2 at m
  split at m
  · cases rx
    cases ry
    exact ⟨_, _, rfl, rfl, m.now o (hg _ _ W)⟩
  · exact m.elim
theorem sr_I {C : Int → Int → Prop} {c : Int → Int → Bool} {gV : Int → Int → V} {g : Int → Int → PyData} (hc : ∀ i j, c i j = true → C i j) (hg : ∀ i j W, Dq K W (gV i j) (g i j)) : SR P w K mg (rI C gV) (aI2C c g) := by
  intro M W as H x y s u Q E o rx ry m
  unfold aI2C at m
  split at m
  · split at m
    · rename_i hc'
      cases rx
      cases ry
      exact ⟨_, _, rfl, rfl, hc _ _ hc', m.now o (hg _ _ W)⟩
    · exact m.elim
  · exact m.elim
theorem sr_eqD : SR P w K mg (rEqD K) (aEqD false) := by
  intro M W as H x y s u Q E o rx ry m
  unfold aEqD at m
  split at m
  · split at m
    · rename_i hs
      rw [Bool.and_eq_true] at hs
      exact ⟨_, _, (o.dq rx).dp, (o.dq ry).dp, hs.1, hs.2, m.now o (.bl _)⟩
    · exact m.elim
  · exact m.elim
theorem sr_neD : SR P w K mg (rNeD K) (aEqD true) := by
  intro M W as H x y s u Q E o rx ry m
  unfold aEqD at m
  split at m
  · split at m
    · rename_i hs
      rw [Bool.and_eq_true] at hs
      exact ⟨_, _, (o.dq rx).dp, (o.dq ry).dp, hs.1, hs.2, m.now o (.bl _)⟩
    · exact m.elim
  · exact m.elim
theorem flat_rel {W : Hp} {v : V} {x : PyData} (r : Dq K W v x) (h : flatD x = true) : flatV v = true := by
  cases r <;> first | rfl | cases h
theorem flats_rel {W : Hp} : ∀ {vs : List V} {xs : List PyData}, DqAll K W vs xs → xs.all flatD = true → vs.all flatV = true
  | _, _, .nil, _ => rfl
  | _, _, .cons a b, h => by
    rw [List.all_cons, Bool.and_eq_true] at h ⊢
    exact ⟨flat_rel a h.1, flats_rel b h.2⟩
theorem eqF_rel {W : Hp} {v u : V} {x y : PyData} (a : Dq K W v x) (b : Dq K W u y) (hx : flatD x = true) (hy : flatD y = true) : eqV v u = eqF x y := by
  cases a <;> first | (exfalso; exact Bool.noConfusion hx) | (cases b <;> first | rfl | (exfalso; exact Bool.noConfusion hy))
theorem inF_rel {W : Hp} {v : V} {x : PyData} (a : Dq K W v x) (hx : flatD x = true) : ∀ {vs : List V} {xs : List PyData}, DqAll K W vs xs → xs.all flatD = true → inV v vs = xs.any fun y => eqF y x
  | _, _, .nil, _ => rfl
  | _, _, .cons c b, h => by
    rw [List.all_cons, Bool.and_eq_true] at h
    have := inF_rel a hx b h.2
    unfold inV at this ⊢
    rw [List.any_cons, List.any_cons, this, eqF_rel c a h.1 hx]
theorem sr_inF (neg : Bool) : SR P w K mg (rIn K neg) (aInF neg) := by
  intro M W as H x y s u Q E o rx ry m
  unfold aInF at m
  split at m
  · split at m
    · rename_i ys hy
      split at m
      · rename_i hf
        rw [Bool.and_eq_true] at hf
        obtain ⟨a, vs, rfl, h1, h2⟩ := vwS_rel o ry hy
        refine ⟨a, vs, rfl, ?_, flat_rel rx hf.1, flats_rel h2 hf.2, ?_⟩
        · rcases h1 with h1 | h1
          · exact .inl (SqL.of h1)
          · exact .inr (.inl (.inr h1))
        · rw [inF_rel rx hf.1 h2 hf.2]
          exact m.now o (.bl _)
      · exact m.elim
    · exact m.elim
  · exact m.elim
theorem sr_cat : SR P w K mg rCat aCat := by
  intro M W as H x y s u Q E o rx ry m
  unfold aCat at m
  split at m
  · rename_i xs ys hx hy
    split at m
    · rename_i hl
      obtain ⟨a, vs, rfl, a1, a2⟩ := vwL_rel o rx hx
      obtain ⟨b, us, rfl, b1, b2⟩ := vwL_rel o ry hy
      refine ⟨a, b, vs, us, rfl, rfl, a1, b1, by rw [DqAll.len a2, DqAll.len b2]; exact sz_le hl, fun p hp => m.new o hp (.lst upd_same (DqAll.up (o.same_new hp _) (DqAll.app a2 b2)))⟩
    · exact m.elim
  · exact m.elim
theorem sr_catT : SR P w K mg (rCatTN K) aCatT := by
  intro M W as H x y s u Q E o rx ry m
  unfold aCatT at m
  split at m
  · rename_i x1 xs y1 ys
    split at m
    · rename_i hl
      cases rx with
      | @tup a oa vs _ ha na a2 =>
        cases ry with
        | @tup b ob us _ hb nb b2 =>
          have l1 := DqAll.len a2
          have l2 := DqAll.len b2
          simp only [List.length_cons] at l1 l2
          have hz : vs.length + us.length ≤ sizeLine := by
            have : 100002 ≤ sizeLine := by decide
            omega
          refine ⟨a, b, vs, us, rfl, rfl, o.tup (.inr ⟨_, ha⟩), o.tup (.inr ⟨_, hb⟩), fun z => by rw [z] at l1; simp at l1, hz, fun z => by rw [z] at l2; simp at l2, fun _ p oo hp hn => ?_⟩
          exact m.new o hp (.tup upd_same hn (DqAll.up (o.same_new hp _) (DqAll.app a2 b2)))
    · exact m.elim
  · exact m.elim
theorem sr_isN : SR P w K mg (fun x y H Q => y = V.non ∧ Q (V.bl (decide (x = V.non))) H) (aIsN false) := by
  intro M W as H x y s u Q E o rx ry m
  unfold aIsN at m
  split at m
  · cases rx
    cases ry
    exact ⟨rfl, m.now o (.bl _)⟩
  · rename_i z _ hz
    cases ry
    refine ⟨rfl, ?_⟩
    have : decide (x = V.non) = false := decide_eq_false fun e => by
      subst e
      cases rx
      exact hz rfl
    rw [this]
    exact m.now o (.bl _)
  · cases ry
    obtain ⟨a, _, rfl⟩ := rx
    exact ⟨rfl, m.now o (.bl _)⟩
  · exact m.elim
theorem sr_notN : SR P w K mg (fun x y H Q => y = V.non ∧ Q (V.bl (!decide (x = V.non))) H) (aIsN true) := by
  intro M W as H x y s u Q E o rx ry m
  unfold aIsN at m
  split at m
  · cases rx
    cases ry
    exact ⟨rfl, m.now o (.bl _)⟩
  · rename_i z _ hz
    cases ry
    refine ⟨rfl, ?_⟩
    have : decide (x = V.non) = false := decide_eq_false fun e => by
      subst e
      cases rx
      exact hz rfl
    rw [this]
    exact m.now o (.bl _)
  · cases ry
    obtain ⟨a, _, rfl⟩ := rx
    exact ⟨rfl, m.now o (.bl _)⟩
  · exact m.elim
theorem atI_rel {α β : Type} {R : α → β → Prop} {xs : List α} {ys : List β} {i : Int} {y : β} (hl : xs.length = ys.length) (hr : ∀ (j : Nat) (y : β), ys[j]? = some y → ∃ x, xs[j]? = some x ∧ R x y) (h : atI ys i = some y) : ∃ x, atI xs i = some x ∧ R x y := by
  unfold atI at h ⊢
  rw [hl]
  obtain ⟨j, h1, h2⟩ := Option.bind_eq_some_iff.mp h
  obtain ⟨x, h3, h4⟩ := hr j y h2
  exact ⟨x, by rw [h1]; exact h3, h4⟩
theorem sr_ix : SR P w K mg (rIx K) aIx := by
  intro M W as H x y s u Q E o rx ry m
  unfold aIx at m
  split at m
  · rename_i i
    cases ry
    split at m
    · rename_i n
      split at m
      · rename_i ss hn
        split at m
        · rename_i z hz
          obtain ⟨a, ha, rfl⟩ := rx
          obtain ⟨_, vs, h1, h2⟩ := o.cell n a _ ha hn
          obtain ⟨v, h3, h4⟩ := atI_rel (Paired.len h2) (fun j y h => Paired.at h2 h) hz
          exact .inl ⟨a, vs, i, v, rfl, rfl, SqL.of h1, h3, m.now o h4⟩
        · exact m.elim
      · exact m.elim
    · rename_i z
      split at m
      · rename_i hl
        split at m
        · rename_i c hc
          cases rx
          exact .inr (.inr ⟨z, i, c, rfl, rfl, sz_le hl, hc, m.now o (.str _)⟩)
        · exact m.elim
      · exact m.elim
    · split at m
      · rename_i xs hx
        split at m
        · rename_i z hz
          obtain ⟨a, vs, rfl, h1, h2⟩ := vwS_rel o rx hx
          obtain ⟨v, h3, h4⟩ := atI_rel (DqAll.len h2) (fun j y h => DqAll.at h2 h) hz
          rcases h1 with h1 | h1
          · exact .inl ⟨a, vs, i, v, rfl, rfl, SqL.of h1, h3, m.now o h4⟩
          · exact .inr (.inl ⟨a, vs, i, v, rfl, rfl, .inl (.inr h1), h3, m.now o h4⟩)
        · exact m.elim
      · exact m.elim
  · exact m.elim
abbrev rLenQ (K : PySem.W.Frag) : List V → Hp → VK → Prop := fun xs H Q => ∃ p ys, xs = [V.ref p] ∧ (SqL K H p ys ∨ SqT K H p ys) ∧ Q (V.int ↑ys.length) H
theorem one_of {α β : Type} {R : α → β → Prop} {xs : List α} {y : β} (r : Paired R xs [y]) : ∃ x, xs = [x] ∧ R x y := by
  cases r with
  | cons a b => cases b; exact ⟨_, rfl, a⟩
theorem two_of {α β : Type} {R : α → β → Prop} {xs : List α} {y z : β} (r : Paired R xs [y, z]) : ∃ x u, xs = [x, u] ∧ R x y ∧ R u z := by
  cases r with
  | cons a b =>
    obtain ⟨u, rfl, c⟩ := one_of b
    exact ⟨_, _, rfl, a, c⟩
theorem sc_len : SC P w K mg (rLenQ K) aLen := by
  intro M W as H x s Q E o rx m
  unfold aLen at m
  split at m
  · rename_i n
    obtain ⟨v, rfl, r⟩ := one_of rx
    split at m
    · rename_i ss hn
      obtain ⟨a, ha, rfl⟩ := r
      obtain ⟨_, vs, h1, h2⟩ := o.cell n a _ ha hn
      exact ⟨a, vs, rfl, .inl (SqL.of h1), m.now o (by rw [Paired.len h2]; exact .int _)⟩
    · exact m.elim
  · rename_i s _
    obtain ⟨v, rfl, r⟩ := one_of rx
    split at m
    · rename_i xs hx
      obtain ⟨a, vs, rfl, h1, h2⟩ := vwS_rel o r hx
      refine ⟨a, vs, rfl, ?_, m.now o (by rw [DqAll.len h2]; exact .int _)⟩
      rcases h1 with h1 | h1
      · exact .inl (SqL.of h1)
      · exact .inr (.inl (.inr h1))
    · exact m.elim
  · exact m.elim
theorem sc_tupOf : SC P w K mg (rTupOfN K) aTupOf := by
  intro M W as H x s Q E o rx m
  unfold aTupOf at m
  split at m
  · rename_i s
    obtain ⟨v, rfl, r⟩ := one_of rx
    split at m
    · rename_i xs hx
      by_cases ht : ∃ ys, s = .d (.tuple ys)
      · obtain ⟨ys, rfl⟩ := ht
        have e : ys = xs := by simpa [vwS] using hx
        subst e
        cases r with
        | @tup a ob vs _ ha hn hd => exact ⟨a, vs, rfl, .inr ⟨o.tup (.inr ⟨_, ha⟩), m.now o (.tup ha hn hd)⟩⟩
      · have hx' : vwL M s = some xs := by
          unfold vwS at hx
          split at hx
          · rename_i ys; exact absurd ⟨ys, rfl⟩ ht
          · exact hx
        obtain ⟨a, vs, rfl, h1, h2⟩ := vwL_rel o r hx'
        exact ⟨a, vs, rfl, .inl ⟨SqL.of h1, fun p oo hp hn => m.new o hp (.tup upd_same hn (DqAll.up (o.same_new hp _) h2))⟩⟩
    · exact m.elim
  · exact m.elim
abbrev rListQ (K : PySem.W.Frag) : List V → Hp → VK → Prop := fun xs H Q => ∃ p ys, xs = [.ref p] ∧ (SqL K H p ys ∨ SqT K H p ys) ∧ ∀ l, H l = none → Q (.ref l) (upd H l (.lst ys))
theorem sc_listOf : SC P w K mg (rListQ K) aListOf := by
  intro M W as H x s Q E o rx m
  unfold aListOf at m
  split at m
  · obtain ⟨v, rfl, r⟩ := one_of rx
    split at m
    · rename_i xs hx
      obtain ⟨a, vs, rfl, h1, h2⟩ := vwS_rel o r hx
      refine ⟨a, vs, rfl, ?_, fun p hp => m.new o hp (.lst upd_same (DqAll.up (o.same_new hp _) h2))⟩
      rcases h1 with h1 | h1
      · exact .inl (SqL.of h1)
      · exact .inr (.inl (.inr h1))
    · exact m.elim
  · exact m.elim
theorem Own.noW {W : Hp} {as : List Addr} {M : ASto} {H : Hp} (o : Own P w K W as M H) {p : Addr} (hp : H p = none) : W p = none := by
  cases z : W p with
  | none => rfl
  | some u => rw [o.sub p u z] at hp; cases hp
theorem MG.cell {Q : VK} {E : XK} {W : Hp} {as : List Addr} {H : Hp} {M : ASto} {ss : List Sl} {vs : List V} {p : Addr} (h : MG P w K mg (rSl K) Q E W as H (.ok (.r M.length) (M ++ [.lst ss]))) (o : Own P w K W as M H) (hp : H p = none) (r : Paired (SlRel K W as) vs ss) : Q (.ref p) (upd H p (.lst vs)) := by
  refine h (.ref p) _ _ _ (o.newC hp (c := .lst ss) ⟨o.noW hp, vs, upd_same, Paired.imp' (fun v s q => SlRel.up (Same.refl W) q) r⟩) ⟨p, ?_, rfl⟩
  rw [← o.len, List.getElem?_append_right (Nat.le_refl _)]
  simp
theorem sc_listOfC : SC P w K mg (rListQ K) aListOfC := by
  intro M W as H x s Q E o rx m
  unfold aListOfC at m
  split at m
  · obtain ⟨v, rfl, r⟩ := one_of rx
    split at m
    · rename_i xs hx
      obtain ⟨a, vs, rfl, h1, h2⟩ := vwS_rel o r hx
      refine ⟨a, vs, rfl, ?_, fun p hp => m.cell o hp (dqAll_rel h2)⟩
      rcases h1 with h1 | h1
      · exact .inl (SqL.of h1)
      · exact .inr (.inl (.inr h1))
    · exact m.elim
  · exact m.elim
theorem bools_rel {W : Hp} : ∀ {vs : List V} {xs : List PyData} {bs : List Bool}, DqAll K W vs xs → bools xs = some bs → vs = bs.map V.bl
  | _, _, _, .nil, h => by cases h; rfl
  | _, _, bs, .cons a b, h => by
    cases a <;> first | cases h | skip
    rename_i k
    simp only [bools, Option.map_eq_some_iff] at h
    obtain ⟨r, h1, rfl⟩ := h
    rw [bools_rel b h1]
    rfl
theorem sc_all : SC P w K mg (rAll K) aAll := by
  intro M W as H x s Q E o rx m
  unfold aAll at m
  split at m
  · obtain ⟨v, rfl, r⟩ := one_of rx
    split at m
    · rename_i bs hx
      obtain ⟨xs, h1, h2⟩ := Option.bind_eq_some_iff.mp hx
      obtain ⟨a, vs, rfl, h3, h4⟩ := vwL_rel o r h1
      have e := bools_rel h4 h2
      subst e
      exact ⟨a, bs, rfl, SqL.of h3, m.now o (.bl _)⟩
    · exact m.elim
  · exact m.elim
theorem sc_any : SC P w K mg (rAny K) aAny := by
  intro M W as H x s Q E o rx m
  unfold aAny at m
  split at m
  · obtain ⟨v, rfl, r⟩ := one_of rx
    split at m
    · rename_i bs hx
      obtain ⟨xs, h1, h2⟩ := Option.bind_eq_some_iff.mp hx
      obtain ⟨a, vs, rfl, h3, h4⟩ := vwL_rel o r h1
      have e := bools_rel h4 h2
      subst e
      exact ⟨a, bs, rfl, SqL.of h3, m.now o (.bl _)⟩
    · exact m.elim
  · exact m.elim
theorem sc_abs : SC P w K mg (fun xs H Q => ∃ i, xs = [.int i] ∧ Q (.int (if i < 0 then -i else i)) H) aAbs := by
  intro M W as H x s Q E o rx m
  unfold aAbs at m
  split at m
  · obtain ⟨v, rfl, r⟩ := one_of rx
    cases r
    exact ⟨_, rfl, m.now o (.int _)⟩
  · exact m.elim
theorem sc_int1 : SC P w K mg (fun xs H Q => (∃ i, xs = [.int i] ∧ Q (.int i) H) ∨ ∃ k, xs = [.bl k] ∧ Q (.int (if k then 1 else 0)) H) aInt1 := by
  intro M W as H x s Q E o rx m
  unfold aInt1 at m
  split at m
  · obtain ⟨v, rfl, r⟩ := one_of rx
    cases r
    exact .inl ⟨_, rfl, m.now o (.int _)⟩
  · obtain ⟨v, rfl, r⟩ := one_of rx
    cases r
    exact .inr ⟨_, rfl, m.now o (.int _)⟩
  · exact m.elim
theorem sc_min2 : SC P w K mg (fun xs H Q => ∃ i j, xs = [.int i, .int j] ∧ Q (.int (if j < i then j else i)) H) aMin2 := by
  intro M W as H x s Q E o rx m
  unfold aMin2 at m
  split at m
  · obtain ⟨v, u, rfl, r, r2⟩ := two_of rx
    cases r
    cases r2
    exact ⟨_, _, rfl, m.now o (.int _)⟩
  · exact m.elim
end
end Ab
end
section
set_option Elab.async false
set_option linter.all false
set_option maxRecDepth 100000
set_option maxHeartbeats 4000000
namespace Ab
open PySem PySem.Spec PyProof.Rows L2

/-! ### cells that change -/
def isL (M : ASto) : Sl → Bool
  | .r n => match M[n]? with
    | some (.lst _) => true
    | _ => false
  | _ => false
def aMut (g : Sl → Sl → ASto → Res Sl) (A B : AEnv → ASto → Res Sl) : AEnv → ASto → Res Sl := fun ds M => (A ds M).bind fun s M1 => if isL M1 s = true then (B ds M1).bind fun x M2 => g s x M2 else .no
def gAppend : Sl → Sl → ASto → Res Sl := fun s x M2 => match s with
  | .r n => match M2[n]? with
    | some (.lst ss) => if ss.length < 100000 then .ok (.d .none) (M2.set n (.lst (ss ++ [x]))) else .no
    | _ => .no
  | _ => .no
def gPopAt : Sl → Sl → ASto → Res Sl := fun s x M2 => match s, x with
  | .r n, .d (.int i) => match M2[n]? with
    | some (.lst ss) => if 0 ≤ i ∧ i < 100000 then match ss[i.toNat]? with
        | some z => .ok z (M2.set n (.lst (ss.eraseIdx i.toNat)))
        | none => .no
      else .no
    | _ => .no
  | _, _ => .no
def gExtend : Sl → Sl → ASto → Res Sl := fun s x M2 => match s with
  | .r n => match M2[n]? with
    | some (.lst ss) => match x with
      | .d (.list xs) => if ss.length + xs.length ≤ 100000 then .ok (.d .none) (M2.set n (.lst (ss ++ xs.map Sl.d))) else .no
      | _ => .no
    | _ => .no
  | _ => .no
def aPop (A : AEnv → ASto → Res Sl) : AEnv → ASto → Res Sl := fun ds M => (A ds M).bind fun s M1 => match s with
  | .r n => match M1[n]? with
    | some (.lst ss) => match ss[ss.length - 1]? with
        | some z => .ok z (M1.set n (.lst ss.dropLast))
        | none => .no
    | _ => .no
  | _ => .no
/-- xs[i] = e: e, xs, i in this order -/
def aSetIx (A B C : AEnv → ASto → Res Sl) : AEnv → ASto → Out := fun ds M => resO (A ds M) fun v M1 => resO (B ds M1) fun s M2 => resO (C ds M2) fun i M3 => match s, i with
  | .r n, .d (.int k) => match M3[n]? with
    | some (.lst ss) => match ixN ss.length k with
        | some j => .nx ds (M3.set n (.lst (ss.set j v)))
        | none => .no
    | _ => .no
  | _, _ => .no
def truA (M : ASto) : Sl → Option Bool
  | .d .none => some false
  | .d (.bool b) => some b
  | .d (.int i) => some (i != 0)
  | .d (.tuple xs) => some (!xs.isEmpty)
  | .d (.list xs) => some (!xs.isEmpty)
  | .d (.str z) => if z.length ≤ 100000 then some ((z.length : Int) != 0) else none
  | .r n => match M[n]? with
    | some (.lst ss) => some (!ss.isEmpty)
    | some (.dct kvs) => some (!kvs.isEmpty)
    | _ => none
  | _ => none
def aOrT (A B : AEnv → ASto → Res Sl) : AEnv → ASto → Res Sl := fun ds M => (A ds M).bind fun s M1 => match truA M1 s with
  | some true => .ok s M1
  | some false => B ds M1
  | none => .no
def aTru (A : AEnv → ASto → Res Sl) : AEnv → ASto → Res Bool := fun ds M => (A ds M).bind fun s M1 => match truA M1 s with
  | some b => .ok b M1
  | none => .no
/-- a, b = e, f -/
def aPar (i j : Nat) (A : AEnv → ASto → Res (List Sl)) : AEnv → ASto → Out := fun ds M => resO (A ds M) fun ss M1 => match ss with
  | [x, y] => .nx ((ds.set i (some x)).set j (some y)) M1
  | _ => .no
/-! ### a def -/
def closedS (n : Nat) : Sl → Bool
  | .d _ => true
  | .r k => decide (k < n)
  | .s _ => true
def closedC (n : Nat) : Cell → Bool
  | .lst ss => ss.all (closedS n)
  | .dct kvs => kvs.all fun e => closedS n e.2
  | _ => true
/-- what is told behind a def: its own cells are forgotten -/
def closeR (n : Nat) : Res Sl → Res Sl
  | .ok s M => if closedS n s && (M.take n).all (closedC n) then .ok s (M.take n) else .no
  | .ex e M => if (M.take n).all (closedC n) then .ex e (M.take n) else .no
  | .no => .no
def runF (n : Nat) (f : AEnv → ASto → Out) (ss : List Sl) (M : ASto) : Res Sl := closeR M.length (fnR (f (startA n ss) M))
/-- the same, its cells kept -/
def runK (n : Nat) (f : AEnv → ASto → Out) (ss : List Sl) (M : ASto) : Res Sl := fnR (f (startA n ss) M)
def frzD (M : ASto) : Sl → Option PyData
  | .d x => some x
  | .r n => match M[n]? with
    | some (.lst ss) => (allD ss).map PyData.list
    | _ => none
  | .s _ => none
/-- a cell that is handed back and never changes again -/
def aRetF (A : AEnv → ASto → Res Sl) : AEnv → ASto → Out := fun ds M => resO (A ds M) fun s M1 => match s with
  | .d x => .rt (.d x) M1
  | .r n => match frzD M1 s with
    | some x => .rt (.d x) (M1.set n .gone)
    | none => .no
  | _ => .no
/-- the cell in slot i never changes again -/
def aFrz (i : Nat) (f : AEnv → ASto → Out) : AEnv → ASto → Out := fun ds M => match ds[i]? with
  | some (some (.r n)) => match frzD M (.r n) with
    | some x => f (ds.set i (some (.d x))) (M.set n .gone)
    | none => .no
  | _ => .no

section
variable {P : Program} {w : World} {K : PySem.W.Frag} {mg : Str → Option Value} {E : XK}
/-- a cell gets another content -/
theorem Own.setC {W : Hp} {as : List Addr} {M : ASto} {H : Hp} (o : Own P w K W as M H) {n : Nat} {a : Addr} {c c' : Cell} {x : HO} (ha : as[n]? = some a) (hc : M[n]? = some c) (hw : W a = none) (hc' : CellOk P w K W as (upd H a x) a c') :
    Go P w K W as H W as (M.set n c') (upd H a x) := by
  have ne : ∀ {b : Addr} {u : HO}, W b = some u → b ≠ a := fun {b u} e z => by rw [z, hw] at e; cases e
  have am : a ∈ as := List.mem_of_getElem? ha
  refine ⟨Same.refl W, ⟨[], by simp, by simp⟩, ⟨fun b u e => by rw [upd_ne (ne e)]; exact o.sub b u e, by simp [o.len], o.nd, fun m b c2 h1 h2 => ?_⟩, fun b u e hb => by rw [upd_ne (fun z => hb (by rw [z]; exact am))]; exact e, fun b h => .inl h⟩
  rw [List.getElem?_set] at h2
  by_cases hm : n = m
  · subst hm
    rw [if_pos rfl] at h2
    have hl : n < M.length := (List.getElem?_eq_some_iff.mp hc).1
    rw [if_pos hl] at h2
    cases h2
    rw [ha] at h1
    cases h1
    exact hc'
  · rw [if_neg hm] at h2
    have hb : b ≠ a := fun z => by
      subst z
      exact hm ((List.getElem?_inj (List.getElem?_eq_some_iff.mp ha).1 o.nd).mp (ha.trans h1.symm))
    have := (o.cell m b c2 h1 h2).up (bs := []) (Same.refl W) rfl (upd_ne (o := x) hb)
    rwa [List.append_nil] at this
theorem Own.lstAt {W : Hp} {as : List Addr} {M : ASto} {H : Hp} (o : Own P w K W as M H) {n : Nat} {ss : List Sl} {v : V} (r : SlRel K W as v (.r n)) (hc : M[n]? = some (.lst ss)) : ∃ a vs, v = .ref a ∧ as[n]? = some a ∧ W a = none ∧ H a = some (.lst vs) ∧ Paired (SlRel K W as) vs ss := by
  obtain ⟨a, ha, rfl⟩ := r
  obtain ⟨h0, vs, h1, h2⟩ := o.cell n a _ ha hc
  exact ⟨a, vs, rfl, ha, h0, h1, h2⟩
theorem MG.set {α β : Type} {rel : Hp → List Addr → α → β → Prop} {Q : α → Hp → Prop} {E : XK} {W : Hp} {as : List Addr} {H : Hp} {M : ASto} {n : Nat} {a : Addr} {c c' : Cell} {x : HO} {b : β} {v : α} (h : MG P w K mg rel Q E W as H (.ok b (M.set n c'))) (o : Own P w K W as M H)
    (ha : as[n]? = some a) (hc : M[n]? = some c) (hw : W a = none) (hc' : CellOk P w K W as (upd H a x) a c') (r : rel W as v b) : Q v (upd H a x) := h v W as _ (o.setC ha hc hw hc') r
theorem Go.nth {W W' : Hp} {as as' : List Addr} {M' : ASto} {H H' : Hp} (g : Go P w K W as H W' as' M' H') {n : Nat} {a : Addr} (h : as[n]? = some a) : as'[n]? = some a := by
  obtain ⟨bs, rfl, _⟩ := g.pre
  rw [List.getElem?_append_left (List.getElem?_eq_some_iff.mp h).1]
  exact h
theorem tyL {H : Hp} {a : Addr} {vs : List V} (h : H a = some (.lst vs)) : tyV K "list" (.ref a) H := .inl ⟨rfl, vs, SqL.of h⟩
/-- what a list's method does, by the store -/
def SM (P : Program) (w : World) (K : PySem.W.Frag) (mg : Str → Option Value) (r : V → List V → Hp → VK → Prop) (g : Sl → Sl → ASto → Res Sl) : Prop := ∀ (M : ASto) (W : Hp) (as : List Addr) (H : Hp) (x y : V) (s u : Sl) (Q : VK) (E : XK),
  Own P w K W as M H → SlRel K W as x s → SlRel K W as y u → MG P w K mg (rSl K) Q E W as H (g s u M) → r x [y] H Q
theorem se_mut {r : V → List V → Hp → VK → Prop} {g : Sl → Sl → ASto → Res Sl} {ta te : TE} {A B : AEnv → ASto → Res Sl} (hr : SM P w K mg r g) (ha : SE P w K mg E ta A) (hb : SE P w K mg E te B) : SE P w K mg E (tBM K "list" r ta (tCons te tNil)) (aMut g A B) := ⟨fun ds M σ W as H Q e o h =>
  ha.run ds M σ W as H _ e o (MG.bind h fun s M1 hA v W1 as1 H1 g1 r1 h1 => by
    split at h1
    · rename_i hL
      refine ⟨?_, hb.run ds M1 σ W1 as1 H1 _ (g1.env e) g1.own (MG.bind h1 fun x M2 _ u W2 as2 H2 g2 r2 h2 => hr M2 W2 as2 H2 v u s x Q E g2.own (g2.rel r1) r2 h2)⟩
      unfold isL at hL
      split at hL
      · split at hL
        · rename_i n ss hn
          obtain ⟨a, vs, rfl, _, _, h5, _⟩ := g1.own.lstAt r1 hn
          exact tyL h5
        · cases hL
      · cases hL
    · exact h1.elim)⟩
theorem Paired.set' {α β : Type} {R : α → β → Prop} {x : α} {y : β} (r : R x y) : ∀ {xs : List α} {ys : List β} (i : Nat), Paired R xs ys → Paired R (xs.set i x) (ys.set i y)
  | _, _, _, .nil => .nil
  | _, _, 0, .cons _ t => .cons r t
  | _, _, i + 1, .cons q t => .cons q (Paired.set' r i t)
theorem Paired.erase {α β : Type} {R : α → β → Prop} : ∀ {xs : List α} {ys : List β} (i : Nat), Paired R xs ys → Paired R (xs.eraseIdx i) (ys.eraseIdx i)
  | _, _, _, .nil => .nil
  | _, _, 0, .cons _ t => t
  | _, _, i + 1, .cons q t => .cons q (Paired.erase i t)
theorem Paired.init {α β : Type} {R : α → β → Prop} : ∀ {xs : List α} {ys : List β}, Paired R xs ys → Paired R xs.dropLast ys.dropLast
  | _, _, .nil => .nil
  | _, _, .cons _ .nil => .nil
  | _, _, .cons a (.cons b t) => .cons a (Paired.init (.cons b t))
theorem sm_append : SM P w K mg rAppend gAppend := by
  intro M W as H x y s u Q E o rx ry m
  unfold gAppend at m
  split at m
  · rename_i n
    split at m
    · rename_i ss hn
      split at m
      · rename_i hl
        obtain ⟨a, vs, rfl, h3, h4, h5, h6⟩ := o.lstAt rx hn
        refine ⟨a, vs, y, rfl, rfl, h5, by rw [Paired.len h6]; exact Nat.lt_of_lt_of_le hl (by decide), ?_⟩
        exact MG.set (v := V.non) m o h3 hn h4 ⟨h4, _, upd_same, Paired.app h6 (.cons ry .nil)⟩ .non
      · exact m.elim
    · exact m.elim
  · exact m.elim
theorem sm_extend : SM P w K mg rExtend gExtend := by
  intro M W as H x y s u Q E o rx ry m
  unfold gExtend at m
  split at m
  · rename_i n
    split at m
    · rename_i ss hn
      split at m
      · rename_i xs
        split at m
        · rename_i hl
          obtain ⟨a, vs, rfl, h3, h4, h5, h6⟩ := o.lstAt rx hn
          cases ry with
          | @lst b us _ hb hd =>
            refine ⟨a, b, vs, us, rfl, rfl, h5, o.sub _ _ hb, by rw [Paired.len h6, DqAll.len hd]; exact sz_le hl, ?_⟩
            exact MG.set (v := V.non) m o h3 hn h4 ⟨h4, _, upd_same, Paired.app h6 (dqAll_rel hd)⟩ .non
        · exact m.elim
      · exact m.elim
    · exact m.elim
  · exact m.elim
theorem sm_popAt : SM P w K mg rPopAt gPopAt := by
  intro M W as H x y s u Q E o rx ry m
  unfold gPopAt at m
  split at m
  · rename_i n i
    split at m
    · rename_i ss hn
      split at m
      · rename_i hl
        split at m
        · rename_i z hz
          obtain ⟨a, vs, rfl, h3, h4, h5, h6⟩ := o.lstAt rx hn
          cases ry
          obtain ⟨v, h7, h8⟩ := Paired.at h6 hz
          have hlt : i.toNat < vs.length := (List.getElem?_eq_some_iff.mp h7).1
          refine ⟨a, vs, i, i.toNat, v, rfl, rfl, h5, by omega, by omega, seqIndex_of hl.1 (by omega), h7, ?_⟩
          exact MG.set (v := v) m o h3 hn h4 ⟨h4, _, upd_same, Paired.erase _ h6⟩ h8
        · exact m.elim
      · exact m.elim
    · exact m.elim
  · exact m.elim
theorem se_pop {ta : TE} {A : AEnv → ASto → Res Sl} (ha : SE P w K mg E ta A) : SE P w K mg E (tBM0 K "list" rPop ta) (aPop A) := ⟨fun ds M σ W as H Q e o h =>
  ha.run ds M σ W as H _ e o (MG.bind h fun s M1 hA v W1 as1 H1 g1 r1 h1 => by
    split at h1
    · rename_i n
      split at h1
      · rename_i ss hn
        split at h1
        · rename_i z hz
          obtain ⟨a, vs, rfl, h3, h4, h5, h6⟩ := g1.own.lstAt r1 hn
          obtain ⟨u, h7, h8⟩ := Paired.at h6 hz
          refine ⟨tyL h5, a, vs, u, rfl, rfl, h5, by rw [Paired.len h6]; exact h7, ?_⟩
          exact MG.set (v := u) h1 g1.own h3 hn h4 ⟨h4, _, upd_same, Paired.init h6⟩ h8
        · exact h1.elim
      · exact h1.elim
    · exact h1.elim)⟩
theorem ss_setIx {te ta ti : TE} {A B C : AEnv → ASto → Res Sl} (ha : SE P w K mg E te A) (hb : SE P w K mg E ta B) (hc : SE P w K mg E ti C) : SS P w K mg E (tAsg te (gSub ta ti rSetL)) (aSetIx A B C) := ⟨fun ds M σ W as H D e o h =>
  ha.run ds M σ W as H _ e o (MG.bindO h fun v M1 _ x W1 as1 H1 g1 r1 h1 => hb.run ds M1 σ W1 as1 H1 _ (g1.env e) g1.own (MG.bindO h1 fun s M2 hB y W2 as2 H2 g2 r2 h2 =>
    hc.run ds M2 σ W2 as2 H2 _ ((g1.trans g2).env e) g2.own (MG.bindO h2 fun i M3 hC z W3 as3 H3 g3 r3 h3 => by
      split at h3
      · rename_i n k
        split at h3
        · rename_i ss hn
          split at h3
          · rename_i j hj
            obtain ⟨a, vs, rfl, q3, q4, q5, q6⟩ := g3.own.lstAt (g3.rel r2) hn
            cases r3
            refine ⟨a, vs, k, j, rfl, rfl, q5, by rw [Paired.len q6]; exact hj, ?_⟩
            have gs := g3.own.setC q3 hn q4 (x := .lst (vs.set j x)) (c' := .lst (ss.set j v)) ⟨q4, _, upd_same, Paired.set' ((g2.trans g3).rel r1) j q6⟩
            exact h3 σ W3 as3 _ gs (gs.env (((g1.trans g2).trans g3).env e))
          · exact h3.elim
        · exact h3.elim
      · exact h3.elim)))⟩
theorem tru_rel {W : Hp} {as : List Addr} {M : ASto} {H : Hp} {s : Sl} {v : V} {b : Bool} (o : Own P w K W as M H) (r : SlRel K W as v s) (h : truA M s = some b) : TruV K v H b := by
  unfold truA at h
  split at h
  · cases r; cases h; rfl
  · cases r; cases h; rfl
  · cases r; cases h; rfl
  · cases r with
    | @tup a ob vs xs hs hn hd =>
      cases h
      exact .inr (.inl ⟨vs, o.tup (.inr ⟨_, hs⟩), by cases hd <;> rfl⟩)
  · cases r with
    | @lst a vs xs hs hd =>
      cases h
      exact .inl ⟨vs, o.seq hs, by cases hd <;> rfl⟩
  · split at h
    · rename_i hl
      cases r
      cases h
      exact ⟨sz_le hl, rfl⟩
    · cases h
  · rename_i n
    split at h
    · rename_i ss hn
      cases h
      obtain ⟨a, vs, rfl, h3, h4, h5, h6⟩ := o.lstAt r hn
      exact .inl ⟨vs, SqL.of h5, by cases h6 <;> rfl⟩
    · rename_i kvs hn
      cases h
      obtain ⟨a, ha, rfl⟩ := r
      obtain ⟨_, es, h1, h2⟩ := o.cell n a _ ha hn
      exact .inr (.inr ⟨es, h1, by cases h2 <;> rfl⟩)
    · cases h
  · cases h
theorem se_orT {ta tb : TE} {A B : AEnv → ASto → Res Sl} (ha : SE P w K mg E ta A) (hb : SE P w K mg E tb B) : SE P w K mg E (tOrT K ta tb) (aOrT A B) := ⟨fun ds M σ W as H Q e o h =>
  ha.run ds M σ W as H _ e o (MG.bind h fun s M1 hA v W1 as1 H1 g1 r1 h1 => by
    split at h1
    · rename_i ht
      exact ⟨true, tru_rel g1.own r1 ht, iteT (h1.now g1.own r1)⟩
    · rename_i ht
      exact ⟨false, tru_rel g1.own r1 ht, iteF (hb.run ds M1 σ W1 as1 H1 Q (g1.env e) g1.own h1)⟩
    · exact h1.elim)⟩
theorem st_tru {ta : TE} {A : AEnv → ASto → Res Sl} (ha : SE P w K mg E ta A) : ST P w K mg E (fun σ H Q => ta σ H fun x H' => ∃ k, TruV K x H' k ∧ Q k H') (aTru A) := ⟨fun ds M σ W as H Q e o h =>
  ha.run ds M σ W as H _ e o (MG.bind h fun s M1 hA v W1 as1 H1 g1 r1 h1 => by
    split at h1
    · rename_i ht
      exact ⟨_, tru_rel g1.own r1 ht, MG.now (a := _) h1 g1.own rfl⟩
    · exact h1.elim)⟩
theorem ss_par {i j : Nat} {ta : TA} {A : AEnv → ASto → Res (List Sl)} (ha : SA P w K mg E ta A) : SS P w K mg E (tPar i j ta) (aPar i j A) := ⟨fun ds M σ W as H D e o h =>
  ha.run ds M σ W as H _ e o (MG.bindO h fun ss M1 hA vs W1 as1 H1 g1 r1 h1 => by
    split at h1
    · obtain ⟨x, y, rfl, q1, q2⟩ := two_of r1
      exact ⟨x, y, rfl, h1 _ W1 as1 H1 (Go.refl g1.own) (((g1.env e).set q1).set q2)⟩
    · exact h1.elim)⟩
/-! ### items walked -/
theorem si_seq {t : TE} {A : AEnv → ASto → Res Sl} (ha : SE P w K mg E t A) : SI P w K mg (SlRel K) E (iSeqT K t) (iSeqA A) := ⟨fun ds M σ W as H R e o h => by
  have key : ∀ (s : Sl) (M1 : ASto), A ds M = .ok s M1 → (∃ xs, s = .d (.list xs)) ∨ (∃ xs, s = .d (.tuple xs)) := fun s M1 q => by
    unfold iSeqA at h
    rw [q] at h
    dsimp only [Res.bind] at h
    split at h
    · exact .inl ⟨_, rfl⟩
    · exact .inr ⟨_, rfl⟩
    · exact h.elim
  have leaf : ∀ (xs : List PyData) (vs : List V) (W1 : Hp) (as1 : List Addr) (i : Nat) (x : V) (H H' : Hp) (s : Sl), DqAll K W1 vs xs → YAt vs i H x H' → (xs.map Sl.d)[i]? = some s → ∀ W2 bs M2, Own P w K W2 (as1 ++ bs) M2 H → Same W1 W2 → ∃ W3, Go P w K W2 (as1 ++ bs) H W3 (as1 ++ bs) M2 H' ∧ SlRel K W3 (as1 ++ bs) x s := by
    intro xs vs W1 as1 i x H H' s hd y hs W2 bs M2 o2 sm
    obtain ⟨rfl, hy⟩ := y
    rw [List.getElem?_map] at hs
    obtain ⟨z, hz, rfl⟩ := Option.map_eq_some_iff.mp hs
    obtain ⟨v, h1, h2⟩ := DqAll.at hd hz
    rw [hy] at h1
    cases h1
    exact ⟨W2, Go.refl o2, Dq.up sm h2⟩
  cases q : A ds M with
  | ok s M1 =>
    rcases key s M1 q with ⟨xs, rfl⟩ | ⟨xs, rfl⟩
    · refine .inl (ha.run ds M σ W as H _ e o ?_)
      unfold iSeqA at h
      rw [q] at h ⊢
      intro v W1 as1 H1 g1 r1
      cases r1 with
      | @lst a vs _ hs hd =>
        refine ⟨a, rfl, ⟨vs, g1.own.seq hs⟩, h _ W1 as1 H1 g1 ⟨_, _, by rw [List.length_map, ← DqAll.len hd]; exact walk_list (xs := vs), fun W2 as2 M2 H2 o2 sm => SqL.of (o2.sub _ _ (sm _ _ hs)), fun i x H H' s y hs => leaf xs vs W1 as1 i x H H' s hd y hs⟩⟩
    · refine .inr (ha.run ds M σ W as H _ e o ?_)
      unfold iSeqA at h
      rw [q] at h ⊢
      intro v W1 as1 H1 g1 r1
      cases r1 with
      | @tup a ob vs _ hs hn hd =>
        refine ⟨a, rfl, ⟨vs, g1.own.tup (.inr ⟨_, hs⟩)⟩, h _ W1 as1 H1 g1 ⟨_, _, by rw [List.length_map, ← DqAll.len hd]; exact walk_tup (xs := vs), fun W2 as2 M2 H2 o2 sm => o2.tup (.inr ⟨_, sm _ _ hs⟩), fun i x H H' s y hs => leaf xs vs W1 as1 i x H H' s hd y hs⟩⟩
  | ex a M1 =>
    refine .inl (ha.run ds M σ W as H _ e o ?_)
    unfold iSeqA at h
    rw [q] at h ⊢
    exact h
  | no =>
    unfold iSeqA at h
    rw [q] at h
    exact h.elim⟩
theorem rangeL_len (lo : Int) : ∀ n, (rangeL lo n).length = n
  | 0 => rfl
  | n + 1 => by unfold rangeL; simp [rangeL_len lo n]
theorem rangeL_at (lo : Int) : ∀ (n i : Nat) (s : Sl), (rangeL lo n)[i]? = some s → s = .d (.int (lo + i))
  | 0, i, s, h => by simp [rangeL] at h
  | n + 1, i, s, h => by
    unfold rangeL at h
    by_cases hi : i < n
    · rw [List.getElem?_append_left (by rw [rangeL_len]; exact hi)] at h
      exact rangeL_at lo n i s h
    · rw [List.getElem?_append_right (by rw [rangeL_len]; omega), rangeL_len] at h
      have : i - n = 0 := by
        have := (List.getElem?_eq_some_iff.mp h).1
        simp at this
        omega
      rw [this] at h
      simp at h
      rw [← h, show i = n by omega]
theorem it_range {lo : Int} {n : Nat} {W : Hp} {as : List Addr} : ItOk P w K (SlRel K) (Itr lo n) (rangeL lo n) W as :=
  ⟨_, _, by rw [rangeL_len]; exact walk_range, fun _ _ _ _ _ _ => True.intro, fun i x H H' s y hs W1 bs M1 o1 sm => by
    obtain ⟨rfl, rfl⟩ := y
    have := rangeL_at lo n i s hs
    subst this
    exact ⟨W1, Go.refl o1, .int _⟩⟩
theorem si_rng1 {t : TA} {A : AEnv → ASto → Res (List Sl)} (ha : SA P w K mg E t A) : SI P w K mg (SlRel K) E (iRng1 t) (iRng1A A) := ⟨fun ds M σ W as H R e o h =>
  ha.run ds M σ W as H _ e o (MG.bind h fun ss M1 hA vs W1 as1 H1 g1 r1 h1 => by
    split at h1
    · split at h1
      · rename_i j hj
        obtain ⟨v, rfl, r⟩ := one_of r1
        cases r
        exact ⟨j, rfl, by omega, by omega, h1 _ W1 as1 H1 (Go.refl g1.own) it_range⟩
      · exact h1.elim
    · exact h1.elim)⟩
theorem si_rng2 {t : TA} {A : AEnv → ASto → Res (List Sl)} (ha : SA P w K mg E t A) : SI P w K mg (SlRel K) E (iRng2 t) (iRng2A A) := ⟨fun ds M σ W as H R e o h =>
  ha.run ds M σ W as H _ e o (MG.bind h fun ss M1 hA vs W1 as1 H1 g1 r1 h1 => by
    split at h1
    · split at h1
      · rename_i i j hj
        obtain ⟨v, u, rfl, r, r'⟩ := two_of r1
        cases r
        cases r'
        exact ⟨i, j, rfl, ⟨by omega, by omega, by omega, by omega⟩, h1 _ W1 as1 H1 (Go.refl g1.own) it_range⟩
      · exact h1.elim
    · exact h1.elim)⟩
/-- a new pair at each turn -/
theorem it_pair {J : It} {n : Nat} {G : Hp → Prop} {xs ys : Nat → Option V} {items : List Sl} {W : Hp} {as : List Addr} (wk : Walk J n G (YPair xs ys)) (hn : items.length = n) (hG : ∀ W' as' M' H', Own P w K W' as' M' H' → Same W W' → G H')
    (hi : ∀ i s x y, items[i]? = some s → xs i = some x → ys i = some y → ∃ a b, s = .d (.tuple [a, b]) ∧ Dq K W x a ∧ Dq K W y b) : ItOk P w K (SlW K) J items W as := by
  subst hn
  refine ⟨_, _, wk, hG, fun i v H H' s y hs W1 bs M1 o1 sm => ?_⟩
  obtain ⟨T, x, z, rfl, hT, rfl, e1, e2⟩ := y
  obtain ⟨a, b, rfl, q1, q2⟩ := hi i s x z hs e1 e2
  exact ⟨_, o1.newW hT _, .inr ⟨T, _, _, rfl, rfl, .inl upd_same, .cons (Dq.up (sm.trans (o1.same_new hT _)) q1) (.cons (Dq.up (sm.trans (o1.same_new hT _)) q2) .nil)⟩⟩
theorem enumL_len : ∀ (k : Nat) (xs : List PyData), (enumL k xs).length = xs.length
  | _, [] => rfl
  | k, x :: xs => by unfold enumL; simp [enumL_len (k + 1) xs]
theorem enumL_at : ∀ (k : Nat) (xs : List PyData) (i : Nat) (s : Sl), (enumL k xs)[i]? = some s → ∃ x, xs[i]? = some x ∧ s = .d (.tuple [.int ((k + i : Nat) : Int), x])
  | _, [], i, s, h => by simp [enumL] at h
  | k, x :: xs, 0, s, h => by
    simp [enumL] at h
    exact ⟨x, rfl, h.symm⟩
  | k, x :: xs, i + 1, s, h => by
    obtain ⟨y, h1, h2⟩ := enumL_at (k + 1) xs i s (by simpa [enumL] using h)
    exact ⟨y, by simpa using h1, by rw [h2, show k + 1 + i = k + (i + 1) by omega]⟩
theorem si_enum {t : TA} {A : AEnv → ASto → Res (List Sl)} (ha : SA P w K mg E t A) : SI P w K mg (SlW K) E (iEnum K t) (iEnumA A) := ⟨fun ds M σ W as H R e o h =>
  ha.run ds M σ W as H _ e o (MG.bind h fun ss M1 hA vs W1 as1 H1 g1 r1 h1 => by
    split at h1
    · rename_i xs
      obtain ⟨v, rfl, r⟩ := one_of r1
      cases r with
      | @lst a us _ hs hd =>
        refine ⟨a, us, rfl, g1.own.seq hs, h1 _ W1 as1 H1 (Go.refl g1.own) (it_pair walk_enum ((enumL_len 0 xs).trans (DqAll.len hd).symm) (fun W2 as2 M2 H2 o2 sm => SqL.of (o2.sub _ _ (sm _ _ hs))) fun i s x y hs2 e1 e2 => ?_)⟩
        obtain ⟨z, h3, rfl⟩ := enumL_at 0 xs i s hs2
        obtain ⟨v, h4, h5⟩ := DqAll.at hd h3
        rw [e2] at h4
        cases h4
        cases e1
        exact ⟨_, _, rfl, by rw [Nat.zero_add]; exact .int _, h5⟩
    · exact h1.elim)⟩
theorem zipL_len : ∀ (xs ys : List PyData), (zipL xs ys).length = min xs.length ys.length
  | [], ys => by simp [zipL]
  | x :: xs, [] => by simp [zipL]
  | x :: xs, y :: ys => by simp [zipL, zipL_len xs ys]
theorem zipL_at : ∀ (xs ys : List PyData) (i : Nat) (s : Sl), (zipL xs ys)[i]? = some s → ∃ x y, xs[i]? = some x ∧ ys[i]? = some y ∧ s = .d (.tuple [x, y])
  | [], ys, i, s, h => by simp [zipL] at h
  | x :: xs, [], i, s, h => by simp [zipL] at h
  | x :: xs, y :: ys, 0, s, h => by
    simp [zipL] at h
    exact ⟨x, y, rfl, rfl, h.symm⟩
  | x :: xs, y :: ys, i + 1, s, h => by
    obtain ⟨z, u, h1, h2, h3⟩ := zipL_at xs ys i s (by simpa [zipL] using h)
    exact ⟨z, u, by simpa using h1, by simpa using h2, h3⟩
theorem si_zip {t : TA} {A : AEnv → ASto → Res (List Sl)} (ha : SA P w K mg E t A) : SI P w K mg (SlW K) E (iZip K t) (iZipA A) := ⟨fun ds M σ W as H R e o h =>
  ha.run ds M σ W as H _ e o (MG.bind h fun ss M1 hA vs W1 as1 H1 g1 r1 h1 => by
    split at h1
    · rename_i xs ys
      obtain ⟨v, u, rfl, r, r'⟩ := two_of r1
      cases r with
      | @lst a us _ hs hd =>
        cases r' with
        | @lst b ws _ ht hf =>
          refine ⟨a, b, us, ws, rfl, g1.own.seq hs, g1.own.seq ht, h1 _ W1 as1 H1 (Go.refl g1.own) (it_pair (walk_zip rfl) (by rw [zipL_len, DqAll.len hd, DqAll.len hf]) (fun W2 as2 M2 H2 o2 sm => ⟨SqL.of (o2.sub _ _ (sm _ _ hs)), SqL.of (o2.sub _ _ (sm _ _ ht))⟩) fun i s x y hs2 e1 e2 => ?_)⟩
          obtain ⟨z1, z2, h3, h4, rfl⟩ := zipL_at xs ys i s hs2
          obtain ⟨v1, h5, h6⟩ := DqAll.at hd h3
          obtain ⟨v2, h7, h8⟩ := DqAll.at hf h4
          rw [e1] at h5
          cases h5
          rw [e2] at h7
          cases h7
          exact ⟨_, _, rfl, h6, h8⟩
    · exact h1.elim)⟩
end
end Ab
end
section
set_option Elab.async false
set_option linter.all false
set_option maxRecDepth 100000
set_option maxHeartbeats 4000000
namespace Ab
open PySem PySem.Spec PyProof.Rows L2
section
variable {P : Program} {w : World} {K : PySem.W.Frag} {mg : Str → Option Value} {E : XK}
/-! ### slices -/
structure SO (P : Program) (w : World) (K : PySem.W.Frag) (mg : Str → Option Value) (E : XK) (t : TO) (f : AEnv → ASto → Res (Option Int)) : Prop where
  run : ∀ (ds : AEnv) (M : ASto) (σ : L2.St) (W : Hp) (as : List Addr) (H : Hp) (Q : Option Int → Hp → Prop), EnvR K W as σ ds → Own P w K W as M H → MG P w K mg (fun _ _ a b => a = b) Q E W as H (f ds M) → t σ H Q
theorem so_none : SO P w K mg E tNoPart aNoPart := ⟨fun ds M σ W as H Q e o h => MG.now (a := (none : Option Int)) h o rfl⟩
theorem so_some {t : TE} {A : AEnv → ASto → Res Sl} (ha : SE P w K mg E t A) : SO P w K mg E (tPart t) (aPart A) := ⟨fun ds M σ W as H Q e o h =>
  ha.run ds M σ W as H _ e o (MG.bind h fun s M1 hA v W1 as1 H1 g1 r1 h1 => by
    split at h1
    · cases r1
      exact ⟨_, rfl, MG.now (a := some _) h1 g1.own rfl⟩
    · exact h1.elim)⟩
abbrev rSlQ (K : PySem.W.Frag) : V → Option Int → Option Int → Hp → VK → Prop := fun x lo hi H Q => rSlL K x lo hi H Q ∨ rSlTN K x lo hi H Q
theorem sl_seq {X : Cx} : SlR X (rSlQ X.K) := SlR.or sl_list sl_tupN
theorem cut_rel {W : Hp} {vs : List V} {xs : List PyData} (h : DqAll K W vs xs) (lo hi : Option Int) : DqAll K W (cutV vs lo hi) (cutD xs lo hi) := by
  unfold cutV cutD
  rw [DqAll.len h]
  exact DqAll.take _ (DqAll.drop _ h)
theorem se_slice {te : TE} {tl th : TO} {A : AEnv → ASto → Res Sl} {B C : AEnv → ASto → Res (Option Int)} (ha : SE P w K mg E te A) (hb : SO P w K mg E tl B) (hc : SO P w K mg E th C) : SE P w K mg E (tSl (rSlQ K) te tl th) (aSl A B C) := ⟨fun ds M σ W as H Q e o h =>
  ha.run ds M σ W as H _ e o (MG.bind h fun s M1 hA v W1 as1 H1 g1 r1 h1 => hb.run ds M1 σ W1 as1 H1 _ (g1.env e) g1.own (MG.bind h1 fun lo M2 hB l W2 as2 H2 g2 r2 h2 =>
    hc.run ds M2 σ W2 as2 H2 _ ((g1.trans g2).env e) g2.own (MG.bind h2 fun hi M3 hC u W3 as3 H3 g3 r3 h3 => by
      subst r2 r3
      have rv := (g2.trans g3).rel r1
      split at h3
      · rename_i xs hx
        obtain ⟨a, vs, rfl, q1, q2⟩ := vwL_rel g3.own rv hx
        exact .inl ⟨a, vs, rfl, SqL.of q1, fun p hp => h3.new g3.own hp (.lst upd_same (DqAll.up (g3.own.same_new hp _) (cut_rel q2 _ _)))⟩
      · split at h3
        · rename_i xs
          split at h3
          · exact h3.elim
          · rename_i hn
            cases rv with
            | @tup a ob vs _ hs nn hd =>
              refine .inr ⟨a, vs, rfl, g3.own.tup (.inr ⟨_, hs⟩), by rw [DqAll.len hd]; exact hn, fun p oo hp ho => h3.new g3.own hp (.tup upd_same ho (DqAll.up (g3.own.same_new hp _) (cut_rel hd _ _)))⟩
        · exact h3.elim)))⟩
/-! ### a def -/
theorem closeS_rel {W : Hp} {as bs : List Addr} {v : V} {s : Sl} (r : SlRel K W (as ++ bs) v s) (h : closedS as.length s = true) : SlRel K W as v s := by
  cases s with
  | d x => exact r
  | r k =>
    obtain ⟨a, h1, h2⟩ := r
    refine ⟨a, ?_, h2⟩
    rw [List.getElem?_append_left (of_decide_eq_true h)] at h1
    exact h1
  | s ns => exact r
theorem closeC_ok {W : Hp} {as bs : List Addr} {H : Hp} {a : Addr} {c : Cell} (q : CellOk P w K W (as ++ bs) H a c) (h : closedC as.length c = true) : CellOk P w K W as H a c := by
  cases c with
  | lst xs =>
    obtain ⟨q0, vs, q1, q2⟩ := q
    refine ⟨q0, vs, q1, ?_⟩
    have h' : xs.all (closedS as.length) = true := h
    clear q1
    induction q2 with
    | nil => exact .nil
    | cons a b ih =>
      rw [List.all_cons, Bool.and_eq_true] at h'
      exact .cons (closeS_rel a h'.1) (ih h'.2 h'.2)
  | dct kvs =>
    obtain ⟨q0, vs, q1, q2⟩ := q
    refine ⟨q0, vs, q1, ?_⟩
    have h' : kvs.all (fun e => closedS as.length e.2) = true := h
    clear q1
    induction q2 with
    | nil => exact .nil
    | cons a b ih =>
      rw [List.all_cons, Bool.and_eq_true] at h'
      exact .cons ⟨a.1, closeS_rel a.2 h'.1⟩ (ih h'.2 h'.2)
  | set ks => exact q
  | gone => exact q
theorem Go.close {W W' : Hp} {as as' : List Addr} {M' : ASto} {H H' : Hp} (g : Go P w K W as H W' as' M' H') (h : (M'.take as.length).all (closedC as.length) = true) : Go P w K W as H W' as (M'.take as.length) H' := by
  obtain ⟨bs, rfl, hb⟩ := g.pre
  have hl : M'.length = as.length + bs.length := by rw [← g.own.len, List.length_append]
  refine ⟨g.same, ⟨[], by simp, by simp⟩, ⟨g.own.sub, by rw [List.length_take, hl]; omega, (List.nodup_append.mp g.own.nd).1, fun n a c h1 h2 => ?_⟩, g.keep, g.new⟩
  have hn := (List.getElem?_eq_some_iff.mp h1).1
  rw [List.getElem?_take, if_pos hn] at h2
  refine closeC_ok (g.own.cell n a c (by rw [List.getElem?_append_left hn]; exact h1) h2) ?_
  exact List.all_eq_true.mp h c (List.mem_of_getElem? (i := n) (by rw [List.getElem?_take, if_pos hn]; exact h2))
theorem MG.close {Q : VK} {W : Hp} {as : List Addr} {H : Hp} {r : Res Sl} (h : MG P w K mg (rSl K) Q E W as H (closeR as.length r)) : MG P w K mg (rSl K) Q E W as H r := by
  cases r with
  | ok s M =>
    dsimp only [closeR] at h
    split at h
    · rename_i hc
      rw [Bool.and_eq_true] at hc
      intro v W' as' H' g r
      obtain ⟨bs, rfl, hb⟩ := id g.pre
      exact h v W' as H' (g.close hc.2) (closeS_rel r hc.1)
    · exact h.elim
  | ex e M =>
    dsimp only [closeR] at h
    split at h
    · rename_i hc
      intro cls dd W' as' H' g r
      exact h cls dd W' as H' (g.close hc) r
    · exact h.elim
  | no => exact h
/-- a def of so many slots and parameters -/
def runD (n np : Nat) (f : AEnv → ASto → Out) (ss : List Sl) (M : ASto) : Res Sl := if ss.length = np then closeR M.length (fnR (f (startA n ss) M)) else .no
def runO (n np : Nat) (f : AEnv → ASto → Out) (ss : List Sl) (M : ASto) : Res Sl := if ss.length = np then fnR (f (startA n ss) M) else .no
theorem start_rel {W : Hp} {as : List Addr} {vs : List V} {ss : List Sl} {N : List Str} (r : Paired (SlRel K W as) vs ss) : EnvR K W as (L2.start N vs) (startA N.length ss) := by
  have hl := Paired.len r
  refine ⟨by unfold L2.start startA; simp [hl], fun i s h => ?_⟩
  unfold startA at h
  by_cases hi : i < ss.length
  · rw [List.getElem?_append_left (by simpa using hi), List.getElem?_map] at h
    obtain ⟨u, h1, h2⟩ := Option.map_eq_some_iff.mp h
    cases h2
    obtain ⟨v, h3, h4⟩ := Paired.at r h1
    refine ⟨v, ?_, h4⟩
    unfold L2.start
    rw [List.getElem?_append_left (by rw [List.length_map, hl]; exact hi), List.getElem?_map, h3]
    rfl
  · rw [List.getElem?_append_right (by simpa using hi), List.getElem?_replicate] at h
    split at h <;> cases h
theorem body_ok {W : Hp} {as : List Addr} {M : ASto} {H : Hp} {vs : List V} {ss : List Sl} {N : List Str} {Q : VK} {t : TS} {f : AEnv → ASto → Out} (hs : SS P w K mg E t f) (o : Own P w K W as M H) (r : Paired (SlRel K W as) vs ss) (h : MG P w K mg (rSl K) Q E W as H (fnR (f (startA N.length ss) M))) :
    t { nx := fun _ H' => Q .non H', rt := Q } (L2.start N vs) H := by
  refine hs.run _ M _ W as H _ (start_rel r) o ?_
  cases q : f (startA N.length ss) M with
  | rt s M1 => rw [q] at h; exact h
  | nx ds M1 => rw [q] at h; exact fun σ' W' as' H' g e => h .non W' as' H' g .non
  | ex e M1 => rw [q] at h; exact h
  | bk ds M1 => rw [q] at h; exact h.elim
  | ct ds M1 => rw [q] at h; exact h.elim
  | no => rw [q] at h; exact h.elim
section
variable {base : Heap} {x qual : Str} {st : Stmt} {fa : Addr} {fd : FuncData} {N ps : List Str} {k : Nat}
/-- a def that raises nothing -/
theorem fn_d (F : Fun K x qual st fa fd) (S : FnScope N ps (defScope st)) (f : AEnv → ASto → Out)
    (hb : ∀ (cdv : Value) (A : Around) (outer : List Env) (s : Shared) (H : Hp) (E : XK), Room k (A.deeper (envOfC qual (defScope st) s.heap.objs.size fa cdv)) →
      ∃ t, PSs (cxOf CX0 P w K mg base N qual (defScope st) fa cdv A outer s H E).nox (defBody st) t ∧ SS P w K mg E t f) : FnOk P w K mg base CX0 (k + 1) fa fd ps (spF P w K mg (runD N.length ps.length f)) := by
  refine F.ok S (fun vs H Q E h => ?_) fun cdv A outer s H vs Q E hr h => ?_
  · obtain ⟨W, as, M, ss, o, r, h⟩ := h
    unfold runD at h
    split at h
    · rename_i hl
      rw [Paired.len r]; exact hl
    · exact h.elim
  · obtain ⟨W, as, M, ss, o, r, h⟩ := h
    obtain ⟨t, h1, h2⟩ := hb cdv A outer s H E hr
    refine ⟨t, h1, body_ok h2 o r ?_⟩
    unfold runD at h
    split at h
    · rw [← o.len] at h
      exact h.close
    · exact h.elim
theorem fn_o (F : Fun K x qual st fa fd) (S : FnScope N ps (defScope st)) (f : AEnv → ASto → Out)
    (hb : ∀ (cdv : Value) (A : Around) (outer : List Env) (s : Shared) (H : Hp) (E : XK), Room k (A.deeper (envOfC qual (defScope st) s.heap.objs.size fa cdv)) →
      ∃ t, PSs (cxOf CX0 P w K mg base N qual (defScope st) fa cdv A outer s H E).nox (defBody st) t ∧ SS P w K mg E t f) : FnOk P w K mg base CX0 (k + 1) fa fd ps (spF P w K mg (runO N.length ps.length f)) := by
  refine F.ok S (fun vs H Q E h => ?_) fun cdv A outer s H vs Q E hr h => ?_
  · obtain ⟨W, as, M, ss, o, r, h⟩ := h
    unfold runO at h
    split at h
    · rename_i hl
      rw [Paired.len r]; exact hl
    · exact h.elim
  · obtain ⟨W, as, M, ss, o, r, h⟩ := h
    obtain ⟨t, h1, h2⟩ := hb cdv A outer s H E hr
    refine ⟨t, h1, body_ok h2 o r ?_⟩
    unfold runO at h
    split at h
    · exact h
    · exact h.elim
/-- a def that may raise -/
theorem fn_x (F : Fun K x qual st fa fd) (S : FnScope N ps (defScope st)) (f : AEnv → ASto → Out)
    (hb : ∀ (cdv : Value) (A : Around) (outer : List Env) (s : Shared) (H : Hp) (E : XK), Room k (A.deeper (envOfC qual (defScope st) s.heap.objs.size fa cdv)) →
      ∃ t, PSs (cxOf (L2.CX P w) P w K mg base N qual (defScope st) fa cdv A outer s H E) (defBody st) t ∧ SS P w K mg E t f) : FnOk P w K mg base (L2.CX P w) (k + 1) fa fd ps (spF P w K mg (runD N.length ps.length f)) := by
  refine F.okX S (fun vs H Q E h => ?_) fun cdv A outer s H vs Q E hr h => ?_
  · obtain ⟨W, as, M, ss, o, r, h⟩ := h
    unfold runD at h
    split at h
    · rename_i hl
      rw [Paired.len r]; exact hl
    · exact h.elim
  · obtain ⟨W, as, M, ss, o, r, h⟩ := h
    obtain ⟨t, h1, h2⟩ := hb cdv A outer s H E hr
    refine ⟨t, h1, body_ok h2 o r ?_⟩
    unfold runD at h
    split at h
    · rw [← o.len] at h
      exact h.close
    · exact h.elim
end
/-! ### a cell that will not change any more -/
theorem frz_go {W : Hp} {as : List Addr} {M : ASto} {H : Hp} {v : V} {n : Nat} {x : PyData} (o : Own P w K W as M H) (r : SlRel K W as v (.r n)) (h : frzD M (.r n) = some x) : ∃ W', Go P w K W as H W' as (M.set n .gone) H ∧ Dq K W' v x := by
  dsimp only [frzD] at h
  split at h
  · rename_i ss hn
    obtain ⟨xs, h1, rfl⟩ := Option.map_eq_some_iff.mp h
    obtain ⟨a, vs, rfl, q3, q4, q5, q6⟩ := o.lstAt r hn
    have hd := allD_rel q6 h1
    have np : ∀ {b : Addr} {u : HO}, W b = some u → b ≠ a := fun {b u} e z => by rw [z, q4] at e; cases e
    have sm : Same W (upd W a (.lst vs)) := fun b u e => by rw [upd_ne (np e)]; exact e
    refine ⟨upd W a (.lst vs), ⟨sm, ⟨[], by simp, by simp⟩, ⟨fun b u e => ?_, by simp [o.len], o.nd, fun m b c h1 h2 => ?_⟩, fun b u e _ => e, fun b e => ?_⟩, .lst upd_same (DqAll.up sm hd)⟩
    · by_cases hb : b = a
      · rw [hb, upd_same] at e
        rw [hb, ← e]; exact q5
      · rw [upd_ne hb] at e
        exact o.sub b u e
    · rw [List.getElem?_set] at h2
      by_cases hm : n = m
      · subst hm
        rw [if_pos rfl, if_pos (List.getElem?_eq_some_iff.mp hn).1] at h2
        cases h2
        rw [q3] at h1
        cases h1
        show upd W a (.lst vs) a ≠ none
        rw [upd_same]; simp
      · rw [if_neg hm] at h2
        have hb : b ≠ a := fun z => by
          subst z
          exact hm ((List.getElem?_inj (List.getElem?_eq_some_iff.mp q3).1 o.nd).mp (q3.trans h1.symm))
        have := (o.cell m b c h1 h2).up (bs := []) sm (upd_ne hb) rfl
        rwa [List.append_nil] at this
    · by_cases hb : b = a
      · exact .inr (.inl (by rw [hb]; exact List.mem_of_getElem? q3))
      · rw [upd_ne hb] at e
        exact .inl e
  · cases h
theorem ss_retF {te : TE} {A : AEnv → ASto → Res Sl} (ha : SE P w K mg E te A) : SS P w K mg E (tRet te) (aRetF A) := ⟨fun ds M σ W as H D e o h =>
  ha.run ds M σ W as H _ e o (MG.bindO h fun s M1 hA v W1 as1 H1 g1 r1 h1 => by
    split at h1
    · exact h1 v W1 as1 H1 (Go.refl g1.own) r1
    · split at h1
      · rename_i x hx
        obtain ⟨W2, g2, q⟩ := frz_go g1.own r1 hx
        exact h1 v W2 as1 H1 g2 q
      · exact h1.elim
    · exact h1.elim)⟩
theorem ss_frz {ts : TS} {f : AEnv → ASto → Out} (i : Nat) (hs : SS P w K mg E ts f) : SS P w K mg E ts (aFrz i f) := ⟨fun ds M σ W as H D e o h => by
  unfold aFrz at h
  split at h
  · rename_i n hi
    split at h
    · rename_i x hx
      obtain ⟨v, h1, h2⟩ := e.2 i _ hi
      obtain ⟨W2, g2, q⟩ := frz_go o h2 hx
      refine hs.run _ _ σ W2 as H D ?_ g2.own (MO.go h g2)
      have e2 := (g2.env e).set (i := i) (v := v) (s := .d x) q
      have : σ.set i (some v) = σ := by
        refine List.ext_getElem? fun j => ?_
        rw [List.getElem?_set]
        by_cases hj : i = j
        · subst hj
          rw [if_pos rfl, if_pos (List.getElem?_eq_some_iff.mp h1).1, h1]
        · rw [if_neg hj]
      rwa [this] at e2
    · exact h.elim
  · exact h.elim⟩
end
end Ab
end
section
set_option Elab.async false
set_option linter.all false
set_option maxRecDepth 100000
set_option maxHeartbeats 4000000
namespace Ab
open PySem PySem.Spec PyProof.Rows L2
abbrev rAddQ (K : PySem.W.Frag) : R2 := rOr (rI0 fun i j => V.int (i + j)) (rOr rCat (rCatTN K))
def aAddQ : Sl → Sl → ASto → Res Sl := fun s u M => orF (aI2 (fun i j => .int (i + j)) s u M) (orF (aCat s u M) (aCatT s u M))
theorem opAddQ {X : Cx} : OpR X (binaryOp .Add) (rAddQ X.K) := OpR.or op_add (OpR.or op_cat op_catTN)
def aSub : Sl → Sl → ASto → Res Sl := aI2 fun i j => .int (i - j)
def aMul : Sl → Sl → ASto → Res Sl := aI2C (fun i j => decide ((-(2 ^ 64) < i ∧ i < 2 ^ 64) ∨ (-(2 ^ 64) < j ∧ j < 2 ^ 64))) fun i j => .int (i * j)
def aMod : Sl → Sl → ASto → Res Sl := aI2C (fun _ j => decide (j ≠ 0)) fun i j => .int (i.fmod j)
def aDiv : Sl → Sl → ASto → Res Sl := aI2C (fun _ j => decide (j ≠ 0 ∧ j.natAbs < 1073741824)) fun i j => .int (i.fdiv j)
def aPow : Sl → Sl → ASto → Res Sl := aI2C (fun i j => decide (0 ≤ j ∧ j ≤ 1000000 ∧ i.natAbs < 2 ^ 64)) fun i j => .int (i ^ j.toNat)
def aLt : Sl → Sl → ASto → Res Sl := aI2 fun i j => .bool (decide (i < j))
def aGt : Sl → Sl → ASto → Res Sl := aI2 fun i j => .bool (decide (j < i))
def aLe : Sl → Sl → ASto → Res Sl := aI2 fun i j => .bool (decide (i ≤ j))
def aGe : Sl → Sl → ASto → Res Sl := aI2 fun i j => .bool (decide (j ≤ i))
abbrev rInQ (K : PySem.W.Frag) (neg : Bool) : R2 := rOr (rIn K neg) (if neg then rNotInD K else rInD K)
def aInQ (neg : Bool) : Sl → Sl → ASto → Res Sl := fun s u M => orF (aInF neg s u M) (aInD neg s u M)
theorem opInQ {X : Cx} (hu : X.A.units + 65 < cLine) : OpR X (compareOp .In) (rInQ X.K false) := OpR.or op_in_seq (op_inD hu)
theorem opNotInQ {X : Cx} (hu : X.A.units + 65 < cLine) : OpR X (compareOp .NotIn) (rInQ X.K true) := OpR.or op_notIn_seq (op_notInD hu)
def noEx {α : Type} : Res α → Res α
  | .ex _ _ => .no
  | r => r
/-- a call of a def that raises nothing -/
def aCall0 (F : List Sl → ASto → Res Sl) (A : AEnv → ASto → Res (List Sl)) : AEnv → ASto → Res Sl := fun ds M => (A ds M).bind fun ss M1 => noEx (F ss M1)
def aAndV (A B : AEnv → ASto → Res Sl) : AEnv → ASto → Res Sl := fun ds M => (A ds M).bind fun s M1 => match s with
  | .d (.bool true) => B ds M1
  | .d (.bool false) => .ok (.d (.bool false)) M1
  | _ => .no
def aOrV (A B : AEnv → ASto → Res Sl) : AEnv → ASto → Res Sl := fun ds M => (A ds M).bind fun s M1 => match s with
  | .d (.bool true) => .ok (.d (.bool true)) M1
  | .d (.bool false) => B ds M1
  | _ => .no
def aNotV (A : AEnv → ASto → Res Sl) : AEnv → ASto → Res Sl := fun ds M => (A ds M).bind fun s M1 => match s with
  | .d (.bool b) => .ok (.d (.bool (!b))) M1
  | _ => .no
def aNeg (A : AEnv → ASto → Res Sl) : AEnv → ASto → Res Sl := fun ds M => (A ds M).bind fun s M1 => match s with
  | .d (.int i) => .ok (.d (.int (-i))) M1
  | _ => .no
section
variable {P : Program} {w : World} {K : PySem.W.Frag} {mg : Str → Option Value} {E : XK}
theorem srAddQ : SR P w K mg (rAddQ K) aAddQ := SR.or (sr_I0 fun _ _ _ => .int _) (SR.or sr_cat sr_catT)
theorem srSub : SR P w K mg (rI0 fun i j => V.int (i - j)) aSub := sr_I0 fun _ _ _ => .int _
theorem srMul : SR P w K mg (rI CMul fun i j => V.int (i * j)) aMul := sr_I (fun i j h => by
  have := of_decide_eq_true h
  exact this) fun _ _ _ => .int _
theorem srMod : SR P w K mg (rI (fun x j => j ≠ 0) fun i j => V.int (i.fmod j)) aMod := sr_I (fun i j h => of_decide_eq_true h) fun _ _ _ => .int _
theorem srDiv : SR P w K mg (rI CDivN fun i j => V.int (i.fdiv j)) aDiv := sr_I (fun i j h => by
  unfold CDivN
  exact of_decide_eq_true h) fun _ _ _ => .int _
theorem srPow : SR P w K mg (rI CPow fun i j => V.int (i ^ j.toNat)) aPow := sr_I (fun i j h => by
  unfold CPow
  exact of_decide_eq_true h) fun _ _ _ => .int _
theorem srLt : SR P w K mg (rI0 fun i j => V.bl (decide (i < j))) aLt := sr_I0 fun _ _ _ => .bl _
theorem srGt : SR P w K mg (rI0 fun i j => V.bl (decide (j < i))) aGt := sr_I0 fun _ _ _ => .bl _
theorem srLe : SR P w K mg (rI0 fun i j => V.bl (decide (i ≤ j))) aLe := sr_I0 fun _ _ _ => .bl _
theorem srGe : SR P w K mg (rI0 fun i j => V.bl (decide (j ≤ i))) aGe := sr_I0 fun _ _ _ => .bl _
theorem sr_inD : SR P w K mg (rInD K) (aInD false) := by
  intro M W as H x y s u Q E o rx ry m
  unfold aInD at m
  split at m
  · split at m
    · rename_i ys hy
      split at m
      · rename_i hf
        rw [Bool.and_eq_true] at hf
        obtain ⟨a, vs, rfl, h1, h2⟩ := vwL_rel o ry hy
        refine ⟨_, ys, (o.dq rx).dp, .lst (SqL.of h1) (DqAll.dp (DqAll.up o.sub h2)), hf.1, hf.2, m.now o (.bl _)⟩
      · exact m.elim
    · exact m.elim
  · exact m.elim
theorem sr_notInD : SR P w K mg (rNotInD K) (aInD true) := by
  intro M W as H x y s u Q E o rx ry m
  unfold aInD at m
  split at m
  · split at m
    · rename_i ys hy
      split at m
      · rename_i hf
        rw [Bool.and_eq_true] at hf
        obtain ⟨a, vs, rfl, h1, h2⟩ := vwL_rel o ry hy
        refine ⟨_, ys, (o.dq rx).dp, .lst (SqL.of h1) (DqAll.dp (DqAll.up o.sub h2)), hf.1, hf.2, m.now o (.bl _)⟩
      · exact m.elim
    · exact m.elim
  · exact m.elim
theorem srInQ (neg : Bool) : SR P w K mg (rInQ K neg) (aInQ neg) := by
  cases neg with
  | false => exact SR.or (sr_inF false) sr_inD
  | true => exact SR.or (sr_inF true) sr_notInD
theorem se_call0 {F : List Sl → ASto → Res Sl} {ta : TA} {A : AEnv → ASto → Res (List Sl)} (ha : SA P w K mg E ta A) : SE P w K mg E (tCall (spF P w K mg F) [] E0 ta) (aCall0 F A) := ⟨fun ds M σ W as H Q e o h =>
  ha.run ds M σ W as H _ e o (MG.bind h fun ss M1 hA vs W1 as1 H1 g1 r1 h1 => ⟨W1, as1, M1, ss, g1.own, by rw [List.append_nil]; exact r1, by
    cases q : F ss M1 with
    | ok s M2 => rw [q] at h1; exact h1
    | ex s M2 => rw [q] at h1; exact h1.elim
    | no => rw [q] at h1; exact h1.elim⟩)⟩
theorem se_andV {ta tb : TE} {A B : AEnv → ASto → Res Sl} (ha : SE P w K mg E ta A) (hb : SE P w K mg E tb B) : SE P w K mg E (tAndV ta tb) (aAndV A B) := ⟨fun ds M σ W as H Q e o h =>
  ha.run ds M σ W as H _ e o (MG.bind h fun s M1 hA v W1 as1 H1 g1 r1 h1 => by
    split at h1
    · cases r1
      exact ⟨true, rfl, iteT (hb.run ds M1 σ W1 as1 H1 Q (g1.env e) g1.own h1)⟩
    · cases r1
      exact ⟨false, rfl, iteF (h1.now g1.own (.bl _))⟩
    · exact h1.elim)⟩
theorem se_orV {ta tb : TE} {A B : AEnv → ASto → Res Sl} (ha : SE P w K mg E ta A) (hb : SE P w K mg E tb B) : SE P w K mg E (tOrV ta tb) (aOrV A B) := ⟨fun ds M σ W as H Q e o h =>
  ha.run ds M σ W as H _ e o (MG.bind h fun s M1 hA v W1 as1 H1 g1 r1 h1 => by
    split at h1
    · cases r1
      exact ⟨true, rfl, iteT (h1.now g1.own (.bl _))⟩
    · cases r1
      exact ⟨false, rfl, iteF (hb.run ds M1 σ W1 as1 H1 Q (g1.env e) g1.own h1)⟩
    · exact h1.elim)⟩
theorem se_notV {ta : TE} {A : AEnv → ASto → Res Sl} (ha : SE P w K mg E ta A) : SE P w K mg E (tNotV ta) (aNotV A) := ⟨fun ds M σ W as H Q e o h =>
  ha.run ds M σ W as H _ e o (MG.bind h fun s M1 hA v W1 as1 H1 g1 r1 h1 => by
    split at h1
    · cases r1
      exact ⟨_, rfl, h1.now g1.own (.bl _)⟩
    · exact h1.elim)⟩
theorem se_neg {ta : TE} {A : AEnv → ASto → Res Sl} (ha : SE P w K mg E ta A) : SE P w K mg E (tUn (rU fun i => V.int (-i)) ta) (aNeg A) := ⟨fun ds M σ W as H Q e o h =>
  ha.run ds M σ W as H _ e o (MG.bind h fun s M1 hA v W1 as1 H1 g1 r1 h1 => by
    split at h1
    · cases r1
      exact ⟨_, rfl, h1.now g1.own (.int _)⟩
    · exact h1.elim)⟩
end
end Ab
end
section
set_option Elab.async false
set_option linter.all false
set_option maxRecDepth 100000
set_option maxHeartbeats 4000000
namespace Ab
open PySem PySem.Calls PySem.Spec PyProof.Rows L2
section
variable {prog : Program} {w : World} {A : Around} {E : Value → Shared → Prop} {s : Shared} {vs : List Value} {β : Type} {R : Value → β → Prop} {enc : β → PyData} {bs : List β}
/-- a tuple's items, gathered: the heap behind it is at least as large -/
theorem gatherTup {l : Addr} {o : Obj} {n : Nat} {Q : List Value → Shared → Prop} (ho : s.heap.get? l = some o) (hc : o.cls = .type "tuple") (hd : o.data = .seq vs.toArray n) (hz : vs.length ≤ sizeLine)
    (h : ∀ h' : Heap, (∀ b u, s.heap.get? b = some u → h'.get? b = some u) → s.heap.objs.size ≤ h'.objs.size → Q vs { s with heap := h' }) : wpAny (model prog w) A (collect (.ref l)) Q E s := by
  have behind := h ((s.heap.push (seqObj "list" #[] 0)).update s.heap.objs.size (Obj.mapSeq fun xs => xs ++ vs.toArray))
    (fun b u q => by
      rw [Heap.get?_update_ne _ _ _ _ (Nat.ne_of_lt (Heap.lt_size q))]
      exact Heap.get?_push_of_some _ q)
    (by rw [Heap.size_update, size_push']; exact Nat.le_succ _)
  have laid : (s.heap.push (seqObj "list" #[] 0)).get? l = some o := Heap.get?_push_of_some _ ho
  have mine : (s.heap.push (seqObj "list" #[] 0)).get? s.heap.objs.size = some (seqObj "list" #[] 0) := Heap.get?_push_size _ rfl
  unfold collect
  apply wpAny_bind
  apply wpAny_runValue
  apply codeAny_builtin entry_proto_collect'
  show wpAny _ _ (newList [] >>= fun y => again (.builtin "list.__iadd__" ⟨[y, .ref l], []⟩)) _ _ s
  apply wpAny_bind
  refine wpAny_newList ?_ (Nat.zero_le _)
  refine wpAny_pure ⟨Code.quiet_builtin _ (by decide +kernel), ?_⟩
  apply codeAny_builtin entry_list_iadd'
  show wpAny _ _ (Builtin.List.listExtendWith (.ref s.heap.objs.size) (.ref l) (.ref s.heap.objs.size)) _ _ (Shared.mk (s.heap.push (seqObj "list" #[] 0)) s.gens s.drawn s.toks s.os)
  unfold Builtin.List.listExtendWith
  apply wpAny_bind
  refine wpAny_typeOf (s := Shared.mk (s.heap.push (seqObj "list" #[] 0)) s.gens s.drawn s.toks s.os) (T := "tuple") ⟨o, laid, hc⟩ ?_
  have isT : (Value.type "tuple" == Value.type "tuple") = true := rfl
  rw [if_pos (by simp [isT])]
  apply wpAny_bind
  apply listItems_at laid hd
  apply wpAny_bind
  apply listItems_at (xs := #[]) (n := 0) mine rfl
  rw [if_neg (by simp)]
  apply wpAny_bind
  refine listUpdate_at (xs := #[]) (n := 0) mine rfl ?_ (Nat.zero_le _) (by simp; omega)
  apply wpAny_pure
  apply wpAny_bind
  apply wpAny_load (get?_update_seq mine _)
  have e : ((#[] : Array Value) ++ vs.toArray).toList = vs := by simp
  show wpAny _ _ (pure ((#[] : Array Value) ++ vs.toArray).toList) Q E _
  rw [e]
  exact wpAny_pure behind
/-- sorted(t), t a tuple that reads as data -/
theorem sortedTup {l : Addr} {o : Obj} {n : Nat} {Q : Value → Shared → Prop} (ho : s.heap.get? l = some o) (hc : o.cls = .type "tuple") (hd : o.data = .seq vs.toArray n)
    (e : PySem.W.EachIs R vs bs) (er : PySem.W.EachIs (fun v b => ∃ as, Reads s.heap v (enc b) as) vs bs) (hal : PySem.W.AllAlike (bs.map enc)) (hk : PySem.W.Sortable (bs.map enc)) (hL : bs.length ≤ sizeLine)
    (hu : ∀ b, b ∈ bs → A.units + 2 + (enc b).depth < cLine)
    (h : ∀ (out : List Value) (h' : Heap) (p : Addr) (c : Nat), out.length = bs.length → PySem.W.EachIs R out (bs.mergeSort (PySem.W.dataLe false enc)) → (∀ b u, s.heap.get? b = some u → h'.get? b = some u) → s.heap.objs.size ≤ p →
      h'.get? p = some (seqObj "list" out.toArray c) → Q (.ref p) { s with heap := h' }) :
    wpAny (model prog w) A (call (.builtin "sorted") [.ref l]) Q E s := by
  have hvl : vs.length ≤ sizeLine := by
    rw [e.length]
    exact hL
  apply call_function_entry_kw kind_sorted plain_sorted entry_sorted (args_sorted1 _)
  show wpAny _ _ (Builtin.«sorted» _) _ _ _
  unfold Builtin.«sorted»
  apply wpAny_bind (m := checkCount "sorted" 1 1 _)
  apply wpAny_pure
  apply wpAny_bind
  apply gatherTup ho hc hd hvl
  intro h1 k1 grown
  apply wpAny_bind
  have fresh : ∀ b u, s.heap.get? b = some u → b ≠ h1.objs.size := fun b u q => Nat.ne_of_lt (Heap.lt_size (k1 b u q))
  apply wpAny_newList (hsz := by simpa using hvl)
  have here : (h1.push (seqObj "list" vs.toArray 0)).get? h1.objs.size = some (seqObj "list" vs.toArray 0) := Heap.get?_push_size _ rfl
  have k2 : ∀ b u, s.heap.get? b = some u → (h1.push (seqObj "list" vs.toArray 0)).get? b = some u := fun b u q => Heap.get?_push_of_some _ (k1 b u q)
  apply wpAny_bind
  apply wpAny_holding
  have old : ∀ b u, s.heap.get? b = some u → (PySem.W.sortingHeap (h1.push (seqObj "list" vs.toArray 0)) h1.objs.size vs).get? b = some u := fun b u q => PySem.W.sortingHeap_old (fresh b u q) (k2 b u q)
  have er2 := er.mono (R' := fun v b => ∃ as, Reads (PySem.W.sortingHeap (h1.push (seqObj "list" vs.toArray 0)) h1.objs.size vs) v (enc b) as) fun v b ⟨as, r⟩ => ⟨as, PyProof.Rows.Reads.keeps old r⟩
  have hut : ∀ d ∈ bs.map enc, A.in1.in1.units + d.depth < cLine := fun d m => by
    obtain ⟨b, hb, rfl⟩ := List.mem_map.mp m
    have := hu b hb
    show A.units + 1 + 1 + (enc b).depth < cLine
    omega
  have S := PySem.W.SortsAt.data (prog := prog) (w := w) (A := A.in1.in1) (s := { s with heap := PySem.W.sortingHeap (h1.push (seqObj "list" vs.toArray 0)) h1.objs.size vs }) (PySem.W.each_map (R := fun v d => ∃ as, Reads (PySem.W.sortingHeap (h1.push (seqObj "list" vs.toArray 0)) h1.objs.size vs) v d as) enc er2) hal hk hut
  obtain ⟨c, hc2⟩ := PyProof.Rows.sortedHeap_at (vs := vs) (out := (PySem.W.sortVals (PySem.W.dataKind (PySem.W.sortingHeap (h1.push (seqObj "list" vs.toArray 0)) h1.objs.size vs) (bs.map enc)) false vs vs).toArray) here
  have done : Q (.ref h1.objs.size) { s with heap := sortedHeap (h1.push (seqObj "list" vs.toArray 0)) h1.objs.size vs (PySem.W.sortVals (PySem.W.dataKind (PySem.W.sortingHeap (h1.push (seqObj "list" vs.toArray 0)) h1.objs.size vs) (bs.map enc)) false vs vs).toArray } := by
    refine h _ _ _ c (by rw [PySem.W.sortVals_length false rfl]; exact e.length) (PySem.W.sortVals_data false e er2 hal) (fun b u q => ?_) ?_ (by simpa using hc2)
    · rw [PyProof.Rows.sortedHeap_old (fresh b u q) (Heap.lt_size (k2 b u q))]
      exact k2 b u q
    · exact grown
  have srt := PySem.W.list_sort_vals (A := A.in1.in1) (E := E) (s := { s with heap := h1.push (seqObj "list" vs.toArray 0) }) (P := fun f s' => f = .done (.ret .none) ∧ Q (.ref h1.objs.size) s') here S hvl ⟨rfl, done⟩
  refine wpAny_call_entry_kw (s := { s with heap := h1.push (seqObj "list" vs.toArray 0) }) slot_list_sort ⟨_, here, rfl⟩ entry_list_sort ?_ (args_list_sort _)
  refine wpAny_mono srt (fun f s' q => ?_) fun _ _ q => q
  obtain ⟨rfl, q⟩ := q
  exact ⟨_, rfl, wpAny_pure ⟨_, rfl, q⟩⟩
end
/-! ### over the machine -/
/-- the order of Python's sorted on data that is alike -/
def leD : PyData → PyData → Bool := PySem.W.dataLe false id
def sortD (xs : List PyData) : List PyData := xs.mergeSort leD
def alikeAllB (xs : List PyData) : Bool := xs.all fun x => xs.all fun y => PySem.W.alike x y
def isTupC : PyData → Bool
  | .tuple (_ :: _) => true
  | _ => false
def isOth : PyData → Bool
  | .none => false
  | .tuple _ => false
  | _ => true
def sortable (xs : List PyData) : Bool := (xs.all isTupC || xs.all isOth) && alikeAllB xs && xs.all (fun d => decide (d.depth ≤ 60)) && decide (xs.length ≤ 100000)
def aSortQ : List Sl → ASto → Res Sl
  | [s], M => match vwS M s with
    | some xs => if sortable xs = true then .ok (.d (.list (sortD xs))) M else .no
    | none => .no
  | _, _ => .no
def rSortQ (K : PySem.W.Frag) : List V → Hp → VK → Prop := fun vs H Q => ∃ (a : Addr) (us : List V) (xs : List PyData), vs = [.ref a] ∧ (H a = some (.lst us) ∨ ∃ ob, H a = some (.frz ob (.tup us))) ∧ DqAll K H us xs ∧ sortable xs = true ∧
  ∀ (ws : List V) (p : Addr), (∀ W : Hp, DqAll K W us xs → DqAll K W ws (sortD xs)) → H p = none → Q (.ref p) (upd H p (.lst ws))
theorem sortable_1 {xs : List PyData} (h : sortable xs = true) : PySem.W.AllAlike (xs.map id) ∧ PySem.W.Sortable (xs.map id) ∧ (∀ d ∈ xs, d.depth ≤ 60) ∧ xs.length ≤ 100000 := by
  unfold sortable at h
  simp only [Bool.and_eq_true, Bool.or_eq_true, List.all_eq_true, decide_eq_true_eq] at h
  obtain ⟨⟨⟨h1, h2⟩, h3⟩, h4⟩ := h
  rw [List.map_id]
  refine ⟨fun d hd d' hd' => ?_, ?_, h3, h4⟩
  · unfold alikeAllB at h2
    simp only [List.all_eq_true] at h2
    exact h2 d hd d' hd'
  · rcases h1 with h1 | h1
    · refine .inl fun d hd => ?_
      have := h1 d hd
      unfold isTupC at this
      split at this
      · exact ⟨_, _, rfl⟩
      · cases this
    · refine .inr fun d hd => ?_
      have := h1 d hd
      refine ⟨fun e => ?_, fun ys e => ?_⟩
      · rw [e] at this; cases this
      · rw [e] at this; cases this
def RV (us : List V) (xs : List PyData) (u : Value) (d : PyData) : Prop := ∃ v, RelV v u ∧ (v, d) ∈ us.zip xs
theorem each_rv : ∀ {us : List V} {xs : List PyData} {vs : List Value}, Vals us vs → us.length = xs.length → PySem.W.EachIs (RV us xs) vs xs := by
  intro us xs vs hv hl
  have go : ∀ {us' : List V} {xs' : List PyData} {vs' : List Value}, Vals us' vs' → us'.length = xs'.length → (∀ p ∈ us'.zip xs', p ∈ us.zip xs) → PySem.W.EachIs (RV us xs) vs' xs' := by
    intro us' xs' vs' hv
    induction hv generalizing xs' with
    | nil =>
      intro hl _
      cases xs' with
      | nil => exact .nil
      | cons _ _ => cases hl
    | @cons v u us' vs' r t ih =>
      intro hl hs
      cases xs' with
      | nil => cases hl
      | cons x xs' => exact .cons ⟨v, r, hs _ (by simp)⟩ (ih (by simpa using hl) fun p hp => hs p (by simp [hp]))
  exact go hv hl fun p hp => hp
theorem zip_dq {K : PySem.W.Frag} {W : Hp} : ∀ {us : List V} {xs : List PyData} {v : V} {d : PyData}, DqAll K W us xs → (v, d) ∈ us.zip xs → Dq K W v d
  | _, _, _, _, .nil, h => by simp at h
  | _, _, v, d, .cons a b, h => by
    rw [List.zip_cons_cons] at h
    rcases List.mem_cons.mp h with h | h
    · cases h; exact a
    · exact zip_dq b h
theorem rv_out {us : List V} {xs : List PyData} : ∀ {out : List Value} {ys : List PyData}, PySem.W.EachIs (RV us xs) out ys → ∃ ws : List V, Vals ws out ∧ ∀ (K : PySem.W.Frag) (W : Hp), DqAll K W us xs → DqAll K W ws ys
  | _, _, .nil => ⟨[], .nil, fun _ _ _ => .nil⟩
  | _, _, .cons ⟨v, r, m⟩ t => by
    obtain ⟨ws, h1, h2⟩ := rv_out t
    exact ⟨v :: ws, .cons r h1, fun K W h => .cons (zip_dq h m) (h2 K W h)⟩
theorem crSortQ {X : Cx} (hu : X.A.units + 65 < cLine) : CallR X (.builtin "sorted") (rSortQ X.K) := by
  intro pins s σ H vs us' Q I r h
  obtain ⟨a, us, xs, rfl, hs, hd, hk, q⟩ := h
  rw [Vals.ref1 r]
  obtain ⟨k1, k2, k3, k4⟩ := sortable_1 hk
  have er : ∀ {its : List Value}, Vals us its → PySem.W.EachIs (fun v b => ∃ as, Reads s.heap v (id b) as) its xs := fun {its} rv => by
    refine (each_rv rv (DqAll.len hd)).mono fun u d ⟨v, r1, m⟩ => Dp.reads I d v u (zip_dq hd m).dp r1
  have hub : ∀ b, b ∈ xs → X.A.units + 2 + (id b : PyData).depth < cLine := fun b hb => by
    have := k3 b hb
    show X.A.units + 2 + b.depth < cLine
    omega
  have hz : us.length ≤ sizeLine := by rw [DqAll.len hd]; exact sz_le k4
  have fin : ∀ {its : List Value}, Vals us its → ∀ out : List Value, out.length = xs.length → PySem.W.EachIs (RV us xs) out (xs.mergeSort (PySem.W.dataLe false id)) → EP X pins σ Q (.ref (s.heap.objs.size + 1)) { s with heap := sortedAll s.heap its (List.toArray out) } := fun {its} rv out ho he => by
    obtain ⟨ws, h1, h2⟩ := rv_out he
    obtain ⟨ep, he'⟩ := PyProof.Rows.sortedAll_at s.heap its (List.toArray out)
    have hlen : ws.length ≤ sizeLine := by rw [h1.length, ho, ← DqAll.len hd]; exact hz
    exact ⟨.ref _, upd H (s.heap.objs.size + 1) (.lst ws), I.laid (t' := s.toks) (fun _ _ => PyProof.Rows.sortedAll_old) (Nat.le_succ _) ⟨hlen, out, ep, h1, he'⟩, rfl, q ws _ (fun W h => h2 X.K W h) (I.hok.fresh (Nat.le_succ _))⟩
  rcases hs with hs | hs
  · obtain ⟨its, rv, hl, _⟩ := I.list (SqL.of hs)
    exact PySem.W.sorted_data (R := RV us xs) (enc := id) (bs := xs) (vs := its) hl.isList (each_rv rv (DqAll.len hd)) (er rv) k1 k2 (sz_le k4) hub (fun out ho he => fin rv out ho he)
  · obtain ⟨its, rv, ⟨o, h1, h2, n, h3⟩, _⟩ := I.tuple (.inl (.inr hs))
    refine sortedTup (R := RV us xs) (enc := id) (bs := xs) (vs := its) h1 h2 h3 (each_rv rv (DqAll.len hd)) (er rv) k1 k2 (sz_le k4) hub fun out h' p c ho he kk gp hp => ?_
    obtain ⟨ws, h4, h5⟩ := rv_out he
    have hlen : ws.length ≤ sizeLine := by rw [h4.length, ho, ← DqAll.len hd]; exact hz
    exact ⟨.ref p, upd H p (.lst ws), I.laid (t' := s.toks) kk gp ⟨hlen, out, c, h4, hp⟩, rfl, q ws p (fun W h => h5 X.K W h) (I.hok.fresh gp)⟩
theorem hu65 {A : Around} {k : Nat} (hr : Room k A) : A.units + 65 < cLine := by
  have := hr.un
  omega
section
variable {P : Program} {w : World} {K : PySem.W.Frag} {mg : Str → Option Value}
theorem scSortQ : SC P w K mg (rSortQ K) aSortQ := by
  intro M W as H x s Q E o rx m
  unfold aSortQ at m
  split at m
  · obtain ⟨v, rfl, r⟩ := one_of rx
    split at m
    · rename_i xs hx
      split at m
      · rename_i hk
        obtain ⟨a, vs, rfl, h1, h2⟩ := vwS_rel o r hx
        exact ⟨a, vs, xs, rfl, h1, DqAll.up o.sub h2, hk, fun ws p hw hp => m.new o hp (.lst upd_same (DqAll.up (o.same_new hp _) (hw W h2)))⟩
      · exact m.elim
    · exact m.elim
  · exact m.elim
end
end Ab
end
section
set_option Elab.async false
set_option linter.all false
set_option maxRecDepth 100000
set_option maxHeartbeats 4000000
namespace Ab
open PySem PySem.Spec PyProof.Rows L2
def aNo : AEnv → ASto → Out := fun _ _ => .no
def tagD : PyData → Option String
  | .none => some "NoneType"
  | .bool _ => some "bool"
  | .int _ => some "int"
  | .str _ => some "str"
  | .list _ => some "list"
  | .tuple _ => some "tuple"
  | .dict _ => none
def tagS (M : ASto) : Sl → Option String
  | .d x => tagD x
  | .r n => match M[n]? with
    | some (.lst _) => some "list"
    | some (.dct _) => some "dict"
    | _ => none
  | .s _ => none
def subT (a b : String) : Bool := a == b || (a == "bool" && b == "int")
def tagsAll : List String := ["NoneType", "bool", "int", "str", "list", "tuple", "dict"]
theorem kit_tags : ∀ a ∈ tagsAll, ∀ b ∈ tagsAll, kitB a b = some (subT a b) := by decide +kernel
def aIsI (ts : List String) (A : AEnv → ASto → Res Sl) : AEnv → ASto → Res Sl := fun ds M => (A ds M).bind fun s M1 => match tagS M1 s with
  | some t => if ts.all (fun b => tagsAll.contains b) then .ok (.d (.bool (ts.any (subT t)))) M1 else .no
  | none => .no
section
variable {P : Program} {w : World} {K : PySem.W.Frag} {mg : Str → Option Value} {E : XK}
theorem tag_rel {W : Hp} {as : List Addr} {M : ASto} {H : Hp} {s : Sl} {v : V} {t : String} (o : Own P w K W as M H) (r : SlRel K W as v s) (h : tagS M s = some t) : TyX K H v (.type t) ∧ t ∈ tagsAll := by
  cases s with
  | d x =>
    have h' : tagD x = some t := h
    cases r with
    | non => cases h'; exact ⟨.base .non, by decide⟩
    | bl b => cases h'; exact ⟨.base (.bl b), by decide⟩
    | int i => cases h'; exact ⟨.base (.int i), by decide⟩
    | str z => cases h'; exact ⟨.base (.str z), by decide⟩
    | lst hs _ => cases h'; exact ⟨.base (.lst (o.sub _ _ hs)), by decide⟩
    | tup hs _ _ => cases h'; exact ⟨.fTuple (o.sub _ _ hs), by decide⟩
  | r n =>
    dsimp only [tagS] at h
    split at h
    · rename_i ss hn
      cases h
      obtain ⟨a, vs, rfl, h3, h4, h5, h6⟩ := o.lstAt r hn
      exact ⟨.base (.lst h5), by decide⟩
    · rename_i kvs hn
      cases h
      obtain ⟨a, ha, rfl⟩ := r
      obtain ⟨_, es, h1, h2⟩ := o.cell n a _ ha hn
      exact ⟨.base (.dK h1), by decide⟩
    · cases h
  | s ns => cases h
theorem kitAny_tags {t : String} (ht : t ∈ tagsAll) : ∀ ts : List String, ts.all (fun b => tagsAll.contains b) = true → PySem.W.kitAny K (.type t) (ts.map Value.type) = some (ts.any (subT t))
  | [], _ => rfl
  | b :: ts, h => by
    rw [List.all_cons, Bool.and_eq_true] at h
    have hb : b ∈ tagsAll := by simpa using h.1
    have e := kit_ty (K := K) (kit_tags t ht b hb)
    have ih := kitAny_tags ht ts h.2
    rw [List.any_cons]
    refine kitAny_cons e (fun z => ?_) (fun z => ?_)
    · rw [ih, z, Bool.false_or]
    · rw [z, Bool.true_or]
theorem se_isi {b : String} {ta : TE} {A : AEnv → ASto → Res Sl} (ha : SE P w K mg E ta A) : SE P w K mg E (tCB (rIsi K) (tCons ta (tCons (tC (.ty b)) tNil))) (aIsI [b] A) := ⟨fun ds M σ W as H Q e o h =>
  ha.run ds M σ W as H _ e o (MG.bind h fun s M1 hA v W1 as1 H1 g1 r1 h1 => by
    split at h1
    · rename_i t ht
      split at h1
      · rename_i hb
        obtain ⟨q1, q2⟩ := tag_rel g1.own r1 ht
        have hb' : b ∈ tagsAll := by simpa using hb
        refine ⟨v, .ty b, .type t, .type b, _, rfl, .ty b, q1, kit_ty (kit_tags t q2 b hb'), ?_⟩
        rw [List.any_cons, List.any_nil, Bool.or_false] at h1
        exact h1.now g1.own (.bl _)
      · exact h1.elim
    · exact h1.elim)⟩
theorem clsV_map : ∀ ts : List String, Paired ClsV (ts.map V.ty) (ts.map Value.type)
  | [] => .nil
  | t :: ts => .cons (.ty t) (clsV_map ts)
theorem TyX.up {H H' : Hp} {v : V} {t : String} (ht : t ∈ tagsAll) (k : ∀ a o, H a = some o → H' a = some o) (q : TyX K H v (.type t)) : TyX K H' v (.type t) := by
  cases q with
  | base q =>
    cases q with
    | non => exact .base .non
    | bl x => exact .base (.bl x)
    | int i => exact .base (.int i)
    | str x => exact .base (.str x)
    | flt x => exact .base (.flt x)
    | lst e => exact .base (.lst (k _ _ e))
    | frz e => exact .base (.frz (k _ _ e))
    | tup e => exact .base (.tup (k _ _ e))
    | dK e => exact .base (.dK (k _ _ e))
    | dT e => exact .base (.dT (k _ _ e))
  | byt b => exact .byt b
  | set e => exact .set (k _ _ e)
  | kList a b => exact .kList a b
  | kTuple a b => exact .kTuple a b
  | kDict a b => exact .kDict a b
  | fTuple e => exact .fTuple (k _ _ e)
  | fDict e => exact .fDict (k _ _ e)
theorem se_isiT {a b : String} {ta : TE} {A : AEnv → ASto → Res Sl} (ha : SE P w K mg E ta A) : SE P w K mg E (tCB (rIsiT K) (tCons ta (tCons (tTup (tCons (tC (.ty a)) (tCons (tC (.ty b)) tNil))) tNil))) (aIsI [a, b] A) := ⟨fun ds M σ W as H Q e o h =>
  ha.run ds M σ W as H _ e o (MG.bind h fun s M1 hA v W1 as1 H1 g1 r1 h1 => by
    split at h1
    · rename_i t ht
      split at h1
      · rename_i hb
        obtain ⟨q1, q2⟩ := tag_rel g1.own r1 ht
        refine ⟨by show 2 ≤ sizeLine; decide, fun p hp => ?_⟩
        have gn := g1.own.newW hp (.tup [.ty a, .ty b])
        refine ⟨v, p, [.ty a, .ty b], .type t, [.type a, .type b], _, rfl, upd_same, clsV_map [a, b], TyX.up q2 (fun c u z => by rw [upd_ne (fun y => by rw [y, hp] at z; cases z)]; exact z) q1, kitAny_tags q2 [a, b] hb, ?_⟩
        exact h1 _ _ _ _ gn (.bl _)
      · exact h1.elim
    · exact h1.elim)⟩
/-! ### a def that calls itself -/
theorem fn_no {base : Heap} {CX : CXT} {k : Nat} {f : Addr} {fd : FuncData} {ps : List Str} : FnOk P w K mg base CX k f fd ps (spF P w K mg fun _ _ => .no) :=
  ⟨fun vs H Q E ⟨W, as, M, ss, o, r, h⟩ => h.elim, fun A outer s H args us vs Q E hr he hb hv ⟨W, as, M, ss, o, r, h⟩ => h.elim⟩
end
end Ab
end
section
set_option Elab.async false
set_option linter.all false
set_option maxRecDepth 100000
set_option maxHeartbeats 4000000
/-! Own errors: made, raised, caught, read. -/
namespace Ab
open PySem PySem.Spec PyProof.Rows L2
/-! ### an __init__ that stores its one argument under its own name -/
def inA (f : Str) (p1 p2 : Pos) : Arguments := ⟨[], [⟨"self", none, p1⟩, ⟨f, none, p2⟩], none, [], [], none, []⟩
def inB (f : Str) (q1 q2 q3 q4 : Pos) : List Stmt := [.Assign [.Attribute (.Name "self" q1) f q2] (.Name f q3) q4]
def inS (f : Str) : Scope := ⟨.function, [(PySem.Str.ofString "self", .local), (f, .local)], false, false, []⟩
/-- what the text says of an own error's class -/
structure ErrC (K : PySem.W.Frag) (mg : Str → Option Value) (nm : Str) (C : Addr) (B : String) (bmB : List Value) : Prop where
  gC : mg nm = some (.ref C)
  kC : PySem.W.keepIn K (.ref C) = true
  exC : PySem.W.subIn K (.ref C) (.type "BaseException") = some true
  tyC : PySem.W.typeIn K (.ref C) = some (.type "type")
  hdC : PySem.W.hasDictIn K C = true
  ga : PySem.W.findIn K (.ref C) "__getattribute__" = some (some (.builtin "BaseException.__getattribute__"))
  gg : PySem.W.findIn K (.ref C) "__getattr__" = some none
  cl : PySem.W.findIn K (.ref C) "__class__" = some (some (.builtin "object.__class__"))
  cg : PySem.W.specialIn K (.builtin "object.__class__") "__get__" = some (some (.builtin "getset_descriptor.__get__"))
  ct : PySem.W.takesIn K (.builtin "object.__class__") = some true
  ob : PySem.W.mroIn K C (.type "object") = some true
structure ErrF (K : PySem.W.Frag) (mg : Str → Option Value) (nm : Str) (C : Addr) (B newId : String) (bmB : List Value) (f : Str) (fI : Addr) : Prop extends ErrC K mg nm C B bmB where
  ini : PySem.W.excInitIn K C bmB newId = true
  ovr : PySem.W.excOver K C bmB = true
  sa : PySem.W.findIn K (.ref C) "__setattr__" = some (some (.builtin "object.__setattr__"))
  noF : PySem.W.findIn K (.ref C) f = some none
  iC : PySem.W.findIn K (.ref C) "__init__" = some (some (.ref fI))
  tI : PySem.W.typeIn K (.ref fI) = some (.type "function")
  fn : ∃ (oc : Value) (od : Option Addr) (doc pm : Value) (an : Option Addr) (cdv ct : Value) (osl : Array (Option Value)) (p1 p2 q1 q2 q3 q4 : Pos) (qual : Str),
    K.lookup fI = some ⟨oc, od, .func (PySem.W.fnOf "__init__" qual (inA f p1 p2) (inB f q1 q2 q3 q4) (inS f) .none .none doc pm an cdv ct), osl⟩ ∧ PySem.W.codeIn K cdv qual = true
abbrev exO (C t : Addr) (d : Option Addr) : Obj := PySem.W.excObj C t d .none
section
variable {prog : Program} {w : World} {A : Around} {E : Value → Shared → Prop} {K : PySem.W.Frag} {C : Addr} {B : String} {bmB : List Value}
/-- the first store into a fresh error -/
theorem osa_first {s : Shared} {name : Str} {tk : Tok} {v : Value} {x t : Addr} {R : Result → Shared → Prop} (SF : StoreFacts B bmB "object.__setattr__" "object") (X : K.In s.heap) (hx : s.heap.get? x = some (exO C t none))
    (ov : PySem.W.excOver K C bmB = true) (hno : PySem.W.findIn K (.ref C) name = some none) (hd : PySem.W.hasDictIn K C = true)
    (hq : ∀ h' tk' dx, (∀ b o, b ≠ x → s.heap.get? b = some o → h'.get? b = some o) → s.heap.objs.size ≤ dx → dx ≠ x → h'.get? x = some (exO C t (some dx)) → h'.Ns1 dx (fun y => if y = name then some v else none) → R (.ok (.ret .none)) { s with heap := h', toks := tk' }) :
    codeAny (model prog w) A (.call (.builtin "object.__setattr__") ⟨[.ref x, .str name tk, v], []⟩) R s := by
  have ht : PySem.W.takerIn K C name = some none := by unfold PySem.W.takerIn; rw [hno]; rfl
  refine PySem.W.osa_openX (od := none) SF X ⟨hx, rfl, rfl, trivial⟩ ov ht fun b => ?_
  obtain ⟨cd, hc, hdd⟩ := PySem.W.any_some hd
  have lx : x ≠ s.heap.objs.size := Nat.ne_of_lt (Heap.lt_size hx)
  refine wpAny_bind (wpAny_pure (wpAny_bind (PySem.W.instanceDict_exc hx (PySem.W.looks_clsIn X hc) hdd ?_)))
  obtain ⟨hp, g, d, t0, os⟩ := s
  refine PySem.HandSPX.store_in_new (dx := hp.objs.size) ?_ fun h' tk' hn' hs => ?_
  · exact ⟨_, #[], _, (Heap.get?_update_ne _ _ _ _ lx.symm).trans (Heap.get?_push_at rfl rfl), rfl, fun e he => absurd he (by simp), fun _ => rfl⟩
  · have hx1 : (hp.push (PySem.W.dictOf [] 0)).get? x = some (exO C t none) := Heap.get?_push_of_some _ hx
    exact hq h' tk' hp.objs.size (fun b o hb ho => (hs.2 b (Nat.ne_of_lt (Heap.lt_size ho))).trans ((Heap.get?_update_ne _ _ _ _ hb).trans (Heap.get?_push_of_some _ ho)))
      (Nat.le_refl _) lx.symm ((hs.2 x lx).trans (Heap.get?_update_self _ hx1 rfl)) hn'

/-- what an __init__ leaves -/
structure InitDone (h h' : Heap) (x C dx t1 : Addr) (f : Str) (v : Value) : Prop where
  keep : ∀ b o, b ≠ x → h.get? b = some o → h'.get? b = some o
  obj : h'.get? x = some (exO C t1 (some dx))
  far : h.objs.size ≤ dx
  dne : dx ≠ x
  ns : h'.Ns1 dx (fun y => if y = f then some v else none)
section
variable {R : Result → Shared → Prop} {s : Shared} {mg : Str → Option Value} {fI : Addr} {nm f : Str} {newId : String}
theorem ld_loc {M : Model} {name : Str} {scope : Scope} {L a : Addr} {cd : Value} {m : Str → Option Value} {x : Str} {pos : Pos} {v : Value} {Q : Value → Shared → Prop} (hn : s.heap.Ns L m) (hv : m x = some v) (hk : scope.kind = .function)
    (hl : (envOfC name scope L a cd).kindOf x = some .local) (hd : (x == ("__debug__" : Str)) = false) (h : Q v s) : wpAny M A (eval (.Name x pos) (envOfC name scope L a cd)) Q E s :=
  wpAny_Name (wpAny_loadName_local hk hl hn hv h) hd
/-- what of an __init__ is seen at each name anew -/
structure FldOk (f : Str) : Prop where
  nd : (f == ("__debug__" : Str)) = false
  bnd : ∀ (s : Shared) (qual : Str) (doc pm : Value) (an : Option Addr) (cdv ct : Value) (p1 p2 q1 q2 q3 q4 : Pos) (x v : Value), BindsTo s (PySem.W.fnOf "__init__" qual (inA f p1 p2) (inB f q1 q2 q3 q4) (inS f) .none .none doc pm an cdv ct) ⟨[x, v], []⟩ [("self", x), (f, v)]
  knd : ∀ x v : Value, (([("self", x), (f, v)] : List (Str × Value)).all fun y => (inS f).names.lookup y.1 == some .local || (inS f).names.lookup y.1 == some .cell) = true
  kf : ∀ (qual : Str) (L a : Addr) (cd : Value), (envOfC qual (inS f) L a cd).kindOf f = some .local
  ks : ∀ (qual : Str) (L a : Addr) (cd : Value), (envOfC qual (inS f) L a cd).kindOf "self" = some .local
  mf : ∀ (qual : Str) (L a : Addr) (cd x v : Value), PySem.bindL (envOfC qual (inS f) L a cd).kindOf [("self", x), (f, v)] (fun _ => none) f = some v
  ms : ∀ (qual : Str) (L a : Addr) (cd x v : Value), PySem.bindL (envOfC qual (inS f) L a cd).kindOf [("self", x), (f, v)] (fun _ => none) "self" = some x
theorem fld_event : FldOk "event" := by
  constructor
  · decide
  · exact fun s qual doc pm an cdv ct p1 p2 q1 q2 q3 q4 x v => BindsTo.of_eq (by first | rfl | with_unfolding_all rfl)
  · exact fun x v => by first | rfl | with_unfolding_all rfl
  · exact fun qual L a cd => by first | rfl | with_unfolding_all rfl
  · exact fun qual L a cd => by first | rfl | with_unfolding_all rfl
  · exact fun qual L a cd x v => by first | rfl | with_unfolding_all rfl
  · exact fun qual L a cd x v => by first | rfl | with_unfolding_all rfl
theorem fld_name : FldOk "name" := by
  constructor
  · decide
  · exact fun s qual doc pm an cdv ct p1 p2 q1 q2 q3 q4 x v => BindsTo.of_eq (by first | rfl | with_unfolding_all rfl)
  · exact fun x v => by first | rfl | with_unfolding_all rfl
  · exact fun qual L a cd => by first | rfl | with_unfolding_all rfl
  · exact fun qual L a cd => by first | rfl | with_unfolding_all rfl
  · exact fun qual L a cd x v => by first | rfl | with_unfolding_all rfl
  · exact fun qual L a cd x v => by first | rfl | with_unfolding_all rfl
theorem init_run (T : ErrF K mg nm C B newId bmB f fI) (SF : StoreFacts B bmB "object.__setattr__" "object") (O : FldOk f) {x t0 : Addr} {v : Value} (X : K.In s.heap) (hlim : s.heap.NoLimit) (hx : s.heap.get? x = some (exO C t0 none))
    (hroom : A.depth < recursionLimit) (hq : ∀ h' tk dx, InitDone s.heap h' x C dx t0 f v → R (.ok (.ret .none)) { s with heap := h', toks := tk }) :
    codeAny (model prog w) A (.call (.ref fI) ⟨[.ref x, v], []⟩) R s := by
  obtain ⟨oc, od, doc, pm, an, cdv, ct, osl, p1, p2, q1, q2, q3, q4, qual, ho, hcd⟩ := T.fn
  refine Att.call_fn (binds := [("self", .ref x), (f, v)]) X hlim ho hcd hroom (O.bnd _ _ _ _ _ _ _ _ _ _ _ _ _ _ _) (O.knd _ _) (fun s₁ IC => ?_) rfl rfl rfl
  obtain ⟨h₁, tk₁, rfl⟩ := IC.toInCall.same
  have k : ∀ b o, s.heap.get? b = some o → h₁.get? b = some o := IC.toInCall.keep
  have hn := IC.toInCall.ns
  refine wpAny_execs_cons (plainObj_wpAny_Assign_Attribute ?_)
  refine ld_loc (v := v) hn (O.mf _ _ _ _ _ _) rfl (O.kf _ _ _ _) O.nd (ld_loc (v := .ref x) hn (O.ms _ _ _ _ _ _) rfl (O.ks _ _ _ _) (by decide) ?_)
  have X₁ : K.In h₁ := X.keeps k
  have hx₁ := k _ _ hx
  refine PySem.W.set_plain X₁ (ox := exO C t0 none) (od := none) ⟨hx₁, rfl, rfl, trivial⟩ T.sa ?_
  refine osa_first SF X₁ hx₁ T.ovr T.noF T.hdC fun h₃ tk₃ dx k₃ dn dne hx₃ hn₃ => ?_
  have z : s.heap.objs.size < h₁.objs.size := hn.lt
  exact wpAny_execs_nil (hq h₃ tk₃ dx ⟨fun b o hb e => k₃ b o hb (k b o e), hx₃, Nat.le_of_lt (Nat.lt_of_lt_of_le z dn), dne, hn₃⟩)
/-- a made error -/
structure MadeErr (h h' : Heap) (e C d : Addr) (f : Str) (v : Value) : Prop where
  keep : ∀ b o, h.get? b = some o → h'.get? b = some o
  far : h.objs.size ≤ e
  obj : ∃ t1, h'.get? e = some (exO C t1 (some d))
  dfar : h.objs.size ≤ d
  dne : d ≠ e
  ns : h'.Ns1 d (fun y => if y = f then some v else none)
theorem err_made {initId : String} (T : ErrF K mg nm C B newId bmB f fI) (FB : ExcBaseFacts B newId initId bmB) (SF : StoreFacts B bmB "object.__setattr__" "object") (O : FldOk f) {v : Value} (X : K.In s.heap) (hlim : s.heap.NoLimit) (hroom : A.depth + 1 < recursionLimit)
    (hq : ∀ h' tk e d, MadeErr s.heap h' e C d f v → R (.ok (.ret (.ref e))) { s with heap := h', toks := tk }) :
    codeAny (model prog w) A (.call (.ref C) ⟨[v], []⟩) R s := by
  obtain ⟨n0, N, qn, bs, bm, hdct, sn, sub, ab, col, dd, k0, k1, k2, k3, k5, hC, hT⟩ := PySem.W.excInit_of X T.ini
  obtain ⟨hp, g, dr, tk, os⟩ := s
  have k : ∀ b o, hp.get? b = some o → ((hp.push (PySem.W.kdv_tup [v])).push (PySem.HandSPX.excO C hp.objs.size)).get? b = some o := fun b o e => Heap.get?_push_of_some _ (Heap.get?_push_of_some _ e)
  have hget : ((hp.push (PySem.W.kdv_tup [v])).push (PySem.HandSPX.excO C hp.objs.size)).get? (hp.objs.size + 1) = some (PySem.HandSPX.excO C hp.objs.size) := by heap_get
  refine PySem.HandSPX.call_own FB hT hC (PySem.W.looks_findIn X T.iC) (fun self => PySem.W.bind_fn X self T.tI) (by show 1 ≤ sizeLine; decide) ?_
  refine init_run (s := ⟨(hp.push (PySem.W.kdv_tup [v])).push (PySem.HandSPX.excO C hp.objs.size), g, dr, tk, os⟩) T SF O (X.keeps k) (hlim.keeps k) hget ?_ fun h' tk' dx I => ?_
  · show A.depth + 1 < recursionLimit
    exact hroom
  · have dn : hp.objs.size + 1 + 1 ≤ dx := by
      have q := I.far
      first
        | exact q
        | (rw [Heap.size_push, Heap.size_push] at q; exact q)
        | simpa only [Heap.size_push] using q
    exact ⟨rfl, hq h' tk' (hp.objs.size + 1) dx ⟨fun b o e => I.keep b o (Nat.ne_of_lt (Nat.lt_succ_of_lt (Heap.lt_size e))) (k b o e), Nat.le_succ _, ⟨_, I.obj⟩, Nat.le_trans (Nat.le_add_right _ 2) dn, I.dne, I.ns⟩⟩
end
end
theorem relO_one {f : Str} {v : V} {v' : Value} (r : RelV v v') (g : Str) : RelO (List.lookup g [(f, v)]) (if g = f then some v' else none) := by
  by_cases h : g = f
  · rw [if_pos h, h]
    simp only [List.lookup, beq_self_eq_true]
    exact r
  · have e : (g == f) = false := by simpa using h
    rw [if_neg h]
    simp only [List.lookup, e]
    trivial
/-- X(e) -/
def tMkF (C : Addr) (f : Str) (ta : TA) : L2.St → Hp → XK → Prop := fun σ H Q => ta σ H fun vs H1 => ∃ v, vs = [v] ∧ ∀ d, H1 d = none → Q (.ref C) (some d) (upd H1 d (.xd [(f, v)]))
section
variable {X : Cx} {C fI : Addr} {nm f : Str} {B newId initId : String} {bmB : List Value}
theorem pmk_f {a : Expr} {ta : TA} {p pos : Pos} {k : Nat} (T : ErrF X.K X.mg nm C B newId bmB f fI) (FB : ExcBaseFacts B newId initId bmB) (SF : StoreFacts B bmB "object.__setattr__" "object") (O : FldOk f) (hr : Room (k + 1) X.A) (ha : PA X [a] ta) (hg : Gl X nm) (hdb : (nm == ("__debug__" : Str)) = false := by decide)
    (he : starEach [a] X.env = (false, eval a X.env) :: starEach [] X.env := by rfl) (hpl : (backTo pos (starEach [] X.env)).any (·.1) = false := by rfl) : PMk X (.Call (.Name nm p) [a] [] pos) (tMkF C f ta) := by
  intro pins s σ H Q I h
  refine wpAny_Call_Name_kw (ld_glob I hg T.gC ?_ hdb)
  refine PySem.W.callWith_K (h₀ := X.base) I.ok.mod.kin T.kC (thn (ha.run pos pins s σ H _ I h) fun us s1 hh => ?_) he hpl
  obtain ⟨vs, H1, I1, r1, v, rfl, q1⟩ := hh
  refine ⟨I1.kIn, ?_⟩
  obtain ⟨v', rfl, rv⟩ : ∃ v', us = [v'] ∧ RelV v v' := by
    cases r1 with
    | cons rv rn => cases rn; exact ⟨_, rfl, rv⟩
  have hlim := I1.nolimit
  obtain ⟨hp, g, dr, tk, os⟩ := s1
  refine wpAny_call (err_made T FB SF O I1.kIn hlim (by have := hr.dp; omega) fun h' tk' e d m => ?_)
  obtain ⟨t1, hoe⟩ := m.obj
  obtain ⟨G, g1, g2⟩ := restrict h' fun b => decide (b ≠ e)
  have gk : ∀ b, b ≠ e → G.get? b = h'.get? b := fun b hb => g1 b (decide_eq_true hb)
  have ge : G.get? e = none := g2 e (by simp)
  have gold : ∀ b o, hp.get? b = some o → G.get? b = some o := fun b o q => (gk b (Nat.ne_of_lt (Nat.lt_of_lt_of_le (Heap.lt_size q) m.far))).trans (m.keep b o q)
  have ob : ObjOk X.prog X.w (upd H1 d (.xd [(f, v)])) G d (.xd [(f, v)]) := ⟨_, m.ns.at (fun o q => (gk d m.dne).trans q), fun y => relO_one rv y⟩
  have J : Inv X pins σ (upd H1 d (.xd [(f, v)])) ⟨G, g, dr, tk', os⟩ := I1.laid (t' := tk') gold m.dfar ob
  refine ⟨e, _, _, ⟨G, g, dr, tk', os⟩, _, .ref C, some d, rfl, J, fun b o q => ?_, ge, hoe, ⟨rfl, rfl⟩, rfl, rfl, ?_, rfl, I1.bare, raises_own T.exC T.tyC, q1 d (I1.hok.fresh m.dfar)⟩
  · by_cases hb : b = e
    · rw [hb] at q
      have q' : G.get? e = some o := q
      rw [ge] at q'; cases q'
    · exact (gk b hb).symm.trans q
  · rw [upd_ne (Ne.symm m.dne)]
    exact I1.hok.fresh m.far
/-- X(), a class without own __init__ -/
theorem pmk_0 {p pos : Pos} (F : ExcBaseFacts B newId initId bmB) (q : PySem.W.excIn X.K C bmB newId = true) (T : ErrC X.K X.mg nm C B bmB) (hg : Gl X nm) (hdb : (nm == ("__debug__" : Str)) = false := by decide) :
    PMk X (.Call (.Name nm p) [] [] pos) (fun _ H Q => Q (.ref C) none H) := by
  intro pins s σ H Q I h
  refine wpAny_Call_Name_kw (ld_glob I hg T.gC ?_ hdb)
  refine PySem.W.callWith_K0 I.kIn T.kC ?_
  obtain ⟨bm, N, nm', qn, bs, hdct, sn, sub, ab, col, dd, k0, k1, k2, k3, k5, mN, hC, hN, hni, tl⟩ := exc_obj I.kIn q
  refine wpAny_call_exc_subT F tl hC hN hni (fun h' e hm => ?_) (by show 0 ≤ sizeLine; omega)
  exact mk_of I hm (raises_own T.exC T.tyC) h (I.hok.gone hm.new)
end
end Ab
end
section
set_option Elab.async false
set_option linter.all false
set_option maxRecDepth 100000
set_option maxHeartbeats 4000000
/-! raise and try over the machine. -/
namespace Ab
open PySem PySem.Spec PyProof.Rows L2
/-! ### raise -/
def aRaiseF (nm f : Str) (A : AEnv → ASto → Res (List Sl)) : AEnv → ASto → Out := fun ds M => resO (A ds M) fun ss M1 => match ss with
  | [.d x] => .ex ⟨nm, some [(f, x)]⟩ M1
  | _ => .no
def aRaise0 (nm : Str) : AEnv → ASto → Out := fun _ M => .ex ⟨nm, none⟩ M
section
variable {P : Program} {w : World} {K : PySem.W.Frag} {mg : Str → Option Value} {E : XK}
theorem ss_raiseF {nm f : Str} {C : Addr} {ta : TA} {A : AEnv → ASto → Res (List Sl)} (gC : mg nm = some (.ref C)) (ha : SA P w K mg E ta A) : SS P w K mg E (fun _ σ H => tMkF C f ta σ H fun cls d H' => E cls d H') (aRaiseF nm f A) := ⟨fun ds M σ W as H D e o h =>
  ha.run ds M σ W as H _ e o (MG.bindO h fun ss M1 _ vs W1 as1 H1 g1 r1 h1 => by
    split at h1
    · rename_i x
      cases r1 with
      | @cons v _ _ _ rv rn =>
        cases rn
        refine ⟨v, rfl, fun d hd => ?_⟩
        have gn := g1.own.newW hd (.xd [(f, v)])
        exact h1 (.ref C) (some d) _ _ _ gn ⟨C, gC, rfl, d, [(f, v)], rfl, upd_same, .cons ⟨rfl, Dq.up gn.same rv⟩ .nil⟩
    · exact h1.elim)⟩
theorem ss_raise0 {nm : Str} {C : Addr} (gC : mg nm = some (.ref C)) : SS P w K mg E (fun _ σ H => E (.ref C) none H) (aRaise0 nm) := ⟨fun ds M σ W as H D e o h =>
  h (.ref C) none W as H (Go.refl o) ⟨C, gC, rfl, rfl⟩⟩
end
/-! ### try, except .. as .. -/
def wClean (D : Ends) (i : Nat) : Ends := ⟨fun σ H => D.nx (σ.set i none) H, D.rt, fun σ H => D.bk (σ.set i none) H, fun σ H => D.ct (σ.set i none) H⟩
abbrev Cl := Value × Nat × (Addr → Value → Option Addr → TS)
def wCls (K : PySem.W.Frag) (Wout : WX) (D : Ends) : List Cl → WX
  | [] => Wout
  | (c, i, ts) :: r => fun cls d σ H => ∃ b, PySem.W.exmOne K cls c = some b ∧ (b = true → ∀ a, H a = none → ts a cls d (wClean D i) (σ.set i (some (.ref a))) H) ∧ (b = false → wCls K Wout D r cls d σ H)
inductive ClsOk (X : Cx) : List ExceptHandler → List Cl → Prop
  | nil : ClsOk X [] []
  | cons {x n : Str} {c : Value} {i : Nat} {ts : Addr → Value → Option Addr → TS} {b₀ : Stmt} {suite : List Stmt} {np pos' : Pos} {hds : List ExceptHandler} {l : List Cl} (hc : Names X x c) (hi : X.N[i]? = some n) (hn : X.env.kindOf n = some .local)
      (hsu : ∀ (a : Addr) (oe : Obj) (cls : Value) (d : Option Addr) (pn : List (Addr × Obj)), Zc cls d oe → (∃ vs, oe.data = .fields vs) → PSs (X.suite a ((a, oe) :: pn)) (b₀ :: suite) (ts a cls d)) (r : ClsOk X hds l) :
      ClsOk X (.ExceptHandler (some (.Name x np)) (some n) (b₀ :: suite) pos' :: hds) ((c, i, ts) :: l)
section
variable {X : Cx} {body : List Stmt} {h₀ : ExceptHandler} {hds : List ExceptHandler} {l : List Cl} {pos : Pos} {tb : WX → TS} {Wout : WX}
theorem ps_tryAs (hs : X.stack = X.env :: X.outer) (hf : X.env.frame = some X.env.locals) (hN : X.N.Nodup) (tk : Takes X Wout)
    (hb : ∀ (W : WX) (pn : List (Addr × Obj)) (xe : Value → Shared → Prop), Takes (X.tr pn xe) W → PassesOwn (model X.prog X.w) X.A X.env xe → PSs (X.tr pn xe) body (tb W))
    (hh : ClsOk X (h₀ :: hds) l) : PS X (.Try body (h₀ :: hds) [] [] pos) (fun D σ H => tb (wCls X.K Wout D l) D σ H) := ⟨fun pins s σ H D I h => by
  have ok := I.ok
  have hfr : X.A.frames = some (X.env :: X.outer) := by rw [ok.frames, hs]
  have run := (hb (wCls X.K Wout D l) (X.pn ++ pins) (fun e s₁ => wpAny (model X.prog X.w) X.A (noteFrame e X.env)
      (fun _ s₂ => wpAny (model X.prog X.w) X.A (setFlight e none) (fun _ s₃ => wpAny (model X.prog X.w) X.A (handleBy e X.env (h₀ :: hds)) (SP X pins D) X.xe s₃) X.xe s₂) X.xe s₁)
    (fun u s' xx => by
      obtain ⟨a, B, sI, pins', σ', H', cls, d, rfl, J', nb, up, sky, na, os, ag, w⟩ := xx
      have J : Inv X pins σ' H' sI := J'.ofTry ok
      rw [show (X.tr (X.pn ++ pins) _).stack = X.stack from rfl, hs] at sky
      refine Sky.land Zc.steady hfr hf sky fun h3 fl3 up3 => ?_
      have J3 : Inv X pins σ' H' { s' with heap := h3 } := J.landed nb fl3.1 (up.trans up3) os ag
      obtain ⟨oe3, vs3, he3, hz3, hd3⟩ := fl3.there
      have out : a ∉ frs (X.env :: X.outer) := fun hm => by
        obtain ⟨_, o', e', hnf⟩ := fl3.2.2.1.mem hm
        rw [he3] at e'; cases e'
        exact hnf _ hd3
      have nL : a ≠ X.env.locals := fun z => out (List.mem_filterMap.mpr ⟨X.env, List.mem_cons_self, by rw [hf, z]⟩)
      have nF : a ∉ X.fs := fun hm => by
        obtain ⟨e, he, q⟩ := List.mem_filterMap.mp hm
        exact out (List.mem_filterMap.mpr ⟨e, List.mem_cons_of_mem _ he, q⟩)
      have look : ∀ {x : Str} {c : Value} {np : Pos} {Q : Value → Shared → Prop} {E : Value → Shared → Prop}, Names X x c → Q c { s' with heap := h3 } → wpAny (model X.prog X.w) (X.A.mark (some (.ref a))) (eval (.Name x np) X.env) Q E { s' with heap := h3 } := fun hc q => by
        have S3 := J3.suite he3 hd3 na nL nF
        obtain ⟨hg, hdbg, hm | ⟨hm, hv, hnn⟩⟩ := hc
        · exact ld_glob (X := X.suite a ((a, oe3) :: (X.pn ++ pins))) S3 hg hm q hdbg
        · exact ld_blt (X := X.suite a ((a, oe3) :: (X.pn ++ pins))) S3 hg hm hv q hnn hdbg
      clear h
      have go : ∀ {hs' : List ExceptHandler} {l' : List Cl}, ClsOk X hs' l' → wCls X.K Wout D l' cls d σ' H' → wpAny (model X.prog X.w) X.A (handleBy (.ref a) X.env hs') (SP X pins D) X.xe { s' with heap := h3 } := by
        intro hs' l' hk
        induction hk with
        | nil =>
          intro w
          refine wpAny_handleBy_nil ?_
          obtain ⟨k1, k2, k3, oe, vs, T, oT, ts', he, hz, hd, h1, hr⟩ := id fl3
          unfold PySem.passOn
          refine wpAny_bind (wpAny_field he hd h1 ?_)
          rw [if_neg (by simp)]
          have fin : wpAny (model X.prog X.w) X.A (setFlight (.ref a) X.env.frame) (fun _ s4 => wpAny (model X.prog X.w) X.A (throw (.ref a) : Sem Flow) (SP X pins D) X.xe s4) X.xe { s' with heap := h3 } := by
            rw [hf]
            exact HandSPX.setFlight_upZ fl3 fun h4 hh4 up4 => wpAny_throw (tk _ _ ⟨a, B, sI, pins, σ', H', cls, d, rfl, J, nb, (up.trans up3).trans up4, .inr (.inr (by rw [hs]; exact hh4)), na, os, ag, w⟩)
          first
            | exact wpAny_bind (wpAny_pure (wpAny_bind fin))
            | exact wpAny_bind fin
        | @cons x n c i ts b₀ suite np pos' hds2 l2 hc hi hn hsu r ih =>
          rintro ⟨b, hb1, hyes, hno⟩
          have LT : PySem.W.Looks (model X.prog X.w) h3 (typeOf (.ref a)) cls := fun A Q E s k q => wpAny_typeOf_ref (k _ _ he3) (by rw [hz3.1]; exact q)
          refine wpAny_handleBy_cons (codeAny_handlers_test ?_) (by intro q; cases q)
          refine look hc ((PySem.W.exm_one (M := model X.prog X.w) J3.kIn LT hb1).here ?_)
          cases b with
          | false => exact ih (hno rfl)
          | true =>
            refine codeAny_handlers_suite_as (HandSPX.lands_againZ fl3 fun h4 fl4 up4 => ?_)
            have J4 : Inv X pins σ' H' { s' with heap := h4 } := J.landed nb fl4.1 ((up.trans up3).trans up4) os ag
            obtain ⟨oe4, vs4, he4, hz4, hd4⟩ := fl4.there
            have S4 := J4.suite he4 hd4 na nL nF
            refine store_ok (X := X.suite a ((a, oe4) :: (X.pn ++ pins))) (v := .ref a) S4 hN hi (.inl hn) rfl (fun s5 S5 => ?_) (.inr hn)
            refine wpAny_mono ((hsu a oe4 cls d (X.pn ++ pins) hz4 ⟨_, hd4⟩).run [] s5 _ H' _ S5 (hyes rfl a na)) (fun fw s6 sp => ?_) fun _ _ z => z.elim
            have fin : ∀ {σ6 : L2.St} {H6 : Hp} {Q : Shared → Prop}, Inv (X.suite a ((a, oe4) :: (X.pn ++ pins))) [] σ6 H6 s6 → (∀ s7, Inv X pins (σ6.set i none) H6 s7 → Q s7) →
                wpAny (model X.prog X.w) X.A (do bindName X.env n .none; unbindBehindTheSuite X.env n pos') (fun _ s7 => Q s7) X.xe s6 := fun S6 hq => gone_ok (S6.unsuite ok) hN hi hn hq
            cases fw with
            | next => obtain ⟨σ6, H6, S6, q6⟩ := sp; exact fin S6 fun s7 J7 => ⟨_, _, J7, q6⟩
            | brk => obtain ⟨σ6, H6, S6, q6⟩ := sp; exact fin S6 fun s7 J7 => ⟨_, _, J7, q6⟩
            | cont => obtain ⟨σ6, H6, S6, q6⟩ := sp; exact fin S6 fun s7 J7 => ⟨_, _, J7, q6⟩
            | ret u => obtain ⟨v6, σ6, H6, S6, r6, q6⟩ := sp; exact fin S6 fun s7 J7 => ⟨_, _, _, J7, r6, q6⟩
      exact go hh w) PassesOwn.looking).run [] s σ H D (I.toTry _) h
  refine wpAny_Try_except (wpAny_mono run (fun f s1 sp => ?_) fun _ _ z => z)
  cases f with
  | next => obtain ⟨σ', H', J', q⟩ := sp; exact wpAny_execs_nil ⟨σ', H', J'.ofTry ok, q⟩
  | brk => obtain ⟨σ', H', J', q⟩ := sp; exact ⟨σ', H', J'.ofTry ok, q⟩
  | cont => obtain ⟨σ', H', J', q⟩ := sp; exact ⟨σ', H', J'.ofTry ok, q⟩
  | ret u => obtain ⟨v, σ', H', J', r, q⟩ := sp; exact ⟨v, σ', H', J'.ofTry ok, r, q⟩⟩
end

/-! ### what a suite reads of its error -/
abbrev Fds := Option (List (Str × PyData))
def cleanO (i : Nat) : Out → Out
  | .nx ds M => .nx (ds.set i none) M
  | .bk ds M => .bk (ds.set i none) M
  | .ct ds M => .ct (ds.set i none) M
  | o => o
def aCls (errs : List Str) : List (Str × Nat × (Fds → AEnv → ASto → Out)) → AErr → AEnv → ASto → Out
  | [], _, _, _ => .no
  | (x, i, f) :: r, e, ds, M => if errs.contains e.nm = true then (if (e.nm == x) = true then (if i < ds.length then cleanO i (f e.fs (ds.set i none) M) else .no) else aCls errs r e ds M) else .no
def aTry (errs : List Str) (F : List Sl → ASto → Res Sl) (A : AEnv → ASto → Res (List Sl)) (j : Nat) (m : List (Str × Nat × (Fds → AEnv → ASto → Out))) : AEnv → ASto → Out := fun ds M => match A ds M with
  | .ok ss M1 => match F ss M1 with
    | .ok s M2 => .nx (ds.set j (some s)) M2
    | .ex e M2 => aCls errs m e ds M2
    | .no => .no
  | _ => .no
/-- names of own errors: each matches its own clause alone -/
def ExmOk (K : PySem.W.Frag) (mg : Str → Option Value) (errs : List Str) : Prop := ∀ x ∈ errs, ∀ y ∈ errs, ∃ C D, mg x = some (.ref C) ∧ mg y = some (.ref D) ∧ PySem.W.exmOne K (.ref C) (.ref D) = some (x == y)
def tIsX (K : PySem.W.Frag) (a D : Addr) (cls : Value) (d : Option Addr) : List V → Hp → VK → Prop := fun xs H Q => ∃ (c : V) (cv : Value) (b : Bool), xs = [.ref a, c] ∧ (∀ u, RelV c u → u = cv) ∧ cls = .ref D ∧ PySem.W.kitOne K (.ref D) cv = some b ∧ (∀ dd, d = some dd → ∃ fs, H dd = some (.xd fs)) ∧ Q (.bl b) H
theorem call_isX {X : Cx} {a D : Addr} {oe : Obj} {cls : Value} {d : Option Addr} {pn : List (Addr × Obj)} {nm : Str} {B : String} {bmB : List Value} (T : ErrC X.K X.mg nm D B bmB) (hz : Zc cls d oe) (hf : ∃ vs, oe.data = .fields vs) :
    CallR (X.suite a ((a, oe) :: pn)) (.builtin "isinstance") (tIsX X.K a D cls d) := by
  intro pins s σ H xs us Q I r h
  obtain ⟨c, cv, b, rfl, hcv, rfl, e, hfs, q⟩ := h
  obtain ⟨u1, u2, rfl, r1, r2⟩ : ∃ u1 u2, us = [u1, u2] ∧ RelV (.ref a) u1 ∧ RelV c u2 := by
    cases r with
    | cons ra rr =>
      cases rr with
      | cons rb rr => cases rr; exact ⟨_, _, rfl, ra, rb⟩
  obtain rfl : u1 = Value.ref a := r1
  obtain rfl := hcv _ r2
  obtain ⟨hget, _⟩ := I.pin (a, oe) (List.mem_append.mpr (.inl List.mem_cons_self))
  obtain ⟨vs, hv⟩ := hf
  have J : ∃ od, PySem.W.InstAt s.heap a oe D od := by
    cases d with
    | none => exact ⟨none, hget, hz.1, by unfold PySem.W.notCls; rw [hv] <;> rfl, by rw [hz.2]; trivial⟩
    | some dd =>
      obtain ⟨fs, hH⟩ := hfs dd rfl
      have hx : ObjOk X.prog X.w H s.heap dd (.xd fs) := I.hok dd _ hH
      obtain ⟨mA, hns, hr⟩ := hx
      obtain ⟨od, ho, hl⟩ := lookIn_ns hns
      exact ⟨some od, hget, hz.1, by unfold PySem.W.notCls; rw [hv] <;> rfl, by rw [hz.2]; exact ho⟩
  obtain ⟨od, J⟩ := J
  have hcl : (PySem.W.clsIn X.K D).isSome = true := by
    obtain ⟨cd, hc, _⟩ := PySem.W.any_some T.hdC
    rw [hc]; rfl
  exact PySem.W.kia_one (PySem.W.kitx_exc hcl T.ga T.gg T.exC T.cl T.cg T.ct T.ob) I.kIn J e (fun z => nomatch z) fun tk => ⟨.bl b, H, I.kept (t' := tk) fun _ _ z => z, rfl, q⟩
section
variable (P : Program) (w : World) (K : PySem.W.Frag) (mg : Str → Option Value)
/-- a value that a suite tells of its error -/
def AtOk (i : Nat) (nm : Str) (t : Addr → Value → Option Addr → TE) (x : Fds → Option PyData) : Prop := ∀ a cls d fs y W H σ Q, σ[i]? = some (some (V.ref a)) → ErrRel K mg W H ⟨nm, fs⟩ cls d → x fs = some y → (∀ v, Dq K W v y → Q v H) → t a cls d σ H Q
def AtsOk (i : Nat) (nm : Str) (t : Addr → Value → Option Addr → TA) (x : Fds → Option (List PyData)) : Prop := ∀ a cls d fs y W H σ Q, σ[i]? = some (some (V.ref a)) → ErrRel K mg W H ⟨nm, fs⟩ cls d → x fs = some y → (∀ v, DqAll K W v y → Q v H) → t a cls d σ H Q
def SuOk (E : XK) (i : Nat) (nm : Str) (t : Addr → Value → Option Addr → TS) (f : Fds → AEnv → ASto → Out) : Prop := ∀ a cls d fs ds M σ W as H D, EnvR K W as σ ds → Own P w K W as M H → σ[i]? = some (some (V.ref a)) → ErrRel K mg W H ⟨nm, fs⟩ cls d →
  MO P w K mg D E W as H (f fs ds M) → t a cls d D σ H
end
def xC (d : PyData) : Fds → Option PyData := fun _ => some d
def xFld (f : Str) : Fds → Option PyData := fun fs => match fs with
  | some [(g, x)] => if g = f then some x else none
  | _ => none
def xNil : Fds → Option (List PyData) := fun _ => some []
def xCons (x : Fds → Option PyData) (r : Fds → Option (List PyData)) : Fds → Option (List PyData) := fun fs => match x fs, r fs with
  | some y, some ys => some (y :: ys)
  | _, _ => none
/-- caught = [..] -/
def aSui (j : Nat) (x : Fds → Option (List PyData)) : Fds → AEnv → ASto → Out := fun fs ds M => match x fs with
  | some ys => if ys.length ≤ 100000 then .nx (ds.set j (some (.d (.list ys)))) M else .no
  | none => .no
section
variable {P : Program} {w : World} {K : PySem.W.Frag} {mg : Str → Option Value} {E : XK} {i : Nat} {nm : Str}
theorem at_str (z : Str) : AtOk K mg i nm (fun _ _ _ => tC (.str z)) (xC (.str z)) := fun a cls d fs y W H σ Q h1 h2 h3 h4 => by
  cases h3
  exact h4 _ (.str z)
theorem at_fld {C : Addr} (gC : mg nm = some (.ref C)) (f : Str) : AtOk K mg i nm (fun a cls d => tXf a cls d C f (tVar i)) (xFld f) := fun a cls d fs y W H σ Q h1 h2 h3 h4 => by
  refine ⟨_, h1, rfl, ?_⟩
  obtain ⟨C', g', rfl, h2⟩ := h2
  rw [gC] at g'
  cases g'
  refine ⟨rfl, ?_⟩
  unfold xFld at h3
  split at h3
  · rename_i g x
    split at h3
    · rename_i hg
      cases h3
      obtain ⟨dd, vs, rfl, q1, q2⟩ := h2
      cases q2 with
      | @cons p _ _ _ r1 r2 =>
        cases r2
        obtain ⟨p1, p2⟩ := p
        obtain ⟨rfl, r1⟩ := r1
        dsimp only at hg
        subst hg
        exact ⟨dd, _, p2, rfl, q1, by simp [List.lookup], h4 _ r1⟩
    · cases h3
  · cases h3
theorem at_is {C : Addr} {b : String} {v : Bool} (gC : mg nm = some (.ref C)) (hk : PySem.W.kitOne K (.ref C) (.type b) = some v) : AtOk K mg i nm (fun a cls d => tCB (tIsX K a C cls d) (tCons (tVar i) (tCons (tC (.ty b)) tNil))) (xC (.bool v)) := fun a cls d fs y W H σ Q h1 h2 h3 h4 => by
  cases h3
  refine ⟨_, h1, ?_⟩
  obtain ⟨C', g', rfl, h2⟩ := h2
  rw [gC] at g'
  cases g'
  refine ⟨.ty b, .type b, v, rfl, fun u hu => hu, rfl, hk, fun dd hd => ?_, h4 _ (.bl v)⟩
  subst hd
  cases fs with
  | none => cases h2
  | some fs =>
    obtain ⟨d2, vs, e, q1, _⟩ := h2
    cases e
    exact ⟨vs, q1⟩
theorem ats_nil : AtsOk K mg i nm (fun _ _ _ => tNil) xNil := fun a cls d fs y W H σ Q h1 h2 h3 h4 => by
  cases h3
  exact h4 _ .nil
theorem ats_cons {t : Addr → Value → Option Addr → TE} {r : Addr → Value → Option Addr → TA} {x : Fds → Option PyData} {xr : Fds → Option (List PyData)} (h : AtOk K mg i nm t x) (hr : AtsOk K mg i nm r xr) : AtsOk K mg i nm (fun a cls d => tCons (t a cls d) (r a cls d)) (xCons x xr) := fun a cls d fs y W H σ Q h1 h2 h3 h4 => by
  unfold xCons at h3
  split at h3
  · rename_i z zs e1 e2
    cases h3
    exact h a cls d fs z W H σ _ h1 h2 e1 fun v r1 => hr a cls d fs zs W H σ _ h1 h2 e2 fun vs r2 => h4 _ (.cons r1 r2)
  · cases h3
theorem su_lst {j : Nat} {r : Addr → Value → Option Addr → TA} {x : Fds → Option (List PyData)} (hr : AtsOk K mg i nm r x) : SuOk P w K mg E i nm (fun a cls d => tAsg (tLst (r a cls d)) (gName j)) (aSui j x) := fun a cls d fs ds M σ W as H D e o h1 h2 h => by
  unfold aSui at h
  split at h
  · rename_i ys hy
    split at h
    · rename_i hl
      refine hr a cls d fs ys W H σ _ h1 h2 hy fun vs rv => ⟨by rw [DqAll.len rv]; exact sz_le hl, fun p hp => ?_⟩
      have gn := o.newW hp (.lst vs)
      exact h _ _ _ _ gn ((gn.env e).set (.lst upd_same (DqAll.up gn.same rv)))
    · exact h.elim
  · exact h.elim
inductive ClsRel (P : Program) (w : World) (K : PySem.W.Frag) (mg : Str → Option Value) (E : XK) (errs : List Str) : List Cl → List (Str × Nat × (Fds → AEnv → ASto → Out)) → Prop
  | nil : ClsRel P w K mg E errs [] []
  | cons {x : Str} {C : Addr} {i : Nat} {t : Addr → Value → Option Addr → TS} {f : Fds → AEnv → ASto → Out} {l : List Cl} {m : List (Str × Nat × (Fds → AEnv → ASto → Out))} (gC : mg x = some (.ref C)) (hx : x ∈ errs) (hs : SuOk P w K mg E i x t f) (r : ClsRel P w K mg E errs l m) :
      ClsRel P w K mg E errs ((.ref C, i, t) :: l) ((x, i, f) :: m)
theorem MO.clean {D : Ends} {W : Hp} {as : List Addr} {H : Hp} {i : Nat} {o : Out} (h : MO P w K mg D E W as H (cleanO i o)) : MO P w K mg (wClean D i) E W as H o := by
  cases o with
  | nx ds M => exact fun σ' W' as' H' g e => h (σ'.set i none) W' as' H' g e.none
  | bk ds M => exact fun σ' W' as' H' g e => h (σ'.set i none) W' as' H' g e.none
  | ct ds M => exact fun σ' W' as' H' g e => h (σ'.set i none) W' as' H' g e.none
  | rt s M => exact h
  | ex e M => exact h
  | no => exact h
theorem EnvR.put_none {W : Hp} {as : List Addr} {σ : L2.St} {ds : AEnv} {i : Nat} {v : V} (e : EnvR K W as σ ds) : EnvR K W as (σ.set i (some v)) (ds.set i Option.none) := by
  refine ⟨by simp [e.1], fun j u h => ?_⟩
  rw [List.getElem?_set] at h
  by_cases hij : i = j
  · rw [if_pos hij] at h
    split at h <;> cases h
  · rw [if_neg hij] at h
    obtain ⟨v', h1, h2⟩ := e.2 j u h
    exact ⟨v', by rw [List.getElem?_set, if_neg hij]; exact h1, h2⟩
theorem cls_run {errs : List Str} (hE : ExmOk K mg errs) {Wout : WX} {D : Ends} {W : Hp} {as : List Addr} {M : ASto} {H : Hp} {σ : L2.St} {ds : AEnv} {e : AErr} {cls : Value} {d : Option Addr} (o : Own P w K W as M H) (en : EnvR K W as σ ds) (er : ErrRel K mg W H e cls d) :
    ∀ {l : List Cl} {m : List (Str × Nat × (Fds → AEnv → ASto → Out))}, ClsRel P w K mg E errs l m → MO P w K mg D E W as H (aCls errs m e ds M) → wCls K Wout D l cls d σ H
  | _, _, .nil, h => h.elim
  | _, _, .cons (x := x) (C := C) (i := i) (t := t) (f := f) gC hx hs r, h => by
    unfold aCls at h
    split at h
    · rename_i hin
      have hin' : e.nm ∈ errs := by simpa using hin
      obtain ⟨C1, C2, g1, g2, hex⟩ := hE _ hin' _ hx
      have er' := er
      obtain ⟨C3, g3, rfl, _⟩ := er
      rw [g1] at g3
      cases g3
      rw [gC] at g2
      cases g2
      refine ⟨_, hex, fun hb a ha => ?_, fun hb => ?_⟩
      · rw [if_pos hb] at h
        split at h
        · rename_i hi
          have hnm : e.nm = x := by simpa using hb
          refine hs a _ d e.fs _ M _ W as H _ en.put_none o (by rw [List.getElem?_set, if_pos rfl, if_pos (by rw [en.1]; exact hi)]) ?_ h.clean
          rw [← hnm]
          exact er'
        · exact h.elim
      · rw [if_neg (by rw [hb]; decide)] at h
        exact cls_run hE o en er' r h
    · exact h.elim
theorem ss_try {errs : List Str} (hE : ExmOk K mg errs) {Wout : WX} {F : List Sl → ASto → Res Sl} {ta : TA} {A : AEnv → ASto → Res (List Sl)} {j : Nat} {l : List Cl} {m : List (Str × Nat × (Fds → AEnv → ASto → Out))} (ha : SA P w K mg (fun _ _ _ => False) ta A) (hc : ClsRel P w K mg E errs l m) :
    SS P w K mg E (fun D σ H => tAsg (tCallS (spF P w K mg F) (WE (wCls K Wout D l)) ta) (gName j) D σ H) (aTry errs F A j m) := ⟨fun ds M σ W as H D e o h => by
  refine ha.run ds M σ W as H _ e o ?_
  unfold aTry at h
  cases q : A ds M with
  | no => rw [q] at h; exact h
  | ex x M1 => rw [q] at h; exact h.elim
  | ok ss M1 =>
    rw [q] at h
    intro vs W1 as1 H1 g1 r1
    have h1 := MO.go h g1
    refine ⟨W1, as1, M1, ss, g1.own, r1, ?_⟩
    dsimp only at h1
    cases q2 : F ss M1 with
    | no => rw [q2] at h1; exact h1
    | ok s M2 =>
      rw [q2] at h1
      exact fun v W2 as2 H2 g2 r2 => h1 _ W2 as2 H2 g2 ((g2.env (g1.env e)).set r2)
    | ex x M2 =>
      rw [q2] at h1
      exact fun cls dd W2 as2 H2 g2 er => cls_run hE g2.own (g2.env (g1.env e)) er hc (MO.go h1 g2)⟩
end
end Ab
end
section
set_option Elab.async false
set_option linter.all false
set_option maxRecDepth 100000
set_option maxHeartbeats 4000000
/-! Dicts of keys (ints, texts) as cells. -/
namespace Ab
open PySem PySem.Spec PyProof.Rows L2
def keyD : PyData → Option Key
  | .int i => some (.inl i)
  | .str x => some (.inr x)
  | _ => none
def kD : Key → PyData
  | .inl i => .int i
  | .inr x => .str x
def keyS : Sl → Option Key
  | .d x => keyD x
  | _ => none
def lkS (kvs : List (Key × Sl)) (k : Key) : Option Sl := (kvs.find? fun e => decide (e.1 = k)).map (·.2)
def putS (kvs : List (Key × Sl)) (k : Key) (v : Sl) : List (Key × Sl) := if (kvs.any fun e => decide (e.1 = k)) = true then kvs.map (fun e => if e.1 = k then (e.1, v) else e) else kvs ++ [(k, v)]
def mergeS (kvs more : List (Key × Sl)) : List (Key × Sl) := more.foldl (fun acc e => putS acc e.1 e.2) kvs
def aDNew : AEnv → ASto → Res Sl := fun _ M => .ok (.r M.length) (M ++ [.dct []])
def aDisp1 (A B : AEnv → ASto → Res Sl) : AEnv → ASto → Res Sl := fun ds M => (A ds (M ++ [.dct []])).bind fun x M1 => (B ds M1).bind fun y M2 => match keyS x, M2[M.length]? with
  | some k, some (.dct []) => .ok (.r M.length) (M2.set M.length (.dct [(k, y)]))
  | _, _ => .no
def isDc (M : ASto) : Sl → Bool
  | .r n => match M[n]? with
    | some (.dct _) => true
    | _ => false
  | _ => false
def dctAt (M : ASto) : Sl → Option (Nat × List (Key × Sl))
  | .r n => match M[n]? with
    | some (.dct kvs) => some (n, kvs)
    | _ => none
  | _ => none
def aSetd (A B C : AEnv → ASto → Res Sl) : AEnv → ASto → Res Sl := fun ds M => (A ds M).bind fun s M1 => if isDc M1 s = true then (B ds M1).bind fun x M2 => (C ds M2).bind fun y M3 => match dctAt M3 s, keyS x with
    | some (n, kvs), some k => if kvs.length < 100000 then match lkS kvs k with
        | some v => .ok v M3
        | none => .ok y (M3.set n (.dct (putS kvs k y)))
      else .no
    | _, _ => .no
  else .no
def aGet2 (A B C : AEnv → ASto → Res Sl) : AEnv → ASto → Res Sl := fun ds M => (A ds M).bind fun s M1 => if isDc M1 s = true then (B ds M1).bind fun x M2 => (C ds M2).bind fun y M3 => match dctAt M3 s, keyS x with
    | some (_, kvs), some k => .ok ((lkS kvs k).getD y) M3
    | _, _ => .no
  else .no
def aInK (neg : Bool) (A B : AEnv → ASto → Res Sl) : AEnv → ASto → Res Sl := fun ds M => (A ds M).bind fun x M1 => (B ds M1).bind fun s M2 => match dctAt M2 s, keyS x with
  | some (_, kvs), some k => .ok (.d (.bool (if neg = true then !(lkS kvs k).isSome else (lkS kvs k).isSome))) M2
  | _, _ => .no
def aDGet (A B : AEnv → ASto → Res Sl) : AEnv → ASto → Res Sl := fun ds M => (A ds M).bind fun s M1 => (B ds M1).bind fun x M2 => match dctAt M2 s, keyS x with
  | some (_, kvs), some k => match lkS kvs k with
    | some v => .ok v M2
    | none => .no
  | _, _ => .no
/-- pairs (key, value) as data -/
def pairsD : List PyData → Option (List (Key × Sl))
  | [] => some []
  | .tuple [k, v] :: r => match keyD k, pairsD r with
    | some k, some r => some ((k, .d v) :: r)
    | _, _ => none
  | _ => none
def aDictT : List Sl → ASto → Res Sl := fun ss M => match ss with
  | [.d (.tuple xs)] => match pairsD xs with
    | some ps => if xs.length ≤ 100000 then .ok (.r M.length) (M ++ [.dct (mergeS [] ps)]) else .no
    | none => .no
  | _ => .no
section
variable {P : Program} {w : World} {K : PySem.W.Frag} {mg : Str → Option Value} {E : XK}
abbrev RD (K : PySem.W.Frag) (W : Hp) (as : List Addr) : Key × V → Key × Sl → Prop := fun e s => e.1 = s.1 ∧ SlRel K W as e.2 s.2
theorem keyD_rel {W : Hp} {v : V} {d : PyData} {k : Key} (r : Dq K W v d) (h : keyD d = some k) : v = kV k := by
  cases r <;> cases h <;> rfl
theorem keyS_rel {W : Hp} {as : List Addr} {v : V} {s : Sl} {k : Key} (r : SlRel K W as v s) (h : keyS s = some k) : v = kV k := by
  cases s with
  | d x => exact keyD_rel r h
  | r n => cases h
  | s n => cases h
theorem kD_rel {W : Hp} (k : Key) : Dq K W (kV k) (kD k) := by
  cases k with
  | inl i => exact .int i
  | inr x => exact .str x
theorem lk_rel {W : Hp} {as : List Addr} {k : Key} : ∀ {es : List (Key × V)} {kvs : List (Key × Sl)}, Paired (RD K W as) es kvs → match lkS kvs k with
    | some s => ∃ v, valV es k = some v ∧ SlRel K W as v s
    | none => valV es k = none
  | _, _, .nil => rfl
  | _, _, .cons (a := e) (b := s) (l₁ := es) (l₂ := kvs) h t => by
    obtain ⟨k1, v1⟩ := e
    obtain ⟨k2, s2⟩ := s
    obtain ⟨rfl, rv⟩ := h
    by_cases hk : k1 = k
    · rw [show lkS ((k1, s2) :: kvs) k = some s2 by simp [lkS, hk], valV_pos hk]
      exact ⟨v1, rfl, rv⟩
    · rw [show lkS ((k1, s2) :: kvs) k = lkS kvs k by simp [lkS, hk], valV_neg hk]
      exact lk_rel t
theorem any_rel {W : Hp} {as : List Addr} {k : Key} : ∀ {es : List (Key × V)} {kvs : List (Key × Sl)}, Paired (RD K W as) es kvs → (es.any fun e => decide (e.1 = k)) = (kvs.any fun e => decide (e.1 = k))
  | _, _, .nil => rfl
  | _, _, .cons h t => by rw [List.any_cons, List.any_cons, any_rel t, h.1]
theorem map_rel {W : Hp} {as : List Addr} {k : Key} {v : V} {s : Sl} (rv : SlRel K W as v s) : ∀ {es : List (Key × V)} {kvs : List (Key × Sl)}, Paired (RD K W as) es kvs →
    Paired (RD K W as) (es.map fun e => if e.1 = k then (e.1, v) else e) (kvs.map fun e => if e.1 = k then (e.1, s) else e)
  | _, _, .nil => .nil
  | _, _, .cons (a := e) (b := u) h t => by
    obtain ⟨k1, v1⟩ := e
    obtain ⟨k2, s2⟩ := u
    obtain ⟨rfl, r1⟩ := h
    refine .cons ?_ (map_rel rv t)
    dsimp only
    by_cases hk : k1 = k
    · rw [if_pos hk, if_pos hk]; exact ⟨rfl, rv⟩
    · rw [if_neg hk, if_neg hk]; exact ⟨rfl, r1⟩
theorem put_rel {W : Hp} {as : List Addr} {k : Key} {v : V} {s : Sl} {es : List (Key × V)} {kvs : List (Key × Sl)} (r : Paired (RD K W as) es kvs) (rv : SlRel K W as v s) : Paired (RD K W as) (putK es k v) (putS kvs k s) := by
  unfold putK putS
  rw [any_rel r]
  split
  · exact map_rel rv r
  · exact Paired.app r (.cons ⟨rfl, rv⟩ .nil)
theorem merge_rel {W : Hp} {as : List Addr} : ∀ {more : List (Key × V)} {ms : List (Key × Sl)} {es : List (Key × V)} {kvs : List (Key × Sl)}, Paired (RD K W as) more ms → Paired (RD K W as) es kvs → Paired (RD K W as) (mergeK es more) (mergeS kvs ms) := by
  intro more ms es kvs r
  induction r generalizing es kvs with
  | nil => exact fun q => q
  | @cons e s more ms h t ih =>
    intro q
    obtain ⟨k1, v1⟩ := e
    obtain ⟨k2, s2⟩ := s
    obtain ⟨rfl, rv⟩ := h
    exact ih (put_rel q rv)
theorem Own.dctAt {W : Hp} {as : List Addr} {M : ASto} {H : Hp} {s : Sl} {v : V} {n : Nat} {kvs : List (Key × Sl)} (o : Own P w K W as M H) (r : SlRel K W as v s) (h : dctAt M s = some (n, kvs)) :
    ∃ a es, s = .r n ∧ v = .ref a ∧ as[n]? = some a ∧ M[n]? = some (.dct kvs) ∧ W a = none ∧ H a = some (.dK es) ∧ Paired (RD K W as) es kvs := by
  cases s with
  | d x => cases h
  | s n => cases h
  | r m =>
    dsimp only [Ab.dctAt] at h
    split at h
    · rename_i kvs' hn
      cases h
      obtain ⟨a, ha, rfl⟩ := r
      obtain ⟨h0, es, h1, h2⟩ := o.cell n a _ ha hn
      exact ⟨a, es, rfl, rfl, ha, hn, h0, h1, h2⟩
    · cases h
theorem Own.isDc {W : Hp} {as : List Addr} {M : ASto} {H : Hp} {s : Sl} {v : V} (o : Own P w K W as M H) (r : SlRel K W as v s) (h : isDc M s = true) : ∃ a, v = .ref a ∧ IsD H a := by
  cases s with
  | d x => cases h
  | s n => cases h
  | r m =>
    dsimp only [Ab.isDc] at h
    split at h
    · rename_i kvs hn
      obtain ⟨a, ha, rfl⟩ := r
      obtain ⟨h0, es, h1, h2⟩ := o.cell m a _ ha hn
      exact ⟨a, rfl, .inl ⟨es, .inl h1⟩⟩
    · cases h
theorem MG.newC {E : XK} {Q : VK} {W : Hp} {as : List Addr} {H : Hp} {M : ASto} {c : Cell} {x : HO} {p : Addr} (h : MG P w K mg (rSl K) Q E W as H (.ok (.r M.length) (M ++ [c]))) (o : Own P w K W as M H) (hp : H p = none) (hc : CellOk P w K W (as ++ [p]) (upd H p x) p c) : Q (.ref p) (upd H p x) := by
  refine h (.ref p) _ _ _ (o.newC hp hc) ⟨p, ?_, rfl⟩
  rw [← o.len, List.getElem?_append_right (Nat.le_refl _)]
  simp
theorem se_dnew : SE P w K mg E tDNewK aDNew := ⟨fun ds M σ W as H Q e o h p hp => h.newC o hp ⟨o.noW hp, [], upd_same, .nil⟩⟩
theorem se_disp1 {tk tv : TE} {A B : AEnv → ASto → Res Sl} (ha : SE P w K mg E tk A) (hb : SE P w K mg E tv B) : SE P w K mg E (tDisp [(tk, tv)]) (aDisp1 A B) := ⟨fun ds M σ W as H Q e o h p hp => by
  have g0 := o.newC hp (x := .dK []) (c := .dct []) ⟨o.noW hp, [], upd_same, .nil⟩
  have hp0 : (as ++ [p])[M.length]? = some p := by rw [← o.len, List.getElem?_append_right (Nat.le_refl _)]; simp
  refine ha.run ds _ σ W _ _ _ (g0.env e) g0.own (MG.bind (h.go g0) fun x M1 _ v W1 as1 H1 g1 r1 h1 => hb.run ds M1 σ W1 as1 H1 _ (g1.env (g0.env e)) g1.own (MG.bind h1 fun y M2 _ u W2 as2 H2 g2 r2 h2 => ?_))
  split at h2
  · rename_i k hk hM
    have hp2 := g2.nth (g1.nth hp0)
    obtain ⟨q0, es, q1, q2⟩ := g2.own.cell _ _ _ hp2 hM
    cases q2
    obtain rfl := keyS_rel r1 hk
    refine ⟨q1, [(k, u)], rfl, by show 1 ≤ 15; decide, ?_⟩
    exact MG.set (v := .ref p) h2 g2.own hp2 hM q0 ⟨q0, [(k, u)], upd_same, .cons ⟨rfl, r2⟩ .nil⟩ ⟨p, hp2, rfl⟩
  · exact h2.elim⟩
theorem se_setd {ta tb tc : TE} {A B C : AEnv → ASto → Res Sl} (ha : SE P w K mg E ta A) (hb : SE P w K mg E tb B) (hc : SE P w K mg E tc C) : SE P w K mg E (tDSetd ta tb tc) (aSetd A B C) := ⟨fun ds M σ W as H Q e o h =>
  ha.run ds M σ W as H _ e o (MG.bind h fun s M1 _ v W1 as1 H1 g1 r1 h1 => by
    split at h1
    · rename_i hd
      obtain ⟨a, rfl, hD⟩ := g1.own.isDc r1 hd
      refine ⟨a, rfl, hD, hb.run ds M1 σ W1 as1 H1 _ (g1.env e) g1.own (MG.bind h1 fun x M2 _ u W2 as2 H2 g2 r2 h2 => hc.run ds M2 σ W2 as2 H2 _ (g2.env (g1.env e)) g2.own (MG.bind h2 fun y M3 _ z W3 as3 H3 g3 r3 h3 => ?_))⟩
      split at h3
      · rename_i n kvs k e1 e2
        split at h3
        · rename_i hl
          obtain ⟨a', es, rfl, e3, q1, q2, q3, q4, q5⟩ := g3.own.dctAt (g3.rel (g2.rel r1)) e1
          cases e3
          obtain rfl := keyS_rel r2 e2
          have lk := lk_rel (k := k) q5
          refine ⟨es, k, q4, rfl, by rw [Paired.len q5]; exact Nat.lt_of_lt_of_le hl (by decide), fun v hv => ?_, fun hv => ?_⟩
          · split at h3
            · rename_i s' hs
              rw [hs] at lk
              obtain ⟨v', l1, l2⟩ := lk
              rw [hv] at l1
              cases l1
              exact h3.now g3.own l2
            · rename_i hs
              rw [hs] at lk
              rw [hv] at lk
              cases lk
          · split at h3
            · rename_i s' hs
              rw [hs] at lk
              obtain ⟨v', l1, l2⟩ := lk
              rw [hv] at l1
              cases l1
            · exact MG.set (v := z) h3 g3.own q1 q2 q3 ⟨q3, _, upd_same, put_rel q5 r3⟩ r3
        · exact h3.elim
      · exact h3.elim
    · exact h1.elim)⟩
theorem dget_rel {W : Hp} {as : List Addr} {H : Hp} {a : Addr} {es : List (Key × V)} {kvs : List (Key × Sl)} {k : Key} (hH : H a = some (.dK es)) (r : Paired (RD K W as) es kvs) : ∃ o, DGet H a (kV k) o ∧ match lkS kvs k with
    | some s => ∃ v, o = some v ∧ SlRel K W as v s
    | none => o = none := by
  refine ⟨valV es k, DGet.k hH, ?_⟩
  exact lk_rel r
theorem se_get2 {ta tb tc : TE} {A B C : AEnv → ASto → Res Sl} (ha : SE P w K mg E ta A) (hb : SE P w K mg E tb B) (hc : SE P w K mg E tc C) : SE P w K mg E (tDGet2 ta tb tc) (aGet2 A B C) := ⟨fun ds M σ W as H Q e o h =>
  ha.run ds M σ W as H _ e o (MG.bind h fun s M1 _ v W1 as1 H1 g1 r1 h1 => by
    split at h1
    · rename_i hd
      obtain ⟨a, rfl, hD⟩ := g1.own.isDc r1 hd
      refine ⟨a, rfl, hD, hb.run ds M1 σ W1 as1 H1 _ (g1.env e) g1.own (MG.bind h1 fun x M2 _ u W2 as2 H2 g2 r2 h2 => hc.run ds M2 σ W2 as2 H2 _ (g2.env (g1.env e)) g2.own (MG.bind h2 fun y M3 _ z W3 as3 H3 g3 r3 h3 => ?_))⟩
      split at h3
      · rename_i n kvs k e1 e2
        obtain ⟨a', es, rfl, e3, q1, q2, q3, q4, q5⟩ := g3.own.dctAt (g3.rel (g2.rel r1)) e1
        cases e3
        obtain rfl := keyS_rel r2 e2
        obtain ⟨ov, d1, d2⟩ := dget_rel (k := k) q4 q5
        refine ⟨ov, d1, ?_⟩
        split at d2
        · rename_i s' hs
          obtain ⟨v, rfl, rv⟩ := d2
          rw [hs] at h3
          exact h3.now g3.own rv
        · rename_i hs
          subst d2
          rw [hs] at h3
          exact h3.now g3.own r3
      · exact h3.elim
    · exact h1.elim)⟩
theorem se_dget {ta tb : TE} {A B : AEnv → ASto → Res Sl} (ha : SE P w K mg E ta A) (hb : SE P w K mg E tb B) : SE P w K mg E (tDGet ta tb) (aDGet A B) := ⟨fun ds M σ W as H Q e o h =>
  ha.run ds M σ W as H _ e o (MG.bind h fun s M1 _ v W1 as1 H1 g1 r1 h1 => hb.run ds M1 σ W1 as1 H1 _ (g1.env e) g1.own (MG.bind h1 fun x M2 _ u W2 as2 H2 g2 r2 h2 => by
    split at h2
    · rename_i n kvs k e1 e2
      obtain ⟨a, es, rfl, rfl, q1, q2, q3, q4, q5⟩ := g2.own.dctAt (g2.rel r1) e1
      obtain rfl := keyS_rel r2 e2
      obtain ⟨ov, d1, d2⟩ := dget_rel (k := k) q4 q5
      split at d2
      · rename_i s' hs
        obtain ⟨v, rfl, rv⟩ := d2
        rw [hs] at h2
        exact ⟨a, v, rfl, d1, h2.now g2.own rv⟩
      · rename_i hs
        rw [hs] at h2
        exact h2.elim
    · exact h2.elim))⟩
theorem se_inK (neg : Bool) {ta tb : TE} {A B : AEnv → ASto → Res Sl} (ha : SE P w K mg E ta A) (hb : SE P w K mg E tb B) : SE P w K mg E (if neg = true then tDNotIn ta tb else tDIn ta tb) (aInK neg A B) := ⟨fun ds M σ W as H Q e o h => by
  have key : ta σ H fun y H1 => tb σ H1 fun x H2 => ∃ a ov, x = .ref a ∧ DGet H2 a y ov ∧ Q (.bl (if neg = true then !ov.isSome else ov.isSome)) H2 :=
    ha.run ds M σ W as H _ e o (MG.bind h fun x M1 _ v W1 as1 H1 g1 r1 h1 => hb.run ds M1 σ W1 as1 H1 _ (g1.env e) g1.own (MG.bind h1 fun s M2 _ u W2 as2 H2 g2 r2 h2 => by
      split at h2
      · rename_i n kvs k e1 e2
        obtain ⟨a, es, rfl, rfl, q1, q2, q3, q4, q5⟩ := g2.own.dctAt r2 e1
        obtain rfl := keyS_rel r1 e2
        obtain ⟨ov, d1, d2⟩ := dget_rel (k := k) q4 q5
        refine ⟨a, ov, rfl, d1, ?_⟩
        split at d2
        · rename_i s' hs
          obtain ⟨v, rfl, rv⟩ := d2
          rw [hs] at h2
          exact h2.now g2.own (.bl _)
        · rename_i hs
          subst d2
          rw [hs] at h2
          exact h2.now g2.own (.bl _)
      · exact h2.elim))
  cases neg with
  | true => exact key
  | false => exact key⟩
end
/-! ### dict(t), t a tuple of pairs -/
section
variable {X : Cx} {pins : List (Addr × Obj)} {σ : L2.St} {H : Hp} {s : Shared}
theorem pairs2 (I : Inv X pins σ H s) : ∀ {ps : List Addr} {kvs : List (Key × V)}, Paired (fun p kv => SqT X.K H p [kV kv.1, kv.2]) ps kvs →
    ∃ (prs : List (Key × Value)) (pv : List (Value × Value)), KV kvs prs ∧ prs.length = ps.length ∧ pv.length = ps.length ∧ ∀ (j : Nat) (k v : Value), pv[j]? = some (k, v) → ∃ (b : Addr) (kk : Key), ps[j]? = some b ∧ prs[j]? = some (kk, v) ∧ IsTup s.heap b #[k, v] ∧ keyIs kk k = true
  | _, _, .nil => ⟨[], [], .nil, rfl, rfl, fun j k v e => by simp at e⟩
  | _, _, .cons (a := p) (b := kv) h t => by
    obtain ⟨prs, pv, r, h1, h2, h3⟩ := pairs2 I t
    obtain ⟨its, rv, ht, _⟩ := I.tuple h
    obtain ⟨u, y, rfl, ru, ry⟩ := vals2 rv
    refine ⟨(kv.1, y) :: prs, (u, y) :: pv, .cons ⟨rfl, ry⟩ r, by simp [h1], by simp [h2], fun j k v e => ?_⟩
    cases j with
    | zero =>
      cases e
      exact ⟨p, kv.1, rfl, rfl, ht, kV_is (P := X.prog) (w := X.w) ru⟩
    | succ j =>
      obtain ⟨b, kk, e1, e2, e3, e4⟩ := h3 j k v (by simpa using e)
      exact ⟨b, kk, by simpa using e1, by simpa using e2, e3, e4⟩
def rDictTN (K : PySem.W.Frag) : List V → Hp → VK → Prop := fun xs H Q => ∃ (a : Addr) (ob : Obj) (ps : List Addr) (kvs : List (Key × V)), xs = [.ref a] ∧ H a = some (.frz ob (.tup (ps.map V.ref))) ∧ ob.dict = none ∧ Paired (fun p kv => SqT K H p [kV kv.1, kv.2]) ps kvs ∧
  ∀ p, H p = none → Q (.ref p) (upd H p (.dK (mergeK [] kvs)))
theorem crDictTN (hc : X.calm = true) : CallR X (.type "dict") (rDictTN X.K) := by
  rintro pins s σ H xs us Q I r ⟨a, ob, ps, kvs, rfl, hH, hn, hp, q⟩
  obtain ⟨u, rfl, rx⟩ := vals1 r
  obtain rfl : u = Value.ref a := rx
  obtain ⟨ho, hz, its, rv, o2, ho2, hcl, n, hdat⟩ := (show ObjOk X.prog X.w H s.heap a (.frz ob (.tup (ps.map V.ref))) from I.hok a _ hH)
  rw [ho] at ho2
  cases ho2
  obtain rfl := refs_at rv
  rw [List.length_map] at hz
  obtain ⟨prs, pv, rel, h1, h2, h3⟩ := pairs2 I hp
  refine PySem.call_dict_pairs (knd := mixKind X.prog X.w) (kvs := prs) (PairArg.tuple a (ps.map Value.ref).toArray (fun j => ps.getD j 0) pv) (I.ok.hd hc) ⟨⟨ob, n, ho, hcl, hn, hdat⟩, by simp [h2], fun j k v e => ?_⟩ ⟨by rw [h1, h2], fun j k v e => ?_⟩ (by rw [h2]; exact hz) fun h' tk hd' k => ?_
  · obtain ⟨b, kk, e1, e2, e3, e4⟩ := h3 j k v e
    have hb : ps.getD j 0 = b := by simp [e1]
    refine ⟨by simp [e1], .inl ?_⟩
    show s.heap.IsTuple (ps.getD j 0) #[k, v]
    rw [hb]
    exact e3
  · obtain ⟨b, kk, e1, e2, e3, e4⟩ := h3 j k v e
    exact ⟨kk, e2, e4⟩
  · have hm : (s.heap.objs.size == sysModules) = false := beq_eq_false_iff_ne.mpr (Nat.ne_of_gt I.big)
    have hl : (mergeK [] kvs).length ≤ sizeLine := Nat.le_trans (length_mergeK kvs []) (by rw [List.length_nil, Nat.zero_add, rel.length, h1]; exact hz)
    exact ⟨.ref s.heap.objs.size, _, I.laid (t' := tk) (fun b o e => k b o (by simp) e) (Nat.le_refl _) (show ObjOk X.prog X.w _ _ _ (.dK (mergeK [] kvs)) from ⟨hl, hm, merged [] prs, KV.merge rel .nil, hd'⟩), rfl, q _ (I.hok.fresh (Nat.le_refl _))⟩
end
section
variable {P : Program} {w : World} {K : PySem.W.Frag} {mg : Str → Option Value} {E : XK}
theorem pairsD_rel {W H : Hp} {as : List Addr} {M : ASto} (o : Own P w K W as M H) : ∀ {xs : List PyData} {ms : List (Key × Sl)} {vs : List V}, DqAll K W vs xs → pairsD xs = some ms → ∃ (ps : List Addr) (kvs : List (Key × V)), vs = ps.map V.ref ∧ Paired (fun p kv => SqT K H p [kV kv.1, kv.2]) ps kvs ∧ Paired (RD K W as) kvs ms
  | [], _, _, .nil, h => by
    cases h
    exact ⟨[], [], rfl, .nil, .nil⟩
  | x :: xs, ms, _, .cons (v := v) (vs := vs) h t, e => by
    unfold pairsD at e
    split at e
    · rename_i hx; cases hx
    · rename_i k y r hx
      cases hx
      split at e
      · rename_i kk rr e1 e2
        cases e
        obtain ⟨ps, kvs, rfl, h1, h2⟩ := pairsD_rel o t e2
        cases h with
        | @tup a ob us _ hs hn hd =>
          cases hd with
          | @cons v1 _ _ _ d1 hd =>
            cases hd with
            | @cons v2 _ _ _ d2 hd =>
              cases hd
              obtain rfl := keyD_rel d1 e1
              exact ⟨a :: ps, (kk, v2) :: kvs, rfl, .cons (o.tup (.inr ⟨_, hs⟩)) h1, .cons ⟨rfl, d2⟩ h2⟩
      · cases e
    · cases e
theorem scDictT : SC P w K mg (rDictTN K) aDictT := by
  intro M W as H x s Q E o rx m
  unfold aDictT at m
  split at m
  · rename_i xs
    obtain ⟨v, rfl, r⟩ := one_of rx
    split at m
    · rename_i ms hm
      split at m
      · cases r with
        | @tup a ob vs _ hs hn hd =>
          obtain ⟨ps, kvs, rfl, h1, h2⟩ := pairsD_rel o hd hm
          exact ⟨a, ob, ps, kvs, rfl, o.sub _ _ hs, hn, h1, fun p hp => m.newC o hp ⟨o.noW hp, _, upd_same, by
            have := merge_rel h2 (K := K) (W := W) (as := as) .nil
            exact Paired.imp' (fun a b q => ⟨q.1, SlRel.up (Same.refl W) q.2⟩) this⟩⟩
      · exact m.elim
    · exact m.elim
  · exact m.elim
end
end Ab
end
section
set_option Elab.async false
set_option linter.all false
set_option maxRecDepth 100000
set_option maxHeartbeats 4000000
/-! Calls by names alone; several comparisons in a row; dicts that are walked. -/
namespace Ab
open PySem PySem.Spec PyProof.Rows L2
def pick {α : Type} (z : α) (pm : List Nat) (xs : List α) : List α := pm.map fun i => xs.getD i z
def gP (n : Nat) (pm : List Nat) (us ws : List Value) : List Value := if us.isEmpty = true ∧ ws.length = n then pick .none pm ws else []
def gPV (n : Nat) (pm : List Nat) (vs zs : List V) : List V := if vs.isEmpty = true ∧ zs.length = n then pick .non pm zs else []
theorem vals_getD : ∀ {zs : List V} {ws : List Value} (i : Nat), Vals zs ws → RelV (zs.getD i .non) (ws.getD i .none)
  | _, _, i, .nil => by
    rw [List.getD_nil, List.getD_nil]
    rfl
  | _, _, 0, .cons r _ => r
  | _, _, i + 1, .cons _ t => by
    rw [List.getD_cons_succ, List.getD_cons_succ]
    exact vals_getD i t
theorem vals_pick {zs : List V} {ws : List Value} (h : Vals zs ws) : ∀ pm : List Nat, Vals (pick .non pm zs) (pick .none pm ws)
  | [] => .nil
  | i :: pm => .cons (vals_getD i h) (vals_pick h pm)
theorem kb_of {K : PySem.W.Frag} {x qual : Str} {st : Stmt} {f : Addr} {fd : FuncData} {ps ks : List Str} {pm : List Nat} (F : Fun K x qual st f fd) (hp : ps ≠ [])
    (h : ∀ (kV doc pm' : Value) (an : Option Addr) (cdv ct : Value) (ws : List Value), ws.length = ks.length → bindArgs (PySem.W.fnOf x qual (defArgs st) (defBody st) (defScope st) .none kV doc pm' an cdv ct) ⟨[], ks.zip ws⟩ = pure (ps.zip (pick .none pm ws))) :
    KBinds K fd ps ks (gP ks.length pm) (gPV ks.length pm) where
  to := fun s us ws _ hl => by
    obtain ⟨oc, od, kV, doc, pm', an, cdv, ct, osl, rfl, lk, hcd⟩ := F.ex
    unfold gP at hl ⊢
    split at hl
    · rename_i hh
      obtain ⟨h1, h2⟩ := hh
      rw [if_pos ⟨h1, h2⟩]
      obtain rfl : us = [] := List.isEmpty_iff.mp h1
      exact BindsTo.of_eq (h kV doc pm' an cdv ct ws h2)
    · exact absurd (List.length_eq_zero_iff.mp hl.symm) hp
  rel := fun {vs us zs ws} r rz => by
    unfold gP gPV
    have e1 : vs.isEmpty = us.isEmpty := by cases r <;> rfl
    rw [e1, rz.length]
    split
    · exact vals_pick rz pm
    · exact .nil
section
variable {X : Cx} {CX : CXT} {k : Nat} {f : Addr} {fd : FuncData} {ps ks : List Str} {sp : Sp} {E : XK} {x : Str} {p pos : Pos} {kws : List Keyword} {tk : TA} {g : List Value → List Value → List Value} {gV : List V → List V → List V}
/-- f(a=.., b=..) -/
theorem pe_callKW (F : FnOk X.prog X.w X.K X.mg X.base CX k f fd ps sp) (hr : Room k X.A) (hg : Gl X x) (hm : X.mg x = some (.ref f)) (hk : PySem.W.keepIn X.K (.ref f) = true) (hb : KBinds X.K fd ps ks g gV) (hx : Passes CX X E)
    (hkw : PK X kws tk) (hall : (backToKw pos (keywordEach kws X.env)).all (·.1.isSome) = true := by rfl) (hks : (backToKw pos (keywordEach kws X.env)).filterMap (·.1) = ks := by rfl)
    (hdb : (x == ("__debug__" : Str)) = false := by decide) (hpl : ((backTo pos (starEach [] X.env)).any (·.1) || (backToKw pos (keywordEach kws X.env)).any (·.1.isNone)) = false := by rfl) :
    PE X (.Call (.Name x p) [] kws pos) (tCallK sp gV E tNil tk) := ⟨fun pins s σ H Q I h =>
  wpAny_Call_Name_kw (ld_glob I hg hm (PySem.W.callWith_KW0 (h₀ := X.base) I.ok.mod.kin hk hall (thn (hkw.run pos pins s σ H _ I h) fun ws s2 ⟨zs, H2, I2, rz, q2⟩ => ⟨I2.kIn, by
    rw [hks]
    exact run_fnk F hr hb hx I2 .nil rz q2⟩) hpl) hdb)⟩
end
section
variable {P : Program} {w : World} {K : PySem.W.Frag} {mg : Str → Option Value} {E : XK}
theorem rel_getD {W : Hp} {as : List Addr} : ∀ {vs : List V} {ss : List Sl} (i : Nat), Paired (SlRel K W as) vs ss → SlRel K W as (vs.getD i .non) (ss.getD i (.d .none))
  | _, _, i, .nil => by
    rw [List.getD_nil, List.getD_nil]
    exact Dq.non
  | _, _, 0, .cons r _ => r
  | _, _, i + 1, .cons _ t => by
    rw [List.getD_cons_succ, List.getD_cons_succ]
    exact rel_getD i t
theorem rel_pick {W : Hp} {as : List Addr} {vs : List V} {ss : List Sl} (h : Paired (SlRel K W as) vs ss) : ∀ pm : List Nat, Paired (SlRel K W as) (pick .non pm vs) (pick (.d .none) pm ss)
  | [] => .nil
  | i :: pm => .cons (rel_getD i h) (rel_pick h pm)
def aKw (n : Nat) (pm : List Nat) (F : List Sl → ASto → Res Sl) : List Sl → ASto → Res Sl := fun ss M => if ss.length = n then F (pick (.d .none) pm ss) M else .no
theorem se_callKW {F : List Sl → ASto → Res Sl} {n : Nat} {pm : List Nat} {ta : TA} {A : AEnv → ASto → Res (List Sl)} (ha : SA P w K mg E ta A) : SE P w K mg E (tCallK (spF P w K mg F) (gPV n pm) E tNil ta) (aCall (aKw n pm F) A) := ⟨fun ds M σ W as H Q e o h =>
  ha.run ds M σ W as H _ e o (MG.bind h fun ss M1 _ vs W1 as1 H1 g1 r1 h1 => by
    unfold aKw at h1
    split at h1
    · rename_i hl
      refine ⟨W1, as1, M1, _, g1.own, ?_, h1⟩
      unfold gPV
      rw [if_pos ⟨rfl, by rw [Paired.len r1]; exact hl⟩]
      exact rel_pick r1 pm
    · exact h1.elim)⟩
theorem se_callKW0 {F : List Sl → ASto → Res Sl} {n : Nat} {pm : List Nat} {ta : TA} {A : AEnv → ASto → Res (List Sl)} (ha : SA P w K mg E ta A) : SE P w K mg E (tCallK (spF P w K mg F) (gPV n pm) E0 tNil ta) (aCall0 (aKw n pm F) A) := ⟨fun ds M σ W as H Q e o h =>
  ha.run ds M σ W as H _ e o (MG.bind h fun ss M1 _ vs W1 as1 H1 g1 r1 h1 => by
    unfold aKw at h1
    split at h1
    · rename_i hl
      refine ⟨W1, as1, M1, pick (.d .none) pm ss, g1.own, ?_, ?_⟩
      · unfold gPV
        rw [if_pos ⟨rfl, by rw [Paired.len r1]; exact hl⟩]
        exact rel_pick r1 pm
      · cases q : F (pick (.d .none) pm ss) M1 with
        | ok s M2 => rw [q] at h1; exact h1
        | ex e M2 => rw [q] at h1; exact h1.elim
        | no => rw [q] at h1; exact h1.elim
    · exact h1.elim)⟩
end
end Ab
end
section
set_option Elab.async false
set_option linter.all false
set_option maxRecDepth 100000
set_option maxHeartbeats 4000000
/-! Dicts that are walked: locked meanwhile. -/
namespace Ab
open PySem PySem.Spec PyProof.Rows L2
def delW (W : Hp) (a : Addr) : Hp := fun b => if b = a then none else W b
theorem delW_ne {W : Hp} {a b : Addr} (h : b ≠ a) : delW W a b = W b := if_neg h
theorem delW_same {W : Hp} {a : Addr} : delW W a a = none := if_pos rfl
def iKeysX (i n : Nat) (ks : List Key) : AEnv → ASto → Res (List Sl) := fun ds M => match ds[i]?, M[n]? with
  | some (some (.r m)), some .gone => if m = n then .ok (ks.map fun k => .d (kD k)) M else .no
  | _, _ => .no
def tKeysX (i : Nat) (es : List (Key × V)) (od : Obj) : TI := fun σ H R => ∀ a, σ[i]? = some (some (V.ref a)) → H a = some (.frz od (.dK es)) → R (Itk a od es) H
def unlM (n : Nat) (kvs : List (Key × Sl)) (M : ASto) : Option ASto := match M[n]? with
  | some .gone => some (M.set n (.dct kvs))
  | _ => none
def unlO (n : Nat) (kvs : List (Key × Sl)) : Out → Out
  | .nx ds M => match unlM n kvs M with | some M' => .nx ds M' | none => .no
  | .bk ds M => match unlM n kvs M with | some M' => .bk ds M' | none => .no
  | .ct ds M => match unlM n kvs M with | some M' => .ct ds M' | none => .no
  | .rt s M => match unlM n kvs M with | some M' => .rt s M' | none => .no
  | .ex e M => .ex e M
  | .no => .no
def unlR (n : Nat) (kvs : List (Key × Sl)) : Res Sl → Res Sl
  | .ok s M => match unlM n kvs M with | some M' => .ok s M' | none => .no
  | .ex e M => .ex e M
  | .no => .no
def aLock (i : Nat) (f : Nat → List Key → AEnv → ASto → Out) : AEnv → ASto → Out := fun ds M => match ds[i]? with
  | some (some (.r n)) => match M[n]? with
    | some (.dct kvs) => unlO n kvs (f n (kvs.map (·.1)) ds (M.set n .gone))
    | _ => .no
  | _ => .no
def aLockE (i : Nat) (f : Nat → List Key → AEnv → ASto → Res Sl) : AEnv → ASto → Res Sl := fun ds M => match ds[i]? with
  | some (some (.r n)) => match M[n]? with
    | some (.dct kvs) => unlR n kvs (f n (kvs.map (·.1)) ds (M.set n .gone))
    | _ => .no
  | _ => .no
section
variable {P : Program} {w : World} {K : PySem.W.Frag} {mg : Str → Option Value} {E : XK}
mutual
theorem Dq.less {W : Hp} {a : Addr} {od : Obj} {es : List (Key × V)} (hW : W a = some (.frz od (.dK es))) : ∀ {v : V} {d : PyData}, Dq K W v d → Dq K (delW W a) v d
  | _, _, .non => .non
  | _, _, .bl b => .bl b
  | _, _, .int i => .int i
  | _, _, .str x => .str x
  | _, _, .lst hs ha => .lst (by rw [delW_ne (fun z => by rw [z, hW] at hs; cases hs)]; exact hs) (DqAll.less hW ha)
  | _, _, .tup hs hn ha => .tup (by rw [delW_ne (fun z => by rw [z, hW] at hs; cases hs)]; exact hs) hn (DqAll.less hW ha)
theorem DqAll.less {W : Hp} {a : Addr} {od : Obj} {es : List (Key × V)} (hW : W a = some (.frz od (.dK es))) : ∀ {vs : List V} {ds : List PyData}, DqAll K W vs ds → DqAll K (delW W a) vs ds
  | _, _, .nil => .nil
  | _, _, .cons h t => .cons (Dq.less hW h) (DqAll.less hW t)
end
theorem SlRel.less {W : Hp} {as : List Addr} {a : Addr} {od : Obj} {es : List (Key × V)} (hW : W a = some (.frz od (.dK es))) {v : V} {s : Sl} (r : SlRel K W as v s) : SlRel K (delW W a) as v s := by
  cases s with
  | d x => exact Dq.less hW r
  | r n => exact r
  | s ns =>
    obtain ⟨b, e, q⟩ := r
    refine ⟨b, e, ?_⟩
    rcases q with (q | ⟨o, q⟩) | q
    · have : b ≠ a := fun z => by rw [z, hW] at q; cases q
      exact .inl (.inl (by rw [delW_ne this]; exact q))
    · have : b ≠ a := fun z => by rw [z, hW] at q; cases q
      exact .inl (.inr ⟨o, by rw [delW_ne this]; exact q⟩)
    · exact .inr q
theorem EnvR.less {W : Hp} {as : List Addr} {a : Addr} {od : Obj} {es : List (Key × V)} (hW : W a = some (.frz od (.dK es))) {σ : L2.St} {ds : AEnv} (e : EnvR K W as σ ds) : EnvR K (delW W a) as σ ds :=
  ⟨e.1, fun i s h => let ⟨v, h1, h2⟩ := e.2 i s h; ⟨v, h1, h2.less hW⟩⟩
theorem Own.lock {W : Hp} {as : List Addr} {M : ASto} {H : Hp} (o : Own P w K W as M H) {n : Nat} {a : Addr} {c : Cell} (ha : as[n]? = some a) (hc : M[n]? = some c) (hw : W a = none) (x : HO) : Go P w K W as H (upd W a x) as (M.set n .gone) (upd H a x) := by
  have ne : ∀ {b : Addr} {u : HO}, W b = some u → b ≠ a := fun {b u} e z => by rw [z, hw] at e; cases e
  have sm : Same W (upd W a x) := fun b u e => by rw [upd_ne (ne e)]; exact e
  have am : a ∈ as := List.mem_of_getElem? ha
  refine ⟨sm, ⟨[], by simp, by simp⟩, ⟨fun b u e => ?_, by simp [o.len], o.nd, fun m b c2 h1 h2 => ?_⟩, fun b u e hb => by rw [upd_ne (fun z => hb (by rw [z]; exact am))]; exact e, fun b h => ?_⟩
  · by_cases hb : b = a
    · rw [hb, upd_same] at e ⊢
      exact e
    · rw [upd_ne hb] at e ⊢
      exact o.sub b u e
  · rw [List.getElem?_set] at h2
    by_cases hm : n = m
    · subst hm
      rw [if_pos rfl, if_pos (List.getElem?_eq_some_iff.mp hc).1] at h2
      cases h2
      rw [ha] at h1
      cases h1
      show upd W a x a ≠ none
      rw [upd_same]; simp
    · rw [if_neg hm] at h2
      have hb : b ≠ a := fun z => by
        subst z
        exact hm ((List.getElem?_inj (List.getElem?_eq_some_iff.mp ha).1 o.nd).mp (ha.trans h1.symm))
      have := (o.cell m b c2 h1 h2).up (bs := []) (H' := upd H a x) sm (upd_ne hb) (upd_ne hb)
      rwa [List.append_nil] at this
  · by_cases hb : b = a
    · exact .inr (.inl (by rw [hb]; exact am))
    · rw [upd_ne hb] at h
      exact .inl h
theorem Own.unlock {W : Hp} {as : List Addr} {M : ASto} {H : Hp} (o : Own P w K W as M H) {n : Nat} {a : Addr} {kvs : List (Key × Sl)} {es : List (Key × V)} {od : Obj} (ha : as[n]? = some a) (hw : W a = none) (hH : H a = some (.dK es)) (rel : Paired (RD K W as) es kvs)
    {W' : Hp} {as' : List Addr} {M' M2 : ASto} {H' : Hp} (g : Go P w K (upd W a (.frz od (.dK es))) as (upd H a (.frz od (.dK es))) W' as' M' H') (hM : unlM n kvs M' = some M2) :
    H' a = some (.frz od (.dK es)) ∧ W' a = some (.frz od (.dK es)) ∧ Go P w K W as H (delW W' a) as' M2 (upd H' a (.dK es)) := by
  have hW' : W' a = some (.frz od (.dK es)) := g.same _ _ upd_same
  have hH' := g.own.sub _ _ hW'
  have ne : ∀ {b : Addr} {u : HO}, W b = some u → b ≠ a := fun {b u} e z => by rw [z, hw] at e; cases e
  have sm : Same W (delW W' a) := fun b u e => by
    rw [delW_ne (ne e)]
    exact g.same _ _ (by rw [upd_ne (ne e)]; exact e)
  obtain ⟨bs, rfl, fr⟩ := g.pre
  have ha' : (as ++ bs)[n]? = some a := by
    rw [List.getElem?_append_left (List.getElem?_eq_some_iff.mp ha).1]
    exact ha
  have am : a ∈ as := List.mem_of_getElem? ha
  unfold unlM at hM
  split at hM
  · rename_i hg
    cases hM
    refine ⟨hH', hW', sm, ⟨bs, rfl, fun b m => ?_⟩, ⟨fun b u e => ?_, by simp [g.own.len], g.own.nd, fun m b c h1 h2 => ?_⟩, fun b u e hb => ?_, fun b h => ?_⟩
    · have := fr b m
      by_cases hb : b = a
      · rw [hb, upd_same] at this; cases this
      · rwa [upd_ne hb] at this
    · by_cases hb : b = a
      · rw [hb, delW_same] at e; cases e
      · rw [delW_ne hb] at e
        rw [upd_ne hb]
        exact g.own.sub b u e
    · rw [List.getElem?_set] at h2
      by_cases hm : n = m
      · subst hm
        rw [if_pos rfl, if_pos (List.getElem?_eq_some_iff.mp hg).1] at h2
        cases h2
        rw [ha'] at h1
        cases h1
        exact ⟨delW_same, es, upd_same, Paired.imp' (fun u s q => ⟨q.1, SlRel.up sm q.2⟩) rel⟩
      · rw [if_neg hm] at h2
        have hb : b ≠ a := fun z => by
          subst z
          exact hm ((List.getElem?_inj (List.getElem?_eq_some_iff.mp ha').1 g.own.nd).mp (ha'.trans h1.symm))
        have q := g.own.cell m b c h1 h2
        cases c with
        | lst xs =>
          obtain ⟨q0, vs, q1, q2⟩ := q
          exact ⟨by rw [delW_ne hb]; exact q0, vs, by rw [upd_ne hb]; exact q1, Paired.imp' (fun v s r => SlRel.less hW' r) q2⟩
        | dct ms =>
          obtain ⟨q0, vs, q1, q2⟩ := q
          exact ⟨by rw [delW_ne hb]; exact q0, vs, by rw [upd_ne hb]; exact q1, Paired.imp' (fun v s r => ⟨r.1, SlRel.less hW' r.2⟩) q2⟩
        | set ks => exact ⟨by rw [delW_ne hb]; exact q.1, by rw [upd_ne hb]; exact q.2⟩
        | gone =>
          show delW W' a b ≠ none
          rw [delW_ne hb]
          exact q
    · have hba : b ≠ a := fun z => hb (z ▸ am)
      rw [upd_ne hba]
      exact g.keep b u (by rw [upd_ne hba]; exact e) hb
    · by_cases hb : b = a
      · rw [hb, delW_same] at h
        exact absurd rfl h
      · rw [delW_ne hb] at h
        rcases g.new b h with q | q | q
        · rw [upd_ne hb] at q
          exact .inl q
        · exact .inr (.inl q)
        · rw [upd_ne hb] at q
          exact .inr (.inr q)
  · cases hM
theorem si_keysX (i n : Nat) (es : List (Key × V)) (od : Obj) : SI P w K mg (SlRel K) E (tKeysX i es od) (iKeysX i n (es.map (·.1))) := ⟨fun ds M σ W as H R e o h a h1 h2 => by
  unfold iKeysX at h
  split at h
  · rename_i m e1 e2
    split at h
    · rename_i hm
      subst hm
      obtain ⟨v, q1, b, q2, rfl⟩ := e.2 i _ e1
      rw [h1] at q1
      cases q1
      have q3 := o.cell m a _ q2 e2
      obtain ⟨u, hu⟩ := Option.ne_none_iff_exists'.mp q3
      have := o.sub _ _ hu
      rw [h2] at this
      cases this
      refine h _ W as H (Go.refl o) ⟨_, _, by rw [List.length_map, List.length_map]; exact walk_keys (d := a) (o := od) (kvs := es), fun W2 as2 M2 H2 o2 sm => o2.sub _ _ (sm _ _ hu), fun j x H1 H2 s y hs W1 bs M1 o1 sm => ?_⟩
      obtain ⟨rfl, k, v, y1, rfl⟩ := y
      rw [List.getElem?_map, List.getElem?_map, y1] at hs
      cases hs
      exact ⟨W1, Go.refl o1, kD_rel k⟩
    · exact h.elim
  · exact h.elim⟩
theorem keys_rel {W : Hp} {as : List Addr} : ∀ {es : List (Key × V)} {kvs : List (Key × Sl)}, Paired (RD K W as) es kvs → es.map (·.1) = kvs.map (·.1)
  | _, _, .nil => rfl
  | _, _, .cons q t => by rw [List.map_cons, List.map_cons, q.1, keys_rel t]
theorem lock_S {i : Nat} {t : TS} {f : Nat → List Key → AEnv → ASto → Out} (hf : ∀ n es od, ∃ t', SS P w K mg E t' (f n (es.map (·.1))) ∧ ∀ D σ H a, σ[i]? = some (some (V.ref a)) → H a = some (.frz od (.dK es)) → t' D σ H → t D σ H) : SS P w K mg E (tLock t) (aLock i f) := ⟨fun ds M σ W as H D e o h => by
  unfold aLock at h
  split at h
  · rename_i n hi
    split at h
    · rename_i kvs hn
      obtain ⟨v, hv, a, ha, rfl⟩ := e.2 i _ hi
      obtain ⟨hw, es, hH, rel⟩ := o.cell n a _ ha hn
      refine ⟨a, .dK es, hH, trivial, fun od => ?_⟩
      have gl := o.lock ha hn hw (.frz od (.dK es))
      obtain ⟨t', ht, hc⟩ := hf n es od
      refine hc _ _ _ a hv upd_same (ht.run ds _ σ _ as _ _ (gl.env e) gl.own ?_)
      rw [keys_rel rel]
      generalize f n (kvs.map (·.1)) ds (M.set n .gone) = out at h ⊢
      cases out with
      | nx ds1 M1 =>
        cases hM : unlM n kvs M1 with
        | none =>
          simp only [unlO, hM] at h
          exact (show False from h).elim
        | some M2 =>
          simp only [unlO, hM] at h
          intro σ' W' as' H' g e'
          obtain ⟨k1, k2, k3⟩ := o.unlock ha hw hH rel g hM
          exact ⟨k1, h σ' _ as' _ k3 (e'.less k2)⟩
      | bk ds1 M1 =>
        cases hM : unlM n kvs M1 with
        | none =>
          simp only [unlO, hM] at h
          exact (show False from h).elim
        | some M2 =>
          simp only [unlO, hM] at h
          intro σ' W' as' H' g e'
          obtain ⟨k1, k2, k3⟩ := o.unlock ha hw hH rel g hM
          exact ⟨k1, h σ' _ as' _ k3 (e'.less k2)⟩
      | ct ds1 M1 =>
        cases hM : unlM n kvs M1 with
        | none =>
          simp only [unlO, hM] at h
          exact (show False from h).elim
        | some M2 =>
          simp only [unlO, hM] at h
          intro σ' W' as' H' g e'
          obtain ⟨k1, k2, k3⟩ := o.unlock ha hw hH rel g hM
          exact ⟨k1, h σ' _ as' _ k3 (e'.less k2)⟩
      | rt s M1 =>
        cases hM : unlM n kvs M1 with
        | none =>
          simp only [unlO, hM] at h
          exact (show False from h).elim
        | some M2 =>
          simp only [unlO, hM] at h
          intro v W' as' H' g r'
          obtain ⟨k1, k2, k3⟩ := o.unlock ha hw hH rel g hM
          exact ⟨k1, h v _ as' _ k3 (r'.less k2)⟩
      | ex x M1 => exact MO.go (show MO P w K mg _ E W as H (.ex x M1) from h) gl
      | no => exact h.elim
    · exact h.elim
  · exact h.elim⟩
theorem lock_E {i : Nat} {t : TE} {f : Nat → List Key → AEnv → ASto → Res Sl} (hf : ∀ n es od, ∃ t', SE P w K mg E t' (f n (es.map (·.1))) ∧ ∀ Q σ H a, σ[i]? = some (some (V.ref a)) → H a = some (.frz od (.dK es)) → t' σ H Q → t σ H Q) : SE P w K mg E (tLockE t) (aLockE i f) := ⟨fun ds M σ W as H Q e o h => by
  unfold aLockE at h
  split at h
  · rename_i n hi
    split at h
    · rename_i kvs hn
      obtain ⟨v, hv, a, ha, rfl⟩ := e.2 i _ hi
      obtain ⟨hw, es, hH, rel⟩ := o.cell n a _ ha hn
      refine ⟨a, .dK es, hH, trivial, fun od => ?_⟩
      have gl := o.lock ha hn hw (.frz od (.dK es))
      obtain ⟨t', ht, hc⟩ := hf n es od
      refine hc _ _ _ a hv upd_same (ht.run ds _ σ _ as _ _ (gl.env e) gl.own ?_)
      rw [keys_rel rel]
      generalize f n (kvs.map (·.1)) ds (M.set n .gone) = out at h ⊢
      cases out with
      | ok s M1 =>
        cases hM : unlM n kvs M1 with
        | none =>
          simp only [unlR, hM] at h
          exact (show False from h).elim
        | some M2 =>
          simp only [unlR, hM] at h
          intro v W' as' H' g r'
          obtain ⟨k1, k2, k3⟩ := o.unlock ha hw hH rel g hM
          exact ⟨k1, h v _ as' _ k3 (SlRel.less k2 r')⟩
      | ex x M1 => exact MG.go (show MG P w K mg (rSl K) _ E W as H (.ex x M1) from h) gl
      | no => exact h.elim
    · exact h.elim
  · exact h.elim⟩
/-- for k in d -/
theorem ss_forK {i : Nat} {g : TG} {tb : TS} {G : Sl → AEnv → Option AEnv} {f : AEnv → ASto → Out} {tg : List Nat} (hg : SG P w K (SlRel K) g G tg) (hf : SS P w K mg E tb f) :
    SS P w K mg E (tLock (tFor (iKeys (tVar i)) g tb)) (aLock i fun n ks => aFor (iKeysX i n ks) G f) :=
  lock_S fun n es od => ⟨_, ss_for (si_keysX i n es od) hg hf, fun D σ H a h1 h2 h => ⟨.ref a, h1, a, od, rfl, .inl ⟨es, h2, h a h1 h2⟩⟩⟩
theorem se_lcK {i : Nat} {g : TG} {tt : TT} {te : TE} {G : Sl → AEnv → Option AEnv} {T : AEnv → ASto → Res Bool} {A : AEnv → ASto → Res Sl} {tg vs : List Nat} (hg : SG P w K (SlRel K) g G tg) (hv : ∀ i ∈ tg, i ∈ vs) (ht : ST P w K mg E0 tt T) (ha : SE P w K mg E0 te A) :
    SE P w K mg E (tLockE (tLc (iKeys (tVar i)) g tt te vs)) (aLockE i fun n ks => aLc (iKeysX i n ks) G T A vs) :=
  lock_E fun n es od => ⟨_, se_lc (si_keysX i n es od) hg hv ht ha, fun Q σ H a h1 h2 h => ⟨.ref a, h1, a, od, rfl, .inl ⟨es, h2, h a h1 h2⟩⟩⟩
/-- x = [.. for k in d ..] -/
theorem ss_asgLcK {i : Nat} {g g2 : TG} {tt : TT} {te : TE} {G G2 : Sl → AEnv → Option AEnv} {T : AEnv → ASto → Res Bool} {A : AEnv → ASto → Res Sl} {tg tg2 vs : List Nat} (hg : SG P w K (SlRel K) g G tg) (hv : ∀ i ∈ tg, i ∈ vs) (ht : ST P w K mg E0 tt T) (ha : SE P w K mg E0 te A) (hg2 : SG P w K (SlRel K) g2 G2 tg2) :
    SS P w K mg E (tLock (tAsg (tLc (iKeys (tVar i)) g tt te vs) g2)) (aLock i fun n ks => aAsg (aLc (iKeysX i n ks) G T A vs) G2) :=
  lock_S fun n es od => ⟨_, ss_asg (se_lc (si_keysX i n es od) hg hv ht ha) hg2, fun D σ H a h1 h2 h => ⟨.ref a, h1, a, od, rfl, .inl ⟨es, h2, h a h1 h2⟩⟩⟩
end
end Ab
end
section
set_option Elab.async false
set_option linter.all false
set_option maxRecDepth 100000
set_option maxHeartbeats 4000000
/-! {k: v for .. in ..} -/
namespace Ab
open PySem PySem.Spec PyProof.Rows L2
def aDcL (G : Sl → AEnv → Option AEnv) (T : AEnv → ASto → Res Bool) (A B : AEnv → ASto → Res Sl) (ds : AEnv) : List Sl → List (Key × Sl) → ASto → Res (List (Key × Sl))
  | [], acc, M => .ok acc M
  | x :: xs, acc, M => match G x ds with
    | none => .no
    | some ds1 => match T ds1 M with
      | .ok false M1 => aDcL G T A B ds xs acc M1
      | .ok true M1 => match A ds1 M1 with
        | .ok kx M2 => match B ds1 M2 with
          | .ok y M3 => match keyS kx with
            | some k => aDcL G T A B ds xs (putS acc k y) M3
            | none => .no
          | _ => .no
        | _ => .no
      | _ => .no
def aDc (I : AEnv → ASto → Res (List Sl)) (G : Sl → AEnv → Option AEnv) (T : AEnv → ASto → Res Bool) (A B : AEnv → ASto → Res Sl) (vs : List Nat) : AEnv → ASto → Res Sl := fun ds M =>
  (I ds M).bind fun xs M1 => if xs.length ≤ 100000 then (aDcL G T A B (wipeA ds vs) xs [] M1).bind fun kvs M2 => .ok (.r M2.length) (M2 ++ [.dct kvs]) else .no
theorem aDcL_noex {G : Sl → AEnv → Option AEnv} {T : AEnv → ASto → Res Bool} {A B : AEnv → ASto → Res Sl} {ds : AEnv} : ∀ {xs : List Sl} {acc : List (Key × Sl)} {M : ASto} {e : AErr} {M' : ASto}, aDcL G T A B ds xs acc M ≠ .ex e M'
  | [], acc, M, e, M', h => by cases h
  | x :: xs, acc, M, e, M', h => by
    unfold aDcL at h
    split at h
    · cases h
    · split at h
      · exact aDcL_noex h
      · split at h
        · split at h
          · split at h
            · exact aDcL_noex h
            · cases h
          · cases h
        · cases h
      · cases h
theorem dc_it {J : It} {n : Nat} {G : Hp → Prop} {Y : Nat → Hp → V → Hp → Prop} (w : Walk J n G Y) {g : TG} {tt : TT} {tk tv : TE} {vs : List Nat} {σ : L2.St} {H1 : Hp} {D : Addr} {Qd : Hp → Prop} (Pv : Nat → Hp → Prop) (h0 : Pv 0 (upd H1 D (.dK []))) (hG : ∀ i H, i ≤ n → Pv i H → G H)
    (hs : ∀ i x H H', i < n → Pv i H → Y i H x H' → g x (wipe σ vs) H' fun σ2 H2 => wipe σ2 vs = wipe σ vs ∧ tt σ2 H2 fun b H3 =>
      if b = true then tk σ2 H3 fun y H4 => tv σ2 H4 fun z H5 => ∃ kvs k, y = kV k ∧ H5 D = some (.dK kvs) ∧ kvs.length < sizeLine ∧ Pv (i + 1) (upd H5 D (.dK (putK kvs k z))) else Pv (i + 1) H3) (hd : ∀ H, Pv n H → Qd H) :
    ∃ W : Nat → Nat → Hp → Prop, (∃ m, W 0 m (upd H1 D (.dK []))) ∧ ∀ i m H, W i m H →
      (J.stop i H ∧ Qd H) ∨ (J.go i H ∧ ∃ Nx : Hp → Prop, (∀ H', Nx H' → ∃ m', m' < m ∧ W (i + 1) m' H') ∧ ∀ x H', J.yld i H x H' → g x (wipe σ vs) H' fun σ2 H2 => wipe σ2 vs = wipe σ vs ∧ tt σ2 H2 fun b H3 =>
        if b = true then tk σ2 H3 fun y H4 => tv σ2 H4 fun z H5 => ∃ kvs k, y = kV k ∧ H5 D = some (.dK kvs) ∧ kvs.length < sizeLine ∧ Nx (upd H5 D (.dK (putK kvs k z))) else Nx H3) :=
  ⟨fun i m H => m = n - i ∧ i ≤ n ∧ Pv i H, ⟨n, by simp, Nat.zero_le _, h0⟩, fun i m H ⟨hm, hi, p⟩ => by
    subst hm
    rcases Nat.lt_or_ge i n with hlt | hge
    · exact .inr ⟨w.goes i H hlt (hG i H hi p), Pv (i + 1), fun H' p' => ⟨n - (i + 1), by omega, rfl, hlt, p'⟩, fun x H' y => hs i x H H' hlt p (w.yields i H x H' hlt (hG i H hi p) y)⟩
    · obtain rfl : i = n := by omega
      exact .inl ⟨w.stops H (hG i H hi p), hd H p⟩⟩
section
variable {P : Program} {w : World} {K : PySem.W.Frag} {mg : Str → Option Value} {E : XK}
theorem rd_up {W W' : Hp} {as bs : List Addr} {es : List (Key × V)} {kvs : List (Key × Sl)} (sm : Same W W') (r : Paired (RD K W as) es kvs) : Paired (RD K W' (as ++ bs)) es kvs := Paired.imp' (fun _ _ q => ⟨q.1, SlRel.up sm q.2⟩) r
theorem putS_len (kvs : List (Key × Sl)) (k : Key) (v : Sl) : (putS kvs k v).length ≤ kvs.length + 1 := by
  unfold putS
  split
  · rw [List.length_map]; omega
  · simp
theorem se_dc {rel : Rl} {t : TI} {g : TG} {tt : TT} {tk tv : TE} {I : AEnv → ASto → Res (List Sl)} {G : Sl → AEnv → Option AEnv} {T : AEnv → ASto → Res Bool} {A B : AEnv → ASto → Res Sl} {tg vs : List Nat} (hi : SI P w K mg rel E t I) (hg : SG P w K rel g G tg) (hv : ∀ i ∈ tg, i ∈ vs)
    (ht : ST P w K mg E0 tt T) (ha : SE P w K mg E0 tk A) (hb : SE P w K mg E0 tv B) : SE P w K mg E (tDc t g tt tk tv vs) (aDc I G T A B vs) := ⟨fun ds M σ W as H Q e o h =>
  hi.run ds M σ W as H _ e o (MG.bind h fun items M1 _ J W1 as1 H1 g1 r1 h1 => by
    split at h1
    · rename_i hlen
      intro D hD
      obtain ⟨GG, Y, wk, hG, hY⟩ := r1
      have wD : W1 D = none := g1.own.noW hD
      have aD : D ∉ as1 := fun z => g1.own.live z hD
      obtain ⟨fin, M2, hr⟩ : ∃ fin M2, aDcL G T A B (wipeA ds vs) items [] M1 = .ok fin M2 := by
        cases q : aDcL G T A B (wipeA ds vs) items [] M1 with
        | ok ys M2 => exact ⟨ys, M2, rfl⟩
        | ex s M2 => exact absurd q aDcL_noex
        | no => rw [q] at h1; exact h1.elim
      rw [hr] at h1
      have e1 := (g1.env e).wipe vs
      refine dc_it wk (fun i H' => ∃ acc es M' W' as', Go P w K W1 as1 H1 W' as' M' H' ∧ W' D = none ∧ D ∉ as' ∧ H' D = some (.dK es) ∧ Paired (RD K W' as') es acc ∧ acc.length ≤ i ∧ aDcL G T A B (wipeA ds vs) (items.drop i) acc M' = .ok fin M2)
        ⟨[], [], M1, W1, as1, ⟨Same.refl _, ⟨[], by simp, by simp⟩, g1.own.frame wD aD, fun a u x _ => by rw [upd_ne (fun z => by rw [z, hD] at x; cases x)]; exact x, fun a x => .inl x⟩, wD, aD, upd_same, .nil, Nat.le_refl _, by simpa using hr⟩
        (fun i H' _ ⟨acc, es, M', W', as', g', _⟩ => hG W' as' M' H' g'.own g'.same) (fun i x H' H2 hi ⟨acc, es, M', W', as', g', w', a', hd, hq, hn, hr'⟩ y => ?_) (fun H' ⟨acc, es, M', W', as', g', w', a', hd, hq, hn, hr'⟩ => ?_)
      · obtain ⟨bs, rfl⟩ := g'.up
        have hs : items[i]? = some items[i] := List.getElem?_eq_getElem hi
        obtain ⟨W2, g2, rx⟩ := hY i x H' H2 items[i] y hs W' bs M' g'.own g'.same
        have keepD : ∀ {W3 : Hp} {as3 : List Addr} {M3 : ASto} {H3 : Hp}, Go P w K W' (as1 ++ bs) H' W3 as3 M3 H3 → W3 D = none ∧ D ∉ as3 ∧ H3 D = some (.dK es) ∧ Paired (RD K W3 as3) es acc := fun {W3 as3 M3 H3} g3 => by
          refine ⟨?_, ?_, g3.keep D _ hd a', ?_⟩
          · cases z : W3 D with
            | none => rfl
            | some u =>
              rcases g3.new D (by rw [z]; simp) with q | q | q
              · exact absurd w' q
              · exact absurd q a'
              · rw [hd] at q; cases q
          · obtain ⟨cs, rfl, hc⟩ := g3.pre
            intro m
            rcases List.mem_append.mp m with m | m
            · exact a' m
            · have := hc D m
              rw [hd] at this; cases this
          · obtain ⟨cs, rfl⟩ := g3.up
            exact rd_up g3.same hq
        rw [show items.drop i = items[i] :: items.drop (i + 1) from List.drop_eq_getElem_cons hi] at hr'
        unfold aDcL at hr'
        split at hr'
        · cases hr'
        · rename_i ds1 hds1
          refine hg.run _ ds1 M' (wipe σ vs) W2 (as1 ++ bs) H2 x items[i] _ (g2.env (g'.env e1)) g2.own rx hds1 fun σ3 e3 b3 => ⟨b3.wipe hv, ?_⟩
          refine ht.run ds1 M' σ3 W2 (as1 ++ bs) H2 _ e3 g2.own ?_
          split at hr'
          · rename_i M3 q
            rw [q]
            rintro b W3 as3 H3 g3 rfl
            obtain ⟨k1, k2, k3, k4⟩ := keepD (g2.trans g3)
            exact iteF ⟨acc, es, M3, W3, as3, g'.trans (g2.trans g3), k1, k2, k3, k4, by omega, hr'⟩
          · rename_i M3 q
            rw [q]
            rintro b W3 as3 H3 g3 rfl
            refine iteT (ha.run ds1 M3 σ3 W3 as3 H3 _ (g3.env e3) g3.own ?_)
            split at hr'
            · rename_i kx M4 q4
              rw [q4]
              intro kv W4 as4 H4 g4 rk
              refine hb.run ds1 M4 σ3 W4 as4 H4 _ (g4.env (g3.env e3)) g4.own ?_
              split at hr'
              · rename_i z M5 q5
                rw [q5]
                intro v W5 as5 H5 g5 rv
                split at hr'
                · rename_i k hk
                  have g25 := g2.trans (g3.trans (g4.trans g5))
                  obtain ⟨k1, k2, k3, k4⟩ := keepD g25
                  have g15 := g'.trans g25
                  have hz : acc.length < sizeLine := Nat.lt_of_le_of_lt hn (Nat.lt_of_lt_of_le (Nat.lt_of_lt_of_le hi hlen) (by decide))
                  obtain rfl := keyS_rel rk hk
                  refine ⟨es, k, rfl, k3, by rw [Paired.len k4]; exact hz, putS acc k z, putK es k v, M5, W5, as5, ?_, k1, k2, upd_same, put_rel k4 rv, Nat.le_trans (putS_len _ _ _) (by omega), hr'⟩
                  exact ⟨g15.same, g15.pre, g15.own.frame k1 k2, fun a u x1 x2 => by rw [upd_ne (fun z => by rw [z, hD] at x1; cases x1)]; exact g15.keep a u x1 x2, g15.new⟩
                · cases hr'
              · cases hr'
            · cases hr'
          · cases hr'
      · rw [List.drop_length] at hr'
        unfold aDcL at hr'
        cases hr'
        obtain ⟨bs, rfl, fr⟩ := g'.pre
        refine h1 (.ref D) W' ((as1 ++ bs) ++ [D]) H' ⟨g'.same, ⟨bs ++ [D], by rw [List.append_assoc], fun a m => ?_⟩, ⟨g'.own.sub, by have hl := g'.own.len; simp only [List.length_append, List.length_singleton] at hl ⊢; omega, ?_, fun n a c c1 c2 => ?_⟩, g'.keep, g'.new⟩ ⟨D, ?_, rfl⟩
        · rcases List.mem_append.mp m with m | m
          · exact fr a m
          · rw [List.mem_singleton.mp m]; exact hD
        · exact List.nodup_append.mpr ⟨g'.own.nd, by simp, fun a m b mb => by rw [List.mem_singleton.mp mb]; exact fun z => a' (z ▸ m)⟩
        · by_cases hn' : n < (as1 ++ bs).length
          · rw [List.getElem?_append_left hn'] at c1
            rw [List.getElem?_append_left (by rw [← g'.own.len]; exact hn')] at c2
            exact (g'.own.cell n a c c1 c2).up (Same.refl W') rfl rfl
          · rw [List.getElem?_append_right (by omega)] at c1
            rw [List.getElem?_append_right (by rw [← g'.own.len]; omega)] at c2
            have e0 : n - (as1 ++ bs).length = 0 := by
              have := (List.getElem?_eq_some_iff.mp c1).1
              simp only [List.length_singleton] at this
              omega
            have e2 : n - M2.length = 0 := by rw [← g'.own.len]; exact e0
            rw [e0] at c1
            rw [e2] at c2
            simp at c1 c2
            subst c1 c2
            exact ⟨w', es, hd, rd_up (Same.refl W') hq⟩
        · rw [← g'.own.len, List.getElem?_append_right (Nat.le_refl _)]
          simp
    · exact h1.elim)⟩
end
end Ab
end
section
set_option Elab.async false
set_option linter.all false
set_option maxRecDepth 100000
set_option maxHeartbeats 4000000
namespace Ab
open PySem PySem.Calls PySem.Spec PyProof.Rows L2
/-- what a key's object reads as -/
def RK (u : Value) (d : PyData) : Prop := ∃ k, d = kD k ∧ RelV (kV k) u
def dK (e : Int × Value) : PyData := kD (keyX e)
theorem rk_of {w : World} {e : Int × Value} (g : GoodX w e) : RK e.2 (dK e) := by
  rcases g with ⟨i, t, h1, _⟩ | ⟨x, t, h1, _⟩
  · exact ⟨.inl i, by simp [dK, keyX, h1], ⟨t, h1⟩⟩
  · exact ⟨.inr x, by simp [dK, keyX, h1], ⟨t, h1⟩⟩
/-- gathered values beside their keys -/
theorem gathered {w : World} {es : List (Int × Value)} (g : ∀ e ∈ es, GoodX w e) : ∀ {vs : List Value}, vs.Perm (es.map (·.2)) → ∃ ks : List Key, ks.Perm (es.map keyX) ∧ PySem.W.EachIs RK vs (ks.map kD) := by
  intro vs h
  let kOf : Value → Key := fun v => keyX (0, v)
  refine ⟨vs.map kOf, ?_, ?_⟩
  · have q := h.map kOf
    rw [List.map_map] at q
    exact q
  · have ok : ∀ v ∈ vs, RK v (kD (kOf v)) := fun v hv => by
      obtain ⟨e, he, rfl⟩ := List.mem_map.mp (h.mem_iff.mp hv)
      exact rk_of (g e he)
    clear h
    induction vs with
    | nil => exact .nil
    | cons v vs ih => exact .cons (ok v (by simp)) (ih fun u hu => ok u (by simp [hu]))
section
variable {prog : Program} {w : World} {A : Around} {E : Value → Shared → Prop} {s : Shared}
theorem sortedSetX {a : Addr} {ks : List Key} {Q : Value → Shared → Prop} (hh : A.handled = none) (R : SetX w s.heap a ks) (hal : PySem.W.AllAlike (ks.map kD)) (hk : PySem.W.Sortable (ks.map kD)) (hL : ks.length ≤ 100000) (hu : A.units + 2 + 1 < cLine)
    (h : ∀ (out : List Value) (s' : Shared) (p : Addr) (c : Nat) (js : List Key), js.Perm ks → out.length = ks.length → PySem.W.EachIs RK out ((js.map kD).mergeSort (PySem.W.dataLe false id)) → (∀ b u, s.heap.get? b = some u → s'.heap.get? b = some u) → s.heap.objs.size ≤ p →
      s'.heap.get? p = some (seqObj "list" out.toArray c) → s'.gens = s.gens → s'.os = s.os → Q (.ref p) s') :
    wpAny (model prog w) A (call (.builtin "sorted") [.ref a]) Q E s := by
  obtain ⟨o, es, ep, t, ho, hex, hd, g, pm, nd, hb, hf, hr, hl⟩ := R
  apply call_function_entry_kw kind_sorted plain_sorted entry_sorted (args_sorted1 _)
  show wpAny _ _ (Builtin.«sorted» _) _ _ _
  unfold Builtin.«sorted»
  apply wpAny_bind (m := checkCount "sorted" 1 1 _)
  apply wpAny_pure
  apply wpAny_bind
  refine collect_set (A := A.in1) hh ⟨o, ho, hex.1, hd⟩ hf hb hr hl fun s1 vs k1 grown g1 o1 pv => ?_
  obtain ⟨js, p1, e⟩ := gathered g pv
  have pj := p1.trans pm
  have hvl : vs.length ≤ sizeLine := by
    rw [e.length, List.length_map, pj.length_eq]
    exact sz_le hL
  have er : PySem.W.EachIs (fun v b => ∃ as, Reads s.heap v (id b) as) vs (js.map kD) := e.mono fun u d ⟨k, h1, r⟩ => by
    subst h1
    cases k with
    | inl i => obtain ⟨t, rfl⟩ := r; exact ⟨_, .int i t⟩
    | inr x => obtain ⟨t, rfl⟩ := r; exact ⟨_, .str x t⟩
  apply wpAny_bind
  have fresh : ∀ b u, s.heap.get? b = some u → b ≠ s1.heap.objs.size := fun b u q => Nat.ne_of_lt (Heap.lt_size (k1 b u q))
  apply wpAny_newList (hsz := by simpa using hvl)
  have here : (s1.heap.push (seqObj "list" vs.toArray 0)).get? s1.heap.objs.size = some (seqObj "list" vs.toArray 0) := Heap.get?_push_size _ rfl
  have k2 : ∀ b u, s.heap.get? b = some u → (s1.heap.push (seqObj "list" vs.toArray 0)).get? b = some u := fun b u q => Heap.get?_push_of_some _ (k1 b u q)
  apply wpAny_bind
  apply wpAny_holding
  have old : ∀ b u, s.heap.get? b = some u → (PySem.W.sortingHeap (s1.heap.push (seqObj "list" vs.toArray 0)) s1.heap.objs.size vs).get? b = some u := fun b u q => PySem.W.sortingHeap_old (fresh b u q) (k2 b u q)
  have er2 := er.mono (R' := fun v b => ∃ as, Reads (PySem.W.sortingHeap (s1.heap.push (seqObj "list" vs.toArray 0)) s1.heap.objs.size vs) v (id b) as) fun v b ⟨as, r⟩ => ⟨as, PyProof.Rows.Reads.keeps old r⟩
  have hut : ∀ d ∈ (js.map kD).map id, A.in1.in1.units + d.depth < cLine := fun d m => by
    obtain ⟨b, hb, rfl⟩ := List.mem_map.mp m
    obtain ⟨k, hk', rfl⟩ := List.mem_map.mp hb
    have hd1 : (kD k).depth ≤ 1 := by cases k <;> simp [kD, PyData.depth]
    show A.units + 1 + 1 + (kD k).depth < cLine
    omega
  have back : ∀ d, d ∈ (js.map kD).map id → d ∈ ks.map kD := fun d hd => by
    rw [List.map_id] at hd
    exact (pj.map kD).mem_iff.mp hd
  have hal2 : PySem.W.AllAlike ((js.map kD).map id) := fun d hd d' hd' => hal d (back d hd) d' (back d' hd')
  have hk2 : PySem.W.Sortable ((js.map kD).map id) := by
    rcases hk with q | q
    · exact .inl fun d hd => q d (back d hd)
    · exact .inr fun d hd => q d (back d hd)
  have S := PySem.W.SortsAt.data (prog := prog) (w := w) (A := A.in1.in1) (s := { s1 with heap := PySem.W.sortingHeap (s1.heap.push (seqObj "list" vs.toArray 0)) s1.heap.objs.size vs }) (PySem.W.each_map (R := fun v d => ∃ as, Reads (PySem.W.sortingHeap (s1.heap.push (seqObj "list" vs.toArray 0)) s1.heap.objs.size vs) v d as) id er2) hal2 hk2 hut
  obtain ⟨c, hc2⟩ := PyProof.Rows.sortedHeap_at (vs := vs) (out := (PySem.W.sortVals (PySem.W.dataKind (PySem.W.sortingHeap (s1.heap.push (seqObj "list" vs.toArray 0)) s1.heap.objs.size vs) ((js.map kD).map id)) false vs vs).toArray) here
  have done : Q (.ref s1.heap.objs.size) { s1 with heap := sortedHeap (s1.heap.push (seqObj "list" vs.toArray 0)) s1.heap.objs.size vs (PySem.W.sortVals (PySem.W.dataKind (PySem.W.sortingHeap (s1.heap.push (seqObj "list" vs.toArray 0)) s1.heap.objs.size vs) ((js.map kD).map id)) false vs vs).toArray } := by
    refine h _ _ _ c js pj (by rw [PySem.W.sortVals_length false rfl, e.length, List.length_map, pj.length_eq]) (PySem.W.sortVals_data false e er2 hal2) (fun b u q => ?_) ?_ (by simpa using hc2) g1 o1
    · show (sortedHeap (s1.heap.push (seqObj "list" vs.toArray 0)) s1.heap.objs.size vs _).get? b = some u
      rw [PyProof.Rows.sortedHeap_old (fresh b u q) (Heap.lt_size (k2 b u q))]
      exact k2 b u q
    · exact grown
  have srt := PySem.W.list_sort_vals (A := A.in1.in1) (E := E) (s := { s1 with heap := s1.heap.push (seqObj "list" vs.toArray 0) }) (P := fun f s' => f = .done (.ret .none) ∧ Q (.ref s1.heap.objs.size) s') here S hvl ⟨rfl, done⟩
  refine wpAny_call_entry_kw (s := { s1 with heap := s1.heap.push (seqObj "list" vs.toArray 0) }) slot_list_sort ⟨_, here, rfl⟩ entry_list_sort ?_ (args_list_sort _)
  refine wpAny_mono srt (fun f s' q => ?_) fun _ _ q => q
  obtain ⟨rfl, q⟩ := q
  exact ⟨_, rfl, wpAny_pure ⟨_, rfl, q⟩⟩
end

theorem leD_int (i j : Int) : leD (.int i) (.int j) = decide (i ≤ j) := congrFun (congrFun (PySem.W.dataLe_int (id : Int → Int)) i) j
theorem leD_str (x y : Str) : leD (.str x) (.str y) = decide (x.cps.toList ≤ y.cps.toList) := congrFun (congrFun (PySem.W.dataLe_str (id : Str → Str)) x) y
theorem leD_anti {k1 k2 : Key} (al : PySem.W.alike (kD k1) (kD k2) = true) (h1 : leD (kD k1) (kD k2) = true) (h2 : leD (kD k2) (kD k1) = true) : kD k1 = kD k2 := by
  cases k1 with
  | inl i =>
    cases k2 with
    | inl j =>
      have e1 : i ≤ j := of_decide_eq_true ((leD_int i j).symm.trans h1)
      have e2 : j ≤ i := of_decide_eq_true ((leD_int j i).symm.trans h2)
      show PyData.int i = .int j
      rw [Int.le_antisymm e1 e2]
    | inr y => simp [kD, PySem.W.alike] at al
  | inr x =>
    cases k2 with
    | inl j => simp [kD, PySem.W.alike] at al
    | inr y =>
      have e1 : x.cps.toList ≤ y.cps.toList := of_decide_eq_true ((leD_str x y).symm.trans h1)
      have e2 : y.cps.toList ≤ x.cps.toList := of_decide_eq_true ((leD_str y x).symm.trans h2)
      have e3 : x.cps.toList = y.cps.toList := List.le_antisymm e1 e2
      obtain ⟨⟨l1⟩⟩ := x
      obtain ⟨⟨l2⟩⟩ := y
      simp only at e3
      rw [e3]
theorem sort_perm {xs ys : List Key} (p : xs.Perm ys) (al : PySem.W.AllAlike (ys.map kD)) : sortD (xs.map kD) = sortD (ys.map kD) := by
  have T := PySem.W.sortLe_total (listOrd itemOrd) false fun b : PyData => PySem.W.keyToks (id b)
  have pw : ∀ l : List PyData, (l.mergeSort leD).Pairwise fun a b => leD a b = true := List.pairwise_mergeSort (fun a b c h1 h2 => T.trans a b c h1 h2) (fun a b => by
    have h : leD a b = true ∨ leD b a = true := T.total a b
    rcases h with h | h
    · rw [h]; rfl
    · rw [h, Bool.or_true])
  refine List.Perm.eq_of_pairwise (le := fun a b => leD a b = true) (fun a b ha hb h1 h2 => ?_) (pw _) (pw _) ?_
  · obtain ⟨k1, m1, rfl⟩ := List.mem_map.mp (List.mem_mergeSort.mp ha)
    obtain ⟨k2, m2, rfl⟩ := List.mem_map.mp (List.mem_mergeSort.mp hb)
    exact leD_anti (al _ (List.mem_map.mpr ⟨k1, p.mem_iff.mp m1, rfl⟩) _ (List.mem_map.mpr ⟨k2, m2, rfl⟩)) h1 h2
  · exact (List.mergeSort_perm _ _).trans ((p.map kD).trans (List.mergeSort_perm _ _).symm)
end Ab
end
section
set_option Elab.async false
set_option linter.all false
set_option maxRecDepth 100000
set_option maxHeartbeats 4000000
/-! Sets over the machine. -/
namespace Ab
open PySem PySem.Spec PyProof.Rows L2
def setAt (M : ASto) : Sl → Option (Nat × List Key)
  | .r n => match M[n]? with
    | some (.set ks) => some (n, ks)
    | _ => none
  | _ => none
def aSetN : List Sl → ASto → Res Sl := fun ss M => match ss with
  | [] => .ok (.r M.length) (M ++ [.set []])
  | _ => .no
def aSAdd (A B : AEnv → ASto → Res Sl) : AEnv → ASto → Res Sl := fun ds M => (A ds M).bind fun s M1 => match setAt M1 s with
  | some _ => (B ds M1).bind fun x M2 => match setAt M2 s, keyS x with
    | some (n, ks), some k => if ks.length + 1 < 4000 then .ok (.d .none) (M2.set n (.set (addK ks k))) else .no
    | _, _ => .no
  | none => .no
def aInS (neg : Bool) : Sl → Sl → ASto → Res Sl := fun x s M => match setAt M s, keyS x with
  | some (_, ks), some k => .ok (.d (.bool (if neg = true then !hasK ks k else hasK ks k))) M
  | _, _ => .no
def aSortS : List Sl → ASto → Res Sl := fun ss M => match ss with
  | [s] => match setAt M s with
    | some (_, ks) => if sortable (ks.map kD) = true then .ok (.d (.list (sortD (ks.map kD)))) M else .no
    | none => .no
  | _ => .no
section
variable {X : Cx}
def rSortX (w : World) : List V → Hp → VK → Prop := fun vs H Q => ∃ (a : Addr) (ks : List Key), vs = [.ref a] ∧ H a = some (SetO' w a ks) ∧ sortable (ks.map kD) = true ∧
  ∀ (ws : List V) (p : Addr), (∀ (K : PySem.W.Frag) (W : Hp), DqAll K W ws (sortD (ks.map kD))) → H p = none → Q (.ref p) (upd H p (.lst ws))
theorem rk_out {out : List Value} : ∀ {ys : List PyData}, PySem.W.EachIs RK out ys → ∃ ws : List V, Vals ws out ∧ ∀ (K : PySem.W.Frag) (W : Hp), DqAll K W ws ys := by
  intro ys h
  induction h with
  | nil => exact ⟨[], .nil, fun _ _ => .nil⟩
  | cons h t ih =>
    obtain ⟨k, rfl, r⟩ := h
    obtain ⟨ws, h1, h2⟩ := ih
    exact ⟨kV k :: ws, .cons r h1, fun K W => .cons (kD_rel k) (h2 K W)⟩
theorem crSortX (hc : X.calm = true) (hu : X.A.units + 65 < cLine) : CallR X (.builtin "sorted") (rSortX X.w) := by
  rintro pins s σ H vs us Q I r ⟨a, ks, rfl, ha, hs, q⟩
  rw [Vals.ref1 r]
  obtain ⟨k1, k2, k3, k4⟩ := sortable_1 hs
  rw [List.map_id] at k1 k2
  rw [List.length_map] at k4
  refine sortedSetX (I.ok.hd hc) (setO_at I ha) k1 k2 k4 (by omega) fun out s' p c js pj hl e kk gp hp hg ho => ?_
  have e2 : PySem.W.EachIs RK out (sortD (ks.map kD)) := by rw [← sort_perm pj k1]; exact e
  obtain ⟨ws, h1, h2⟩ := rk_out e2
  have hlen : ws.length ≤ sizeLine := by rw [h1.length, hl]; exact sz_le k4
  have hn : H p = none := I.hok.fresh gp
  have J := I.call (ch := []) (g' := s'.gens) (d' := s'.drawn) (t' := s'.toks) (Un.laid kk gp hn) (I.hok.laid kk gp (show ObjOk X.prog X.w _ _ _ (.lst ws) from ⟨hlen, out, c, h1, hp⟩)) (by rw [hg]; exact I.bare) (fun _ z => nomatch z)
  have es : s' = { s with heap := s'.heap, gens := s'.gens, drawn := s'.drawn, toks := s'.toks } := by
    obtain ⟨_, _, _, _, _⟩ := s'
    obtain ⟨_, _, _, _, _⟩ := s
    cases ho
    rfl
  rw [es]
  exact ⟨.ref p, _, J, rfl, q ws p h2 hn⟩
end
section
variable {P : Program} {w : World} {K : PySem.W.Frag} {mg : Str → Option Value} {E : XK}
theorem Own.setAt {W : Hp} {as : List Addr} {M : ASto} {H : Hp} {s : Sl} {v : V} {n : Nat} {ks : List Key} (o : Own P w K W as M H) (r : SlRel K W as v s) (h : setAt M s = some (n, ks)) : ∃ a, s = .r n ∧ v = .ref a ∧ as[n]? = some a ∧ M[n]? = some (.set ks) ∧ W a = none ∧ H a = some (SetO' w a ks) := by
  cases s with
  | d x => cases h
  | s n => cases h
  | r m =>
    dsimp only [Ab.setAt] at h
    split at h
    · rename_i ks' hn
      cases h
      obtain ⟨a, ha, rfl⟩ := r
      obtain ⟨h0, h1⟩ := o.cell n a _ ha hn
      exact ⟨a, rfl, rfl, ha, hn, h0, h1⟩
    · cases h
theorem scSetN : SC P w K mg (rSetN w) aSetN := by
  intro M W as H x s Q E o rx m
  unfold aSetN at m
  split at m
  · cases rx
    exact ⟨rfl, fun p hp => m.newC o hp ⟨o.noW hp, upd_same⟩⟩
  · exact m.elim
theorem se_sadd {ta tb : TE} {A B : AEnv → ASto → Res Sl} (ha : SE P w K mg E ta A) (hb : SE P w K mg E tb B) : SE P w K mg E (tSAddX w ta (tCons tb tNil)) (aSAdd A B) := ⟨fun ds M σ W as H Q e o h =>
  ha.run ds M σ W as H _ e o (MG.bind h fun s M1 _ v W1 as1 H1 g1 r1 h1 => by
    split at h1
    · rename_i z hz
      obtain ⟨n0, ks0⟩ := z
      obtain ⟨a, _, rfl, _, _, _, q0⟩ := g1.own.setAt r1 hz
      refine ⟨⟨a, ks0, rfl, q0⟩, hb.run ds M1 σ W1 as1 H1 _ (g1.env e) g1.own (MG.bind h1 fun x M2 _ u W2 as2 H2 g2 r2 h2 => ?_)⟩
      split at h2
      · rename_i n ks k e1 e2
        split at h2
        · rename_i hl
          obtain ⟨a', rfl, e3, q1, q2, q3, q4⟩ := g2.own.setAt (g2.rel r1) e1
          cases e3
          obtain rfl := keyS_rel r2 e2
          refine ⟨a, k, ks, rfl, rfl, q4, by have : 4000 ≤ scanBound := by decide
                                             omega, ?_⟩
          exact MG.set (v := V.non) h2 g2.own q1 q2 q3 ⟨q3, upd_same⟩ .non
        · exact h2.elim
      · exact h2.elim
    · exact h1.elim)⟩
theorem sr_inS (neg : Bool) : SR P w K mg (rSInX w neg) (aInS neg) := by
  intro M W as H x y s u Q E o rx ry m
  unfold aInS at m
  split at m
  · rename_i n ks k e1 e2
    obtain ⟨a, rfl, rfl, q1, q2, q3, q4⟩ := o.setAt ry e1
    obtain rfl := keyS_rel rx e2
    refine ⟨k, a, ks, rfl, rfl, q4, ?_⟩
    cases neg with
    | true => exact m.now o (.bl _)
    | false => exact m.now o (.bl _)
  · exact m.elim
theorem scSortS : SC P w K mg (rSortX w) aSortS := by
  intro M W as H x s Q E o rx m
  unfold aSortS at m
  split at m
  · obtain ⟨v, rfl, r⟩ := one_of rx
    split at m
    · rename_i n ks h1
      split at m
      · rename_i h2
        obtain ⟨a, rfl, rfl, q1, q2, q3, q4⟩ := o.setAt r h1
        exact ⟨a, ks, rfl, q4, h2, fun ws p hd hp => m.new o hp (.lst upd_same (hd K _))⟩
      · exact m.elim
    · exact m.elim
  · exact m.elim
end
end Ab
end
section
set_option Elab.async false
set_option linter.all false
set_option maxRecDepth 100000
set_option maxHeartbeats 8000000
/-! set(xs), xs a list or tuple of keys. -/
namespace Ab
open PySem PySem.Spec PyProof.Rows L2
def ofK (ks : List Key) : List Key := ks.foldl addK []
theorem ofK_snoc {ks : List Key} {i : Nat} {k : Key} (h : ks[i]? = some k) : ofK (ks.take (i + 1)) = addK (ofK (ks.take i)) k := by
  unfold ofK
  rw [List.take_add_one, h, List.foldl_append]
  rfl
theorem addK_len (ks : List Key) (k : Key) : (addK ks k).length ≤ ks.length + 1 := by
  unfold addK
  split
  · omega
  · simp
theorem ofK_len (ks : List Key) : ∀ i, (ofK (ks.take i)).length ≤ i
  | 0 => by simp [ofK]
  | i + 1 => by
    cases h : ks[i]? with
    | none =>
      have e : ks.take (i + 1) = ks.take i := by rw [List.take_add_one, h]; simp
      rw [e]
      exact Nat.le_succ_of_le (ofK_len ks i)
    | some k =>
      rw [ofK_snoc h]
      exact Nat.le_trans (addK_len _ _) (Nat.succ_le_succ (ofK_len ks i))
abbrev newSet (w : World) : Obj := { cls := .type "set", dict := none, data := .set #[] 0 (.fresh 0 0 (!w.params.followText "set-order")) }
theorem setX_new_at {w : World} {h : Heap} {a : Addr} (ho : h.get? a = some (newSet w)) : SetX w h a [] :=
  ⟨_, #[], 0, _, ho, ⟨rfl, rfl, rfl⟩, rfl, (fun e he => by simp at he), .nil, .nil, (by decide), (by rfl), List.Pairwise.nil, by
    show _ ∨ (!w.params.followText "set-order") = true
    cases w.params.followText "set-order"
    · exact .inr rfl
    · exact .inl rfl⟩
section
variable {P : Program} {w : World} {A : Around} {E : Value → Shared → Prop} {s : Shared}
theorem upd_keys {I : Addr} {fp wr : List Addr} {G : Array GenState → Array GenState → Prop} {n : Nat} {Pv : Nat → Value → Prop} {St : Nat → Shared → Prop} {R : Result → Shared → Prop} (W : WalksS P w A.in1 I fp wr G n Pv St) (D : Addr) (hD : D ∉ fp) (ks : List Key)
    (hn : n = ks.length) (hb : ks.length + 1 < scanBound) (hv : ∀ i v, Pv i v → ∃ k, ks[i]? = some k ∧ RelV (kV k) v) :
    ∀ (m i : Nat) (s : Shared), n - i = m → i ≤ n → St i s → SetX w s.heap D (ofK (ks.take i)) → (∀ s', Moved (D :: wr) G s s' → SetX w s'.heap D (ofK ks) → R (.ok (.ret .none)) s') →
      codeAny (model P w) A (.builtin "set.update.loop" ⟨[.ref D, .ref I], []⟩) R s := by
  have off : D ∉ wr := fun z => hD (W.sub _ z)
  have more : ∀ b ∈ wr, b ∈ D :: wr := fun b z => List.mem_cons_of_mem _ z
  intro m
  induction m with
  | zero =>
    intro i s hm hi st hS hR
    obtain rfl : i = n := by omega
    refine codeAny_builtin F.entry_set_update_loop ?_
    rw [Around.under_plainId F.plain_set_update_loop _]
    refine wpAny_bind (W.done s _ _ st fun s' mv => ?_)
    rw [List.take_of_length_le (by omega)] at hS
    exact wpAny_pure (hR s' (mv.mono more) (hS.at fun o e => mv.heap D o off e))
  | succ m ih =>
    intro i s hm hi st hS hR
    have lt : i < n := by omega
    refine codeAny_builtin F.entry_set_update_loop ?_
    rw [Around.under_plainId F.plain_set_update_loop _]
    refine wpAny_bind (W.item i s _ _ lt st fun v s' pv st' mv => ?_)
    obtain ⟨k, hk, rv⟩ := hv i v pv
    have S1 : SetX w s'.heap D (ofK (ks.take i)) := hS.at fun o e => mv.heap D o off e
    show wpAny _ A.in1 (holding [v] (setAdd D v) >>= _) _ _ s'
    refine wpAny_bind (wpAny_holding ?_)
    unfold setAdd
    refine wpAny_holding (wpAny_bind ((mixKind P w).pyHash (kV_is rv) ?_))
    have l1 := ofK_len ks i
    refine setX_hashed (s := { s' with toks := s'.toks + 1 }) rv S1 (by omega) fun h' sb S2 => ?_
    rw [← ofK_snoc hk] at S2
    have keep : ∀ b o, b ≠ D → s'.heap.get? b = some o → h'.get? b = some o := fun b o hb e => (sb.2 b hb).trans e
    refine wpAny_pure ⟨plainId_quiet F.plain_set_update_loop _, ih (i + 1) _ (by omega) lt (W.frame _ s' _ _ st' (Nat.le_succ _) fun b hb o e => keep b o (fun z => hD (z ▸ hb)) e) S2 fun s2 mv2 S3 => ?_⟩
    exact hR s2 (Moved.trans W.gtrans ((mv.mono more).then_heap (Nat.le_succ _) fun b o hb e => keep b o (fun z => hb (by rw [z]; exact List.mem_cons_self)) e) mv2) S3
end
end Ab
end
section
set_option Elab.async false
set_option linter.all false
set_option maxRecDepth 100000
set_option maxHeartbeats 8000000
namespace Ab
open PySem PySem.Spec PyProof.Rows L2
section
variable {P : Program} {w : World} {A : Around} {E : Value → Shared → Prop} {s : Shared}
theorem callSetT {l : Addr} {items : Array Value} {ks : List Key} {Q : Value → Shared → Prop} (hh : A.handled = none) (hl : s.heap.IsTuple l items) (hsz : items.size = ks.length) (hv : ∀ (i : Nat) (v : Value), items[i]? = some v → ∃ k, ks[i]? = some k ∧ RelV (kV k) v) (hb : ks.length + 1 < scanBound)
    (h : ∀ (h' : Heap) (tk : Nat), SetX w h' s.heap.objs.size (ofK ks) → (∀ b o, s.heap.get? b = some o → h'.get? b = some o) → Q (.ref s.heap.objs.size) { s with heap := h', toks := tk }) :
    wpAny (model P w) A (call (.type "set") [.ref l]) Q E s := by
  obtain ⟨c, tl, hmro⟩ := F.called_set.mro
  have hmade := F.called_set.made
  have hsub := F.called_set.sub
  refine wpAny_call (codeAny_of_tree ?_)
  show wpAny _ _ (callAny (.type "set") _) _ _ _
  refine wpAny_pure ⟨Code.quiet_builtin _ (by decide +kernel), codeAny_builtin F.entry_type_call ?_⟩
  rw [Around.under_plain (weight_type_call_type "set" [.ref l] []) rfl]
  have h1 := F.called_set.notType
  have h2 := F.called_set.canCreate
  have hct := F.typeCall_set_1 (.ref l)
  repeat (any_goals (first | assumption | wp_step))
  refine codeAny_mono (code_set_led1 (.ref l) (E := E) (Q₁ := fun obj s₁ => obj = .ref s.heap.objs.size ∧ s₁ = { s with heap := s.heap.push (newSet w) }) ⟨rfl, rfl⟩) fun r s₁ hr => ?_
  cases r with
  | error e => exact hr
  | ok fl =>
    cases fl with
    | ret obj =>
      obtain ⟨rfl, rfl⟩ := hr
      have mine : (s.heap.push (newSet w)).get? s.heap.objs.size = some (newSet w) := Heap.get?_push_size _ rfl
      have hT : Shared.TypeIs { s with heap := s.heap.push (newSet w) } (.ref s.heap.objs.size) "set" := ⟨_, mine, rfl⟩
      have hli := F.called_set.init.lookup
      have hbi := F.called_set.init.bind (.ref s.heap.objs.size)
      repeat (any_goals (first | assumption | wp_step))
      refine codeAny_mono (codeAny_call_builtin (R := wants (fun r s₂ => r = .none ∧ ∃ h' tk, s₂ = { s with heap := h', toks := tk } ∧ SetX w h' s.heap.objs.size (ofK ks) ∧ (∀ b o, s.heap.get? b = some o → h'.get? b = some o)) E) F.called_set.init.plain F.entry_set_init (check_set_init_1 hT ?_)) fun r₂ s₂ hr₂ => ?_
      · obtain ⟨⟨ocls, odict, odata, oslots⟩, hol, hcl, nl, hdl⟩ := hl
        simp only at hcl hdl
        subst hcl
        subst hdl
        have hol' : (s.heap.push (newSet w)).get? l = some { cls := .type "tuple", dict := odict, data := .seq items nl, slots := oslots } := Heap.get?_push_of_some _ hol
        have hsls := F.sub_tuple_set
        have hslf := F.sub_tuple_frozenset
        have hne : (Value.type "tuple" == Value.type "dict") = false := by decide
        have hl1 : (s.heap.push (newSet w)).IsTuple l items := ⟨_, hol', rfl, nl, rfl⟩
        unfold Builtin.«set.__init__» noKeywords Builtin.Frozenset.updateFrom
        generalize hPI : pyIter = PI
        wp_walk
        subst hPI
        refine wpAny_pyIter_tuple hl1 (wpAny_bind (wpAny_runValue ?_))
        have lS : l < s.heap.objs.size := Heap.lt_size hol
        have hneI : l ≠ (s.heap.push (newSet w)).objs.size := by rw [Heap.size_push]; exact Nat.ne_of_lt (Nat.lt_succ_of_lt lS)
        have hSf : s.heap.objs.size ∉ [(s.heap.push (newSet w)).objs.size, l] := by
          rw [Heap.size_push]
          simp only [List.mem_cons, List.not_mem_nil, or_false, not_or]
          exact ⟨Nat.ne_of_lt (Nat.lt_succ_self _), Nat.ne_of_gt lS⟩
        refine upd_keys ((Walks.tuple (show A.in1.in1.in1.handled = none by simp [hh]) _ l hneI items).toS) s.heap.objs.size hSf ks hsz hb hv (items.size - 0) 0 _ (by omega) (Nat.zero_le _) ⟨⟨_, Heap.get?_push_size _ rfl, rfl, rfl⟩, (hl1.push _)⟩ ?_ ?_
        · exact setX_new_at (Heap.get?_push_of_some _ mine)
        · intro s' hm hS'
          obtain ⟨h', g2, d', tk', os'⟩ := s'
          obtain rfl : g2 = s.gens := hm.gens
          obtain rfl : d' = s.drawn := hm.drawn
          obtain rfl : os' = s.os := hm.os
          show wpAny _ _ _ _ _ _
          refine wpAny_pure ?_
          show wpAny _ _ (ret Value.none) _ _ _
          refine wpAny_pure ⟨rfl, h', tk', rfl, hS', fun b o e => ?_⟩
          have hb0 : b < s.heap.objs.size := Heap.lt_size e
          refine hm.heap b o ?_ (Heap.get?_push_of_some _ (Heap.get?_push_of_some _ e))
          rw [Heap.size_push]
          simp only [List.mem_cons, List.not_mem_nil, or_false, not_or]
          exact ⟨Nat.ne_of_lt hb0, Nat.ne_of_lt (Nat.lt_succ_of_lt hb0)⟩
      · cases r₂ with
        | error e => exact hr₂
        | ok f₂ =>
          cases f₂ with
          | ret r =>
            obtain ⟨rfl, h', tk, rfl, hS', hk'⟩ := hr₂
            repeat (any_goals (first | assumption | wp_step))
            exact h _ _ hS' hk'
          | _ => exact hr₂.elim
    | _ => exact hr.elim
end
end Ab
end
section
set_option Elab.async false
set_option linter.all false
set_option maxRecDepth 100000
set_option maxHeartbeats 8000000
namespace Ab
open PySem PySem.Spec PyProof.Rows L2
section
variable {P : Program} {w : World} {A : Around} {E : Value → Shared → Prop} {s : Shared}
theorem callSetL {l : Addr} {items : Array Value} {ks : List Key} {Q : Value → Shared → Prop} (hh : A.handled = none) (hl : s.heap.IsList l items) (hsz : items.size = ks.length) (hv : ∀ (i : Nat) (v : Value), items[i]? = some v → ∃ k, ks[i]? = some k ∧ RelV (kV k) v) (hb : ks.length + 1 < scanBound)
    (h : ∀ (h' : Heap) (tk : Nat), SetX w h' s.heap.objs.size (ofK ks) → (∀ b o, s.heap.get? b = some o → h'.get? b = some o) → Q (.ref s.heap.objs.size) { s with heap := h', toks := tk }) :
    wpAny (model P w) A (call (.type "set") [.ref l]) Q E s := by
  obtain ⟨c, tl, hmro⟩ := F.called_set.mro
  have hmade := F.called_set.made
  have hsub := F.called_set.sub
  refine wpAny_call (codeAny_of_tree ?_)
  show wpAny _ _ (callAny (.type "set") _) _ _ _
  refine wpAny_pure ⟨Code.quiet_builtin _ (by decide +kernel), codeAny_builtin F.entry_type_call ?_⟩
  rw [Around.under_plain (weight_type_call_type "set" [.ref l] []) rfl]
  have h1 := F.called_set.notType
  have h2 := F.called_set.canCreate
  have hct := F.typeCall_set_1 (.ref l)
  repeat (any_goals (first | assumption | wp_step))
  refine codeAny_mono (code_set_led1 (.ref l) (E := E) (Q₁ := fun obj s₁ => obj = .ref s.heap.objs.size ∧ s₁ = { s with heap := s.heap.push (newSet w) }) ⟨rfl, rfl⟩) fun r s₁ hr => ?_
  cases r with
  | error e => exact hr
  | ok fl =>
    cases fl with
    | ret obj =>
      obtain ⟨rfl, rfl⟩ := hr
      have mine : (s.heap.push (newSet w)).get? s.heap.objs.size = some (newSet w) := Heap.get?_push_size _ rfl
      have hT : Shared.TypeIs { s with heap := s.heap.push (newSet w) } (.ref s.heap.objs.size) "set" := ⟨_, mine, rfl⟩
      have hli := F.called_set.init.lookup
      have hbi := F.called_set.init.bind (.ref s.heap.objs.size)
      repeat (any_goals (first | assumption | wp_step))
      refine codeAny_mono (codeAny_call_builtin (R := wants (fun r s₂ => r = .none ∧ ∃ h' tk, s₂ = { s with heap := h', toks := tk } ∧ SetX w h' s.heap.objs.size (ofK ks) ∧ (∀ b o, s.heap.get? b = some o → h'.get? b = some o)) E) F.called_set.init.plain F.entry_set_init (check_set_init_1 hT ?_)) fun r₂ s₂ hr₂ => ?_
      · obtain ⟨⟨ocls, odict, odata, oslots⟩, hol, hcl, nl, hdl⟩ := hl
        simp only at hcl hdl
        subst hcl
        subst hdl
        have hol' : (s.heap.push (newSet w)).get? l = some { cls := .type "list", dict := odict, data := .seq items nl, slots := oslots } := Heap.get?_push_of_some _ hol
        have hsls := F.sub_list_set
        have hslf := F.sub_list_frozenset
        have hne : (Value.type "list" == Value.type "dict") = false := by decide
        have hl1 : (s.heap.push (newSet w)).IsList l items := ⟨_, hol', rfl, nl, rfl⟩
        unfold Builtin.«set.__init__» noKeywords Builtin.Frozenset.updateFrom
        generalize hPI : pyIter = PI
        wp_walk
        subst hPI
        refine wpAny_pyIter_list hl1 (wpAny_bind (wpAny_runValue ?_))
        have lS : l < s.heap.objs.size := Heap.lt_size hol
        have hneI : l ≠ (s.heap.push (newSet w)).objs.size := by rw [Heap.size_push]; exact Nat.ne_of_lt (Nat.lt_succ_of_lt lS)
        have hSf : s.heap.objs.size ∉ [(s.heap.push (newSet w)).objs.size, l] := by
          rw [Heap.size_push]
          simp only [List.mem_cons, List.not_mem_nil, or_false, not_or]
          exact ⟨Nat.ne_of_lt (Nat.lt_succ_self _), Nat.ne_of_gt lS⟩
        refine upd_keys ((Walks.list (show A.in1.in1.in1.handled = none by simp [hh]) _ l hneI items).toS) s.heap.objs.size hSf ks hsz hb hv (items.size - 0) 0 _ (by omega) (Nat.zero_le _) ⟨⟨_, Heap.get?_push_size _ rfl, rfl, rfl⟩, (hl1.push _)⟩ ?_ ?_
        · exact setX_new_at (Heap.get?_push_of_some _ mine)
        · intro s' hm hS'
          obtain ⟨h', g2, d', tk', os'⟩ := s'
          obtain rfl : g2 = s.gens := hm.gens
          obtain rfl : d' = s.drawn := hm.drawn
          obtain rfl : os' = s.os := hm.os
          show wpAny _ _ _ _ _ _
          refine wpAny_pure ?_
          show wpAny _ _ (ret Value.none) _ _ _
          refine wpAny_pure ⟨rfl, h', tk', rfl, hS', fun b o e => ?_⟩
          have hb0 : b < s.heap.objs.size := Heap.lt_size e
          refine hm.heap b o ?_ (Heap.get?_push_of_some _ (Heap.get?_push_of_some _ e))
          rw [Heap.size_push]
          simp only [List.mem_cons, List.not_mem_nil, or_false, not_or]
          exact ⟨Nat.ne_of_lt hb0, Nat.ne_of_lt (Nat.lt_succ_of_lt hb0)⟩
      · cases r₂ with
        | error e => exact hr₂
        | ok f₂ =>
          cases f₂ with
          | ret r =>
            obtain ⟨rfl, h', tk, rfl, hS', hk'⟩ := hr₂
            repeat (any_goals (first | assumption | wp_step))
            exact h _ _ hS' hk'
          | _ => exact hr₂.elim
    | _ => exact hr.elim
end
/-! ### over the machine -/
def keysD : List PyData → Option (List Key)
  | [] => some []
  | x :: r => match keyD x, keysD r with
    | some k, some ks => some (k :: ks)
    | _, _ => none
def aSetQ : List Sl → ASto → Res Sl := fun ss M => match ss with
  | [s] => match vwS M s with
    | some xs => match keysD xs with
      | some ks => if ks.length < 4000 then .ok (.r M.length) (M ++ [.set (ofK ks)]) else .no
      | none => .no
    | none => .no
  | _ => .no
def rSetQ (K : PySem.W.Frag) (w : World) : List V → Hp → VK → Prop := fun xs H Q => ∃ (a : Addr) (ks : List Key), xs = [.ref a] ∧ (SqL K H a (ks.map kV) ∨ SqT K H a (ks.map kV)) ∧ ks.length < 4000 ∧ ∀ p, H p = none → Q (.ref p) (upd H p (SetO' w p (ofK ks)))
theorem vals_keys : ∀ {ks : List Key} {its : List Value}, Vals (ks.map kV) its → its.length = ks.length ∧ ∀ (i : Nat) (v : Value), its[i]? = some v → ∃ k, ks[i]? = some k ∧ RelV (kV k) v
  | [], _, .nil => ⟨rfl, fun i v h => by simp at h⟩
  | k :: ks, _, .cons r t => by
    obtain ⟨h1, h2⟩ := vals_keys t
    refine ⟨by simp [h1], fun i v h => ?_⟩
    cases i with
    | zero => cases h; exact ⟨k, rfl, r⟩
    | succ i =>
      obtain ⟨j, e1, e2⟩ := h2 i v (by simpa using h)
      exact ⟨j, by simpa using e1, e2⟩
theorem crSetQ {X : Cx} (hc : X.calm = true) : CallR X (.type "set") (rSetQ X.K X.w) := by
  rintro pins s σ H xs us Q I r ⟨a, ks, rfl, hs, hl, q⟩
  obtain ⟨u, rfl, rx⟩ := vals1 r
  obtain rfl : u = Value.ref a := rx
  have hb : ks.length + 1 < scanBound := by
    have : 4001 ≤ scanBound := by decide
    exact Nat.lt_of_lt_of_le (Nat.succ_lt_succ hl) this
  have fin : ∀ (h' : Heap) (tk : Nat), SetX X.w h' s.heap.objs.size (ofK ks) → (∀ b o, s.heap.get? b = some o → h'.get? b = some o) → EP X pins σ Q (.ref s.heap.objs.size) { s with heap := h', toks := tk } := fun h' tk R k =>
    ⟨.ref _, _, I.laid (t' := tk) k (Nat.le_refl _) (setO_ok R), rfl, q _ (I.hok.fresh (Nat.le_refl _))⟩
  rcases hs with hs | hs
  · obtain ⟨its, rv, pl, _⟩ := I.list hs
    obtain ⟨e1, e2⟩ := vals_keys rv
    exact callSetL (I.ok.hd hc) pl.isList (by simpa using e1) (fun i v h => e2 i v (by simpa using h)) hb fin
  · obtain ⟨its, rv, pl, _⟩ := I.tuple hs
    obtain ⟨e1, e2⟩ := vals_keys rv
    exact callSetT (I.ok.hd hc) pl (by simpa using e1) (fun i v h => e2 i v (by simpa using h)) hb fin
section
variable {P : Program} {w : World} {K : PySem.W.Frag} {mg : Str → Option Value}
theorem keysD_rel {W : Hp} : ∀ {xs : List PyData} {ks : List Key} {vs : List V}, DqAll K W vs xs → keysD xs = some ks → vs = ks.map kV
  | [], _, _, .nil, h => by cases h; rfl
  | x :: xs, ks, _, .cons a b, h => by
    unfold keysD at h
    split at h
    · rename_i k js e1 e2
      cases h
      rw [List.map_cons, keyD_rel a e1, keysD_rel b e2]
    · cases h
theorem scSetQ : SC P w K mg (rSetQ K w) aSetQ := by
  intro M W as H x s Q E o rx m
  unfold aSetQ at m
  split at m
  · obtain ⟨v, rfl, r⟩ := one_of rx
    split at m
    · rename_i xs hx
      split at m
      · rename_i ks hk
        split at m
        · rename_i hl
          obtain ⟨a, vs, rfl, h1, h2⟩ := vwS_rel o r hx
          obtain rfl := keysD_rel h2 hk
          exact ⟨a, ks, rfl, h1.elim (fun e => .inl (SqL.of e)) fun e => .inr (.inl (.inr e)), hl, fun p hp => m.newC o hp ⟨o.noW hp, upd_same⟩⟩
        · exact m.elim
      · exact m.elim
    · exact m.elim
  · exact m.elim
end
end Ab
end
section
set_option Elab.async false
set_option linter.all false
set_option maxRecDepth 100000
set_option maxHeartbeats 4000000
namespace Ab
open PySem PySem.Spec PyProof.Rows L2
/-- a, b, c = e, f, g -/
def aPar3 (i j l : Nat) (A : AEnv → ASto → Res (List Sl)) : AEnv → ASto → Out := fun ds M => resO (A ds M) fun ss M1 => match ss with
  | [x, y, z] => .nx (((ds.set i (some x)).set j (some y)).set l (some z)) M1
  | _ => .no
section
variable {P : Program} {w : World} {K : PySem.W.Frag} {mg : Str → Option Value} {E : XK}
theorem ss_par3 {i j l : Nat} {ta : TA} {A : AEnv → ASto → Res (List Sl)} (ha : SA P w K mg E ta A) : SS P w K mg E (tPar3 i j l ta) (aPar3 i j l A) := ⟨fun ds M σ W as H D e o h =>
  ha.run ds M σ W as H _ e o (MG.bindO h fun ss M1 hA vs W1 as1 H1 g1 r1 h1 => by
    split at h1
    · cases r1 with
      | cons q1 r1 =>
        cases r1 with
        | cons q2 r1 =>
          cases r1 with
          | cons q3 r1 =>
            cases r1
            exact ⟨_, _, _, rfl, h1 _ W1 as1 H1 (Go.refl g1.own) ((((g1.env e).set q1).set q2).set q3)⟩
    · exact h1.elim)⟩
end
end Ab
end
section
set_option Elab.async false
set_option linter.all false
set_option maxRecDepth 100000
set_option maxHeartbeats 4000000
/-! tuple(zip(xs, ys)) of two lists. -/
namespace Ab
open PySem PySem.Spec PyProof.Rows L2
theorem zip_no_len : typeLookup (.type "zip") "__len__" = pure none := am_miss_of_fast (by decide +kernel)
theorem zip_no_hint : typeLookup (.type "zip") "__length_hint__" = pure none := am_miss_of_fast (by decide +kernel)

/-- the tuples given out so far -/
structure AccOk (xs ys : Array Value) (bad : List Addr) (lo i : Nat) (h : Heap) (acc : Array Value) : Prop where
  sz : acc.size = i
  it : ∀ (j : Nat) (v : Value), acc[j]? = some v → ∃ t x y, v = .ref t ∧ IsPair h t x y ∧ xs[j]? = some x ∧ ys[j]? = some y ∧ lo ≤ t ∧ t ∉ bad
  nd : ∀ (j k : Nat) (t : Addr), acc[j]? = some (.ref t) → acc[k]? = some (.ref t) → j = k
theorem AccOk.keep {xs ys : Array Value} {bad : List Addr} {lo i : Nat} {h h' : Heap} {acc : Array Value} (a : AccOk xs ys bad lo i h acc) (k : ∀ b o, b ∉ bad → h.get? b = some o → h'.get? b = some o) : AccOk xs ys bad lo i h' acc :=
  ⟨a.sz, fun j v hj => let ⟨t, x, y, e, p, q1, q2, q3, q4⟩ := a.it j v hj; ⟨t, x, y, e, k t _ q4 p, q1, q2, q3, q4⟩, a.nd⟩
theorem AccOk.push {xs ys : Array Value} {bad : List Addr} {lo i : Nat} {h : Heap} {acc : Array Value} (a : AccOk xs ys bad lo i h acc) {t : Addr} {x y : Value} (hp : IsPair h t x y) (hx : xs[i]? = some x) (hy : ys[i]? = some y) (hlo : lo ≤ t) (hb : t ∉ bad)
    (hf : ∀ (j : Nat), acc[j]? ≠ some (.ref t)) : AccOk xs ys bad lo (i + 1) h (acc.push (.ref t)) := by
  refine ⟨by rw [Array.size_push, a.sz], fun j v hj => ?_, fun j k u hj hk => ?_⟩
  · rw [Array.getElem?_push] at hj
    split at hj
    · rename_i e
      cases hj
      rw [a.sz] at e
      subst e
      exact ⟨t, x, y, rfl, hp, hx, hy, hlo, hb⟩
    · exact a.it j v hj
  · rw [Array.getElem?_push] at hj hk
    split at hj
    · rename_i e
      cases hj
      split at hk
      · rename_i e2
        omega
      · exact absurd hk (hf k)
    · split at hk
      · cases hk
        exact absurd hj (hf j)
      · exact a.nd j k u hj hk

/-- a zip at step i -/
structure ZipSt (z TI i1 i2 l1 l2 : Addr) (TO : Addr) (xs ys : Array Value) (S i : Nat) (h : Heap) : Prop where
  hTI : IsPair h TI (.ref i1) (.ref i2)
  h1 : h.IsListIter i1 l1 i
  h2 : h.IsListIter i2 l2 i
  hl1 : h.IsList l1 xs
  hl2 : h.IsList l2 ys
  hz : (IsZip h z TI TO .none ∧ ∃ a b, IsPair h TO a b) ∨ ∃ T f oT, IsZipHeld h z TI TO T f ∧ h.get? T = some oT ∧ T ≠ z ∧ T ≠ i1 ∧ T ≠ i2 ∧ T ≠ S

section
variable {prog : Program} {w : World} {A : Around} {R : Result → Shared → Prop}
theorem extend_zip {z TI TO i1 i2 l1 l2 S : Addr} {lo : Nat} {xs ys : Array Value} (hh : A.handled = none) (D : ZipApart z TI TO i1 i2 l1 l2) (dS : S ∉ [z, TI, TO, i1, i2, l1, l2]) (hn : min xs.size ys.size ≤ sizeLine) (hTl : @LT.lt Nat _ TO lo) (res : Value) :
    ∀ (k i : Nat) (s : Shared) (acc : Array Value) (c : Nat), min xs.size ys.size - i = k → i ≤ min xs.size ys.size → lo ≤ s.heap.objs.size → ZipSt z TI i1 i2 l1 l2 TO xs ys S i s.heap → AccOk xs ys [S, z, TO, i1, i2] lo i s.heap acc → s.heap.get? S = some { cls := .type "list", dict := none, data := .seq acc c, slots := #[] } →
    (∀ h' acc' c', (∀ b o, b ∉ [S, z, TO, i1, i2] → s.heap.get? b = some o → h'.get? b = some o) → h'.get? S = some { cls := .type "list", dict := none, data := .seq acc' c', slots := #[] } → AccOk xs ys [S, z, TO, i1, i2] lo (min xs.size ys.size) h' acc' → R (.ok (.ret res)) { s with heap := h' }) →
    codeAny (model prog w) A (.builtin "list.extend.loop" ⟨[.ref S, .ref z, res], []⟩) R s := by
  have dS' := dS
  simp only [List.mem_cons, List.not_mem_nil, or_false, not_or] at dS'
  obtain ⟨dz, dTI, dTO, di1, di2, dl1, dl2⟩ := dS'
  intro k
  induction k with
  | zero =>
    intro i s acc c hk hi hlo st ac hS hR
    have hin : i = min xs.size ys.size := by omega
    have hend : xs[i]? = none ∨ ys[i]? = none := by
      rw [hin]
      rcases Nat.le_total xs.size ys.size with h | h
      · exact .inl (Array.getElem?_eq_none (by rw [Nat.min_eq_left h]; exact Nat.le_refl _))
      · exact .inr (Array.getElem?_eq_none (by rw [Nat.min_eq_right h]; exact Nat.le_refl _))
    obtain ⟨hTI, h1, h2, hl1, hl2, hz⟩ := st
    have fin : ∀ h', (∀ c o, c ≠ z → c ≠ TO → c ≠ i1 → c ≠ i2 → s.heap.get? c = some o → h'.get? c = some o) → R (.ok (.ret res)) { s with heap := h' } := fun h' hk => by
      have kk : ∀ b o, b ∉ [S, z, TO, i1, i2] → s.heap.get? b = some o → h'.get? b = some o := fun b o hb e => hk b o (fun x => hb (by simp [x])) (fun x => hb (by simp [x])) (fun x => hb (by simp [x])) (fun x => hb (by simp [x])) e
      exact hR h' acc c kk (hk S _ dz dTO di1 di2 hS) (by rw [← hin]; exact ac.keep kk)
    refine codeAny_builtin F.entry_extend_loop ?_
    rw [Around.under_plainId F.plain_extend_loop _]
    show wpAny _ A.in1 (pyNext (.ref z) >>= _) _ _ s
    rcases hz with ⟨hz, a, b, hTO⟩ | ⟨T, f, oT, hz, hT, r1, r2, r3, r4⟩
    · exact wpAny_bind (wpAny_pyNext_zip_end (A := A.in1) hh D hz hTI hTO h1 h2 hl1 hl2 hend fun h' hk => wpAny_pure (fin h' hk))
    · exact wpAny_bind (wpAny_pyNext_zip_end_held (A := A.in1) hh D hz hT hTI h1 h2 hl1 hl2 hend fun h' hk => wpAny_pure (fin h' fun c o c1 _ c3 c4 e => hk c o c1 c3 c4 e))
  | succ k ih =>
    intro i s acc c hk hi hlo st ac hS hR
    have hlt : i < min xs.size ys.size := by omega
    have hix : i < xs.size := Nat.lt_of_lt_of_le hlt (Nat.min_le_left ..)
    have hiy : i < ys.size := Nat.lt_of_lt_of_le hlt (Nat.min_le_right ..)
    have ex := Array.getElem?_eq_getElem hix
    have ey := Array.getElem?_eq_getElem hiy
    obtain ⟨hTI, h1, h2, hl1, hl2, hz⟩ := st
    have lt : ∀ {c o}, s.heap.get? c = some o → s.heap.objs.size ≠ c := fun e => Nat.ne_of_gt (Heap.lt_size e)
    have n1 : s.heap.objs.size ≠ i1 := let ⟨_, e, _⟩ := h1; lt e
    have n2 : s.heap.objs.size ≠ i2 := let ⟨_, e, _⟩ := h2; lt e
    have nS : s.heap.objs.size ≠ S := lt hS
    have nz : s.heap.objs.size ≠ z := by
      rcases hz with ⟨hz, _⟩ | ⟨T, f, oT, hz, _⟩
      · exact lt hz
      · exact lt hz
    have fre : ∀ (j : Nat), acc[j]? ≠ some (.ref s.heap.objs.size) := fun j hj => by
      obtain ⟨t, x, y, e, p, _⟩ := ac.it j _ hj
      cases e
      exact absurd rfl (lt p)
    -- what a step leaves
    have go : ∀ h' (x y : Value), xs[i]? = some x → ys[i]? = some y → s.heap.objs.size ≠ TO → (∀ c o, c ≠ z → c ≠ TO → c ≠ i1 → c ≠ i2 → s.heap.get? c = some o → h'.get? c = some o) → IsPair h' s.heap.objs.size x y → h'.objs.size = s.heap.objs.size + 1 →
        ZipSt z TI i1 i2 l1 l2 TO xs ys S (i + 1) h' → codeAny (model prog w) A (.builtin "list.extend.loop" ⟨[.ref S, .ref z, res], []⟩) R { s with heap := h'.update S (Obj.mapSeq (·.push (.ref s.heap.objs.size))) } := fun h' x y hx hy nTO hk2 hp hsz st' => by
      have hS' := hk2 S _ dz dTO di1 di2 hS
      have oth : ∀ b o, b ≠ S → h'.get? b = some o → (h'.update S (Obj.mapSeq (·.push (.ref s.heap.objs.size)))).get? b = some o := fun b o hb e => (Heap.get?_update_other _ _ (Ne.symm hb)).trans e
      have kk : ∀ b o, b ∉ [S, z, TO, i1, i2] → s.heap.get? b = some o → (h'.update S (Obj.mapSeq (·.push (.ref s.heap.objs.size)))).get? b = some o := fun b o hb e => oth b o (fun x => hb (by simp [x])) (hk2 b o (fun x => hb (by simp [x])) (fun x => hb (by simp [x])) (fun x => hb (by simp [x])) (fun x => hb (by simp [x])) e)
      refine ih (i + 1) { s with heap := h'.update S (Obj.mapSeq (·.push (.ref s.heap.objs.size))) } (acc.push (.ref s.heap.objs.size)) _ (by omega) hlt (by show lo ≤ (h'.update S _).objs.size; rw [Heap.size_update, hsz]; omega) ?_ ?_ (Heap.get?_update_self _ hS' rfl) fun h2 acc2 c2 k2 => hR h2 acc2 c2 fun b o hb e => k2 b o hb (kk b o hb e)
      · obtain ⟨q1, q2, q3, q4, q5, q6⟩ := st'
        refine ⟨oth _ _ (Ne.symm dTI) q1, q2.at fun o e => oth _ o (Ne.symm di1) e, q3.at fun o e => oth _ o (Ne.symm di2) e, q4.at fun o e => oth _ o (Ne.symm dl1) e, q5.at fun o e => oth _ o (Ne.symm dl2) e, ?_⟩
        rcases q6 with ⟨hz, a, b, hTO⟩ | ⟨T, f, oT, hz, hT, r1, r2, r3, r4⟩
        · exact .inl ⟨oth _ _ (Ne.symm dz) hz, a, b, oth _ _ (Ne.symm dTO) hTO⟩
        · exact .inr ⟨T, f, oT, oth _ _ (Ne.symm dz) hz, oth _ _ r4 hT, r1, r2, r3, r4⟩
      · exact (ac.keep kk).push (oth _ _ nS hp) hx hy hlo (by simp [nS, nz, nTO, n1, n2]) fre
    refine codeAny_builtin F.entry_extend_loop ?_
    rw [Around.under_plainId F.plain_extend_loop _]
    show wpAny _ A.in1 (pyNext (.ref z) >>= _) _ _ s
    rcases hz with ⟨hz, a, b, hTO⟩ | ⟨T, f, oT, hz, hT, r1, r2, r3, r4⟩
    · refine wpAny_bind (wpAny_pyNext_zip_item (A := A.in1) D hz hTI hTO h1 h2 hl1 hl2 ex ey fun h' a1 a2 a3 a4 a5 a6 hk => ?_)
      have hS' := hk S _ dz dTO di1 di2 hS
      show wpAny _ A.in1 (updateSeq S (·.push (.ref s.heap.objs.size)) >>= _) _ _ _
      refine wpAny_bind (wpAny_updateSeq (s := { s with heap := h' }) hS' rfl (wpAny_pure ⟨plainId_quiet F.plain_extend_loop _, go h' _ _ ex ey (lt hTO) hk a5 a6 ?_⟩) (by rw [ac.sz]; omega) (by show (acc.push _).size ≤ sizeLine + 1; rw [Array.size_push, ac.sz]; omega))
      exact ⟨hk _ _ D.TIz D.TITO D.TIi1 D.TIi2 hTI, a3, a4, hl1.at fun o e => hk _ o D.l1z D.l1TO D.l1i1 D.l1i2 e, hl2.at fun o e => hk _ o D.l2z D.l2TO D.l2i1 D.l2i2 e, .inr ⟨_, false, _, a1, a5, nz, n1, n2, nS⟩⟩
    · refine wpAny_bind (wpAny_pyNext_zip_item_held (A := A.in1) D hz hT hTI h1 h2 hl1 hl2 ex ey fun h' a1 a3 a4 a5 a6 hk2 => ?_)
      have hS' := hk2 S _ dz di1 di2 hS
      show wpAny _ A.in1 (updateSeq S (·.push (.ref s.heap.objs.size)) >>= _) _ _ _
      refine wpAny_bind (wpAny_updateSeq (s := { s with heap := h' }) hS' rfl (wpAny_pure ⟨plainId_quiet F.plain_extend_loop _, go h' _ _ ex ey (by omega) (fun c o c1 _ c3 c4 e => hk2 c o c1 c3 c4 e) a5 a6 ?_⟩) (by rw [ac.sz]; omega) (by show (acc.push _).size ≤ sizeLine + 1; rw [Array.size_push, ac.sz]; omega))
      exact ⟨hk2 _ _ D.TIz D.TIi1 D.TIi2 hTI, a3, a4, hl1.at fun o e => hk2 _ o D.l1z D.l1i1 D.l1i2 e, hl2.at fun o e => hk2 _ o D.l2z D.l2i1 D.l2i2 e, .inr ⟨T, true, oT, a1, hk2 _ _ r1 r2 r3 hT, r1, r2, r3, r4⟩⟩
end

section
variable {prog : Program} {w : World} {A : Around} {E : Value → Shared → Prop} {s : Shared}
theorem collect_zip {z TI TO i1 i2 l1 l2 : Addr} {xs ys : Array Value} {Q : List Value → Shared → Prop} (hh : A.handled = none) (D : ZipApart z TI TO i1 i2 l1 l2) (hn : min xs.size ys.size ≤ sizeLine)
    (hz : IsZip s.heap z TI TO .none) (hTI : IsPair s.heap TI (.ref i1) (.ref i2)) (hTO : ∃ a b, IsPair s.heap TO a b) (h1 : s.heap.IsListIter i1 l1 0) (h2 : s.heap.IsListIter i2 l2 0) (hl1 : s.heap.IsList l1 xs) (hl2 : s.heap.IsList l2 ys)
    (hQ : ∀ h' acc, (∀ b o, b ∉ [z, TO, i1, i2] → s.heap.get? b = some o → h'.get? b = some o) → AccOk xs ys [z, TO, i1, i2] (s.heap.objs.size + 1) (min xs.size ys.size) h' acc → Q acc.toList { s with heap := h' }) :
    wpAny (model prog w) A (collect (.ref z)) Q E s := by
  have lz : z < s.heap.objs.size := Heap.lt_size hz
  have lTI : TI < s.heap.objs.size := Heap.lt_size hTI
  have lTO : TO < s.heap.objs.size := let ⟨_, _, e⟩ := hTO; Heap.lt_size e
  have li1 : i1 < s.heap.objs.size := let ⟨_, e, _⟩ := h1; Heap.lt_size e
  have li2 : i2 < s.heap.objs.size := let ⟨_, e, _⟩ := h2; Heap.lt_size e
  have ll1 : l1 < s.heap.objs.size := let ⟨_, e, _⟩ := hl1; Heap.lt_size e
  have ll2 : l2 < s.heap.objs.size := let ⟨_, e, _⟩ := hl2; Heap.lt_size e
  unfold collect
  refine wpAny_bind (wpAny_runValue (codeAny_builtin F.entry_proto_collect ?_))
  rw [Around.under_plainId F.plain_proto_collect _]
  show wpAny _ A.in1 (newList [] >>= fun l => again (.builtin "list.__iadd__" ⟨[l, .ref z], []⟩)) _ _ s
  refine wpAny_bind (wpAny_newObj_type ?_)
  refine wpAny_pure ⟨plainId_quiet F.plain_list_iadd _, codeAny_builtin F.entry_list_iadd ?_⟩
  rw [Around.under_plainId F.plain_list_iadd _]
  have up : ∀ b o, s.heap.get? b = some o → (s.heap.push { cls := .type "list", data := .seq ([] : List Value).toArray }).get? b = some o := fun b o e => Heap.get?_push_of_some _ e
  have hTz : Shared.TypeIs { s with heap := s.heap.push { cls := .type "list", data := .seq ([] : List Value).toArray } } (.ref z) "zip" := ⟨_, up _ _ hz, rfl⟩
  show wpAny _ A.in1 (Builtin.List.listExtendWith (.ref s.heap.objs.size) (.ref z) (.ref s.heap.objs.size)) _ _ _
  unfold Builtin.List.listExtendWith
  refine wpAny_bind (wpAny_typeOf hTz ?_)
  have g1 : Builtin.List.listSameRef (.ref s.heap.objs.size) (.ref z) = false := by simp [Builtin.List.listSameRef, Nat.ne_of_gt lz]
  have g2 : (Value.type "zip" == Value.type "list") = false := by decide
  have g3 : (Value.type "zip" == Value.type "tuple") = false := by decide
  simp only [g1, g2, g3, Bool.or_false, Bool.false_eq_true, if_false]
  refine wpAny_bind (wpAny_pyIter_zip (up _ _ hz) ?_)
  refine wpAny_bind (wpAny_holding ?_)
  unfold Builtin.List.listLengthHint
  refine wpAny_bind (wpAny_specialOf hTz zip_no_len ?_)
  show wpAny _ A.in1 (specialOf (Value.ref z) (Str.ofString "__length_hint__") >>= _) _ _ _
  refine wpAny_bind (wpAny_specialOf hTz zip_no_hint ?_)
  refine wpAny_pure ?_
  show wpAny _ A.in1 (rule "list.extend.makes-room" >>= fun _ => Builtin.List.listTouch (.ref s.heap.objs.size) >>= fun _ =>
    again (.builtin "list.extend.loop" ⟨[.ref s.heap.objs.size, .ref z, .ref s.heap.objs.size], []⟩)) _ _ _
  refine wpAny_bind (wpAny_rule ?_)
  have hS₁ : (s.heap.push { cls := .type "list", data := .seq ([] : List Value).toArray }).get? s.heap.objs.size = some { cls := .type "list", data := .seq ([] : List Value).toArray } := Heap.get?_push_size _ rfl
  refine wpAny_bind ?_
  show wpAny _ A.in1 (updateSeq s.heap.objs.size (·.push .none) >>= fun _ => updateSeq s.heap.objs.size (·.pop)) _ _ _
  refine wpAny_bind (wpAny_updateSeq hS₁ rfl ?_)
  have hS₂ := Heap.get?_update_self (Obj.mapSeq (·.push Value.none)) hS₁ rfl
  refine wpAny_updateSeq hS₂ rfl ?_
  have hS₃ := Heap.get?_update_self (Obj.mapSeq (·.pop)) hS₂ rfl
  have oth : ∀ b o, s.heap.get? b = some o →
      (((s.heap.push { cls := .type "list", data := .seq ([] : List Value).toArray }).update s.heap.objs.size (Obj.mapSeq (·.push Value.none))).update s.heap.objs.size (Obj.mapSeq (·.pop))).get? b = some o :=
    fun b o e => (Heap.get?_update_other _ _ (Nat.ne_of_gt (Heap.lt_size e))).trans ((Heap.get?_update_other _ _ (Nat.ne_of_gt (Heap.lt_size e))).trans (up _ _ e))
  refine wpAny_pure ⟨plainId_quiet F.plain_extend_loop _, extend_zip (lo := s.heap.objs.size + 1) hh D (fun m => Nat.lt_irrefl s.heap.objs.size ((show ∀ b ∈ [z, TI, TO, i1, i2, l1, l2], b < s.heap.objs.size by simp [lz, lTI, lTO, li1, li2, ll1, ll2]) _ m)) hn (Nat.lt_succ_of_lt lTO) _ _ 0 _ _ _ rfl (Nat.zero_le _) ?_
    ⟨oth _ _ hTI, h1.at fun o e => oth _ o e, h2.at fun o e => oth _ o e, hl1.at fun o e => oth _ o e, hl2.at fun o e => oth _ o e, .inl ⟨oth _ _ hz, let ⟨a, b, e⟩ := hTO; ⟨a, b, oth _ _ e⟩⟩⟩ ⟨rfl, fun j v h => by simp at h, fun j k t h => by simp at h⟩ hS₃ fun h' acc' c' hk hS' hacc => ?_⟩
  · show s.heap.objs.size + 1 ≤ (((s.heap.push _).update _ _).update _ _).objs.size
    rw [Heap.size_update, Heap.size_update, Heap.size_push]
    exact Nat.le_refl _
  · show wpAny _ A (load s.heap.objs.size >>= _) _ _ _
    refine wpAny_bind (wpAny_load hS' ?_)
    refine wpAny_pure (hQ h' acc' (fun b o hb e => hk b o (fun m => ?_) (oth b o e)) ⟨hacc.sz, fun j v hj => let ⟨t, x, y, e, p, q1, q2, q3, q4⟩ := hacc.it j v hj; ⟨t, x, y, e, p, q1, q2, q3, fun m => q4 (List.mem_cons_of_mem _ m)⟩, hacc.nd⟩)
    rcases List.mem_cons.mp m with m | m
    · exact absurd (Heap.lt_size e) (by rw [m]; exact Nat.lt_irrefl _)
    · exact hb m

theorem code_tuple_zip {z TI TO i1 i2 l1 l2 : Addr} {xs ys : Array Value} {Q₁ : Value → Shared → Prop} (hh : A.handled = none) (D : ZipApart z TI TO i1 i2 l1 l2) (hn : min xs.size ys.size ≤ sizeLine)
    (hz : IsZip s.heap z TI TO .none) (hTI : IsPair s.heap TI (.ref i1) (.ref i2)) (hTO : ∃ a b, IsPair s.heap TO a b) (h1 : s.heap.IsListIter i1 l1 0) (h2 : s.heap.IsListIter i2 l2 0) (hl1 : s.heap.IsList l1 xs) (hl2 : s.heap.IsList l2 ys)
    (hQ : ∀ h' acc, (∀ b o, b ∉ [z, TO, i1, i2] → s.heap.get? b = some o → h'.get? b = some o) → AccOk xs ys [z, TO, i1, i2] (s.heap.objs.size + 1) (min xs.size ys.size) h' acc → Q₁ (.ref h'.objs.size) { s with heap := h'.push { cls := .type "tuple", data := .seq acc } }) :
    codeAny (model prog w) A (.call (.builtin "tuple.__new__") ⟨[.type "tuple", .ref z], []⟩) (wants Q₁ E) s := by
  refine codeAny_of_tree ?_
  show wpAny _ A.in1 (do checkBuiltinCall "tuple.__new__" ⟨[.type "tuple", .ref z], []⟩; again (.builtin "tuple.__new__" ⟨[.type "tuple", .ref z], []⟩)) _ _ s
  refine wpAny_bind (wpAny_of_eq (F.newCall_tuple_1 _) (wpAny_pure ⟨plainId_quiet F.plain_tuple_new _, codeAny_builtin F.entry_tuple_new ?_⟩))
  rw [Around.under_plainId F.plain_tuple_new _]
  have hsub := sub_tuple_self
  have hinit := init_tuple_lookup
  have hmh := madeHere_tuple
  have hTI' : s.TypeIs (.ref z) "zip" := ⟨_, hz, rfl⟩
  wp_walk using wpAny_typeOf hTI', collect_zip (A := A.in1) hh D hn hz hTI hTO h1 h2 hl1 hl2
  intro h' acc hm hacc
  show wpAny _ _ (Builtin.Tuple.tupleExact acc.toList.toArray >>= fun v => ret v) _ _ _
  unfold Builtin.Tuple.tupleExact
  refine wpAny_bind (wpAny_newObj_type ?_ (by show acc.toList.toArray.size ≤ sizeLine; simp only [Array.toArray_toList]; rw [hacc.sz]; exact hn))
  refine wpAny_pure ?_
  have e : acc.toList.toArray = acc := by simp
  rw [e]
  exact hQ h' acc hm hacc
theorem call_tuple_zip {z TI TO i1 i2 l1 l2 : Addr} {xs ys : Array Value} {Q : Value → Shared → Prop} (hh : A.handled = none) (D : ZipApart z TI TO i1 i2 l1 l2) (hn : min xs.size ys.size ≤ sizeLine)
    (hz : IsZip s.heap z TI TO .none) (hTI : IsPair s.heap TI (.ref i1) (.ref i2)) (hTO : ∃ a b, IsPair s.heap TO a b) (h1 : s.heap.IsListIter i1 l1 0) (h2 : s.heap.IsListIter i2 l2 0) (hl1 : s.heap.IsList l1 xs) (hl2 : s.heap.IsList l2 ys)
    (hQ : ∀ h' acc, (∀ b o, b ∉ [z, TO, i1, i2] → s.heap.get? b = some o → h'.get? b = some o) → AccOk xs ys [z, TO, i1, i2] (s.heap.objs.size + 1) (min xs.size ys.size) h' acc → Q (.ref h'.objs.size) { s with heap := h'.push { cls := .type "tuple", data := .seq acc } }) :
    wpAny (model prog w) A (call (.type "tuple") [.ref z]) Q E s := by
  refine callType_codes (Q₁ := fun obj s₁ => s₁.TypeIs obj "tuple" ∧ Q obj s₁) F.called_tuple (F.typeCall_tuple_1 _) F.entry_object_init
    (code_tuple_zip (A := _) hh D hn hz hTI hTO h1 h2 hl1 hl2 fun h' acc hm hacc => ⟨⟨_, Heap.get?_push_size _ rfl, rfl⟩, hQ h' acc hm hacc⟩) fun obj s₁ h₁ => ?_
  exact ⟨h₁.1, F.args_object_init_2 obj _, object_init_meets F.called_tuple.init.lookup F.called_tuple.made (by decide) prog w A.in1 _ s₁ ⟨h₁.1, rfl, h₁.2⟩⟩
end
end Ab
end
section
set_option Elab.async false
set_option linter.all false
set_option maxRecDepth 100000
set_option maxHeartbeats 4000000
namespace Ab
open PySem PySem.Spec PyProof.Rows L2
theorem Un.more {fs ex : List Addr} {H H' : Hp} {h h' : Heap} (k : ∀ b u, h.get? b = some u → h'.get? b = some u) (sm : Same H H') (hn : ∀ b u, h.get? b = some u → H b = none → H' b = none) : L2.Un fs ex H H' h h' where
  keep := fun b u q _ _ _ => k b u q
  slot := fun b u q _ _ _ => ⟨u.slots, k b u q⟩
  free := fun b u q n _ => hn b u q n
  there := fun b u q _ => ⟨u, k b u q⟩
  tups := fun b xs q => sm _ _ q
  frzs := fun b u xs q => sm _ _ q
  tbls := fun b ps q => ⟨#[], by rw [sm _ _ q]; simp⟩
structure Zipped (H H' : Hp) (xs ys : List V) (p : Addr) : Prop where
  same : Same H H'
  fresh : H p = none
  at' : ∃ o zs, H' p = some (.frz o (.tup zs)) ∧ o.dict = none ∧ zs.length = min xs.length ys.length ∧
    ∀ (j : Nat) (z : V), zs[j]? = some z → ∃ t ob x y, z = .ref t ∧ xs[j]? = some x ∧ ys[j]? = some y ∧ H t = none ∧ H' t = some (.frz ob (.tup [x, y])) ∧ ob.dict = none
def tTupZip (K : PySem.W.Frag) (ta : TA) : TE := fun σ H Q => ta σ H fun vs H1 => ∃ a b xs ys, vs = [.ref a, .ref b] ∧ SqL K H1 a xs ∧ SqL K H1 b ys ∧ ∀ p H2, Zipped H1 H2 xs ys p → Q (.ref p) H2
open Classical in
theorem zipped_heap {X : Cx} {pins : List (Addr × Obj)} {σ : L2.St} {H : Hp} {s : Shared} {h' : Heap} {acc its its2 : Array Value} {xs ys : List V} {bad : List Addr} {n : Nat} {t' : Nat} (I : Inv X pins σ H s) (rx : Vals xs its.toList) (ry : Vals ys its2.toList) (hx : xs.length ≤ sizeLine)
    (k : ∀ b o, s.heap.get? b = some o → h'.get? b = some o) (ac : AccOk its its2 bad n (min its.size its2.size) h' acc) (hn : s.heap.objs.size ≤ n) (hp : s.heap.objs.size ≤ h'.objs.size) :
    ∃ H2, Inv X pins σ H2 { s with heap := h'.push { cls := .type "tuple", data := .seq acc }, toks := t' } ∧ Zipped H H2 xs ys h'.objs.size := by
  have lx : xs.length = its.size := by rw [rx.length]; simp
  have ly : ys.length = its2.size := by rw [ry.length]; simp
  let p := h'.objs.size
  -- which tuple stands where
  let P : Addr → Option HO := fun b => if e : ∃ j : Nat, acc[j]? = some (.ref b) then (match xs[e.choose]?, ys[e.choose]?, its[e.choose]?, its2[e.choose]? with
    | some x, some y, some u, some v => some (.frz (tupO [u, v]) (.tup [x, y]))
    | _, _, _, _ => none) else none
  have hP : ∀ (j : Nat) (z : Value), acc[j]? = some z → ∃ t u v x y, z = .ref t ∧ xs[j]? = some x ∧ ys[j]? = some y ∧ RelV x u ∧ RelV y v ∧ IsPair h' t u v ∧ n ≤ t ∧ P t = some (.frz (tupO [u, v]) (.tup [x, y])) := fun j z hj => by
    obtain ⟨t, u, v, rfl, hpr, q1, q2, q3, _⟩ := ac.it j z hj
    have e : ∃ j : Nat, acc[j]? = some (.ref t) := ⟨j, hj⟩
    have ej : e.choose = j := ac.nd _ _ t e.choose_spec hj
    have jx : j < its.size := by
      rcases Nat.lt_or_ge j its.size with h | h
      · exact h
      · rw [Array.getElem?_eq_none h] at q1; cases q1
    have jy : j < its2.size := by
      rcases Nat.lt_or_ge j its2.size with h | h
      · exact h
      · rw [Array.getElem?_eq_none h] at q2; cases q2
    have ex : xs[j]? = some xs[j] := List.getElem?_eq_getElem (by omega)
    have ey : ys[j]? = some ys[j] := List.getElem?_eq_getElem (by omega)
    obtain ⟨u', hu, ru⟩ := rx.get ex
    obtain ⟨v', hv, rv⟩ := ry.get ey
    rw [Array.getElem?_toList, q1] at hu
    rw [Array.getElem?_toList, q2] at hv
    cases hu
    cases hv
    refine ⟨t, u, v, _, _, rfl, ex, ey, ru, rv, hpr, q3, ?_⟩
    show (if e : ∃ j : Nat, acc[j]? = some (.ref t) then _ else none) = _
    rw [dif_pos e, ej, ex, ey, q1, q2]
  have hPn : ∀ b u, P b = some u → ∃ j : Nat, acc[j]? = some (.ref b) := fun b u h => by
    by_cases e : ∃ j : Nat, acc[j]? = some (.ref b)
    · exact e
    · have : P b = none := dif_neg e
      rw [this] at h; cases h
  let H2 : Hp := fun b => if b = p then some (.frz { cls := .type "tuple", data := .seq acc } (.tup (acc.toList.map fun z => match z with | .ref t => V.ref t | _ => V.non))) else (P b).or (H b)
  have new : ∀ b u, P b = some u → s.heap.objs.size ≤ b := fun b u h => by
    obtain ⟨j, hj⟩ := hPn b u h
    obtain ⟨t, _, _, _, _, e, _, _, _, _, _, q, _⟩ := hP j _ hj
    cases e
    exact Nat.le_trans hn q
  have fr : ∀ b u, P b = some u → H b = none := fun b u h => I.hok.fresh (new b u h)
  have frp : H p = none := I.hok.fresh hp
  have sm : Same H H2 := fun b u e => by
    have h1 : b ≠ p := fun z => by rw [z, frp] at e; cases e
    have h2 : P b = none := by
      cases q : P b with
      | none => rfl
      | some w => rw [fr b w q] at e; cases e
    show (if b = p then _ else (P b).or (H b)) = _
    rw [if_neg h1, h2]
    exact e
  have k2 : ∀ b o, s.heap.get? b = some o → (h'.push { cls := .type "tuple", data := .seq acc }).get? b = some o := fun b o e => Heap.get?_push_of_some _ (k b o e)
  have hz : acc.size ≤ sizeLine := by rw [ac.sz]; omega
  have at2 : ∀ (j : Nat) (t : Addr), acc[j]? = some (.ref t) → H2 t = P t := fun j t hj => by
    obtain ⟨t', u, v, x, y, e, _, _, _, _, hpr, q, h⟩ := hP j _ hj
    cases e
    have h1 : t ≠ p := Nat.ne_of_lt (Heap.lt_size hpr)
    show (if t = p then _ else (P t).or (H t)) = _
    rw [if_neg h1, h]
    rfl
  refine ⟨H2, I.un (h' := h'.push { cls := .type "tuple", data := .seq acc }) (Un.more k2 sm fun b u q nb => ?_) (fun b u e => ?_), sm, frp, { cls := .type "tuple", data := .seq acc }, acc.toList.map (fun z => match z with | .ref t => V.ref t | _ => V.non), ?_, rfl, by simp [ac.sz, lx, ly], fun j z hj => ?_⟩
  · have lt := Heap.lt_size q
    have h1 : b ≠ p := Nat.ne_of_lt (Nat.lt_of_lt_of_le lt hp)
    have h2 : P b = none := by
      cases q2 : P b with
      | none => rfl
      | some w => exact absurd lt (Nat.not_lt.mpr (new b w q2))
    show (if b = p then _ else (P b).or (H b)) = _
    rw [if_neg h1, h2]
    exact nb
  · by_cases h1 : b = p
    · have : H2 b = some (.frz { cls := .type "tuple", data := .seq acc } (.tup (acc.toList.map fun z => match z with | .ref t => V.ref t | _ => V.non))) := if_pos h1
      rw [this] at e
      cases e
      rw [h1]
      have hp2 : (h'.push { cls := .type "tuple", data := .seq acc }).get? p = some { cls := .type "tuple", data := .seq acc } := Heap.get?_push_size _ rfl
      refine ⟨hp2, by simpa using hz, acc.toList, ?_, ⟨_, hp2, rfl, 0, by simp⟩⟩
      have : ∀ (l : List Value), (∀ z ∈ l, ∃ t, z = .ref t) → Vals (l.map fun z => match z with | .ref t => V.ref t | _ => V.non) l := fun l => by
        induction l with
        | nil => exact fun _ => .nil
        | cons z l ih =>
          intro h
          obtain ⟨t, rfl⟩ := h z (by simp)
          exact .cons rfl (ih fun z hz => h z (by simp [hz]))
      refine this _ fun z hz => ?_
      obtain ⟨j, hj⟩ := List.mem_iff_getElem?.mp hz
      rw [Array.getElem?_toList] at hj
      obtain ⟨t, _, _, _, _, e, _⟩ := hP j z hj
      exact ⟨t, e⟩
    · have e' : (P b).or (H b) = some u := by
        have : H2 b = (P b).or (H b) := if_neg h1
        rw [this] at e; exact e
      cases q : P b with
      | none =>
        rw [q] at e'
        exact (I.hok b u e').stay (fun c v _ q => k2 c v q) (fun c q => sm _ _ q) fun c xs q => sm _ _ q
      | some w =>
        rw [q] at e'
        cases e'
        obtain ⟨j, hj⟩ := hPn b _ q
        obtain ⟨t, u1, v1, x, y, e, _, _, ru, rv, hpr, _, h⟩ := hP j _ hj
        cases e
        rw [q] at h
        cases h
        have hq : (h'.push { cls := .type "tuple", data := .seq acc }).get? b = some (tupO [u1, v1]) := Heap.get?_push_of_some _ hpr
        exact ⟨hq, by show 2 ≤ sizeLine; decide, [u1, v1], .cons ru (.cons rv .nil), ⟨_, hq, rfl, _, rfl⟩⟩
  · exact if_pos rfl
  · rw [List.getElem?_map, Array.getElem?_toList] at hj
    obtain ⟨z0, h0, rfl⟩ := Option.map_eq_some_iff.mp hj
    obtain ⟨t, u1, v1, x, y, e, h1, h2, _, _, _, q, h⟩ := hP j z0 h0
    subst e
    exact ⟨t, tupO [u1, v1], x, y, rfl, h1, h2, fr t _ h, (at2 j t h0).trans h, rfl⟩
theorem pe_tupZip {X : Cx} {e e2 : Expr} {ta : TA} {p p2 q pos : Pos} (hg : Gl X "tuple") (hm : X.mg "tuple" = none) (hg2 : Gl X "zip") (hm2 : X.mg "zip" = none) (ha : PA X [e, e2] ta) (hc : X.calm = true := by rfl)
    (hs : starEach [e, e2] X.env = (false, eval e X.env) :: starEach [e2] X.env := by rfl) (hpl : (backTo q (starEach [e2] X.env)).any (·.1) = false := by rfl)
    (hs2 : starEach [.Call (.Name "zip" p2) [e, e2] [] q] X.env = (false, eval (.Call (.Name "zip" p2) [e, e2] [] q) X.env) :: starEach [] X.env := by rfl) :
    PE X (.Call (.Name "tuple" p) [.Call (.Name "zip" p2) [e, e2] [] q] [] pos) (tTupZip X.K ta) := by
  refine ⟨fun pins s σ H Q I h => ?_⟩
  refine Call_ (ld_blt I hg hm boot_tuple (PyProof.Rows.callWith_type1 (args_cons (Call_ (ld_blt I hg2 hm2 PyProof.Rows.boot_zip (PyProof.Rows.callWith_type1 (thn (ha.run q pins s σ H _ I h) fun us s1 ⟨vs, H1, I1, r1, q1⟩ => ?_) hs hpl))) hs2) hs2 rfl))
  obtain ⟨a, b, xs, ys, ex, hqx, hqy, q1⟩ := q1
  subst ex
  cases r1 with
  | cons r rr =>
    cases rr with
    | cons r' rr =>
      cases rr
      cases r
      cases r'
      obtain ⟨its, rv, p1, hz1⟩ := I1.list hqx
      obtain ⟨its2, rv2, p22, hz2⟩ := I1.list hqy
      have la : a < s1.heap.objs.size := p1.lt
      have lb : b < s1.heap.objs.size := p22.lt
      refine call_zip_2 p1.isList p22.isList fun h' hz hTI hTO h1 h2 hsz hk => args_nil ?_
      refine call_tuple_zip (I1.ok.hd hc) (PySem.W.ktu_apart s1.heap.objs.size a b la lb) (by have := rv.length; simp; omega) hz hTI ⟨_, _, hTO⟩ h1 h2 (p1.isList.at fun o e => hk _ o e) (p22.isList.at fun o e => hk _ o e) fun h2 acc hk2 ac => ?_
      have kk : ∀ b o, s1.heap.get? b = some o → h2.get? b = some o := fun b o e => hk2 b o (fun m => by
        have lt := Heap.lt_size e
        simp at m
        rcases m with m | m | m | m <;> rw [m] at lt
        · exact absurd lt (Nat.not_lt.mpr (Nat.le_add_right _ _))
        · exact absurd lt (Nat.not_lt.mpr (Nat.le_add_right _ _))
        · exact absurd lt (Nat.lt_irrefl _)
        · exact absurd lt (Nat.not_lt.mpr (Nat.le_add_right _ _))) (hk b o e)
      obtain ⟨H2, I2, z⟩ := zipped_heap (t' := s1.toks) I1 (its := its.toArray) (its2 := its2.toArray) (by simpa using rv) (by simpa using rv2) hz1 kk ac (by show _ ≤ h'.objs.size + 1; omega) (by
        have q := hk2 (s1.heap.objs.size + 2) _ (fun m => by
          simp at m
          ) hTI
        have lt := Heap.lt_size q
        exact Nat.le_of_lt (Nat.lt_of_le_of_lt (Nat.le_add_right _ _) lt))
      exact ⟨.ref h2.objs.size, H2, I2, rfl, q1 _ _ z⟩
end Ab
end
section
set_option Elab.async false
set_option linter.all false
set_option maxRecDepth 100000
set_option maxHeartbeats 4000000
namespace Ab
open PySem PySem.Spec PyProof.Rows L2
def zipD (xs ys : List PyData) : List PyData := List.zipWith (fun x y => PyData.tuple [x, y]) xs ys
def aTupZip (A : AEnv → ASto → Res (List Sl)) : AEnv → ASto → Res Sl := fun ds M => (A ds M).bind fun ss M1 => match ss with
  | [s, u] => match vwL M1 s, vwL M1 u with
    | some xs, some ys => .ok (.d (.tuple (zipD xs ys))) M1
    | _, _ => .no
  | _ => .no
/-- list('text') -/
def strD (x : Str) : List PyData := x.cps.toList.map fun c => PyData.str ⟨#[c]⟩
def aListStr : List Sl → ASto → Res Sl := fun ss M => match ss with
  | [.d (.str x)] => if x.cps.size ≤ 100000 then .ok (.d (.list (strD x))) M else .no
  | _ => .no
/-- xs + ys as a new cell -/
def aCatC : Sl → Sl → ASto → Res Sl := fun s u M => match vwL M s, vwL M u with
  | some xs, some ys => if xs.length + ys.length ≤ 100000 then .ok (.r M.length) (M ++ [.lst ((xs ++ ys).map Sl.d)]) else .no
  | _, _ => .no
/-- the values of a dict that are lists never change again -/
def frzVL (M : ASto) : List (Key × Sl) → Option (List (Key × Sl) × ASto)
  | [] => some ([], M)
  | e :: r => match e.2 with
    | .d x => (frzVL M r).map fun z => (e :: z.1, z.2)
    | .r m => match frzD M (.r m) with
      | some x => (frzVL (M.set m .gone) r).map fun z => ((e.1, .d x) :: z.1, z.2)
      | none => none
    | .s _ => none
def aFrzV (i : Nat) (f : AEnv → ASto → Out) : AEnv → ASto → Out := fun ds M => match ds[i]? with
  | some (some (.r n)) => match M[n]? with
    | some (.dct kvs) => match frzVL M kvs with
      | some (kvs', M') => f ds (M'.set n (.dct kvs'))
      | none => .no
    | _ => .no
  | _ => .no
section
variable {P : Program} {w : World} {K : PySem.W.Frag} {mg : Str → Option Value} {E : XK}
theorem zip_all {W : Hp} {zs vs us : List V} : ∀ {xs ys : List PyData}, DqAll K W vs xs → DqAll K W us ys → zs.length = min vs.length us.length →
    (∀ (j : Nat) (z : V), zs[j]? = some z → ∃ t ob x y, z = .ref t ∧ vs[j]? = some x ∧ us[j]? = some y ∧ W t = some (.frz ob (.tup [x, y])) ∧ ob.dict = none) → DqAll K W zs (zipD xs ys) := by
  induction zs generalizing vs us with
  | nil =>
    intro xs ys hx hy hl _
    cases hx with
    | nil => simp only [zipD, List.zipWith_nil_left]; exact .nil
    | cons a b =>
      cases hy with
      | nil => simp only [zipD, List.zipWith_nil_right]; exact .nil
      | cons c d => simp at hl
  | cons z zs ih =>
    intro xs ys hx hy hl h
    cases hx with
    | nil => simp at hl
    | cons a b =>
      cases hy with
      | nil => simp at hl
      | cons c d =>
        obtain ⟨t, ob, x, y, rfl, h1, h2, h3, h4⟩ := h 0 z rfl
        cases h1
        cases h2
        exact .cons (.tup h3 h4 (.cons a (.cons c .nil))) (ih b d (by simp at hl; omega) fun j z hj => h (j + 1) z hj)
theorem zip_go {W : Hp} {as : List Addr} {M : ASto} {H H2 : Hp} {p a b : Addr} {vs us : List V} {xs ys : List PyData} (o : Own P w K W as M H) (z : Zipped H H2 vs us p) (hx : DqAll K W vs xs) (hy : DqAll K W us ys) :
    ∃ W', Go P w K W as H W' as M H2 ∧ Dq K W' (.ref p) (.tuple (zipD xs ys)) := by
  obtain ⟨sm, fr, ob, zs, hp, hd, hl, hz⟩ := z
  let W' : Hp := fun c => match H c with
    | none => H2 c
    | some _ => W c
  have w0 : ∀ c, H c = none → W' c = H2 c := fun c h => by show (match H c with | none => H2 c | some _ => W c) = _; rw [h]
  have w1 : ∀ c u, H c = some u → W' c = W c := fun c u h => by show (match H c with | none => H2 c | some _ => W c) = _; rw [h]
  have sw : Same W W' := fun c u e => by rw [w1 c u (o.sub c u e)]; exact e
  refine ⟨W', ⟨sw, ⟨[], by simp, by simp⟩, ⟨fun c u e => ?_, o.len, o.nd, fun n c cl h1 h2 => ?_⟩, fun c u e _ => sm _ _ e, fun c h => ?_⟩, .tup ((w0 p fr).trans hp) hd (zip_all (DqAll.up sw hx) (DqAll.up sw hy) hl fun j z hj => ?_)⟩
  · cases q : H c with
    | none => rw [w0 c q] at e; exact e
    | some x => rw [w1 c x q] at e; exact sm _ _ (o.sub c u e)
  · have live := o.live (List.mem_of_getElem? h1)
    obtain ⟨u, hu⟩ := Option.ne_none_iff_exists'.mp live
    have := (o.cell n c cl h1 h2).up (bs := []) sw (w1 c u hu) ((sm _ _ hu).trans hu.symm)
    rwa [List.append_nil] at this
  · cases q : H c with
    | none => exact .inr (.inr rfl)
    | some x => rw [w1 c x q] at h; exact .inl h
  · obtain ⟨t, ob, x, y, e, h1, h2, h3, h4, h5⟩ := hz j z hj
    exact ⟨t, ob, x, y, e, h1, h2, (w0 t h3).trans h4, h5⟩
theorem se_tupZip {ta : TA} {A : AEnv → ASto → Res (List Sl)} (ha : SA P w K mg E ta A) : SE P w K mg E (tTupZip K ta) (aTupZip A) := ⟨fun ds M σ W as H Q e o h =>
  ha.run ds M σ W as H _ e o (MG.bind h fun ss M1 _ vs W1 as1 H1 g1 r1 h1 => by
    split at h1
    · obtain ⟨v, u, rfl, rv, ru⟩ := two_of r1
      split at h1
      · rename_i xs ys hx hy
        obtain ⟨a, vs, rfl, a1, a2⟩ := vwL_rel g1.own rv hx
        obtain ⟨b, us, rfl, b1, b2⟩ := vwL_rel g1.own ru hy
        refine ⟨a, b, vs, us, rfl, SqL.of a1, SqL.of b1, fun p H2 z => ?_⟩
        obtain ⟨W2, g2, q⟩ := zip_go (a := a) (b := b) g1.own z a2 b2
        exact h1 _ W2 as1 H2 g2 q
      · exact h1.elim
    · exact h1.elim)⟩
def rListStr : List V → Hp → VK → Prop := fun xs H Q => ∃ x : Str, xs = [.str x] ∧ x.cps.size ≤ sizeLine ∧ ∀ l, H l = none → Q (.ref l) (upd H l (.lst ((strD x).map fun d => match d with | .str y => V.str y | _ => V.non)))
theorem call_list_strX {X : Cx} (hc : X.calm = true) : CallR X (.type "list") rListStr := by
  rintro pins s σ H xs us Q I r ⟨x, rfl, hz, q⟩
  obtain ⟨u, rfl, rx⟩ := vals1 r
  obtain ⟨t, rfl⟩ := rx
  refine call_list_str (I.ok.hd hc) x t (hn := hz) fun h' tk acc c hk hS hacc => ?_
  have lv : Vals ((strD x).map fun d => match d with | .str y => V.str y | _ => V.non) acc.toList := by
    have hsz : acc.toList.length = x.cps.toList.length := by rw [Array.length_toList, hacc.1]; simp
    have hat : ∀ (j : Nat) (v : Value), acc.toList[j]? = some v → SignAt x j v := fun j v hj => hacc.2 j v (by rwa [Array.getElem?_toList] at hj)
    have key : ∀ (l : List Value) (cs : List Nat) , l.length = cs.length → (∀ (j : Nat) (v : Value), l[j]? = some v → ∃ c u, cs[j]? = some c ∧ v = .str ⟨#[c]⟩ u) → Vals (cs.map fun c => V.str ⟨#[c]⟩) l := fun l => by
      induction l with
      | nil =>
        intro cs h _
        cases cs with
        | nil => exact .nil
        | cons c cs => simp at h
      | cons v l ih =>
        intro cs h g
        cases cs with
        | nil => simp at h
        | cons c cs =>
          obtain ⟨c', u, h1, rfl⟩ := g 0 v rfl
          simp at h1
          subst h1
          exact .cons ⟨u, rfl⟩ (ih cs (by simpa using h) fun j v hj => g (j + 1) v hj)
    have := key acc.toList x.cps.toList hsz fun j v hj => by
      obtain ⟨c, u, h1, h2⟩ := hat j v hj
      exact ⟨c, u, by simpa using h1, h2⟩
    simpa [strD, Function.comp_def] using this
  exact ⟨.ref s.heap.objs.size, _, I.laid (o := .lst _) hk (Nat.le_refl _) ⟨by simpa [strD] using hz, acc.toList, c, lv, hS⟩, rfl, q _ (I.hok.fresh (Nat.le_refl _))⟩
theorem strD_dq {W : Hp} : ∀ cs : List Nat, DqAll K W (cs.map fun c => V.str ⟨#[c]⟩) (cs.map fun c => PyData.str ⟨#[c]⟩)
  | [] => .nil
  | c :: cs => .cons (.str _) (strD_dq cs)
theorem scListStr : SC P w K mg rListStr aListStr := by
  intro M W as H x s Q E o rx m
  unfold aListStr at m
  split at m
  · obtain ⟨v, rfl, r⟩ := one_of rx
    split at m
    · rename_i z hz
      cases r
      refine ⟨z, rfl, sz_le hz, fun p hp => m.new o hp (.lst upd_same ?_)⟩
      have := strD_dq (K := K) (W := upd W p (.lst ((strD z).map fun d => match d with | .str y => V.str y | _ => V.non))) z.cps.toList
      simpa [strD, Function.comp_def] using this
    · exact m.elim
  · exact m.elim
theorem sr_catC : SR P w K mg rCat aCatC := by
  intro M W as H x y s u Q E o rx ry m
  unfold aCatC at m
  split at m
  · rename_i xs ys hx hy
    split at m
    · rename_i hl
      obtain ⟨a, vs, rfl, a1, a2⟩ := vwL_rel o rx hx
      obtain ⟨b, us, rfl, b1, b2⟩ := vwL_rel o ry hy
      refine ⟨a, b, vs, us, rfl, rfl, a1, b1, by rw [DqAll.len a2, DqAll.len b2]; exact sz_le hl, fun p hp => m.cell o hp (dqAll_rel (DqAll.app a2 b2))⟩
    · exact m.elim
  · exact m.elim
/-- a cell's content told otherwise -/
theorem Own.retell {W : Hp} {as : List Addr} {M : ASto} {H : Hp} (o : Own P w K W as M H) {n : Nat} {c : Cell} (hc : ∀ a, as[n]? = some a → CellOk P w K W as H a c) : Own P w K W as (M.set n c) H :=
  ⟨o.sub, by simp [o.len], o.nd, fun m b c2 h1 h2 => by
    rw [List.getElem?_set] at h2
    by_cases hm : n = m
    · subst hm
      rw [if_pos rfl] at h2
      split at h2
      · cases h2; exact hc b h1
      · cases h2
    · rw [if_neg hm] at h2
      exact o.cell m b c2 h1 h2⟩
theorem frzVL_go {W : Hp} {as : List Addr} {H : Hp} : ∀ {kvs kvs' : List (Key × Sl)} {es : List (Key × V)} {M M' : ASto}, Own P w K W as M H → Paired (RD K W as) es kvs → frzVL M kvs = some (kvs', M') →
    ∃ W', Go P w K W as H W' as M' H ∧ Paired (RD K W' as) es kvs' ∧ (∀ m : Nat, (∃ c, M[m]? = some c ∧ ∀ xs, c ≠ Cell.lst xs) → M'[m]? = M[m]?)

  | [], kvs', _, M, M', o, .nil, h => by
    cases h
    exact ⟨W, Go.refl o, .nil, fun _ _ => rfl⟩
  | (k, .d x) :: r, kvs', _, M, M', o, .cons (a := e) q qs, h => by
    simp only [frzVL] at h
    obtain ⟨z, h1, h2⟩ := Option.map_eq_some_iff.mp h
    cases h2
    obtain ⟨W', g, p, kp⟩ := frzVL_go o qs (show frzVL M r = some (z.1, z.2) from h1)
    exact ⟨W', g, .cons ⟨q.1, g.rel q.2⟩ p, kp⟩
  | (k, .r m) :: r, kvs', _, M, M', o, .cons (a := e) q qs, h => by
    simp only [frzVL] at h
    split at h
    · rename_i x hx
      obtain ⟨z, h1, h2⟩ := Option.map_eq_some_iff.mp h
      cases h2
      obtain ⟨W1, g1, dq⟩ := frz_go o q.2 hx
      obtain ⟨W', g, p, kp⟩ := frzVL_go g1.own (Paired.imp' (fun _ _ r => ⟨r.1, g1.rel r.2⟩) qs) (show frzVL (M.set m .gone) r = some (z.1, z.2) from h1)
      have hm : ∃ ss, M[m]? = some (.lst ss) := by
        dsimp only [frzD] at hx
        split at hx
        · rename_i ss hs; exact ⟨ss, hs⟩
        · cases hx
      refine ⟨W', g1.trans g, .cons ⟨q.1, g.rel (s := .d x) dq⟩ p, fun n hn => ?_⟩
      have hne : m ≠ n := fun e => by
        subst e
        obtain ⟨ss, hs⟩ := hm
        obtain ⟨c, hc, hc2⟩ := hn
        rw [hs] at hc
        cases hc
        exact hc2 _ rfl
      have e1 : (M.set m .gone)[n]? = M[n]? := by rw [List.getElem?_set, if_neg hne]
      rw [kp n (by rw [e1]; exact hn), e1]
    · cases h
  | (k, .s m) :: r, kvs', _, M, M', o, _, h => by
    simp only [frzVL] at h
    cases h
theorem ss_frzV {ts : TS} {f : AEnv → ASto → Out} (i : Nat) (hs : SS P w K mg E ts f) : SS P w K mg E ts (aFrzV i f) := ⟨fun ds M σ W as H D e o h => by
  unfold aFrzV at h
  split at h
  · rename_i n hi
    split at h
    · rename_i kvs hn
      split at h
      · rename_i kvs' M' hf
        obtain ⟨v, h1, a, ha, rfl⟩ := e.2 i _ hi
        obtain ⟨hw, es, hH, q⟩ := o.cell n a _ ha hn
        obtain ⟨W', g, p, kp⟩ := frzVL_go o q hf
        have hn' : M'[n]? = some (.dct kvs) := (kp n ⟨_, hn, fun xs z => by cases z⟩).trans hn
        have hw' := (g.own.cell n a _ ha hn').1
        have own2 : Own P w K W' as (M'.set n (.dct kvs')) H := g.own.retell fun b hb => by
          rw [ha] at hb; cases hb
          exact ⟨hw', es, hH, p⟩
        have g2 : Go P w K W as H W' as (M'.set n (.dct kvs')) H := ⟨g.same, g.pre, own2, g.keep, g.new⟩
        exact hs.run _ _ σ W' as H D (g2.env e) own2 (MO.go h g2)
      · exact h.elim
    · exact h.elim
  · exact h.elim⟩
end
end Ab
end
section
set_option Elab.async false
set_option linter.all false
set_option maxRecDepth 100000
set_option maxHeartbeats 4000000
namespace Ab
open PySem PySem.Spec PyProof.Rows L2
def iZip2A (A : AEnv → ASto → Res (List Sl)) : AEnv → ASto → Res (List Sl) := fun ds M => (A ds M).bind fun ss M1 => match ss with
  | [.d (.list xs), .d (.list ys)] => .ok (zipL xs ys) M1
  | [.d (.tuple xs), .d (.tuple ys)] => .ok (zipL xs ys) M1
  | _ => .no
section
variable {P : Program} {w : World} {K : PySem.W.Frag} {mg : Str → Option Value} {E : XK}
theorem walk_zipT {a b : Addr} {xs ys : List V} {n : Nat} (hn : n = min xs.length ys.length) : Walk (RZ.ItzT K a b) n (fun H => SqT K H a xs ∧ SqT K H b ys) (YPair (fun i => xs[i]?) (fun i => ys[i]?)) := by
  subst hn
  refine ⟨fun i _ hi q => ?_, fun _ q => ⟨xs, ys, q.1, q.2, by omega⟩, fun i H v H' _ q y => ?_⟩
  · have h1 : i < xs.length := by omega
    have h2 : i < ys.length := by omega
    exact ⟨xs, ys, xs[i], ys[i], q.1, q.2, by simp [h1], by simp [h2]⟩
  · obtain ⟨T, x, z, h1, h2, h3, h4, h5⟩ := y
    exact ⟨T, x, z, h1, h2, h3, h4 xs q.1, h5 ys q.2⟩
theorem si_zip2 {t : TA} {A : AEnv → ASto → Res (List Sl)} (ha : SA P w K mg E t A) : SI P w K mg (SlW K) E (RZ.iZipA K t) (iZip2A A) := ⟨fun ds M σ W as H R e o h =>
  ha.run ds M σ W as H _ e o (MG.bind h fun ss M1 hA vs W1 as1 H1 g1 r1 h1 => by
    split at h1
    · rename_i xs ys
      obtain ⟨v, u, rfl, r, r'⟩ := two_of r1
      cases r with
      | @lst a us _ hs hd =>
        cases r' with
        | @lst b ws _ ht hf =>
          refine ⟨a, b, us, ws, rfl, .inl ⟨g1.own.seq hs, g1.own.seq ht, h1 _ W1 as1 H1 (Go.refl g1.own) (it_pair (walk_zip rfl) (by rw [zipL_len, DqAll.len hd, DqAll.len hf]) (fun W2 as2 M2 H2 o2 sm => ⟨SqL.of (o2.sub _ _ (sm _ _ hs)), SqL.of (o2.sub _ _ (sm _ _ ht))⟩) fun i s x y hs2 e1 e2 => ?_)⟩⟩
          obtain ⟨z1, z2, h3, h4, rfl⟩ := zipL_at xs ys i s hs2
          obtain ⟨v1, h5, h6⟩ := DqAll.at hd h3
          obtain ⟨v2, h7, h8⟩ := DqAll.at hf h4
          rw [e1] at h5
          cases h5
          rw [e2] at h7
          cases h7
          exact ⟨_, _, rfl, h6, h8⟩
    · rename_i xs ys
      obtain ⟨v, u, rfl, r, r'⟩ := two_of r1
      cases r with
      | @tup a ob us _ hs hn hd =>
        cases r' with
        | @tup b ob2 ws _ ht hn2 hf =>
          refine ⟨a, b, us, ws, rfl, .inr ⟨g1.own.tup (.inr ⟨_, hs⟩), g1.own.tup (.inr ⟨_, ht⟩), h1 _ W1 as1 H1 (Go.refl g1.own) (it_pair (walk_zipT rfl) (by rw [zipL_len, DqAll.len hd, DqAll.len hf]) (fun W2 as2 M2 H2 o2 sm => ⟨.inl (.inr ⟨_, o2.sub _ _ (sm _ _ hs)⟩), .inl (.inr ⟨_, o2.sub _ _ (sm _ _ ht)⟩)⟩) fun i s x y hs2 e1 e2 => ?_)⟩⟩
          obtain ⟨z1, z2, h3, h4, rfl⟩ := zipL_at xs ys i s hs2
          obtain ⟨v1, h5, h6⟩ := DqAll.at hd h3
          obtain ⟨v2, h7, h8⟩ := DqAll.at hf h4
          rw [e1] at h5
          cases h5
          rw [e2] at h7
          cases h7
          exact ⟨_, _, rfl, h6, h8⟩
    · exact h1.elim)⟩
end
end Ab
end
section
set_option Elab.async false
set_option linter.all false
set_option maxRecDepth 100000
set_option maxHeartbeats 4000000
namespace Ab
open PySem PySem.Spec PyProof.Rows L2
/-- a slice of the script -/
def aSlS (A : AEnv → ASto → Res Sl) (B C : AEnv → ASto → Res (Option Int)) : AEnv → ASto → Res Sl := fun ds M => (A ds M).bind fun s M1 => (B ds M1).bind fun lo M2 => (C ds M2).bind fun hi M3 => match s with
  | .s ns => .ok (.d (.list (cutD (ns.map PyData.int) lo hi))) M3
  | _ => .no
section
variable {P : Program} {w : World} {K : PySem.W.Frag} {mg : Str → Option Value} {E : XK}
theorem ints_dq {W : Hp} : ∀ ns : List Int, DqAll K W (ns.map V.int) (ns.map PyData.int)
  | [] => .nil
  | i :: ns => .cons (.int i) (ints_dq ns)
theorem se_sliceS {te : TE} {tl th : TO} {A : AEnv → ASto → Res Sl} {B C : AEnv → ASto → Res (Option Int)} (ha : SE P w K mg E te A) (hb : SO P w K mg E tl B) (hc : SO P w K mg E th C) : SE P w K mg E (tSl (rSlQ K) te tl th) (aSlS A B C) := ⟨fun ds M σ W as H Q e o h =>
  ha.run ds M σ W as H _ e o (MG.bind h fun s M1 _ v W1 as1 H1 g1 r1 h1 => hb.run ds M1 σ W1 as1 H1 _ (g1.env e) g1.own (MG.bind h1 fun lo M2 _ l W2 as2 H2 g2 r2 h2 => hc.run ds M2 σ W2 as2 H2 _ (g2.env (g1.env e)) g2.own (MG.bind h2 fun hi M3 _ u W3 as3 H3 g3 r3 h3 => by
    cases r2
    cases r3
    split at h3
    · rename_i ns _
      obtain ⟨a, rfl, q⟩ := g3.rel (g2.rel r1)
      have q2 : SqL K H3 a (ns.map V.int) := SqL.up g3.own.sub q
      refine .inl ⟨a, _, rfl, q2, fun p hp => h3.new g3.own hp (.lst upd_same (cut_rel (ints_dq ns) _ _))⟩
    · exact h3.elim)))⟩
end
end Ab
end
section
set_option Elab.async false
set_option linter.all false
set_option maxRecDepth 100000
set_option maxHeartbeats 4000000
namespace Ab
open PySem PySem.Spec PyProof.Rows L2
/-- () + ys, xs + () -/
def aCat0 : Sl → Sl → ASto → Res Sl := fun s u M => match s, u with
  | .d (.tuple []), .d (.tuple ys) => .ok (.d (.tuple ys)) M
  | .d (.tuple (x :: xs)), .d (.tuple []) => if xs.length ≤ 100000 then .ok (.d (.tuple (x :: xs))) M else .no
  | _, _ => .no
def aAddE : Sl → Sl → ASto → Res Sl := fun s u M => orF (aAddQ s u M) (aCat0 s u M)
def rCat0 (K : PySem.W.Frag) : R2 := fun x y H Q => ∃ a b xs ys, x = .ref a ∧ y = .ref b ∧ SqT K H a xs ∧ SqT K H b ys ∧ xs.length ≤ sizeLine ∧ ((xs = [] ∧ Q (.ref b) H) ∨ (xs ≠ [] ∧ ys = [] ∧ Q (.ref a) H))
theorem op_cat0 {X : Cx} : OpR X (binaryOp .Add) (rCat0 X.K) := by
  rintro pins s σ H x y v u Q I rx ry ⟨a, b, xs, ys, rfl, rfl, ha, hb, hz, h⟩
  obtain rfl : v = Value.ref a := rx
  obtain rfl : u = Value.ref b := ry
  obtain ⟨i1, r1, p1, _⟩ := I.tuple ha
  obtain ⟨i2, r2, p2, _⟩ := I.tuple hb
  rcases h with ⟨rfl, q⟩ | ⟨hx, rfl, q⟩
  · cases r1
    exact L2.cat_tup0 p1 p2 ⟨.ref b, H, I, rfl, q⟩
  · cases r2
    exact HT.cat_tup p1 p2 (fun z => hx (r1.nil_iff.mp z)) (fun z => ⟨.ref a, H, I, rfl, q⟩) (fun z => absurd rfl z) (by rw [← r1.length]; simpa using hz)
abbrev rAddE (K : PySem.W.Frag) : R2 := rOr (rAddQ K) (rCat0 K)
theorem opAddE {X : Cx} : OpR X (binaryOp .Add) (rAddE X.K) := OpR.or opAddQ op_cat0
section
variable {P : Program} {w : World} {K : PySem.W.Frag} {mg : Str → Option Value}
theorem sr_cat0 : SR P w K mg (rCat0 K) aCat0 := by
  intro M W as H x y s u Q E o rx ry m
  unfold aCat0 at m
  split at m
  · cases rx with
    | @tup a oa vs _ ha na a2 =>
      cases a2
      cases ry with
      | @tup b ob us _ hb nb b2 =>
        exact ⟨a, b, [], us, rfl, rfl, o.tup (.inr ⟨_, ha⟩), o.tup (.inr ⟨_, hb⟩), Nat.zero_le _, .inl ⟨rfl, m.now o (.tup hb nb b2)⟩⟩
  · cases rx with
    | @tup a oa vs _ ha na a2 =>
      cases ry with
      | @tup b ob us _ hb nb b2 =>
        cases b2
        split at m
        · rename_i hl
          refine ⟨a, b, vs, [], rfl, rfl, o.tup (.inr ⟨_, ha⟩), o.tup (.inr ⟨_, hb⟩), ?_, .inr ⟨fun z => ?_, rfl, m.now o (.tup ha na a2)⟩⟩
          · have l1 := DqAll.len a2
            have : 100002 ≤ sizeLine := by decide
            simp only [List.length_cons] at l1
            omega
          · have l1 := DqAll.len a2
            rw [z] at l1
            simp at l1
        · exact m.elim
  · exact m.elim
theorem srAddE : SR P w K mg (rAddE K) aAddE := SR.or srAddQ sr_cat0
end
end Ab
end
section
set_option Elab.async false
set_option linter.all false
set_option maxRecDepth 100000
set_option maxHeartbeats 4000000
/-! a op b op c over the machine -/
namespace Ab
open PySem PySem.Spec PyProof.Rows L2
def aChain (f g : Sl → Sl → ASto → Res Sl) (A B C : AEnv → ASto → Res Sl) : AEnv → ASto → Res Sl := fun ds M => (A ds M).bind fun x M1 => (B ds M1).bind fun y M2 => (f x y M2).bind fun z M3 => match z with
  | .d (.bool true) => (C ds M3).bind fun u M4 => g y u M4
  | .d (.bool false) => .ok (.d (.bool false)) M3
  | _ => .no
section
variable {P : Program} {w : World} {K : PySem.W.Frag} {mg : Str → Option Value} {E : XK}
theorem se_chain {r r' : R2} {f g : Sl → Sl → ASto → Res Sl} {ta tb tc : TE} {A B C : AEnv → ASto → Res Sl} (hr : SR P w K mg r f) (hr' : SR P w K mg r' g) (ha : SE P w K mg E ta A) (hb : SE P w K mg E tb B) (hc : SE P w K mg E tc C) : SE P w K mg E (tChain r r' ta tb tc) (aChain f g A B C) := ⟨fun ds M σ W as H Q e o h =>
  ha.run ds M σ W as H _ e o (MG.bind h fun x M1 _ v W1 as1 H1 g1 r1 h1 => hb.run ds M1 σ W1 as1 H1 _ (g1.env e) g1.own (MG.bind h1 fun y M2 _ u W2 as2 H2 g2 r2 h2 =>
    hr M2 W2 as2 H2 v u x y _ E g2.own (g2.rel r1) r2 (MG.bind h2 fun z M3 _ t W3 as3 H3 g3 r3 h3 => by
      generalize f x y M2 = fz at *
      split at h3
      · cases r3
        rename_i rz
        cases rz
        exact ⟨true, rfl, by
          rw [if_pos rfl]
          exact hc.run ds M3 σ W3 as3 H3 _ (g3.env (g2.env (g1.env e))) g3.own (MG.bind h3 fun q M4 _ p W4 as4 H4 g4 r4 h4 => hr' M4 W4 as4 H4 u p y q Q E g4.own (g4.rel (g3.rel r2)) r4 h4)⟩
      · cases r3
        rename_i rz
        cases rz
        exact ⟨false, rfl, by
          rw [if_neg (by decide)]
          exact MG.now (a := _) h3 g3.own (show SlRel K W3 as3 (V.bl false) (.d (.bool false)) from Dq.bl false)⟩
      · exact h3.elim)))⟩
end
end Ab
end
section
set_option Elab.async false
set_option linter.all false
set_option maxRecDepth 100000
set_option maxHeartbeats 4000000
/-! the letters of a text, and which text is not above another one -/
namespace Ab
open PySem PySem.Spec PyProof.Rows L2
def iStrA (A : AEnv → ASto → Res Sl) : AEnv → ASto → Res (List Sl) := fun ds M => (A ds M).bind fun s M1 => match s with
  | .d (.str x) => .ok ((strD x).map Sl.d) M1
  | _ => .no
def rLeS : R2 := fun x y H Q => ∃ i j, x = .str i ∧ y = .str j ∧ Q (.bl (!decide (j.cps.toList < i.cps.toList))) H
def aLeS : Sl → Sl → ASto → Res Sl := fun s u M => match s, u with
  | .d (.str i), .d (.str j) => .ok (.d (.bool (!decide (j.cps.toList < i.cps.toList)))) M
  | _, _ => .no
section
variable {P : Program} {w : World} {K : PySem.W.Frag} {mg : Str → Option Value} {E : XK}
theorem sr_leS : SR P w K mg rLeS aLeS := by
  intro M W as H x y s u Q E o rx ry m
  unfold aLeS at m
  split at m
  · cases rx
    cases ry
    exact ⟨_, _, rfl, rfl, MG.now (a := _) m o (show SlRel K W as (V.bl _) (.d (.bool _)) from Dq.bl _)⟩
  · exact m.elim
theorem it_str {x : Str} {W : Hp} {as : List Addr} : ItOk P w K (SlRel K) (Its x) ((strD x).map Sl.d) W as :=
  ⟨_, _, by rw [List.length_map, strD, List.length_map, Array.length_toList]; exact walk_str, fun _ _ _ _ _ _ => True.intro, fun i v H H' s y hs W1 bs M1 o1 sm => by
    obtain ⟨rfl, c, hc, rfl⟩ := y
    rw [List.getElem?_map, strD, List.getElem?_map, Array.getElem?_toList, hc] at hs
    cases hs
    exact ⟨W1, Go.refl o1, Dq.str _⟩⟩
theorem si_str {t : TE} {A : AEnv → ASto → Res Sl} (ha : SE P w K mg E t A) : SI P w K mg (SlRel K) E (iStr t) (iStrA A) := ⟨fun ds M σ W as H R e o h =>
  ha.run ds M σ W as H _ e o (MG.bind h fun s M1 _ v W1 as1 H1 g1 r1 h1 => by
    split at h1
    · cases r1
      exact ⟨_, rfl, MG.now (a := _) h1 g1.own it_str⟩
    · exact h1.elim)⟩
end
end Ab
namespace Ab
open PySem PySem.Spec PyProof.Rows L2
section
variable {K : PySem.W.Frag} {mg : Str → Option Value} {i : Nat} {nm : Str}
theorem at_none : AtOk K mg i nm (fun _ _ _ => tC .non) (xC .none) := fun a cls d fs y W H σ Q h1 h2 h3 h4 => by
  cases h3
  exact h4 _ .non
end
end Ab
end
section
set_option Elab.async false
set_option linter.all false
set_option maxRecDepth 100000
set_option maxHeartbeats 4000000
/-! A dict that the module's top makes, keys texts, values ints: d.get(text). -/
namespace Ab
open PySem PySem.Spec PyProof.Rows L2
def TabE : List DictEntry → List (Str × Int) → Prop
  | [], [] => True
  | e :: es, p :: ps => (∃ t, e.key = .str p.1 t) ∧ (∃ t, e.val = .int p.2 t) ∧ TabE es ps
  | _, _ => False
structure KTab (K : PySem.W.Frag) (w : World) (d : Addr) (tbl : List (Str × Int)) : Prop where
  ex : ∃ es n, KDict K w d es n ∧ TabE es.toList tbl
def lkT (tbl : List (Str × Int)) (z : Str) : PyData := match tbl.find? fun p => decide (p.1 = z) with
  | some p => .int p.2
  | none => .none
theorem tab_find {es : List DictEntry} : ∀ {tbl : List (Str × Int)}, TabE es tbl → ∀ z : Str, ∃ v, RelV v (((es.find? fun e => Value.isStrOf z e.key).map (·.val)).getD .none) ∧ ∀ (K : PySem.W.Frag) (W : Hp), Dq K W v (lkT tbl z) := by
  induction es with
  | nil => intro tbl h z
           cases tbl with
           | nil => exact ⟨.non, rfl, fun K W => .non⟩
           | cons p ps => exact h.elim
  | cons e es ih => intro tbl h z
                    cases tbl with
                    | nil => exact h.elim
                    | cons p ps =>
                      obtain ⟨⟨t, h1⟩, ⟨u, h2⟩, h3⟩ := h
                      by_cases q : p.1 = z
                      · have hk : Value.isStrOf z e.key = true := by rw [h1]; show (p.1 == z) = true; simp [q]
                        rw [List.find?_cons_of_pos (by exact hk)]
                        refine ⟨.int p.2, ⟨u, h2⟩, fun K W => ?_⟩
                        unfold lkT
                        rw [List.find?_cons_of_pos (by simpa using q)]
                        exact .int _
                      · have hk : ¬ (Value.isStrOf z e.key = true) := by rw [h1]; show ¬ ((p.1 == z) = true); simp [q]
                        rw [List.find?_cons_of_neg (by exact hk)]
                        obtain ⟨v, r1, r2⟩ := ih h3 z
                        refine ⟨v, r1, fun K W => ?_⟩
                        have := r2 K W
                        unfold lkT at this ⊢
                        rw [List.find?_cons_of_neg (by simpa using q)]
                        exact this
def aKGet (tbl : List (Str × Int)) (A : AEnv → ASto → Res Sl) : AEnv → ASto → Res Sl := fun ds M => (A ds M).bind fun s M1 => match s with
  | .d (.str z) => .ok (.d (lkT tbl z)) M1
  | _ => .no
def tKGet (tbl : List (Str × Int)) (te : TE) : TE := fun σ H Q => te σ H fun y H1 => ∃ z, y = .str z ∧ ∀ v, (∀ (K : PySem.W.Frag) (W : Hp), Dq K W v (lkT tbl z)) → Q v H1
section
variable {X : Cx} {x : Str} {d : Addr} {tbl : List (Str × Int)} {e : Expr} {te : TE} {np apos cpos : Pos}
theorem pe_kget (hg : Gl X x) (hm : X.mg x = some (.ref d)) (T : KTab X.K X.w d tbl) (he : PE X e te) (m : M1 X (.Name x np) "get" apos e cpos) (hd : (x == ("__debug__" : Str)) = false := by decide) :
    PE X (.Call (.Attribute (.Name x np) "get" apos) [e] [] cpos) (tKGet tbl te) := by
  refine ⟨fun pins s σ H Q I h => ?_⟩
  obtain ⟨es, n, D, tb⟩ := T.ex
  refine wpAny_Call_method m.base m.few m.line PySem.F.plainAttrs_dict PySem.F.slot_dict_get PySem.F.type_dict_get (ld_glob I hg hm ?_ hd)
  have mo : s.heap.MapOf (strKind X.prog X.w) d (fun k => findBy Value.isStrOf es k) := PySem.W.mapOf_K (prog := X.prog) (w := X.w) I.kIn D.at_ D.lit
  refine ⟨mo.typeIs, fun b q => ?_, ?_⟩
  · cases q
    exact ⟨_, I.kIn _ _ D.at_, rfl⟩
  rw [m.trees]
  refine Calls.callWith_builtin rfl (Calls.evalArgs_plain (Calls.spliced_cons (thn (he.run pins s σ H _ I h) fun iv s2 ⟨y, H2, I2, ry, z, ey, q2⟩ => Calls.spliced_nil ?_)))
  subst ey
  obtain ⟨t, rfl⟩ := (show ∃ t, iv = Value.str z t from ry)
  have mo2 : s2.heap.MapOf (strKind X.prog X.w) d (fun k => findBy Value.isStrOf es k) := PySem.W.mapOf_K (prog := X.prog) (w := X.w) I2.kIn D.at_ D.lit
  refine call_meetsIn PySem.F.slot_dict_get mo2.typeIs PySem.F.entry_dict_get (PySem.F.args_dict_get_2 _ _) (meets_dict_get (strKind X.prog X.w) d (strKind_is X.prog X.w z t) D.low) ⟨_, mo2, ?_⟩
  obtain ⟨v, r1, r2⟩ := tab_find tb z
  refine ⟨v, H2, I2.tok _, ?_, q2 v r2⟩
  have e1 : findBy Value.isStrOf es z = ((es.toList.find? fun e => Value.isStrOf z e.key).map (·.val)) := by
    obtain ⟨l⟩ := es
    unfold findBy
    rw [List.find?_toArray]
  show RelV v ((findBy Value.isStrOf es z).getD .none)
  rw [e1]
  exact r1
end
section
variable {P : Program} {w : World} {K : PySem.W.Frag} {mg : Str → Option Value} {E : XK}
theorem se_kget {tbl : List (Str × Int)} {te : TE} {A : AEnv → ASto → Res Sl} (ha : SE P w K mg E te A) : SE P w K mg E (tKGet tbl te) (aKGet tbl A) := ⟨fun ds M σ W as H Q e o h =>
  ha.run ds M σ W as H _ e o (MG.bind h fun s M1 _ v W1 as1 H1 g1 r1 h1 => by
    split at h1
    · rename_i z hz
      cases r1
      exact ⟨z, rfl, fun v hv => h1.now g1.own (hv K W1)⟩
    · exact h1.elim)⟩
end
end Ab
end
section
set_option Elab.async false
set_option linter.all false
set_option maxRecDepth 100000
set_option maxHeartbeats 4000000
/-! try: x = f(..) except (A, B, C, D): return e, every error that f may raise among them. -/
namespace Ab
open PySem PySem.Spec PyProof.Rows L2
theorem fly_grow {B h h' : Heap} {l : List Env} {a : Addr} {Z : Obj → Prop} (fl : HandSPX.FlyingZ B l a Z h) (k : ∀ b o, h.get? b = some o → h'.get? b = some o) : HandSPX.FlyingZ B l a Z h' := by
  obtain ⟨f1, f2, f3, oe, vs, T, oT, ts, he, hz, hd, h1, hnT, hTe, hT, hdT, h3⟩ := fl
  exact ⟨fun b o e => k b o (f1 b o e), f2, f3.of_keeps fun b o hb _ => ⟨o, k b o hb, rfl⟩, oe, vs, T, oT, ts, k _ _ he, hz, hd, h1, hnT, hTe, k _ _ hT, hdT, h3⟩
theorem upto_grow {h h' : Heap} (k : ∀ b o, h.get? b = some o → h'.get? b = some o) : h.UpToSlots h' := fun b o e _ => ⟨o.slots, k b o e⟩
/-- the wish of the tuple's clause: the error is among them -/
def wTup (K : PySem.W.Frag) (cs : List Value) (ts : Addr → Value → Option Addr → TS) (D : Ends) : WX := fun cls d σ H => PySem.W.exmAny K cls cs = some true ∧ ∀ a, H a = none → ts a cls d D σ H
section
variable {X : Cx} {x1 x2 x3 x4 : Str} {c1 c2 c3 c4 : Value} {body suite : List Stmt} {b₀ : Stmt} {p1 p2 p3 p4 tpos pos pos' : Pos} {kk : Nat} {tb : WX → TS} {ts : Addr → Value → Option Addr → TS}
theorem ps_tryTup4 (hs : X.stack = X.env :: X.outer) (hf : X.env.frame = some X.env.locals) (n1 : Names X x1 c1) (n2 : Names X x2 c2) (n3 : Names X x3 c3) (n4 : Names X x4 c4)
    (hb : ∀ (W : WX) (pn : List (Addr × Obj)) (xe : Value → Shared → Prop), Takes (X.tr pn xe) W → PassesOwn (model X.prog X.w) X.A X.env xe → PSs (X.tr pn xe) body (tb W))
    (hsu : ∀ (a : Addr) (oe : Obj) (cls : Value) (d : Option Addr) (pn : List (Addr × Obj)), Zc cls d oe → (∃ vs, oe.data = .fields vs) → PSs (X.suite a ((a, oe) :: pn)) (b₀ :: suite) (ts a cls d)) :
    PS X (.Try body [.ExceptHandler (some (.Tuple [.Name x1 p1, .Name x2 p2, .Name x3 p3, .Name x4 p4] kk tpos)) none (b₀ :: suite) pos'] [] [] pos) (fun D σ H => tb (wTup X.K [c1, c2, c3, c4] ts D) D σ H) := by
  refine ⟨fun pins s σ H D I h => ?_⟩
  have ok := I.ok
  have hfr : X.A.frames = some (X.env :: X.outer) := by rw [ok.frames, hs]
  refine wpAny_Try_except ?_
  refine wpAny_mono ((hb (wTup X.K [c1, c2, c3, c4] ts D) (X.pn ++ pins) (fun e s₁ => wpAny (model X.prog X.w) X.A (noteFrame e X.env) (fun _ s₂ => wpAny (model X.prog X.w) X.A (setFlight e none) (fun _ s₃ =>
    wpAny (model X.prog X.w) X.A (handleBy e X.env [.ExceptHandler (some (.Tuple [.Name x1 p1, .Name x2 p2, .Name x3 p3, .Name x4 p4] kk tpos)) none (b₀ :: suite) pos']) (SP X pins D) X.xe s₃) X.xe s₂) X.xe s₁) (fun u s' xx => ?_) PassesOwn.looking).run [] s σ H D (I.toTry _) h) (fun f s1 hsp => ?_) (fun e s1 he => he)
  · obtain ⟨a, B, sI, pins', σ', H', cls, d, rfl, J', nb, up, sky, na, os, ag, hb1, hyes⟩ := xx
    have J : Inv X pins σ' H' sI := J'.ofTry ok
    have sky' : Sky B (X.env :: X.outer) a (Zc cls d) X.env.locals s'.heap := by rw [← hs]; exact sky
    show wpAny (model X.prog X.w) X.A (noteFrame (.ref a) X.env) _ _ _
    refine Sky.land Zc.steady hfr hf sky' fun h3 fl3 up3 => ?_
    have J3 : Inv X pins σ' H' { s' with heap := h3 } := J.landed nb fl3.1 (up.trans up3) os ag
    obtain ⟨oe3, vs3, he3, hz3, hd3⟩ := fl3.there
    have notFr : ∀ {h : Heap} {o : Obj} {vs : Array Value}, h.FunFrames B (X.env :: X.outer) → h.get? a = some o → o.data = .fields vs → a ∉ frs (X.env :: X.outer) := fun {h o vs} ff e dd hm => by
      obtain ⟨_, o', e', hnf⟩ := ff.mem hm
      rw [e] at e'; cases e'
      exact hnf _ dd
    have nfr := notFr fl3.2.2.1 he3 hd3
    have nL : a ≠ X.env.locals := fun z => nfr (List.mem_filterMap.mpr ⟨X.env, List.mem_cons_self, by rw [hf, z]⟩)
    have nF : a ∉ X.fs := fun hm => by
      obtain ⟨e, he, q⟩ := List.mem_filterMap.mp hm
      exact nfr (List.mem_filterMap.mpr ⟨e, List.mem_cons_of_mem _ he, q⟩)
    have S3 := J3.suite he3 hd3 na nL nF
    refine wpAny_handleBy_cons (codeAny_handlers_test ?_) (by intro q; cases q)
    have look : ∀ {x : Str} {c : Value} {np : Pos} {Q : Value → Shared → Prop} {E : Value → Shared → Prop}, Names X x c → Q c { s' with heap := h3 } → wpAny (model X.prog X.w) (X.A.mark (some (.ref a))) (eval (.Name x np) X.env) Q E { s' with heap := h3 } := fun hc q => by
      obtain ⟨hg, hdbg, hm | ⟨hm, hv, hnn⟩⟩ := hc
      · exact ld_glob (X := X.suite a ((a, oe3) :: (X.pn ++ pins))) S3 hg hm q hdbg
      · exact ld_blt (X := X.suite a ((a, oe3) :: (X.pn ++ pins))) S3 hg hm hv q hnn hdbg
    refine wpAny_Tuple ?_
    refine wpAny_items_cons (look n1 ?_)
    refine wpAny_items_cons (look n2 ?_)
    refine wpAny_items_cons (look n3 ?_)
    refine wpAny_items_cons (look n4 ?_)
    refine wpAny_items_nil ⟨by size_fits, ?_⟩
    have kp : ∀ q o, h3.get? q = some o → (h3.push { cls := .type "tuple", data := .seq [c1, c2, c3, c4].toArray }).get? q = some o := fun _ _ z => Heap.get?_push_of_some _ z
    have fl5 := fly_grow fl3 kp
    have J5 : Inv X pins σ' H' { s' with heap := h3.push { cls := .type "tuple", data := .seq [c1, c2, c3, c4].toArray } } := J.landed nb fl5.1 ((up.trans up3).trans (upto_grow kp)) os ag
    have LT : PySem.W.Looks (model X.prog X.w) (h3.push { cls := .type "tuple", data := .seq [c1, c2, c3, c4].toArray }) (typeOf (.ref a)) cls := fun A Q E s k q => wpAny_typeOf_ref (k _ _ (kp _ _ he3)) (by rw [hz3.1]; exact q)
    refine (PySem.W.exm_tup4 (M := model X.prog X.w) J5.kIn LT (Heap.get?_push_size h3 rfl) hb1).here ?_
    refine codeAny_handlers_suite ?_
    refine HandSPX.lands_againZ fl5 fun h4 fl4 up4 => ?_
    have J4 : Inv X pins σ' H' { s' with heap := h4 } := J.landed nb fl4.1 (((up.trans up3).trans (upto_grow kp)).trans up4) os ag
    obtain ⟨oe4, vs4, he4, hz4, hd4⟩ := fl4.there
    have S4 := J4.suite he4 hd4 na nL nF
    refine wpAny_mono ((hsu a oe4 cls d (X.pn ++ pins) hz4 ⟨_, hd4⟩).run [] _ _ H' _ S4 (hyes a na)) (fun f s6 hsp => ?_) (fun _ _ z => False.elim z)
    cases f with
    | next =>
      obtain ⟨σ6, H6, S6, q6⟩ := hsp
      exact ⟨_, _, S6.unsuite ok, q6⟩
    | brk =>
      obtain ⟨σ6, H6, S6, q6⟩ := hsp
      exact ⟨_, _, S6.unsuite ok, q6⟩
    | cont =>
      obtain ⟨σ6, H6, S6, q6⟩ := hsp
      exact ⟨_, _, S6.unsuite ok, q6⟩
    | ret u =>
      obtain ⟨v6, σ6, H6, S6, r6, q6⟩ := hsp
      exact ⟨_, _, _, S6.unsuite ok, r6, q6⟩
  · cases f with
    | next =>
      obtain ⟨σ', H', J', q⟩ := hsp
      exact wpAny_execs_nil ⟨σ', H', J'.ofTry ok, q⟩
    | brk =>
      obtain ⟨σ', H', J', q⟩ := hsp
      exact ⟨σ', H', J'.ofTry ok, q⟩
    | cont =>
      obtain ⟨σ', H', J', q⟩ := hsp
      exact ⟨σ', H', J'.ofTry ok, q⟩
    | ret u =>
      obtain ⟨v, σ', H', J', r, q⟩ := hsp
      exact ⟨v, σ', H', J'.ofTry ok, r, q⟩
end
/-- the names of own errors, each matching itself alone -/
theorem exm_any {K : PySem.W.Frag} {mg : Str → Option Value} {errs : List Str} (hE : ExmOk K mg errs) {n : Str} {C : Addr} (hn : n ∈ errs) (gC : mg n = some (.ref C)) : ∀ (xs : List Str) (cs : List Value), Paired (fun (x : Str) (c : Value) => x ∈ errs ∧ mg x = some c) xs cs →
    PySem.W.exmAny K (.ref C) cs = some (xs.contains n)
  | [], [], .nil => rfl
  | x :: xs, c :: cs, .cons ⟨hx, gx⟩ r => by
    obtain ⟨C1, C2, g1, g2, hex⟩ := hE n hn x hx
    rw [gC] at g1; cases g1
    rw [gx] at g2; cases g2
    have ih := exm_any hE hn gC xs cs r
    unfold PySem.W.exmAny
    rw [hex, ih]
    dsimp only
    rw [List.contains_cons]
def aTryT (errs xs : List Str) (F : List Sl → ASto → Res Sl) (A : AEnv → ASto → Res (List Sl)) (j : Nat) (f : AEnv → ASto → Out) : AEnv → ASto → Out := fun ds M => match A ds M with
  | .ok ss M1 => match F ss M1 with
    | .ok s M2 => .nx (ds.set j (some s)) M2
    | .ex e M2 => if errs.contains e.nm = true ∧ xs.contains e.nm = true then f ds M2 else .no
    | .no => .no
  | _ => .no
section
variable {P : Program} {w : World} {K : PySem.W.Frag} {mg : Str → Option Value} {E : XK}
theorem ss_tryT {errs xs : List Str} {cs : List Value} (hE : ExmOk K mg errs) (hx : Paired (fun (x : Str) (c : Value) => x ∈ errs ∧ mg x = some c) xs cs) {F : List Sl → ASto → Res Sl} {ta : TA} {A : AEnv → ASto → Res (List Sl)} {j : Nat} {ts : Addr → Value → Option Addr → TS} {f : AEnv → ASto → Out}
    (ha : SA P w K mg (fun _ _ _ => False) ta A) (hs : ∀ a cls d, SS P w K mg E (ts a cls d) f) :
    SS P w K mg E (fun D σ H => tAsg (tCallS (spF P w K mg F) (WE (wTup K cs ts D)) ta) (gName j) D σ H) (aTryT errs xs F A j f) := ⟨fun ds M σ W as H D e o h => by
  refine ha.run ds M σ W as H _ e o ?_
  unfold aTryT at h
  cases q : A ds M with
  | no => rw [q] at h; exact h
  | ex x M1 => rw [q] at h; exact h.elim
  | ok ss M1 =>
    rw [q] at h
    intro vs W1 as1 H1 g1 r1
    have h1 := MO.go h g1
    refine ⟨W1, as1, M1, ss, g1.own, r1, ?_⟩
    dsimp only at h1
    cases q2 : F ss M1 with
    | no => rw [q2] at h1; exact h1
    | ok s M2 =>
      rw [q2] at h1
      exact fun v W2 as2 H2 g2 r2 => h1 _ W2 as2 H2 g2 ((g2.env (g1.env e)).set r2)
    | ex x M2 =>
      rw [q2] at h1
      dsimp only at h1
      split at h1
      · rename_i hc
        intro cls dd W2 as2 H2 g2 er
        obtain ⟨C, g3, rfl, _⟩ := er
        refine ⟨?_, fun a ha => ?_⟩
        · rw [exm_any hE (by simpa using hc.1) g3 xs cs hx, hc.2]
        · exact (hs a (.ref C) dd).run ds M2 _ W2 as2 H2 D (g2.env (g1.env e)) g2.own (MO.go h1 g2)
      · exact h1.elim⟩
end
end Ab
end
section
set_option Elab.async false
set_option linter.all false
set_option maxRecDepth 100000
set_option maxHeartbeats 4000000
/-! enumerate of a list or of a tuple; == of lists that change; len of a text. -/
namespace Ab
open PySem PySem.Spec PyProof.Rows L2
set_option maxHeartbeats 1000000 in
theorem meets_enum1 {v : Value} {o : Obj} {I : Heap → Prop} (B : Begins v o I) : Meets (Builtin.«enumerate.__new__» ⟨[.type "enumerate", v], []⟩) (fun _ R s => I s.heap ∧
      R (.ok (.ret (.ref (s.heap.push o).objs.size))) { s with heap := (s.heap.push o).push { cls := .type "enumerate", data := .fields #[.none, .bool false, .ref s.heap.objs.size, rawInt 0, .none, .none] } }) :=
  .of_wp fun prog w A R s h => by
    obtain ⟨hp, g, d, tk, os⟩ := s
    obtain ⟨h1, h⟩ := h
    have hsub := sub_enumerate
    have it : ∀ {A' : Around} {E : Value → Shared → Prop} {Q : Value → Shared → Prop}, Q (.ref hp.objs.size) ⟨hp.push o, g, d, tk, os⟩ → wpAny (model prog w) A' (pyIter v) Q E ⟨hp, g, d, tk, os⟩ := fun q => B.iter prog w _ _ ⟨hp, g, d, tk, os⟩ _ h1 q
    wp_walk using it
    refine wpAny_stack_any fun st => wpAny_pure ?_
    split
    · rename_i c _ _ _ _ _
      cases (c == Value.type "enumerate") <;> (wp_walk using it; exact ⟨_, rfl, h⟩)
    · wp_walk using it
      exact ⟨_, rfl, h⟩
theorem enum_call {prog : Program} {w : World} {A : Around} {E : Value → Shared → Prop} {s : Shared} {v : Value} {o : Obj} {I : Heap → Prop} {Q : Value → Shared → Prop} (B : Begins v o I) (h1 : I s.heap)
    (h : ∀ h', IsEnum h' (s.heap.objs.size + 1) s.heap.objs.size 0 .none → h'.get? s.heap.objs.size = some o → (∀ b o, s.heap.get? b = some o → h'.get? b = some o) → Q (.ref (s.heap.objs.size + 1)) { s with heap := h' }) :
    wpAny (model prog w) A (call (.type "enumerate") [v]) Q E s := by
  have z : (s.heap.push o).objs.size = s.heap.objs.size + 1 := Heap.size_push ..
  have he := Heap.get?_push_size (s.heap.push o) (o := { cls := .type "enumerate", data := .fields #[.none, .bool false, .ref s.heap.objs.size, rawInt 0, .none, .none] }) rfl
  refine callType_new F.called_enumerate (by decide) (F.typeCall_enumerate_1 _) (F.newCall_enumerate_1 _) (fun obj => F.args_object_init_2 obj _) F.entry_enumerate_new (meets_enum1 B) ⟨h1, ?_⟩
  show _ ∧ _
  rw [z] at he ⊢
  exact ⟨⟨_, he, rfl⟩, h _ he (Heap.get?_push_of_some _ (Heap.get?_push_size _ B.free)) fun b o x => Heap.get?_push_of_some _ (Heap.get?_push_of_some _ x)⟩
/-- the tuple at a, each item in a new pair -/
def IteT (K : PySem.W.Frag) (a : Addr) : It :=
  ⟨fun i H => ∃ (xs : List V) (x : V), SqT K H a xs ∧ xs[i]? = some x, fun i H v H' => ∃ T x, v = .ref T ∧ H T = none ∧ H' = upd H T (.tup [.int (i : Nat), x]) ∧ ∀ xs, SqT K H a xs → xs[i]? = some x, fun i H => ∃ xs : List V, SqT K H a xs ∧ xs.length ≤ i⟩
theorem turn_enT {P : Program} {w : World} {K : PySem.W.Frag} {elts : List Expr} {kk : Nat} {tpos : Pos} (a e it : Addr) (hai : a ≠ it) (hae : e ≠ a) :
    Turn P w K (.Tuple elts kk tpos) (IteT K a) [e, it] e (fun i h => (∃ old, IsEnum h e it ((i : Nat) : Int) old) ∧ h.IsTupleIter it a i ∧ e ≠ it) where
  mem := by simp
  obj := fun i h st b hb => by
    obtain ⟨⟨old, he⟩, ⟨o, ho, hc, hd⟩, _⟩ := st
    rcases (show b = e ∨ b = it by simpa using hb) with rfl | rfl
    · exact ⟨_, he, fun v q => nomatch q⟩
    · exact ⟨o, ho, fun v q => by rw [hd] at q; cases q⟩
  keep := fun i h h' st k => ⟨st.1.imp fun old he => k e (by simp) _ he, st.2.1.at fun o q => k it (by simp) o q, st.2.2⟩
  item := by
    intro X hP hw hK hc i pins s σ H E I hf st hg
    subst hP hw hK
    obtain ⟨⟨old, he⟩, hit, hne⟩ := st
    obtain ⟨xs, x, hq, hx⟩ := hg
    obtain ⟨its, rv, p, _⟩ := I.tuple hq
    obtain ⟨u, hu, ru⟩ := rv.get hx
    have hel : e < s.heap.objs.size := Heap.lt_size he
    have hil : it < s.heap.objs.size := let ⟨_, q, _⟩ := hit; Heap.lt_size q
    have hli : i < its.toArray.size := by
      have := (List.getElem?_eq_some_iff.mp hu).1
      simpa using this
    refine wpAny_pyNext_enum_itemD (Draws.tuple (A := X.A.in1) (show X.A.in1.handled = none from I.ok.hd hc) it a hai its.toArray) he ⟨hit, p⟩ hli hne (by simp [hne, hae]) fun y h' tk hy ho hst hT hsz hk => ?_
    obtain rfl : y = u := by
      have h2 : its[i]? = some y := by simpa using hy
      rw [hu] at h2
      exact (Option.some.inj h2).symm
    refine ⟨_, rfl, wpAny_letOwnedTupleGo_enum (s := { s with heap := h', toks := tk + 1 }) ho fun h'' he' sb => ?_⟩
    have hT2 : h''.get? s.heap.objs.size = some { cls := .type "tuple", data := .seq #[.int i tk, y] } := (sb.2 _ (Nat.ne_of_gt hel)).trans hT
    have new : ObjOk X.prog X.w (upd H s.heap.objs.size (.tup [.int (i : Nat), x])) h'' s.heap.objs.size (.tup [.int (i : Nat), x]) := ⟨by show 2 ≤ sizeLine; decide, [.int i tk, y], .cons ⟨_, rfl⟩ (.cons ru .nil), ⟨_, hT2, rfl, _, rfl⟩⟩
    have far : ∀ {b : Addr}, b ∉ [e, it] → b ≠ e ∧ b ≠ it := fun {b} hb => ⟨fun z => hb (by simp [z]), fun z => hb (by simp [z])⟩
    have I1 := I.turnedNew (t' := tk + 1) (ch := [e, it]) (fun b ob hb q => (sb.2 b (far hb).1).trans (hk b ob (far hb).1 (far hb).2 q)) hf (Nat.le_refl _) new
    refine ⟨.ref s.heap.objs.size, _, I1, rfl, ⟨_, x, rfl, I.hok.fresh (Nat.le_refl _), rfl, fun ys hy2 => by rw [I.tuple_inj hy2 hq]; exact hx⟩, ⟨⟨y, ?_⟩, hst.1.at fun o q => (sb.2 it (Ne.symm hne)).trans q, hne⟩, fun b hb => ?_⟩
    · rw [show ((i + 1 : Nat) : Int) = (i : Int) + 1 by omega]
      exact he'
    · have hlt : b < s.heap.objs.size := by
        rcases (show b = e ∨ b = it by simpa using hb) with rfl | rfl
        · exact hel
        · exact hil
      rw [upd_ne (Nat.ne_of_lt hlt)]
      exact (hf b hb).1
  done := by
    intro X hP hw hK hc i pins s σ H E I hf st hg
    subst hP hw hK
    obtain ⟨⟨old, he⟩, hit, hne⟩ := st
    obtain ⟨xs, hq, hx⟩ := hg
    obtain ⟨its, rv, p, _⟩ := I.tuple hq
    have hl := rv.length
    have hend : its.toArray[i]? = none := by simp; omega
    unfold pyNext
    refine wpAny_bind (wpAny_attempt (wpAny_callSpecial?_slot (name := Str.ofString "__next__") ⟨_, he, rfl⟩ F.slot_enumerate_next (wpAny_call_entry F.slot_enumerate_next ⟨_, he, rfl⟩ F.entry_enumerate_next ?_ (F.args_enumerate_next_1 _))))
    show wpAny _ _ (field (.ref e) 2 >>= _) _ _ _
    refine wpAny_bind (wpAny_field he rfl (x := .ref it) rfl (wpAny_bind (wpAny_nextOf_tuple_end (A := X.A.in1) (show X.A.in1.handled = none from I.ok.hd hc) hit p hend fun h' x eb hx' => ?_)))
    obtain ⟨o, ho, hco⟩ := hx'
    refine wpAny_bind (wpAny_isInstance (T := "StopIteration") (b := true) ⟨o, ho, hco⟩ isSubtype_stop (wpAny_pure ⟨rfl, ?_⟩))
    obtain ⟨f0, f1, f2, f3, f4, f5⟩ := hf it (by simp)
    exact I.turned (t' := s.toks) (fun b o hb q => eb b o hb q) f0 f1 f3 f4 f5
  self := fun A i s Q E st h => let ⟨⟨_, he⟩, _⟩ := st; wpAny_pyIter_enum he h
def iEnumQ (K : PySem.W.Frag) (ta : TA) : TI := fun σ H R => ta σ H fun vs H1 => ∃ a xs, vs = [.ref a] ∧ ((SqL K H1 a xs ∧ R (Ite K a) H1) ∨ (SqT K H1 a xs ∧ R (IteT K a) H1))
theorem pi_enumQ {X : Cx} {e : Expr} {ta : TA} {p pos tpos : Pos} {elts : List Expr} {kk : Nat} (hg : Gl X "enumerate") (hm : X.mg "enumerate" = none) (ha : PA X [e] ta) (hs : starEach [e] X.env = [(false, eval e X.env)] := by rfl) :
    PI X (.Tuple elts kk tpos) (.Call (.Name "enumerate" p) [e] [] pos) (iEnumQ X.K ta) := by
  refine ⟨fun pins s σ H R I h => ?_⟩
  refine Call_ (ld_blt I hg hm boot_enumerate (PyProof.Rows.callWith_type1 (thn (ha.run pos pins s σ H _ I h) fun us s1 ⟨vs, H1, I1, r1, a, xs, ex, q1⟩ => ?_) hs rfl))
  subst ex
  cases r1 with
  | cons r rr =>
    cases rr
    cases r
    have fp : ∀ b ∈ [s1.heap.objs.size + 1, s1.heap.objs.size], FpOk X pins H1 b := fun b hb => by
      have hle : s1.heap.objs.size ≤ b := by
        rcases (show b = s1.heap.objs.size + 1 ∨ b = s1.heap.objs.size by simpa using hb) with z | z
        · rw [z]; exact Nat.le_add_right _ _
        · rw [z]; exact Nat.le_refl _
      exact I1.fpOk hle (I1.hok.fresh hle)
    rcases q1 with ⟨hq, q⟩ | ⟨hq, q⟩
    · obtain ⟨its, rv, p', hz⟩ := I1.list hq
      refine enum_call (begins_list a its.toArray) p'.isList fun h' he hit hk => wpAny_pyIter_enum he ?_
      exact ⟨s1.heap.objs.size + 1, [s1.heap.objs.size + 1, s1.heap.objs.size], _, _, H1, rfl, I1.kept (t' := s1.toks) hk, turn_enum a (s1.heap.objs.size + 1) s1.heap.objs.size, ⟨⟨.none, he⟩, ⟨_, hit, rfl, rfl⟩, Nat.succ_ne_self _⟩, fp, q⟩
    · obtain ⟨its, rv, p', hz⟩ := I1.tuple hq
      have hal : a < s1.heap.objs.size := let ⟨_, e, _⟩ := p'; Heap.lt_size e
      refine enum_call (begins_tuple a its.toArray) p' fun h' he hit hk => wpAny_pyIter_enum he ?_
      exact ⟨s1.heap.objs.size + 1, [s1.heap.objs.size + 1, s1.heap.objs.size], _, _, H1, rfl, I1.kept (t' := s1.toks) hk, turn_enT a (s1.heap.objs.size + 1) s1.heap.objs.size (Nat.ne_of_lt hal) (Nat.ne_of_gt (Nat.lt_succ_of_lt hal)), ⟨⟨.none, he⟩, ⟨_, hit, rfl, rfl⟩, Nat.succ_ne_self _⟩, fp, q⟩
theorem walk_enT {K : PySem.W.Frag} {a : Addr} {xs : List V} : Walk (IteT K a) xs.length (fun H => SqT K H a xs) (YPair (fun i => some (.int (i : Nat))) (fun i => xs[i]?)) :=
  ⟨fun i _ hi q => ⟨xs, xs[i], q, by simp [hi]⟩, fun _ q => ⟨xs, q, Nat.le_refl _⟩, fun i H v H' _ q y => let ⟨T, x, h1, h2, h3, h4⟩ := y; ⟨T, .int (i : Nat), x, h1, h2, h3, rfl, h4 xs q⟩⟩
def iEnumQA (A : AEnv → ASto → Res (List Sl)) : AEnv → ASto → Res (List Sl) := fun ds M => (A ds M).bind fun ss M1 => match ss with
  | [.d (.list xs)] => .ok (enumL 0 xs) M1
  | [.d (.tuple xs)] => .ok (enumL 0 xs) M1
  | _ => .no
section
variable {P : Program} {w : World} {K : PySem.W.Frag} {mg : Str → Option Value} {E : XK}
theorem si_enumQ {t : TA} {A : AEnv → ASto → Res (List Sl)} (ha : SA P w K mg E t A) : SI P w K mg (SlW K) E (iEnumQ K t) (iEnumQA A) := ⟨fun ds M σ W as H R e o h =>
  ha.run ds M σ W as H _ e o (MG.bind h fun ss M1 hA vs W1 as1 H1 g1 r1 h1 => by
    have pr : ∀ {us : List V} {xs : List PyData} (hd : DqAll K W1 us xs) (W2 : Hp) (i : Nat) (s : Sl) (x y : V), (enumL 0 xs)[i]? = some s → some (V.int (i : Nat)) = some x → us[i]? = some y → ∃ p q, s = .d (.tuple [p, q]) ∧ Dq K W1 x p ∧ Dq K W1 y q := fun {us xs} hd W2 i s x y hs2 e1 e2 => by
      obtain ⟨z, h3, rfl⟩ := enumL_at 0 xs i s hs2
      obtain ⟨v, h4, h5⟩ := DqAll.at hd h3
      rw [e2] at h4
      cases h4
      cases e1
      exact ⟨_, _, rfl, by rw [Nat.zero_add]; exact .int _, h5⟩
    split at h1
    · rename_i xs
      obtain ⟨v, rfl, r⟩ := one_of r1
      cases r with
      | @lst a us _ hs hd =>
        exact ⟨a, us, rfl, .inl ⟨g1.own.seq hs, h1 _ W1 as1 H1 (Go.refl g1.own) (it_pair walk_enum ((enumL_len 0 xs).trans (DqAll.len hd).symm) (fun W2 as2 M2 H2 o2 sm => SqL.of (o2.sub _ _ (sm _ _ hs))) fun i s x y hs2 e1 e2 => pr hd W1 i s x y hs2 e1 e2)⟩⟩
    · rename_i xs
      obtain ⟨v, rfl, r⟩ := one_of r1
      cases r with
      | @tup a ob us _ hs hn hd =>
        exact ⟨a, us, rfl, .inr ⟨g1.own.tup (.inr ⟨_, hs⟩), h1 _ W1 as1 H1 (Go.refl g1.own) (it_pair walk_enT ((enumL_len 0 xs).trans (DqAll.len hd).symm) (fun W2 as2 M2 H2 o2 sm => o2.tup (.inr ⟨_, sm _ _ hs⟩)) fun i s x y hs2 e1 e2 => pr hd W1 i s x y hs2 e1 e2)⟩⟩
    · exact h1.elim)⟩
/-! ### == of a list that changes -/
def vwD (M : ASto) : Sl → Option PyData
  | .d x => some x
  | .r n => match M[n]? with
    | some (.lst ss) => (allD ss).map PyData.list
    | _ => none
  | _ => none
theorem vwD_rel {W : Hp} {as : List Addr} {M : ASto} {H : Hp} {s : Sl} {v : V} {d : PyData} (o : Own P w K W as M H) (r : SlRel K W as v s) (h : vwD M s = some d) : L2.Dp K H v d := by
  unfold vwD at h
  split at h
  · cases h
    exact (o.dq r).dp
  · rename_i n
    split at h
    · rename_i ss hn
      simp only [Option.map_eq_some_iff] at h
      obtain ⟨xs, h1, rfl⟩ := h
      obtain ⟨a, ha, rfl⟩ := r
      obtain ⟨_, vs, h2, h3⟩ := o.cell n a _ ha hn
      exact .lst (SqL.of h2) (DqAll.dp (DqAll.up o.sub (allD_rel h3 h1)))
    · cases h
  · cases h
def aEqV (neg : Bool) : Sl → Sl → ASto → Res Sl := fun s u M => match vwD M s, vwD M u with
  | some x, some y => if SeqAt.shaped x && SeqAt.shaped y then .ok (.d (.bool (if neg then !PyData.eqv x y else PyData.eqv x y))) M else .no
  | _, _ => .no
theorem sr_eqV : SR P w K mg (rEqD K) (aEqV false) := by
  intro M W as H x y s u Q E o rx ry m
  unfold aEqV at m
  split at m
  · rename_i d e h1 h2
    split at m
    · rename_i hs
      rw [Bool.and_eq_true] at hs
      exact ⟨_, _, vwD_rel o rx h1, vwD_rel o ry h2, hs.1, hs.2, m.now o (.bl _)⟩
    · exact m.elim
  · exact m.elim
theorem sr_neV : SR P w K mg (rNeD K) (aEqV true) := by
  intro M W as H x y s u Q E o rx ry m
  unfold aEqV at m
  split at m
  · rename_i d e h1 h2
    split at m
    · rename_i hs
      rw [Bool.and_eq_true] at hs
      exact ⟨_, _, vwD_rel o rx h1, vwD_rel o ry h2, hs.1, hs.2, m.now o (.bl _)⟩
    · exact m.elim
  · exact m.elim
/-! ### len of a text -/
def rLenS : List V → Hp → VK → Prop := fun xs H Q => ∃ z, xs = [.str z] ∧ z.length ≤ sizeLine ∧ Q (.int z.length) H
theorem call_lenS {X : Cx} : CallR X (.builtin "len") rLenS := call_len_str
def aLenS : List Sl → ASto → Res Sl
  | [.d (.str z)], M => if z.length ≤ 100000 then .ok (.d (.int z.length)) M else .no
  | _, _ => .no
theorem sc_lenS : SC P w K mg rLenS aLenS := by
  intro M W as H x s Q E o rx m
  unfold aLenS at m
  split at m
  · split at m
    · rename_i z hz
      obtain ⟨v, rfl, r⟩ := one_of rx
      cases r
      exact ⟨z, rfl, Nat.le_trans hz (by decide), m.now o (.int _)⟩
    · exact m.elim
  · exact m.elim
end
end Ab
end
section
set_option Elab.async false
set_option linter.all false
set_option maxRecDepth 100000
set_option maxHeartbeats 4000000
/-! a list times an int. -/
namespace Ab
open PySem PySem.Spec PyProof.Rows L2
def aRep : Sl → Sl → ASto → Res Sl := fun s u M => match vwL M s, u with
  | some xs, .d (.int k) => if -(2 ^ 63) ≤ k ∧ k < 2 ^ 63 ∧ xs.length * k.toNat ≤ 100000 then .ok (.d (.list (List.replicate k.toNat xs).flatten)) M else .no
  | _, _ => .no
theorem DqAll.rep {K : PySem.W.Frag} {W : Hp} {vs : List V} {xs : List PyData} (h : DqAll K W vs xs) : ∀ n : Nat, DqAll K W (List.replicate n vs).flatten (List.replicate n xs).flatten
  | 0 => .nil
  | n + 1 => by
    rw [List.replicate_succ, List.replicate_succ, List.flatten_cons, List.flatten_cons]
    exact h.app (DqAll.rep h n)
section
variable {P : Program} {w : World} {K : PySem.W.Frag} {mg : Str → Option Value} {E : XK}
theorem sr_rep : SR P w K mg rRep aRep := by
  intro M W as H x y s u Q E o rx ry m
  unfold aRep at m
  split at m
  · rename_i xs k hv
    split at m
    · rename_i hk
      cases ry
      obtain ⟨a, vs, rfl, hs, hd⟩ := vwL_rel o rx hv
      refine ⟨a, k, vs, rfl, rfl, hs, hk.1, hk.2.1, by rw [DqAll.len hd]; exact sz_le hk.2.2, fun p hp => ?_⟩
      exact MG.new m o hp (.lst upd_same (DqAll.up (o.same_new hp _) (hd.rep _)))
    · exact m.elim
  · exact m.elim
end
end Ab
end
section
set_option Elab.async false
set_option linter.all false
set_option maxRecDepth 100000
set_option maxHeartbeats 4000000
namespace G
open PySem PySem.Spec PyProof.Rows L2 Ab
abbrev errsL : List Str := ["NoEvent", "NoArc", "Twice", "Ring"]
def topS (i : Nat) : Stmt := PySem.Challenge.pw_slowship_k17_webs_behind_edits.main.body.getD i (.Pass ⟨0, 0, 0, 0⟩)
def tab_SIZES : List (Str × Int) := [("put", 4), ("out", 2), ("move", 4), ("call", 3)]
/-- a comprehension's own names -/
def mkSc (ns : List (Str × NameKind)) : Scope := { kind := .function, names := ns, isGenerator := false, isCoroutine := false }
/-- a def of the text, where it stands -/
def Stands (K : PySem.W.Frag) (mg : Str → Option Value) (x : Str) (st : Stmt) : Prop := ∃ f fd, mg x = some (.ref f) ∧ Fun K x x st f fd
structure Tx (w : World) (K : PySem.W.Frag) (mg : Str → Option Value) : Prop where
  h_frozen : Stands K mg "frozen" (topS 6)
  h_is_name : Stands K mg "is_name" (topS 7)
  h_is_name_row : Stands K mg "is_name_row" (topS 8)
  h_need_events : Stands K mg "need_events" (topS 9)
  h_arc_pairs : Stands K mg "arc_pairs" (topS 10)
  h_ends_of : Stands K mg "ends_of" (topS 11)
  h_reached : Stands K mg "reached" (topS 12)
  h_leads_to : Stands K mg "leads_to" (topS 14)
  h_with_arc : Stands K mg "with_arc" (topS 15)
  h_without_arc : Stands K mg "without_arc" (topS 16)
  h__has_arc : Stands K mg "_has_arc" (topS 17)
  h_renamed_arcs : Stands K mg "renamed_arcs" (topS 18)
  h_is_edit : Stands K mg "is_edit" (topS 21)
  h_edited : Stands K mg "edited" (topS 22)
  h__behind_edit : Stands K mg "_behind_edit" (topS 23)
  h_first_refused : Stands K mg "first_refused" (topS 24)
  h__law_box : Stands K mg "_law_box" (topS 26)
  h__law_take : Stands K mg "_law_take" (topS 27)
  h__law_cells : Stands K mg "_law_cells" (topS 28)
  h__law_of : Stands K mg "_law_of" (topS 29)
  h__law_pick : Stands K mg "_law_pick" (topS 30)
  h__law_lists : Stands K mg "_law_lists" (topS 31)
  h__law_same : Stands K mg "_law_same" (topS 32)
  h__law_net : Stands K mg "_law_net" (topS 33)
  h__law_port : Stands K mg "_law_port" (topS 34)
  h__law_arc_of : Stands K mg "_law_arc_of" (topS 35)
  h__law_leads : Stands K mg "_law_leads" (topS 36)
  h__law_put : Stands K mg "_law_put" (topS 37)
  h__law_done : Stands K mg "_law_done" (topS 38)
  h__law_all_done : Stands K mg "_law_all_done" (topS 39)
  h__law_deed : Stands K mg "_law_deed" (topS 40)
  h__law_deeds : Stands K mg "_law_deeds" (topS 41)
  h__law_heard : Stands K mg "_law_heard" (topS 42)
  h__law_case_right : Stands K mg "_law_case_right" (topS 43)
  h__law_by_hand_right : Stands K mg "_law_by_hand_right" (topS 44)
  h__law_things_right : Stands K mg "_law_things_right" (topS 45)
  h__law_right : Stands K mg "_law_right" (topS 46)
  h_law : Stands K mg "law" (topS 47)
  b_len : mg "len" = none
  b_range : mg "range" = none
  b_abs : mg "abs" = none
  b_int : mg "int" = none
  b_min : mg "min" = none
  b_all : mg "all" = none
  b_any : mg "any" = none
  b_tuple : mg "tuple" = none
  b_list : mg "list" = none
  b_sorted : mg "sorted" = none
  b_set : mg "set" = none
  b_dict : mg "dict" = none
  b_zip : mg "zip" = none
  b_enumerate : mg "enumerate" = none
  b_isinstance : mg "isinstance" = none
  b_bool : mg "bool" = none
  b_str : mg "str" = none
  b_ValueError : mg "ValueError" = none
  b_LookupError : mg "LookupError" = none
  x_NoEvent : ∃ C fI, ErrF K mg "NoEvent" C "LookupError" "LookupError.__new__" [.type "LookupError", .type "Exception", .type "BaseException", .type "object"] "event" fI
  x_NoArc : ∃ C fI, ErrF K mg "NoArc" C "LookupError" "LookupError.__new__" [.type "LookupError", .type "Exception", .type "BaseException", .type "object"] "name" fI
  x_Twice : ∃ C fI, ErrF K mg "Twice" C "ValueError" "ValueError.__new__" [.type "ValueError", .type "Exception", .type "BaseException", .type "object"] "name" fI
  x_Ring : ∃ C, ErrC K mg "Ring" C "ValueError" [.type "ValueError", .type "Exception", .type "BaseException", .type "object"] ∧ PySem.W.excIn K C [.type "ValueError", .type "Exception", .type "BaseException", .type "object"] "ValueError.__new__" = true
  k_NoArc_LookupError : ∀ C, mg "NoArc" = some (.ref C) → PySem.W.kitOne K (.ref C) (.type "LookupError") = some true
  k_NoEvent_LookupError : ∀ C, mg "NoEvent" = some (.ref C) → PySem.W.kitOne K (.ref C) (.type "LookupError") = some true
  k_Ring_ValueError : ∀ C, mg "Ring" = some (.ref C) → PySem.W.kitOne K (.ref C) (.type "ValueError") = some true
  k_Twice_ValueError : ∀ C, mg "Twice" = some (.ref C) → PySem.W.kitOne K (.ref C) (.type "ValueError") = some true
  d_SIZES : ∃ d, mg "SIZES" = some (.ref d) ∧ KTab K w d tab_SIZES
  exm : ExmOk K mg errsL
abbrev st_frozen : Stmt := topS 6
theorem sc_frozen : FnScope ["value", "part"] ["value"] (defScope st_frozen) := ⟨rfl, rfl, rfl, by decide +kernel, rfl, by decide +kernel, by decide +kernel⟩
def b_frozen (R : List Sl → ASto → Res Sl) : AEnv → ASto → Out := (aSeq (aIf (aTest (aIsI ["list", "tuple"] (aVar 0))) (aRet (aCall aTupOf (aCons (aLc (iSeqA (aVar 0)) (aNm 1) aYes (aCall0 R (aCons (aVar 1) aNil)) [1]) aNil))) aNext) (aRet (aVar 0)))
def r_frozen : Nat → List Sl → ASto → Res Sl
  | 0 => fun _ _ => .no
  | k + 1 => runD 2 1 (b_frozen (r_frozen k))
def m_frozen : List Sl → ASto → Res Sl := r_frozen 10
theorem okr_frozen {P : Program} {w : World} {K : PySem.W.Frag} {mg : Str → Option Value} {base : Heap} (T : Tx w K mg) : ∀ (k : Nat) (f : Addr) (fd : FuncData), Fun K "frozen" "frozen" st_frozen f fd → FnOk P w K mg base CX0 (1 + k) f fd ["value"] (spF P w K mg (r_frozen k))
  | 0, _, _, _ => fn_no
  | k + 1, f, fd, F => by
    obtain ⟨f_frozen, fd_frozen, e_frozen, F_frozen⟩ := T.h_frozen
    have G_frozen := okr_frozen (P := P) (w := w) (base := base) T k f_frozen fd_frozen F_frozen
    have B_frozen := F_frozen.binds (ps := ["value"]) fun _ _ _ _ _ _ us hl => match us, hl with | [_], _ => rfl
    exact fn_d (k := 1 + k) F sc_frozen (b_frozen (r_frozen k)) fun cdv A outer s H E hr => ⟨_,
      (pss_cons (ps_if (pt_val (pe_callB call_isiT (by rfl) T.b_isinstance (by decide +kernel) (pa_cons (pv 0) (pa_cons (pe_tup (pa_cons (pe_bltn (v := .ty "list") (by rfl) T.b_list (by decide +kernel) rfl) (pa_cons (pe_bltn (v := .ty "tuple") (by rfl) T.b_tuple (by decide +kernel) rfl) pa_nil))) pa_nil)))) (pss_one (ps_ret (pe_callTy call_tupN (by rfl) T.b_tuple (by decide +kernel) (pa_cons (pe_lc (own := [("part", 1)]) rfl sc_frozen.nd (pi_seq (pv 0)) (blkOk_by (N := ["value", "part"]) (sc := (defScope st_frozen)) (own := [("part", 1)]) (by decide +kernel)) (fun _ _ _ _ _ => (pg_name (i := 1) sc_frozen.nd rfl (Or.inl rfl))) (fun _ _ _ _ _ => pts_nil) (fun _ _ _ _ _ => (pe_call G_frozen (hr.mono (by omega)) (by rfl) e_frozen F_frozen.kp B_frozen .nil pass0 (pa_cons (pv 1) pa_nil)))) pa_nil)))) pss_nil) (pss_one (ps_ret (pv 0)))),
      (ss_seq (ss_if (st_B (se_isiT (se_var 0))) (ss_ret (se_cb sc_tupOf (sa_cons (se_lc (vs := [1]) (si_seq (se_var 0)) (sg_name 1) (by decide) ST.yes (se_call0 (sa_cons (se_var 1) sa_nil))) sa_nil))) ss_next) (ss_ret (se_var 0)))⟩
theorem ok_frozen {P : Program} {w : World} {K : PySem.W.Frag} {mg : Str → Option Value} {base : Heap} (T : Tx w K mg) {f : Addr} {fd : FuncData} (F : Fun K "frozen" "frozen" st_frozen f fd) : FnOk P w K mg base CX0 11 f fd ["value"] (spF P w K mg m_frozen) := okr_frozen T 10 f fd F
abbrev st_is_name : Stmt := topS 7
theorem sc_is_name : FnScope ["thing", "sign"] ["thing"] (defScope st_is_name) := ⟨rfl, rfl, rfl, by decide +kernel, rfl, by decide +kernel, by decide +kernel⟩
def b_is_name : AEnv → ASto → Out := (aSeq (aIf (aOr (aNot (aTest (aIsI ["str"] (aVar 0)))) (aNot (aTest (aChain aLe aLe (aC (.int 1)) (aCall aLenS (aCons (aVar 0) aNil)) (aC (.int 8)))))) (aRet (aC (.bool false))) aNext) (aRet (aCall aAll (aCons (aLc (iStrA (aVar 0)) (aNm 1) aYes (aChain aLeS aLeS (aC (.str "a")) (aVar 1) (aC (.str "z"))) [1]) aNil))))
def m_is_name : List Sl → ASto → Res Sl := runD 2 1 b_is_name
theorem ok_is_name {P : Program} {w : World} {K : PySem.W.Frag} {mg : Str → Option Value} {base : Heap} (T : Tx w K mg) {f : Addr} {fd : FuncData} (F : Fun K "is_name" "is_name" st_is_name f fd) : FnOk P w K mg base CX0 1 f fd ["thing"] (spF P w K mg m_is_name) := by
  exact fn_d F sc_is_name b_is_name fun cdv A outer s H E hr => ⟨_,
    (pss_cons (ps_if (PW.pt (pw_or (pt_not (pt_val (pe_callB call_isi (by rfl) T.b_isinstance (by decide +kernel) (pa_cons (pv 0) (pa_cons (pe_bltn (v := .ty "str") (by rfl) T.b_str (by decide +kernel) rfl) pa_nil))))) (pw_or1 (pt_not (pt_chain op_le op_le pe_int (pe_callB call_lenS (by rfl) T.b_len (by decide +kernel) (pa_cons (pv 0) pa_nil)) pe_int))))) (pss_one (ps_ret pe_bl)) pss_nil) (pss_one (ps_ret (pe_callB (cr_all rfl) (by rfl) T.b_all (by decide +kernel) (pa_cons (pe_lc (own := [("sign", 1)]) rfl sc_is_name.nd (pi_str (pv 0)) (blkOk_by (N := ["thing", "sign"]) (sc := (defScope st_is_name)) (own := [("sign", 1)]) (by decide +kernel)) (fun _ _ _ _ _ => (pg_name (i := 1) sc_is_name.nd rfl (Or.inl rfl))) (fun _ _ _ _ _ => pts_nil) (fun _ _ _ _ _ => (pe_chain op_le_str op_le_str pe_str (pv 1) pe_str))) pa_nil))))),
    (ss_seq (ss_if (st_or (st_not (st_B (se_isi (se_var 0)))) (st_not (st_test (se_chain srLe srLe se_int (se_cb sc_lenS (sa_cons (se_var 0) sa_nil)) se_int)))) (ss_ret se_bl) ss_next) (ss_ret (se_cb sc_all (sa_cons (se_lc (vs := [1]) (si_str (se_var 0)) (sg_name 1) (by decide) ST.yes (se_chain sr_leS sr_leS se_str (se_var 1) se_str)) sa_nil))))⟩
abbrev st_is_name_row : Stmt := topS 8
theorem sc_is_name_row : FnScope ["thing", "part"] ["thing"] (defScope st_is_name_row) := ⟨rfl, rfl, rfl, by decide +kernel, rfl, by decide +kernel, by decide +kernel⟩
def b_is_name_row : AEnv → ASto → Out := (aRet (aAndV (aIsI ["tuple"] (aVar 0)) (aCall aAll (aCons (aLc (iSeqA (aVar 0)) (aNm 1) aYes (aCall0 m_is_name (aCons (aVar 1) aNil)) [1]) aNil))))
def m_is_name_row : List Sl → ASto → Res Sl := runD 2 1 b_is_name_row
theorem ok_is_name_row {P : Program} {w : World} {K : PySem.W.Frag} {mg : Str → Option Value} {base : Heap} (T : Tx w K mg) {f : Addr} {fd : FuncData} (F : Fun K "is_name_row" "is_name_row" st_is_name_row f fd) : FnOk P w K mg base CX0 2 f fd ["thing"] (spF P w K mg m_is_name_row) := by
  obtain ⟨f_is_name, fd_is_name, e_is_name, F_is_name⟩ := T.h_is_name
  have G_is_name := ok_is_name (P := P) (w := w) (base := base) T F_is_name
  have B_is_name := F_is_name.binds (ps := ["thing"]) fun _ _ _ _ _ _ us hl => match us, hl with | [_], _ => rfl
  exact fn_d F sc_is_name_row b_is_name_row fun cdv A outer s H E hr => ⟨_,
    (pss_one (ps_ret (pe_and (pe_callB call_isi (by rfl) T.b_isinstance (by decide +kernel) (pa_cons (pv 0) (pa_cons (pe_bltn (v := .ty "tuple") (by rfl) T.b_tuple (by decide +kernel) rfl) pa_nil))) (pe_one (pe_callB (cr_all rfl) (by rfl) T.b_all (by decide +kernel) (pa_cons (pe_lc (own := [("part", 1)]) rfl sc_is_name_row.nd (pi_seq (pv 0)) (blkOk_by (N := ["thing", "part"]) (sc := (defScope st_is_name_row)) (own := [("part", 1)]) (by decide +kernel)) (fun _ _ _ _ _ => (pg_name (i := 1) sc_is_name_row.nd rfl (Or.inl rfl))) (fun _ _ _ _ _ => pts_nil) (fun _ _ _ _ _ => (pe_call G_is_name (hr.mono (by decide)) (by rfl) e_is_name F_is_name.kp B_is_name .nil pass0 (pa_cons (pv 1) pa_nil)))) pa_nil)))))),
    (ss_ret (se_andV (se_isi (se_var 0)) (se_cb sc_all (sa_cons (se_lc (vs := [1]) (si_seq (se_var 0)) (sg_name 1) (by decide) ST.yes (se_call0 (sa_cons (se_var 1) sa_nil))) sa_nil))))⟩
abbrev st_need_events : Stmt := topS 9
theorem sc_need_events : FnScope ["web", "events", "known", "event"] ["web", "events"] (defScope st_need_events) := ⟨rfl, rfl, rfl, by decide +kernel, rfl, by decide +kernel, by decide +kernel⟩
def b_need_events : AEnv → ASto → Out := (aSeq (aAsg (aCall aSetQ (aCons (aOp aIx (aVar 0) (aC (.int 0))) aNil)) (aNm 2)) (aFor (iSeqA (aVar 1)) (aNm 3) (aIf (aTest (aOp (aInS true) (aVar 3) (aVar 2))) (aRaiseF "NoEvent" "event" (aCons (aVar 3) aNil)) aNext)))
def m_need_events : List Sl → ASto → Res Sl := runD 4 2 b_need_events
theorem ok_need_events {P : Program} {w : World} {K : PySem.W.Frag} {mg : Str → Option Value} {base : Heap} (T : Tx w K mg) {f : Addr} {fd : FuncData} (F : Fun K "need_events" "need_events" st_need_events f fd) : FnOk P w K mg base (L2.CX P w) 4 f fd ["web", "events"] (spF P w K mg m_need_events) := by
  obtain ⟨C_NoEvent, fI_NoEvent, X_NoEvent⟩ := T.x_NoEvent
  exact fn_x F sc_need_events b_need_events fun cdv A outer s H E hr => ⟨_,
    (pss_cons (ps_set (i := 2) sc_need_events.nd rfl (Or.inl rfl) (pe_callTy (crSetQ rfl) (by rfl) T.b_set (by decide +kernel) (pa_cons (pe_ix ix_seq (pv 0) pe_int (fun _ _ => rfl)) pa_nil))) (pss_one (ps_for (passes_of rfl) rfl (pi_seq (pv 1)) (pg_name (i := 3) sc_need_events.nd rfl (Or.inl rfl)) (pss_one (ps_if (pt_cmpR op_snotinX (pv 3) (pv 2) (by rfl)) (pss_one (ps_raise rfl (takes_of rfl rfl rfl rfl) (pmk_f (k := 0) X_NoEvent PySem.F.excBase_LookupError PySem.F.store_LookupError fld_event (hr.mono (by decide)) (pa_cons (pv 3) pa_nil) rfl))) pss_nil))))),
    (ss_seq (ss_asg (se_cb scSetQ (sa_cons (se_op sr_ix (se_var 0) se_int) sa_nil)) (sg_name 2)) (ss_for (si_seq (se_var 1)) (sg_name 3) (ss_if (st_test (se_op (sr_inS true) (se_var 3) (se_var 2))) (ss_raiseF X_NoEvent.gC (sa_cons (se_var 3) sa_nil)) ss_next)))⟩
abbrev st_arc_pairs : Stmt := topS 10
theorem sc_arc_pairs : FnScope ["web", "_", "ahead", "behind"] ["web"] (defScope st_arc_pairs) := ⟨rfl, rfl, rfl, by decide +kernel, rfl, by decide +kernel, by decide +kernel⟩
def b_arc_pairs : AEnv → ASto → Out := (aRet (aLc (iSeqA (aOp aIx (aVar 0) (aC (.int 1)))) (aGTup 3 (aGCons (aNm 1) (aGCons (aNm 2) (aGCons (aNm 3) aGNil)))) aYes (aTup (aCons (aVar 2) (aCons (aVar 3) aNil))) [1, 2, 3]))
def m_arc_pairs : List Sl → ASto → Res Sl := runD 4 1 b_arc_pairs
theorem ok_arc_pairs {P : Program} {w : World} {K : PySem.W.Frag} {mg : Str → Option Value} {base : Heap} (T : Tx w K mg) {f : Addr} {fd : FuncData} (F : Fun K "arc_pairs" "arc_pairs" st_arc_pairs f fd) : FnOk P w K mg base CX0 1 f fd ["web"] (spF P w K mg m_arc_pairs) := by
  exact fn_d F sc_arc_pairs b_arc_pairs fun cdv A outer s H E hr => ⟨_,
    (pss_one (ps_ret (pe_lc (own := [("_", 1), ("ahead", 2), ("behind", 3)]) rfl sc_arc_pairs.nd (pi_seq (pe_ix ix_seq (pv 0) pe_int (fun _ _ => rfl))) (blkOk_by (N := ["web", "_", "ahead", "behind"]) (sc := (defScope st_arc_pairs)) (own := [("_", 1), ("ahead", 2), ("behind", 3)]) (by decide +kernel)) (fun _ _ _ _ _ => (pg_tup rfl (pgs_cons (pg_name (i := 1) sc_arc_pairs.nd rfl (Or.inl rfl)) (pgs_cons (pg_name (i := 2) sc_arc_pairs.nd rfl (Or.inl rfl)) (pgs_cons (pg_name (i := 3) sc_arc_pairs.nd rfl (Or.inl rfl)) pgs_nil))))) (fun _ _ _ _ _ => pts_nil) (fun _ _ _ _ _ => (pe_tupN (pa_cons (pv 2) (pa_cons (pv 3) pa_nil))))))),
    (ss_ret (se_lc (vs := [1, 2, 3]) (si_seq (se_op sr_ix (se_var 0) se_int)) (sg_tup (sgs_cons (sg_name 1) (sgs_cons (sg_name 2) (sgs_cons (sg_name 3) sgs_nil)))) (by decide) ST.yes (se_tup (sa_cons (se_var 2) (sa_cons (se_var 3) sa_nil)))))⟩
abbrev st_ends_of : Stmt := topS 11
theorem sc_ends_of : FnScope ["web", "name", "ahead", "behind"] ["web"] (defScope st_ends_of) := ⟨rfl, rfl, rfl, by decide +kernel, rfl, by decide +kernel, by decide +kernel⟩
def b_ends_of : AEnv → ASto → Out := (aRet (aDc (iSeqA (aOp aIx (aVar 0) (aC (.int 1)))) (aGTup 3 (aGCons (aNm 1) (aGCons (aNm 2) (aGCons (aNm 3) aGNil)))) aYes (aVar 1) (aTup (aCons (aVar 2) (aCons (aVar 3) aNil))) [1, 2, 3]))
def m_ends_of : List Sl → ASto → Res Sl := runO 4 1 b_ends_of
theorem ok_ends_of {P : Program} {w : World} {K : PySem.W.Frag} {mg : Str → Option Value} {base : Heap} (T : Tx w K mg) {f : Addr} {fd : FuncData} (F : Fun K "ends_of" "ends_of" st_ends_of f fd) : FnOk P w K mg base CX0 1 f fd ["web"] (spF P w K mg m_ends_of) := by
  exact fn_o F sc_ends_of b_ends_of fun cdv A outer s H E hr => ⟨_,
    (pss_one (ps_ret (pe_dc (own := [("name", 1), ("ahead", 2), ("behind", 3)]) rfl sc_ends_of.nd (pi_seq (pe_ix ix_seq (pv 0) pe_int (fun _ _ => rfl))) (blkOk_by (N := ["web", "name", "ahead", "behind"]) (sc := (defScope st_ends_of)) (own := [("name", 1), ("ahead", 2), ("behind", 3)]) (by decide +kernel)) (fun _ _ _ _ _ => (pg_tup rfl (pgs_cons (pg_name (i := 1) sc_ends_of.nd rfl (Or.inl rfl)) (pgs_cons (pg_name (i := 2) sc_ends_of.nd rfl (Or.inl rfl)) (pgs_cons (pg_name (i := 3) sc_ends_of.nd rfl (Or.inl rfl)) pgs_nil))))) (fun _ _ _ _ _ => pts_nil) (fun _ _ _ _ _ => (pv 1)) (fun _ _ _ _ _ => (pe_tupN (pa_cons (pv 2) (pa_cons (pv 3) pa_nil))))))),
    (ss_ret (se_dc (vs := [1, 2, 3]) (si_seq (se_op sr_ix (se_var 0) se_int)) (sg_tup (sgs_cons (sg_name 1) (sgs_cons (sg_name 2) (sgs_cons (sg_name 3) sgs_nil)))) (by decide) ST.yes (se_var 1) (se_tup (sa_cons (se_var 2) (sa_cons (se_var 3) sa_nil)))))⟩
abbrev st_reached : Stmt := topS 12
theorem sc_reached : FnScope ["start", "pairs", "steps", "here", "there", "seen", "waiting"] ["start", "pairs"] (defScope st_reached) := ⟨rfl, rfl, rfl, by decide +kernel, rfl, by decide +kernel, by decide +kernel⟩
def b_reached : AEnv → ASto → Out := (aSeq (aAsg aDNew (aNm 2)) (aSeq (aFor (iSeqA (aVar 1)) (aGTup 2 (aGCons (aNm 3) (aGCons (aNm 4) aGNil))) (aDrop (aMut gAppend (aSetd (aVar 2) (aVar 3) (aLstC aNil)) (aVar 4)))) (aSeq (aAsg (aCall aSetN aNil) (aNm 5)) (aSeq (aAsg (aLstC (aCons (aVar 0) aNil)) (aNm 6)) (aFrzV 2 (aSeq (aWhile 100000 (aTru (aVar 6)) (aSeq (aAsg (aPop (aVar 6)) (aNm 3)) (aFor (iSeqA (aGet2 (aVar 2) (aVar 3) (aLst aNil))) (aNm 4) (aIf (aTest (aOp (aInS true) (aVar 4) (aVar 5))) (aSeq (aDrop (aSAdd (aVar 5) (aVar 4))) (aDrop (aMut gAppend (aVar 6) (aVar 4)))) aNext)))) (aRet (aCall aSortS (aCons (aVar 5) aNil)))))))))
def m_reached : List Sl → ASto → Res Sl := runD 7 2 b_reached
theorem ok_reached {P : Program} {w : World} {K : PySem.W.Frag} {mg : Str → Option Value} {base : Heap} (T : Tx w K mg) {f : Addr} {fd : FuncData} (F : Fun K "reached" "reached" st_reached f fd) : FnOk P w K mg base CX0 1 f fd ["start", "pairs"] (spF P w K mg m_reached) := by
  exact fn_d F sc_reached b_reached fun cdv A outer s H E hr => ⟨_,
    (pss_cons (ps_set (i := 2) sc_reached.nd rfl (Or.inl rfl) pe_dnewK) (pss_cons (ps_for PassesOwn.never rfl (pi_seq (pv 1)) (pg_tup rfl (pgs_cons (pg_name (i := 3) sc_reached.nd rfl (Or.inl rfl)) (pgs_cons (pg_name (i := 4) sc_reached.nd rfl (Or.inl rfl)) pgs_nil))) (pss_one (ps_expr (pe_bm PySem.F.plainAttrs_list PySem.F.slot_list_append PySem.F.type_list_append mt_append (pe_dsetd (pv 2) (pv 3) (pe_lst pa_nil) ⟨rfl, rfl, rfl, rfl⟩) (pa_cons (pv 4) pa_nil))))) (pss_cons (ps_set (i := 5) sc_reached.nd rfl (Or.inl rfl) (pe_callTy0 crSetN (by rfl) T.b_set (by decide +kernel))) (pss_cons (ps_set (i := 6) sc_reached.nd rfl (Or.inl rfl) (pe_lst (pa_cons (pv 0) pa_nil))) (pss_cons (ps_while PassesOwn.never (pt_truth (pv 6) (by intro _; rfl)) (pss_cons (ps_set (i := 3) sc_reached.nd rfl (Or.inl rfl) (pe_bm0 PySem.F.plainAttrs_list PySem.F.slot_list_pop PySem.F.type_list_pop mt_pop (pv 6))) (pss_one (ps_for PassesOwn.never rfl (pi_seq (pe_dget2 (hu_of hr) (pv 2) (pv 3) (pe_lst pa_nil) ⟨rfl, rfl, rfl, rfl⟩)) (pg_name (i := 4) sc_reached.nd rfl (Or.inl rfl)) (pss_one (ps_if (pt_cmpR op_snotinX (pv 4) (pv 5) (by rfl)) (pss_cons (ps_expr (pe_saddX (pv 5) (pa_cons (pv 4) pa_nil))) (pss_one (ps_expr (pe_bm PySem.F.plainAttrs_list PySem.F.slot_list_append PySem.F.type_list_append mt_append (pv 6) (pa_cons (pv 4) pa_nil))))) pss_nil)))))) (pss_one (ps_ret (pe_callB (crSortX rfl (hu65 hr)) (by rfl) T.b_sorted (by decide +kernel) (pa_cons (pv 5) pa_nil))))))))),
    (ss_seq (ss_asg se_dnew (sg_name 2)) (ss_seq (ss_for (si_seq (se_var 1)) (sg_tup (sgs_cons (sg_name 3) (sgs_cons (sg_name 4) sgs_nil))) (ss_drop (se_mut sm_append (se_setd (se_var 2) (se_var 3) (se_lstC sa_nil)) (se_var 4)))) (ss_seq (ss_asg (se_cb scSetN sa_nil) (sg_name 5)) (ss_seq (ss_asg (se_lstC (sa_cons (se_var 0) sa_nil)) (sg_name 6)) (ss_frzV 2 (ss_seq (ss_while 100000 (st_tru (se_var 6)) (ss_seq (ss_asg (se_pop (se_var 6)) (sg_name 3)) (ss_for (si_seq (se_get2 (se_var 2) (se_var 3) (se_lst sa_nil))) (sg_name 4) (ss_if (st_test (se_op (sr_inS true) (se_var 4) (se_var 5))) (ss_seq (ss_drop (se_sadd (se_var 5) (se_var 4))) (ss_drop (se_mut sm_append (se_var 6) (se_var 4)))) ss_next)))) (ss_ret (se_cb scSortS (sa_cons (se_var 5) sa_nil)))))))))⟩
abbrev st_leads_to : Stmt := topS 14
theorem sc_leads_to : FnScope ["web", "event"] ["web", "event"] (defScope st_leads_to) := ⟨rfl, rfl, rfl, by decide +kernel, rfl, by decide +kernel, by decide +kernel⟩
def b_leads_to : AEnv → ASto → Out := (aSeq (aAsg (aCall0 m_frozen (aCons (aVar 0) aNil)) (aNm 0)) (aSeq (aDrop (aCall m_need_events (aCons (aVar 0) (aCons (aTup (aCons (aVar 1) aNil)) aNil)))) (aRet (aCall aTupOf (aCons (aCall0 m_reached (aCons (aVar 1) (aCons (aCall0 m_arc_pairs (aCons (aVar 0) aNil)) aNil))) aNil)))))
def m_leads_to : List Sl → ASto → Res Sl := runD 2 2 b_leads_to
theorem ok_leads_to {P : Program} {w : World} {K : PySem.W.Frag} {mg : Str → Option Value} {base : Heap} (T : Tx w K mg) {f : Addr} {fd : FuncData} (F : Fun K "leads_to" "leads_to" st_leads_to f fd) : FnOk P w K mg base (L2.CX P w) 12 f fd ["web", "event"] (spF P w K mg m_leads_to) := by
  obtain ⟨f_frozen, fd_frozen, e_frozen, F_frozen⟩ := T.h_frozen
  have G_frozen := ok_frozen (P := P) (w := w) (base := base) T F_frozen
  have B_frozen := F_frozen.binds (ps := ["value"]) fun _ _ _ _ _ _ us hl => match us, hl with | [_], _ => rfl
  obtain ⟨f_need_events, fd_need_events, e_need_events, F_need_events⟩ := T.h_need_events
  have G_need_events := ok_need_events (P := P) (w := w) (base := base) T F_need_events
  have B_need_events := F_need_events.binds (ps := ["web", "events"]) fun _ _ _ _ _ _ us hl => match us, hl with | [_, _], _ => rfl
  obtain ⟨f_arc_pairs, fd_arc_pairs, e_arc_pairs, F_arc_pairs⟩ := T.h_arc_pairs
  have G_arc_pairs := ok_arc_pairs (P := P) (w := w) (base := base) T F_arc_pairs
  have B_arc_pairs := F_arc_pairs.binds (ps := ["web"]) fun _ _ _ _ _ _ us hl => match us, hl with | [_], _ => rfl
  obtain ⟨f_reached, fd_reached, e_reached, F_reached⟩ := T.h_reached
  have G_reached := ok_reached (P := P) (w := w) (base := base) T F_reached
  have B_reached := F_reached.binds (ps := ["start", "pairs"]) fun _ _ _ _ _ _ us hl => match us, hl with | [_, _], _ => rfl
  exact fn_x F sc_leads_to b_leads_to fun cdv A outer s H E hr => ⟨_,
    (pss_cons (ps_set (i := 0) sc_leads_to.nd rfl (Or.inl rfl) (pe_call G_frozen (hr.mono (by decide)) (by rfl) e_frozen F_frozen.kp B_frozen .nil pass0 (pa_cons (pv 0) pa_nil))) (pss_cons (ps_expr (pe_call G_need_events (hr.mono (by decide)) (by rfl) e_need_events F_need_events.kp B_need_events .nil (passes_call (takes_of rfl rfl rfl rfl) fun _ _ _ _ h => h) (pa_cons (pv 0) (pa_cons (pe_tupN (pa_cons (pv 1) pa_nil)) pa_nil)))) (pss_one (ps_ret (pe_callTy call_tupN (by rfl) T.b_tuple (by decide +kernel) (pa_cons (pe_call G_reached (hr.mono (by decide)) (by rfl) e_reached F_reached.kp B_reached .nil pass0 (pa_cons (pv 1) (pa_cons (pe_call G_arc_pairs (hr.mono (by decide)) (by rfl) e_arc_pairs F_arc_pairs.kp B_arc_pairs .nil pass0 (pa_cons (pv 0) pa_nil)) pa_nil))) pa_nil)))))),
    (ss_seq (ss_asg (se_call0 (sa_cons (se_var 0) sa_nil)) (sg_name 0)) (ss_seq (ss_drop (se_call (sa_cons (se_var 0) (sa_cons (se_tup (sa_cons (se_var 1) sa_nil)) sa_nil)))) (ss_ret (se_cb sc_tupOf (sa_cons (se_call0 (sa_cons (se_var 1) (sa_cons (se_call0 (sa_cons (se_var 0) sa_nil)) sa_nil))) sa_nil)))))⟩
abbrev st__has_arc : Stmt := topS 17
theorem sc__has_arc : FnScope ["arcs", "name", "arc"] ["arcs", "name"] (defScope st__has_arc) := ⟨rfl, rfl, rfl, by decide +kernel, rfl, by decide +kernel, by decide +kernel⟩
def b__has_arc : AEnv → ASto → Out := (aRet (aCall aAny (aCons (aLc (iSeqA (aVar 0)) (aNm 2) aYes (aOp (aEqD false) (aOp aIx (aVar 2) (aC (.int 0))) (aVar 1)) [2]) aNil)))
def m__has_arc : List Sl → ASto → Res Sl := runD 3 2 b__has_arc
theorem ok__has_arc {P : Program} {w : World} {K : PySem.W.Frag} {mg : Str → Option Value} {base : Heap} (T : Tx w K mg) {f : Addr} {fd : FuncData} (F : Fun K "_has_arc" "_has_arc" st__has_arc f fd) : FnOk P w K mg base CX0 1 f fd ["arcs", "name"] (spF P w K mg m__has_arc) := by
  exact fn_d F sc__has_arc b__has_arc fun cdv A outer s H E hr => ⟨_,
    (pss_one (ps_ret (pe_callB (cr_any rfl) (by rfl) T.b_any (by decide +kernel) (pa_cons (pe_lc (own := [("arc", 2)]) rfl sc__has_arc.nd (pi_seq (pv 0)) (blkOk_by (N := ["arcs", "name", "arc"]) (sc := (defScope st__has_arc)) (own := [("arc", 2)]) (by decide +kernel)) (fun _ _ _ _ _ => (pg_name (i := 2) sc__has_arc.nd rfl (Or.inl rfl))) (fun _ _ _ _ _ => pts_nil) (fun _ _ _ _ _ => (pe_cmpR (op_eqD hr.units) (pe_ix ix_seq (pv 2) pe_int (fun _ _ => rfl)) (pv 1) (nomark _)))) pa_nil)))),
    (ss_ret (se_cb sc_any (sa_cons (se_lc (vs := [2]) (si_seq (se_var 0)) (sg_name 2) (by decide) ST.yes (se_op sr_eqD (se_op sr_ix (se_var 2) se_int) (se_var 1))) sa_nil)))⟩
abbrev st_with_arc : Stmt := topS 15
theorem sc_with_arc : FnScope ["web", "name", "ahead", "behind", "events", "arcs"] ["web", "name", "ahead", "behind"] (defScope st_with_arc) := ⟨rfl, rfl, rfl, by decide +kernel, rfl, by decide +kernel, by decide +kernel⟩
def b_with_arc : AEnv → ASto → Out := (aSeq (aAsg (aCall0 m_frozen (aCons (aVar 0) aNil)) (aGTup 2 (aGCons (aNm 4) (aGCons (aNm 5) aGNil)))) (aSeq (aIf (aTest (aCall0 m__has_arc (aCons (aVar 5) (aCons (aVar 1) aNil)))) (aRaiseF "Twice" "name" (aCons (aVar 1) aNil)) aNext) (aSeq (aDrop (aCall m_need_events (aCons (aTup (aCons (aVar 4) (aCons (aVar 5) aNil))) (aCons (aTup (aCons (aVar 2) (aCons (aVar 3) aNil))) aNil)))) (aSeq (aIf (aOr (aTest (aOp (aEqD false) (aVar 3) (aVar 2))) (aTest (aOp (aInQ false) (aVar 2) (aCall m_leads_to (aCons (aTup (aCons (aVar 4) (aCons (aVar 5) aNil))) (aCons (aVar 3) aNil)))))) (aRaise0 "Ring") aNext) (aRet (aTup (aCons (aVar 4) (aCons (aCall aTupOf (aCons (aCall aSortQ (aCons (aLst (aStar (aVar 5) (aCons (aTup (aCons (aVar 1) (aCons (aVar 2) (aCons (aVar 3) aNil)))) aNil))) aNil)) aNil)) aNil))))))))
def m_with_arc : List Sl → ASto → Res Sl := runD 6 4 b_with_arc
theorem ok_with_arc {P : Program} {w : World} {K : PySem.W.Frag} {mg : Str → Option Value} {base : Heap} (T : Tx w K mg) {f : Addr} {fd : FuncData} (F : Fun K "with_arc" "with_arc" st_with_arc f fd) : FnOk P w K mg base (L2.CX P w) 13 f fd ["web", "name", "ahead", "behind"] (spF P w K mg m_with_arc) := by
  obtain ⟨f_frozen, fd_frozen, e_frozen, F_frozen⟩ := T.h_frozen
  have G_frozen := ok_frozen (P := P) (w := w) (base := base) T F_frozen
  have B_frozen := F_frozen.binds (ps := ["value"]) fun _ _ _ _ _ _ us hl => match us, hl with | [_], _ => rfl
  obtain ⟨f__has_arc, fd__has_arc, e__has_arc, F__has_arc⟩ := T.h__has_arc
  have G__has_arc := ok__has_arc (P := P) (w := w) (base := base) T F__has_arc
  have B__has_arc := F__has_arc.binds (ps := ["arcs", "name"]) fun _ _ _ _ _ _ us hl => match us, hl with | [_, _], _ => rfl
  obtain ⟨f_need_events, fd_need_events, e_need_events, F_need_events⟩ := T.h_need_events
  have G_need_events := ok_need_events (P := P) (w := w) (base := base) T F_need_events
  have B_need_events := F_need_events.binds (ps := ["web", "events"]) fun _ _ _ _ _ _ us hl => match us, hl with | [_, _], _ => rfl
  obtain ⟨f_leads_to, fd_leads_to, e_leads_to, F_leads_to⟩ := T.h_leads_to
  have G_leads_to := ok_leads_to (P := P) (w := w) (base := base) T F_leads_to
  have B_leads_to := F_leads_to.binds (ps := ["web", "event"]) fun _ _ _ _ _ _ us hl => match us, hl with | [_, _], _ => rfl
  obtain ⟨C_Twice, fI_Twice, X_Twice⟩ := T.x_Twice
  obtain ⟨C_Ring, X_Ring, Q_Ring⟩ := T.x_Ring
  exact fn_x F sc_with_arc b_with_arc fun cdv A outer s H E hr => ⟨_,
    (pss_cons (ps_asg (pe_call G_frozen (hr.mono (by decide)) (by rfl) e_frozen F_frozen.kp B_frozen .nil pass0 (pa_cons (pv 0) pa_nil)) (pg_tup rfl (pgs_cons (pg_name (i := 4) sc_with_arc.nd rfl (Or.inl rfl)) (pgs_cons (pg_name (i := 5) sc_with_arc.nd rfl (Or.inl rfl)) pgs_nil)))) (pss_cons (ps_if (pt_val (pe_call G__has_arc (hr.mono (by decide)) (by rfl) e__has_arc F__has_arc.kp B__has_arc .nil pass0 (pa_cons (pv 5) (pa_cons (pv 1) pa_nil)))) (pss_one (ps_raise rfl (takes_of rfl rfl rfl rfl) (pmk_f (k := 0) X_Twice PySem.F.excBase_ValueError PySem.F.store_ValueError fld_name (hr.mono (by decide)) (pa_cons (pv 1) pa_nil) rfl))) pss_nil) (pss_cons (ps_expr (pe_call G_need_events (hr.mono (by decide)) (by rfl) e_need_events F_need_events.kp B_need_events .nil (passes_call (takes_of rfl rfl rfl rfl) fun _ _ _ _ h => h) (pa_cons (pe_tupN (pa_cons (pv 4) (pa_cons (pv 5) pa_nil))) (pa_cons (pe_tupN (pa_cons (pv 2) (pa_cons (pv 3) pa_nil))) pa_nil)))) (pss_cons (ps_if (PW.pt (pw_or (pt_cmpR (op_eqD hr.units) (pv 3) (pv 2) (nomark _)) (pw_or1 (pt_cmpR (opInQ (hu65 hr)) (pv 2) (pe_call G_leads_to (hr.mono (by decide)) (by rfl) e_leads_to F_leads_to.kp B_leads_to .nil (passes_call (takes_of rfl rfl rfl rfl) fun _ _ _ _ h => h) (pa_cons (pe_tupN (pa_cons (pv 4) (pa_cons (pv 5) pa_nil))) (pa_cons (pv 3) pa_nil))) (by rfl))))) (pss_one (ps_raise rfl (takes_of rfl rfl rfl rfl) (pmk_0 PySem.F.excBase_ValueError Q_Ring X_Ring rfl))) pss_nil) (pss_one (ps_ret (pe_tupN (pa_cons (pv 4) (pa_cons (pe_callTy call_tupN (by rfl) T.b_tuple (by decide +kernel) (pa_cons (pe_callB (crSortQ (hu65 hr)) (by rfl) T.b_sorted (by decide +kernel) (pa_cons (pe_lst (StX.pa_star (pv 5) (pa_cons (pe_tupN (pa_cons (pv 1) (pa_cons (pv 2) (pa_cons (pv 3) pa_nil)))) pa_nil))) pa_nil)) pa_nil)) pa_nil))))))))),
    (ss_seq (ss_asg (se_call0 (sa_cons (se_var 0) sa_nil)) (sg_tup (sgs_cons (sg_name 4) (sgs_cons (sg_name 5) sgs_nil)))) (ss_seq (ss_if (st_B (se_call0 (sa_cons (se_var 5) (sa_cons (se_var 1) sa_nil)))) (ss_raiseF X_Twice.gC (sa_cons (se_var 1) sa_nil)) ss_next) (ss_seq (ss_drop (se_call (sa_cons (se_tup (sa_cons (se_var 4) (sa_cons (se_var 5) sa_nil))) (sa_cons (se_tup (sa_cons (se_var 2) (sa_cons (se_var 3) sa_nil))) sa_nil)))) (ss_seq (ss_if (st_or (st_test (se_op sr_eqD (se_var 3) (se_var 2))) (st_test (se_op (srInQ false) (se_var 2) (se_call (sa_cons (se_tup (sa_cons (se_var 4) (sa_cons (se_var 5) sa_nil))) (sa_cons (se_var 3) sa_nil)))))) (ss_raise0 X_Ring.gC) ss_next) (ss_ret (se_tup (sa_cons (se_var 4) (sa_cons (se_cb sc_tupOf (sa_cons (se_cb scSortQ (sa_cons (se_lst (sa_star (se_var 5) (sa_cons (se_tup (sa_cons (se_var 1) (sa_cons (se_var 2) (sa_cons (se_var 3) sa_nil)))) sa_nil))) sa_nil)) sa_nil)) sa_nil))))))))⟩
abbrev st_without_arc : Stmt := topS 16
theorem sc_without_arc : FnScope ["web", "name", "events", "arcs", "arc"] ["web", "name"] (defScope st_without_arc) := ⟨rfl, rfl, rfl, by decide +kernel, rfl, by decide +kernel, by decide +kernel⟩
def b_without_arc : AEnv → ASto → Out := (aSeq (aAsg (aCall0 m_frozen (aCons (aVar 0) aNil)) (aGTup 2 (aGCons (aNm 2) (aGCons (aNm 3) aGNil)))) (aSeq (aIf (aNot (aTest (aCall0 m__has_arc (aCons (aVar 3) (aCons (aVar 1) aNil))))) (aRaiseF "NoArc" "name" (aCons (aVar 1) aNil)) aNext) (aRet (aTup (aCons (aVar 2) (aCons (aCall aTupOf (aCons (aLc (iSeqA (aVar 3)) (aNm 4) (aTest (aOp (aEqD true) (aOp aIx (aVar 4) (aC (.int 0))) (aVar 1))) (aVar 4) [4]) aNil)) aNil))))))
def m_without_arc : List Sl → ASto → Res Sl := runD 5 2 b_without_arc
theorem ok_without_arc {P : Program} {w : World} {K : PySem.W.Frag} {mg : Str → Option Value} {base : Heap} (T : Tx w K mg) {f : Addr} {fd : FuncData} (F : Fun K "without_arc" "without_arc" st_without_arc f fd) : FnOk P w K mg base (L2.CX P w) 12 f fd ["web", "name"] (spF P w K mg m_without_arc) := by
  obtain ⟨f_frozen, fd_frozen, e_frozen, F_frozen⟩ := T.h_frozen
  have G_frozen := ok_frozen (P := P) (w := w) (base := base) T F_frozen
  have B_frozen := F_frozen.binds (ps := ["value"]) fun _ _ _ _ _ _ us hl => match us, hl with | [_], _ => rfl
  obtain ⟨f__has_arc, fd__has_arc, e__has_arc, F__has_arc⟩ := T.h__has_arc
  have G__has_arc := ok__has_arc (P := P) (w := w) (base := base) T F__has_arc
  have B__has_arc := F__has_arc.binds (ps := ["arcs", "name"]) fun _ _ _ _ _ _ us hl => match us, hl with | [_, _], _ => rfl
  obtain ⟨C_NoArc, fI_NoArc, X_NoArc⟩ := T.x_NoArc
  exact fn_x F sc_without_arc b_without_arc fun cdv A outer s H E hr => ⟨_,
    (pss_cons (ps_asg (pe_call G_frozen (hr.mono (by decide)) (by rfl) e_frozen F_frozen.kp B_frozen .nil pass0 (pa_cons (pv 0) pa_nil)) (pg_tup rfl (pgs_cons (pg_name (i := 2) sc_without_arc.nd rfl (Or.inl rfl)) (pgs_cons (pg_name (i := 3) sc_without_arc.nd rfl (Or.inl rfl)) pgs_nil)))) (pss_cons (ps_if (pt_not (pt_val (pe_call G__has_arc (hr.mono (by decide)) (by rfl) e__has_arc F__has_arc.kp B__has_arc .nil pass0 (pa_cons (pv 3) (pa_cons (pv 1) pa_nil))))) (pss_one (ps_raise rfl (takes_of rfl rfl rfl rfl) (pmk_f (k := 0) X_NoArc PySem.F.excBase_LookupError PySem.F.store_LookupError fld_name (hr.mono (by decide)) (pa_cons (pv 1) pa_nil) rfl))) pss_nil) (pss_one (ps_ret (pe_tupN (pa_cons (pv 2) (pa_cons (pe_callTy call_tupN (by rfl) T.b_tuple (by decide +kernel) (pa_cons (pe_lc (own := [("arc", 4)]) rfl sc_without_arc.nd (pi_seq (pv 3)) (blkOk_by (N := ["web", "name", "events", "arcs", "arc"]) (sc := (defScope st_without_arc)) (own := [("arc", 4)]) (by decide +kernel)) (fun _ _ _ _ _ => (pg_name (i := 4) sc_without_arc.nd rfl (Or.inl rfl))) (fun _ _ _ _ _ => (pts_one (pt_cmpR (op_neD hr.units) (pe_ix ix_seq (pv 4) pe_int (fun _ _ => rfl)) (pv 1) (nomark _)))) (fun _ _ _ _ _ => (pv 4))) pa_nil)) pa_nil))))))),
    (ss_seq (ss_asg (se_call0 (sa_cons (se_var 0) sa_nil)) (sg_tup (sgs_cons (sg_name 2) (sgs_cons (sg_name 3) sgs_nil)))) (ss_seq (ss_if (st_not (st_B (se_call0 (sa_cons (se_var 3) (sa_cons (se_var 1) sa_nil))))) (ss_raiseF X_NoArc.gC (sa_cons (se_var 1) sa_nil)) ss_next) (ss_ret (se_tup (sa_cons (se_var 2) (sa_cons (se_cb sc_tupOf (sa_cons (se_lc (vs := [4]) (si_seq (se_var 3)) (sg_name 4) (by decide) (st_test (se_op sr_neD (se_op sr_ix (se_var 4) se_int) (se_var 1))) (se_var 4)) sa_nil)) sa_nil))))))⟩
abbrev st_renamed_arcs : Stmt := topS 18
theorem sc_renamed_arcs : FnScope ["web", "pairs", "events", "arcs", "called", "name", "ahead", "behind"] ["web", "pairs"] (defScope st_renamed_arcs) := ⟨rfl, rfl, rfl, by decide +kernel, rfl, by decide +kernel, by decide +kernel⟩
def b_renamed_arcs : AEnv → ASto → Out := (aSeq (aAsg (aCall0 m_frozen (aCons (aVar 0) aNil)) (aGTup 2 (aGCons (aNm 2) (aGCons (aNm 3) aGNil)))) (aSeq (aAsg (aCall aDictT (aCons (aCall0 m_frozen (aCons (aVar 1) aNil)) aNil)) (aNm 4)) (aSeq (aLock 4 fun n ks => aFor (iKeysX 4 n ks) (aNm 5) (aIf (aNot (aTest (aCall0 m__has_arc (aCons (aVar 3) (aCons (aVar 5) aNil))))) (aRaiseF "NoArc" "name" (aCons (aVar 5) aNil)) aNext)) (aRet (aTup (aCons (aVar 2) (aCons (aCall aTupOf (aCons (aCall aSortQ (aCons (aLc (iSeqA (aVar 3)) (aGTup 3 (aGCons (aNm 5) (aGCons (aNm 6) (aGCons (aNm 7) aGNil)))) aYes (aTup (aCons (aGet2 (aVar 4) (aVar 5) (aVar 5)) (aCons (aVar 6) (aCons (aVar 7) aNil)))) [5, 6, 7]) aNil)) aNil)) aNil)))))))
def m_renamed_arcs : List Sl → ASto → Res Sl := runD 8 2 b_renamed_arcs
theorem ok_renamed_arcs {P : Program} {w : World} {K : PySem.W.Frag} {mg : Str → Option Value} {base : Heap} (T : Tx w K mg) {f : Addr} {fd : FuncData} (F : Fun K "renamed_arcs" "renamed_arcs" st_renamed_arcs f fd) : FnOk P w K mg base (L2.CX P w) 12 f fd ["web", "pairs"] (spF P w K mg m_renamed_arcs) := by
  obtain ⟨f_frozen, fd_frozen, e_frozen, F_frozen⟩ := T.h_frozen
  have G_frozen := ok_frozen (P := P) (w := w) (base := base) T F_frozen
  have B_frozen := F_frozen.binds (ps := ["value"]) fun _ _ _ _ _ _ us hl => match us, hl with | [_], _ => rfl
  obtain ⟨f__has_arc, fd__has_arc, e__has_arc, F__has_arc⟩ := T.h__has_arc
  have G__has_arc := ok__has_arc (P := P) (w := w) (base := base) T F__has_arc
  have B__has_arc := F__has_arc.binds (ps := ["arcs", "name"]) fun _ _ _ _ _ _ us hl => match us, hl with | [_, _], _ => rfl
  obtain ⟨C_NoArc, fI_NoArc, X_NoArc⟩ := T.x_NoArc
  exact fn_x F sc_renamed_arcs b_renamed_arcs fun cdv A outer s H E hr => ⟨_,
    (pss_cons (ps_asg (pe_call G_frozen (hr.mono (by decide)) (by rfl) e_frozen F_frozen.kp B_frozen .nil pass0 (pa_cons (pv 0) pa_nil)) (pg_tup rfl (pgs_cons (pg_name (i := 2) sc_renamed_arcs.nd rfl (Or.inl rfl)) (pgs_cons (pg_name (i := 3) sc_renamed_arcs.nd rfl (Or.inl rfl)) pgs_nil)))) (pss_cons (ps_set (i := 4) sc_renamed_arcs.nd rfl (Or.inr rfl) (pe_callTy (crDictTN rfl) (by rfl) T.b_dict (by decide +kernel) (pa_cons (pe_call G_frozen (hr.mono (by decide)) (by rfl) e_frozen F_frozen.kp B_frozen .nil pass0 (pa_cons (pv 1) pa_nil)) pa_nil))) (pss_cons (ps_lock (ps_for (passes_of rfl) rfl (pi_keys (pv 4)) (pg_name (i := 5) sc_renamed_arcs.nd rfl (Or.inl rfl)) (pss_one (ps_if (pt_not (pt_val (pe_call G__has_arc (hr.mono (by decide)) (by rfl) e__has_arc F__has_arc.kp B__has_arc .nil pass0 (pa_cons (pv 3) (pa_cons (pv 5) pa_nil))))) (pss_one (ps_raise rfl (takes_of rfl rfl rfl rfl) (pmk_f (k := 0) X_NoArc PySem.F.excBase_LookupError PySem.F.store_LookupError fld_name (hr.mono (by decide)) (pa_cons (pv 5) pa_nil) rfl))) pss_nil)))) (pss_one (ps_ret (pe_tupN (pa_cons (pv 2) (pa_cons (pe_callTy call_tupN (by rfl) T.b_tuple (by decide +kernel) (pa_cons (pe_callB (crSortQ (hu65 hr)) (by rfl) T.b_sorted (by decide +kernel) (pa_cons (pe_lc (own := [("name", 5), ("ahead", 6), ("behind", 7)]) rfl sc_renamed_arcs.nd (pi_seq (pv 3)) (blkOk_by (N := ["web", "pairs", "events", "arcs", "called", "name", "ahead", "behind"]) (sc := (defScope st_renamed_arcs)) (own := [("name", 5), ("ahead", 6), ("behind", 7)]) (by decide +kernel)) (fun _ _ _ _ _ => (pg_tup rfl (pgs_cons (pg_name (i := 5) sc_renamed_arcs.nd rfl (Or.inl rfl)) (pgs_cons (pg_name (i := 6) sc_renamed_arcs.nd rfl (Or.inl rfl)) (pgs_cons (pg_name (i := 7) sc_renamed_arcs.nd rfl (Or.inl rfl)) pgs_nil))))) (fun _ _ _ _ _ => pts_nil) (fun _ _ _ _ _ => (pe_tupN (pa_cons (pe_dget2 (hu_of hr) (pv 4) (pv 5) (pv 5) ⟨rfl, rfl, rfl, rfl⟩) (pa_cons (pv 6) (pa_cons (pv 7) pa_nil)))))) pa_nil)) pa_nil)) pa_nil)))))))),
    (ss_seq (ss_asg (se_call0 (sa_cons (se_var 0) sa_nil)) (sg_tup (sgs_cons (sg_name 2) (sgs_cons (sg_name 3) sgs_nil)))) (ss_seq (ss_asg (se_cb scDictT (sa_cons (se_call0 (sa_cons (se_var 1) sa_nil)) sa_nil)) (sg_name 4)) (ss_seq (ss_forK (i := 4) (sg_name 5) (ss_if (st_not (st_B (se_call0 (sa_cons (se_var 3) (sa_cons (se_var 5) sa_nil))))) (ss_raiseF X_NoArc.gC (sa_cons (se_var 5) sa_nil)) ss_next)) (ss_ret (se_tup (sa_cons (se_var 2) (sa_cons (se_cb sc_tupOf (sa_cons (se_cb scSortQ (sa_cons (se_lc (vs := [5, 6, 7]) (si_seq (se_var 3)) (sg_tup (sgs_cons (sg_name 5) (sgs_cons (sg_name 6) (sgs_cons (sg_name 7) sgs_nil)))) (by decide) ST.yes (se_tup (sa_cons (se_get2 (se_var 4) (se_var 5) (se_var 5)) (sa_cons (se_var 6) (sa_cons (se_var 7) sa_nil))))) sa_nil)) sa_nil)) sa_nil)))))))⟩
abbrev st_is_edit : Stmt := topS 21
theorem sc_is_edit : FnScope ["thing"] ["thing"] (defScope st_is_edit) := ⟨rfl, rfl, rfl, by decide +kernel, rfl, by decide +kernel, by decide +kernel⟩
def b_is_edit : AEnv → ASto → Out := (aSeq (aIf (aOr (aNot (aTest (aCall0 m_is_name_row (aCons (aVar 0) aNil)))) (aNot (aTru (aVar 0)))) (aRet (aC (.bool false))) aNext) (aRet (aOp (aEqD false) (aKGet tab_SIZES (aOp aIx (aVar 0) (aC (.int 0)))) (aCall aLen (aCons (aVar 0) aNil)))))
def m_is_edit : List Sl → ASto → Res Sl := runD 1 1 b_is_edit
theorem ok_is_edit {P : Program} {w : World} {K : PySem.W.Frag} {mg : Str → Option Value} {base : Heap} (T : Tx w K mg) {f : Addr} {fd : FuncData} (F : Fun K "is_edit" "is_edit" st_is_edit f fd) : FnOk P w K mg base CX0 3 f fd ["thing"] (spF P w K mg m_is_edit) := by
  obtain ⟨f_is_name_row, fd_is_name_row, e_is_name_row, F_is_name_row⟩ := T.h_is_name_row
  have G_is_name_row := ok_is_name_row (P := P) (w := w) (base := base) T F_is_name_row
  have B_is_name_row := F_is_name_row.binds (ps := ["thing"]) fun _ _ _ _ _ _ us hl => match us, hl with | [_], _ => rfl
  obtain ⟨d_SIZES, g_SIZES, t_SIZES⟩ := T.d_SIZES
  exact fn_d F sc_is_edit b_is_edit fun cdv A outer s H E hr => ⟨_,
    (pss_cons (ps_if (PW.pt (pw_or (pt_not (pt_val (pe_call G_is_name_row (hr.mono (by decide)) (by rfl) e_is_name_row F_is_name_row.kp B_is_name_row .nil pass0 (pa_cons (pv 0) pa_nil)))) (pw_or1 (pt_not (pt_truth (pv 0) (by intro _; rfl)))))) (pss_one (ps_ret pe_bl)) pss_nil) (pss_one (ps_ret (pe_cmpR (op_eqD hr.units) (pe_kget (by rfl) g_SIZES t_SIZES (pe_ix ix_seq (pv 0) pe_int (fun _ _ => rfl)) ⟨rfl, rfl, rfl, rfl⟩) (pe_callB call_len_seq (by rfl) T.b_len (by decide +kernel) (pa_cons (pv 0) pa_nil)) (nomark _))))),
    (ss_seq (ss_if (st_or (st_not (st_B (se_call0 (sa_cons (se_var 0) sa_nil)))) (st_not (st_tru (se_var 0)))) (ss_ret se_bl) ss_next) (ss_ret (se_op sr_eqD (se_kget (se_op sr_ix (se_var 0) se_int)) (se_cb sc_len (sa_cons (se_var 0) sa_nil)))))⟩
abbrev st__behind_edit : Stmt := topS 23
theorem sc__behind_edit : FnScope ["web", "edit", "ends"] ["web", "edit"] (defScope st__behind_edit) := ⟨rfl, rfl, rfl, by decide +kernel, rfl, by decide +kernel, by decide +kernel⟩
def b__behind_edit : AEnv → ASto → Out := (aSeq (aIf (aTest (aOp (aEqD false) (aOp aIx (aVar 1) (aC (.int 0))) (aC (.str "put")))) (aRet (aCall m_with_arc (aCons (aVar 0) (aCons (aOp aIx (aVar 1) (aC (.int 1))) (aCons (aOp aIx (aVar 1) (aC (.int 2))) (aCons (aOp aIx (aVar 1) (aC (.int 3))) aNil)))))) aNext) (aSeq (aIf (aTest (aOp (aEqD false) (aOp aIx (aVar 1) (aC (.int 0))) (aC (.str "out")))) (aRet (aCall m_without_arc (aCons (aVar 0) (aCons (aOp aIx (aVar 1) (aC (.int 1))) aNil)))) aNext) (aSeq (aIf (aTest (aOp (aEqD false) (aOp aIx (aVar 1) (aC (.int 0))) (aC (.str "move")))) (aRet (aCall m_with_arc (aCons (aCall m_without_arc (aCons (aVar 0) (aCons (aOp aIx (aVar 1) (aC (.int 1))) aNil))) (aCons (aOp aIx (aVar 1) (aC (.int 1))) (aCons (aOp aIx (aVar 1) (aC (.int 2))) (aCons (aOp aIx (aVar 1) (aC (.int 3))) aNil)))))) aNext) (aSeq (aAsg (aCall0 m_ends_of (aCons (aVar 0) aNil)) (aNm 2)) (aSeq (aIf (aTest (aInK true (aOp aIx (aVar 1) (aC (.int 1))) (aVar 2))) (aRaiseF "NoArc" "name" (aCons (aOp aIx (aVar 1) (aC (.int 1))) aNil)) aNext) (aSeq (aIf (aTest (aInK false (aOp aIx (aVar 1) (aC (.int 2))) (aVar 2))) (aRaiseF "Twice" "name" (aCons (aOp aIx (aVar 1) (aC (.int 2))) aNil)) aNext) (aRet (aCall m_renamed_arcs (aCons (aVar 0) (aCons (aTup (aCons (aSl (aVar 1) (aPart (aC (.int 1))) aNoPart) aNil)) aNil))))))))))
def m__behind_edit : List Sl → ASto → Res Sl := runD 3 2 b__behind_edit
theorem ok__behind_edit {P : Program} {w : World} {K : PySem.W.Frag} {mg : Str → Option Value} {base : Heap} (T : Tx w K mg) {f : Addr} {fd : FuncData} (F : Fun K "_behind_edit" "_behind_edit" st__behind_edit f fd) : FnOk P w K mg base (L2.CX P w) 14 f fd ["web", "edit"] (spF P w K mg m__behind_edit) := by
  obtain ⟨f_with_arc, fd_with_arc, e_with_arc, F_with_arc⟩ := T.h_with_arc
  have G_with_arc := ok_with_arc (P := P) (w := w) (base := base) T F_with_arc
  have B_with_arc := F_with_arc.binds (ps := ["web", "name", "ahead", "behind"]) fun _ _ _ _ _ _ us hl => match us, hl with | [_, _, _, _], _ => rfl
  obtain ⟨f_without_arc, fd_without_arc, e_without_arc, F_without_arc⟩ := T.h_without_arc
  have G_without_arc := ok_without_arc (P := P) (w := w) (base := base) T F_without_arc
  have B_without_arc := F_without_arc.binds (ps := ["web", "name"]) fun _ _ _ _ _ _ us hl => match us, hl with | [_, _], _ => rfl
  obtain ⟨f_ends_of, fd_ends_of, e_ends_of, F_ends_of⟩ := T.h_ends_of
  have G_ends_of := ok_ends_of (P := P) (w := w) (base := base) T F_ends_of
  have B_ends_of := F_ends_of.binds (ps := ["web"]) fun _ _ _ _ _ _ us hl => match us, hl with | [_], _ => rfl
  obtain ⟨f_renamed_arcs, fd_renamed_arcs, e_renamed_arcs, F_renamed_arcs⟩ := T.h_renamed_arcs
  have G_renamed_arcs := ok_renamed_arcs (P := P) (w := w) (base := base) T F_renamed_arcs
  have B_renamed_arcs := F_renamed_arcs.binds (ps := ["web", "pairs"]) fun _ _ _ _ _ _ us hl => match us, hl with | [_, _], _ => rfl
  obtain ⟨C_NoArc, fI_NoArc, X_NoArc⟩ := T.x_NoArc
  obtain ⟨C_Twice, fI_Twice, X_Twice⟩ := T.x_Twice
  exact fn_x F sc__behind_edit b__behind_edit fun cdv A outer s H E hr => ⟨_,
    (pss_cons (ps_if (pt_cmpR (op_eqD hr.units) (pe_ix ix_seq (pv 1) pe_int (fun _ _ => rfl)) pe_str (nomark _)) (pss_one (ps_ret (pe_call G_with_arc (hr.mono (by decide)) (by rfl) e_with_arc F_with_arc.kp B_with_arc .nil (passes_call (takes_of rfl rfl rfl rfl) fun _ _ _ _ h => h) (pa_cons (pv 0) (pa_cons (pe_ix ix_seq (pv 1) pe_int (fun _ _ => rfl)) (pa_cons (pe_ix ix_seq (pv 1) pe_int (fun _ _ => rfl)) (pa_cons (pe_ix ix_seq (pv 1) pe_int (fun _ _ => rfl)) pa_nil))))))) pss_nil) (pss_cons (ps_if (pt_cmpR (op_eqD hr.units) (pe_ix ix_seq (pv 1) pe_int (fun _ _ => rfl)) pe_str (nomark _)) (pss_one (ps_ret (pe_call G_without_arc (hr.mono (by decide)) (by rfl) e_without_arc F_without_arc.kp B_without_arc .nil (passes_call (takes_of rfl rfl rfl rfl) fun _ _ _ _ h => h) (pa_cons (pv 0) (pa_cons (pe_ix ix_seq (pv 1) pe_int (fun _ _ => rfl)) pa_nil))))) pss_nil) (pss_cons (ps_if (pt_cmpR (op_eqD hr.units) (pe_ix ix_seq (pv 1) pe_int (fun _ _ => rfl)) pe_str (nomark _)) (pss_one (ps_ret (pe_call G_with_arc (hr.mono (by decide)) (by rfl) e_with_arc F_with_arc.kp B_with_arc .nil (passes_call (takes_of rfl rfl rfl rfl) fun _ _ _ _ h => h) (pa_cons (pe_call G_without_arc (hr.mono (by decide)) (by rfl) e_without_arc F_without_arc.kp B_without_arc .nil (passes_call (takes_of rfl rfl rfl rfl) fun _ _ _ _ h => h) (pa_cons (pv 0) (pa_cons (pe_ix ix_seq (pv 1) pe_int (fun _ _ => rfl)) pa_nil))) (pa_cons (pe_ix ix_seq (pv 1) pe_int (fun _ _ => rfl)) (pa_cons (pe_ix ix_seq (pv 1) pe_int (fun _ _ => rfl)) (pa_cons (pe_ix ix_seq (pv 1) pe_int (fun _ _ => rfl)) pa_nil))))))) pss_nil) (pss_cons (ps_set (i := 2) sc__behind_edit.nd rfl (Or.inl rfl) (pe_call G_ends_of (hr.mono (by decide)) (by rfl) e_ends_of F_ends_of.kp B_ends_of .nil pass0 (pa_cons (pv 0) pa_nil))) (pss_cons (ps_if (pt_cmp (pc_dnotin (hu_of hr) (pe_ix ix_seq (pv 1) pe_int (fun _ _ => rfl)) (pv 2)) rfl) (pss_one (ps_raise rfl (takes_of rfl rfl rfl rfl) (pmk_f (k := 0) X_NoArc PySem.F.excBase_LookupError PySem.F.store_LookupError fld_name (hr.mono (by decide)) (pa_cons (pe_ix ix_seq (pv 1) pe_int (fun _ _ => rfl)) pa_nil) rfl))) pss_nil) (pss_cons (ps_if (pt_cmp (pc_din (hu_of hr) (pe_ix ix_seq (pv 1) pe_int (fun _ _ => rfl)) (pv 2)) rfl) (pss_one (ps_raise rfl (takes_of rfl rfl rfl rfl) (pmk_f (k := 0) X_Twice PySem.F.excBase_ValueError PySem.F.store_ValueError fld_name (hr.mono (by decide)) (pa_cons (pe_ix ix_seq (pv 1) pe_int (fun _ _ => rfl)) pa_nil) rfl))) pss_nil) (pss_one (ps_ret (pe_call G_renamed_arcs (hr.mono (by decide)) (by rfl) e_renamed_arcs F_renamed_arcs.kp B_renamed_arcs .nil (passes_call (takes_of rfl rfl rfl rfl) fun _ _ _ _ h => h) (pa_cons (pv 0) (pa_cons (pe_tupN (pa_cons (pe_slice sl_seq (pv 1) (po_some pe_int) po_none) pa_nil)) pa_nil))))))))))),
    (ss_seq (ss_if (st_test (se_op sr_eqD (se_op sr_ix (se_var 1) se_int) se_str)) (ss_ret (se_call (sa_cons (se_var 0) (sa_cons (se_op sr_ix (se_var 1) se_int) (sa_cons (se_op sr_ix (se_var 1) se_int) (sa_cons (se_op sr_ix (se_var 1) se_int) sa_nil)))))) ss_next) (ss_seq (ss_if (st_test (se_op sr_eqD (se_op sr_ix (se_var 1) se_int) se_str)) (ss_ret (se_call (sa_cons (se_var 0) (sa_cons (se_op sr_ix (se_var 1) se_int) sa_nil)))) ss_next) (ss_seq (ss_if (st_test (se_op sr_eqD (se_op sr_ix (se_var 1) se_int) se_str)) (ss_ret (se_call (sa_cons (se_call (sa_cons (se_var 0) (sa_cons (se_op sr_ix (se_var 1) se_int) sa_nil))) (sa_cons (se_op sr_ix (se_var 1) se_int) (sa_cons (se_op sr_ix (se_var 1) se_int) (sa_cons (se_op sr_ix (se_var 1) se_int) sa_nil)))))) ss_next) (ss_seq (ss_asg (se_call0 (sa_cons (se_var 0) sa_nil)) (sg_name 2)) (ss_seq (ss_if (st_B (se_inK true (se_op sr_ix (se_var 1) se_int) (se_var 2))) (ss_raiseF X_NoArc.gC (sa_cons (se_op sr_ix (se_var 1) se_int) sa_nil)) ss_next) (ss_seq (ss_if (st_B (se_inK false (se_op sr_ix (se_var 1) se_int) (se_var 2))) (ss_raiseF X_Twice.gC (sa_cons (se_op sr_ix (se_var 1) se_int) sa_nil)) ss_next) (ss_ret (se_call (sa_cons (se_var 0) (sa_cons (se_tup (sa_cons (se_slice (se_var 1) (so_some se_int) so_none) sa_nil)) sa_nil))))))))))⟩
abbrev st_edited : Stmt := topS 22
theorem sc_edited : FnScope ["web", "edits", "changed", "edit"] ["web", "edits"] (defScope st_edited) := ⟨rfl, rfl, rfl, by decide +kernel, rfl, by decide +kernel, by decide +kernel⟩
def b_edited : AEnv → ASto → Out := (aSeq (aAsg (aCall0 m_frozen (aCons (aVar 0) aNil)) (aNm 2)) (aSeq (aFor (iSeqA (aCall0 m_frozen (aCons (aVar 1) aNil))) (aNm 3) (aAsg (aCall m__behind_edit (aCons (aVar 2) (aCons (aVar 3) aNil))) (aNm 2))) (aRet (aVar 2))))
def m_edited : List Sl → ASto → Res Sl := runD 4 2 b_edited
theorem ok_edited {P : Program} {w : World} {K : PySem.W.Frag} {mg : Str → Option Value} {base : Heap} (T : Tx w K mg) {f : Addr} {fd : FuncData} (F : Fun K "edited" "edited" st_edited f fd) : FnOk P w K mg base (L2.CX P w) 15 f fd ["web", "edits"] (spF P w K mg m_edited) := by
  obtain ⟨f_frozen, fd_frozen, e_frozen, F_frozen⟩ := T.h_frozen
  have G_frozen := ok_frozen (P := P) (w := w) (base := base) T F_frozen
  have B_frozen := F_frozen.binds (ps := ["value"]) fun _ _ _ _ _ _ us hl => match us, hl with | [_], _ => rfl
  obtain ⟨f__behind_edit, fd__behind_edit, e__behind_edit, F__behind_edit⟩ := T.h__behind_edit
  have G__behind_edit := ok__behind_edit (P := P) (w := w) (base := base) T F__behind_edit
  have B__behind_edit := F__behind_edit.binds (ps := ["web", "edit"]) fun _ _ _ _ _ _ us hl => match us, hl with | [_, _], _ => rfl
  exact fn_x F sc_edited b_edited fun cdv A outer s H E hr => ⟨_,
    (pss_cons (ps_set (i := 2) sc_edited.nd rfl (Or.inl rfl) (pe_call G_frozen (hr.mono (by decide)) (by rfl) e_frozen F_frozen.kp B_frozen .nil pass0 (pa_cons (pv 0) pa_nil))) (pss_cons (ps_for (passes_of rfl) rfl (pi_seq (pe_call G_frozen (hr.mono (by decide)) (by rfl) e_frozen F_frozen.kp B_frozen .nil pass0 (pa_cons (pv 1) pa_nil))) (pg_name (i := 3) sc_edited.nd rfl (Or.inl rfl)) (pss_one (ps_set (i := 2) sc_edited.nd rfl (Or.inl rfl) (pe_call G__behind_edit (hr.mono (by decide)) (by rfl) e__behind_edit F__behind_edit.kp B__behind_edit .nil (passes_call (takes_of rfl rfl rfl rfl) fun _ _ _ _ h => h) (pa_cons (pv 2) (pa_cons (pv 3) pa_nil)))))) (pss_one (ps_ret (pv 2))))),
    (ss_seq (ss_asg (se_call0 (sa_cons (se_var 0) sa_nil)) (sg_name 2)) (ss_seq (ss_for (si_seq (se_call0 (sa_cons (se_var 1) sa_nil))) (sg_name 3) (ss_asg (se_call (sa_cons (se_var 2) (sa_cons (se_var 3) sa_nil))) (sg_name 2))) (ss_ret (se_var 2))))⟩
abbrev st_first_refused : Stmt := topS 24
theorem sc_first_refused : FnScope ["web", "edits", "changed", "place", "edit"] ["web", "edits"] (defScope st_first_refused) := ⟨rfl, rfl, rfl, by decide +kernel, rfl, by decide +kernel, by decide +kernel⟩
def b_first_refused : AEnv → ASto → Out := (aSeq (aAsg (aCall0 m_frozen (aCons (aVar 0) aNil)) (aNm 2)) (aSeq (aFor (iEnumQA (aCons (aCall0 m_frozen (aCons (aVar 1) aNil)) aNil)) (aGTup 2 (aGCons (aNm 3) (aGCons (aNm 4) aGNil))) (aTryT errsL ["Twice", "NoArc", "NoEvent", "Ring"] m__behind_edit (aCons (aVar 2) (aCons (aVar 4) aNil)) 2 (aRet (aVar 3)))) (aRet (aC .none))))
def m_first_refused : List Sl → ASto → Res Sl := runD 5 2 b_first_refused
theorem ok_first_refused {P : Program} {w : World} {K : PySem.W.Frag} {mg : Str → Option Value} {base : Heap} (T : Tx w K mg) {f : Addr} {fd : FuncData} (F : Fun K "first_refused" "first_refused" st_first_refused f fd) : FnOk P w K mg base CX0 15 f fd ["web", "edits"] (spF P w K mg m_first_refused) := by
  obtain ⟨f_frozen, fd_frozen, e_frozen, F_frozen⟩ := T.h_frozen
  have G_frozen := ok_frozen (P := P) (w := w) (base := base) T F_frozen
  have B_frozen := F_frozen.binds (ps := ["value"]) fun _ _ _ _ _ _ us hl => match us, hl with | [_], _ => rfl
  obtain ⟨f__behind_edit, fd__behind_edit, e__behind_edit, F__behind_edit⟩ := T.h__behind_edit
  have G__behind_edit := ok__behind_edit (P := P) (w := w) (base := base) T F__behind_edit
  have B__behind_edit := F__behind_edit.binds (ps := ["web", "edit"]) fun _ _ _ _ _ _ us hl => match us, hl with | [_, _], _ => rfl
  obtain ⟨C_Twice, fI_Twice, X_Twice⟩ := T.x_Twice
  obtain ⟨C_NoArc, fI_NoArc, X_NoArc⟩ := T.x_NoArc
  obtain ⟨C_NoEvent, fI_NoEvent, X_NoEvent⟩ := T.x_NoEvent
  obtain ⟨C_Ring, X_Ring, Q_Ring⟩ := T.x_Ring
  exact fn_d F sc_first_refused b_first_refused fun cdv A outer s H E hr => ⟨_,
    (pss_cons (ps_set (i := 2) sc_first_refused.nd rfl (Or.inl rfl) (pe_call G_frozen (hr.mono (by decide)) (by rfl) e_frozen F_frozen.kp B_frozen .nil pass0 (pa_cons (pv 0) pa_nil))) (pss_cons (ps_for PassesOwn.never rfl (pi_enumQ (by rfl) T.b_enumerate (pa_cons (pe_call G_frozen (hr.mono (by decide)) (by rfl) e_frozen F_frozen.kp B_frozen .nil pass0 (pa_cons (pv 1) pa_nil)) pa_nil)) (pg_tup rfl (pgs_cons (pg_name (i := 3) sc_first_refused.nd rfl (Or.inl rfl)) (pgs_cons (pg_name (i := 4) sc_first_refused.nd rfl (Or.inl rfl)) pgs_nil))) (pss_one (ps_tryTup4 rfl rfl ⟨rfl, by decide, Or.inl X_Twice.gC⟩ ⟨rfl, by decide, Or.inl X_NoArc.gC⟩ ⟨rfl, by decide, Or.inl X_NoEvent.gC⟩ ⟨rfl, by decide, Or.inl X_Ring.gC⟩ (fun W pn xe tk _ => pss_one (ps_set (i := 2) sc_first_refused.nd rfl (Or.inl rfl) (pe_callS G__behind_edit (hr.mono (by decide)) (by rfl) e__behind_edit F__behind_edit.kp B__behind_edit (fun σ => passAt tk σ) (pa_cons (pv 2) (pa_cons (pv 4) pa_nil))))) (fun a oe cls d pn hz hf => (pss_one (ps_ret (pv 3))))))) (pss_one (ps_ret pe_non)))),
    (ss_seq (ss_asg (se_call0 (sa_cons (se_var 0) sa_nil)) (sg_name 2)) (ss_seq (ss_for (si_enumQ (sa_cons (se_call0 (sa_cons (se_var 1) sa_nil)) sa_nil)) (sg_tup (sgs_cons (sg_name 3) (sgs_cons (sg_name 4) sgs_nil))) (ss_tryT (xs := ["Twice", "NoArc", "NoEvent", "Ring"]) T.exm (.cons ⟨by decide, X_Twice.gC⟩ (.cons ⟨by decide, X_NoArc.gC⟩ (.cons ⟨by decide, X_NoEvent.gC⟩ (.cons ⟨by decide, X_Ring.gC⟩ .nil)))) (sa_cons (se_var 2) (sa_cons (se_var 4) sa_nil)) (fun _ _ _ => (ss_ret (se_var 3))))) (ss_ret se_non)))⟩
abbrev st__law_box : Stmt := topS 26
theorem sc__law_box : FnScope ["_law_script", "_law_k", "_law_great_so"] ["_law_script", "_law_k"] (defScope st__law_box) := ⟨rfl, rfl, rfl, by decide +kernel, rfl, by decide +kernel, by decide +kernel⟩
def b__law_box : AEnv → ASto → Out := (aSeq (aAsg (aIfE (aTest (aOp aLt (aVar 1) (aCall aLen (aCons (aVar 0) aNil)))) (aOp aIx (aVar 0) (aVar 1)) (aC (.int 0))) (aNm 2)) (aRet (aLstC (aCons (aOp aMul (aCall aAbs (aCons (aVar 2) aNil)) (aCall aInt1 (aCons (aOp aGe (aCall aAbs (aCons (aVar 2) aNil)) (aOp aPow (aC (.int 10)) (aC (.int 18)))) aNil))) (aCons (aOp aAddE (aOp aAddE (aOp aMod (aCall aInt1 (aCons (aVar 2) aNil)) (aC (.int 2305843009213693951))) (aOp aMul (aC (.int 39373)) (aVar 1))) (aC (.int 1338))) (aCons (aC (.int 0)) aNil))))))
def m__law_box : List Sl → ASto → Res Sl := runO 3 2 b__law_box
theorem ok__law_box {P : Program} {w : World} {K : PySem.W.Frag} {mg : Str → Option Value} {base : Heap} (T : Tx w K mg) {f : Addr} {fd : FuncData} (F : Fun K "_law_box" "_law_box" st__law_box f fd) : FnOk P w K mg base CX0 1 f fd ["_law_script", "_law_k"] (spF P w K mg m__law_box) := by
  exact fn_o F sc__law_box b__law_box fun cdv A outer s H E hr => ⟨_,
    (pss_cons (ps_set (i := 2) sc__law_box.nd rfl (Or.inl rfl) (pe_ifExp (pt_cmpR op_lt (pv 1) (pe_callB call_len_seq (by rfl) T.b_len (by decide +kernel) (pa_cons (pv 0) pa_nil)) (nomark _)) (pe_ix ix_seq (pv 0) (pv 1) (fun _ _ => rfl)) pe_int)) (pss_one (ps_ret (pe_lst (pa_cons (pe_op op_mul (pe_callB call_abs (by rfl) T.b_abs (by decide +kernel) (pa_cons (pv 2) pa_nil)) (pe_callTy call_int1 (by rfl) T.b_int (by decide +kernel) (pa_cons (pe_cmpR op_ge (pe_callB call_abs (by rfl) T.b_abs (by decide +kernel) (pa_cons (pv 2) pa_nil)) (pe_op op_pow pe_int pe_int) (nomark _)) pa_nil))) (pa_cons (pe_op opAddE (pe_op opAddE (pe_op op_modN (pe_callTy call_int1 (by rfl) T.b_int (by decide +kernel) (pa_cons (pv 2) pa_nil)) pe_int) (pe_op op_mul pe_int (pv 1))) pe_int) (pa_cons pe_int pa_nil))))))),
    (ss_seq (ss_asg (se_if (st_test (se_op srLt (se_var 1) (se_cb sc_len (sa_cons (se_var 0) sa_nil)))) (se_op sr_ix (se_var 0) (se_var 1)) se_int) (sg_name 2)) (ss_ret (se_lstC (sa_cons (se_op srMul (se_cb sc_abs (sa_cons (se_var 2) sa_nil)) (se_cb sc_int1 (sa_cons (se_op srGe (se_cb sc_abs (sa_cons (se_var 2) sa_nil)) (se_op srPow se_int se_int)) sa_nil))) (sa_cons (se_op srAddE (se_op srAddE (se_op srMod (se_cb sc_int1 (sa_cons (se_var 2) sa_nil)) se_int) (se_op srMul se_int (se_var 1))) se_int) (sa_cons se_int sa_nil))))))⟩
abbrev st__law_take : Stmt := topS 27
theorem sc__law_take : FnScope ["_law_tin", "_law_top_so", "_law_digit_so", "_law_once", "_law_far", "_law_twice"] ["_law_tin", "_law_top_so"] (defScope st__law_take) := ⟨rfl, rfl, rfl, by decide +kernel, rfl, by decide +kernel, by decide +kernel⟩
def b__law_take : AEnv → ASto → Out := (aSeq (aIf (aTest (aOp aGt (aOp aIx (aVar 0) (aC (.int 0))) (aC (.int 0)))) (aSeq (aAsg (aOp aMod (aCall aInt1 (aCons (aOp aIx (aVar 0) (aC (.int 0))) aNil)) (aVar 1)) (aNm 2)) (aSeq (aSetIx (aOp aDiv (aOp aIx (aVar 0) (aC (.int 0))) (aVar 1)) (aVar 0) (aC (.int 0))) (aRet (aVar 2)))) aNext) (aSeq (aSetIx (aOp aAddE (aOp aIx (aVar 0) (aC (.int 2))) (aC (.int 1))) (aVar 0) (aC (.int 2))) (aSeq (aAsg (aOp aMod (aCall aInt1 (aCons (aOp aMul (aOp aAddE (aOp aIx (aVar 0) (aC (.int 1))) (aOp aMul (aC (.int 48271)) (aOp aIx (aVar 0) (aC (.int 2))))) (aOp aAddE (aC (.int 39373)) (aOp aIx (aVar 0) (aC (.int 2))))) aNil)) (aC (.int 2147483647))) (aNm 3)) (aSeq (aAsg (aOp aAddE (aOp aMod (aCall aInt1 (aCons (aVar 3) aNil)) (aC (.int 40009))) (aC (.int 7))) (aNm 4)) (aSeq (aAsg (aOp aMod (aCall aInt1 (aCons (aOp aMul (aOp aAddE (aOp aAddE (aVar 3) (aOp aIx (aVar 0) (aC (.int 2)))) (aOp aDiv (aOp aIx (aVar 0) (aC (.int 1))) (aC (.int 1000003)))) (aVar 4)) aNil)) (aC (.int 2147483629))) (aNm 5)) (aRet (aOp aMod (aCall aInt1 (aCons (aOp aDiv (aOp aMod (aCall aInt1 (aCons (aOp aAddE (aOp aMul (aVar 5) (aC (.int 48271))) (aVar 3)) aNil)) (aC (.int 2147483587))) (aC (.int 64))) aNil)) (aVar 1))))))))
def m__law_take : List Sl → ASto → Res Sl := runD 6 2 b__law_take
theorem ok__law_take {P : Program} {w : World} {K : PySem.W.Frag} {mg : Str → Option Value} {base : Heap} (T : Tx w K mg) {f : Addr} {fd : FuncData} (F : Fun K "_law_take" "_law_take" st__law_take f fd) : FnOk P w K mg base CX0 1 f fd ["_law_tin", "_law_top_so"] (spF P w K mg m__law_take) := by
  exact fn_d F sc__law_take b__law_take fun cdv A outer s H E hr => ⟨_,
    (pss_cons (ps_if (pt_cmpR op_gt (pe_ix ix_seq (pv 0) pe_int (fun _ _ => rfl)) pe_int (nomark _)) (pss_cons (ps_set (i := 2) sc__law_take.nd rfl (Or.inl rfl) (pe_op op_modN (pe_callTy call_int1 (by rfl) T.b_int (by decide +kernel) (pa_cons (pe_ix ix_seq (pv 0) pe_int (fun _ _ => rfl)) pa_nil)) (pv 1))) (pss_cons (ps_asg (pe_op op_fdivN (pe_ix ix_seq (pv 0) pe_int (fun _ _ => rfl)) (pv 1)) (pg_sub (pv 0) pe_int set_list)) (pss_one (ps_ret (pv 2))))) pss_nil) (pss_cons (ps_asg (pe_op opAddE (pe_ix ix_seq (pv 0) pe_int (fun _ _ => rfl)) pe_int) (pg_sub (pv 0) pe_int set_list)) (pss_cons (ps_set (i := 3) sc__law_take.nd rfl (Or.inl rfl) (pe_op op_modN (pe_callTy call_int1 (by rfl) T.b_int (by decide +kernel) (pa_cons (pe_op op_mul (pe_op opAddE (pe_ix ix_seq (pv 0) pe_int (fun _ _ => rfl)) (pe_op op_mul pe_int (pe_ix ix_seq (pv 0) pe_int (fun _ _ => rfl)))) (pe_op opAddE pe_int (pe_ix ix_seq (pv 0) pe_int (fun _ _ => rfl)))) pa_nil)) pe_int)) (pss_cons (ps_set (i := 4) sc__law_take.nd rfl (Or.inl rfl) (pe_op opAddE (pe_op op_modN (pe_callTy call_int1 (by rfl) T.b_int (by decide +kernel) (pa_cons (pv 3) pa_nil)) pe_int) pe_int)) (pss_cons (ps_set (i := 5) sc__law_take.nd rfl (Or.inl rfl) (pe_op op_modN (pe_callTy call_int1 (by rfl) T.b_int (by decide +kernel) (pa_cons (pe_op op_mul (pe_op opAddE (pe_op opAddE (pv 3) (pe_ix ix_seq (pv 0) pe_int (fun _ _ => rfl))) (pe_op op_fdivN (pe_ix ix_seq (pv 0) pe_int (fun _ _ => rfl)) pe_int)) (pv 4)) pa_nil)) pe_int)) (pss_one (ps_ret (pe_op op_modN (pe_callTy call_int1 (by rfl) T.b_int (by decide +kernel) (pa_cons (pe_op op_fdivN (pe_op op_modN (pe_callTy call_int1 (by rfl) T.b_int (by decide +kernel) (pa_cons (pe_op opAddE (pe_op op_mul (pv 5) pe_int) (pv 3)) pa_nil)) pe_int) pe_int) pa_nil)) (pv 1))))))))),
    (ss_seq (ss_if (st_test (se_op srGt (se_op sr_ix (se_var 0) se_int) se_int)) (ss_seq (ss_asg (se_op srMod (se_cb sc_int1 (sa_cons (se_op sr_ix (se_var 0) se_int) sa_nil)) (se_var 1)) (sg_name 2)) (ss_seq (ss_setIx (se_op srDiv (se_op sr_ix (se_var 0) se_int) (se_var 1)) (se_var 0) se_int) (ss_ret (se_var 2)))) ss_next) (ss_seq (ss_setIx (se_op srAddE (se_op sr_ix (se_var 0) se_int) se_int) (se_var 0) se_int) (ss_seq (ss_asg (se_op srMod (se_cb sc_int1 (sa_cons (se_op srMul (se_op srAddE (se_op sr_ix (se_var 0) se_int) (se_op srMul se_int (se_op sr_ix (se_var 0) se_int))) (se_op srAddE se_int (se_op sr_ix (se_var 0) se_int))) sa_nil)) se_int) (sg_name 3)) (ss_seq (ss_asg (se_op srAddE (se_op srMod (se_cb sc_int1 (sa_cons (se_var 3) sa_nil)) se_int) se_int) (sg_name 4)) (ss_seq (ss_asg (se_op srMod (se_cb sc_int1 (sa_cons (se_op srMul (se_op srAddE (se_op srAddE (se_var 3) (se_op sr_ix (se_var 0) se_int)) (se_op srDiv (se_op sr_ix (se_var 0) se_int) se_int)) (se_var 4)) sa_nil)) se_int) (sg_name 5)) (ss_ret (se_op srMod (se_cb sc_int1 (sa_cons (se_op srDiv (se_op srMod (se_cb sc_int1 (sa_cons (se_op srAddE (se_op srMul (se_var 5) se_int) (se_var 3)) sa_nil)) se_int) se_int) sa_nil)) (se_var 1))))))))⟩
abbrev st__law_cells : Stmt := topS 28
theorem sc__law_cells : FnScope ["_law_script", "_law_most", "_law_cells_here", "_law_k", "_law_great_so", "_law_at_so"] ["_law_script", "_law_most"] (defScope st__law_cells) := ⟨rfl, rfl, rfl, by decide +kernel, rfl, by decide +kernel, by decide +kernel⟩
def b__law_cells : AEnv → ASto → Out := (aSeq (aAsg (aOrT (aCall aListOfC (aCons (aSlS (aVar 0) aNoPart (aPart (aVar 1))) aNil)) (aLstC (aCons (aC (.int 0)) aNil))) (aNm 2)) (aSeq (aFor (iEnumA (aCons (aSlS (aVar 0) (aPart (aVar 1)) (aPart (aC (.int 63)))) aNil)) (aGTup 2 (aGCons (aNm 3) (aGCons (aNm 4) aGNil))) (aSeq (aAsg (aOp aMod (aCall aInt1 (aCons (aVar 3) aNil)) (aVar 1)) (aNm 5)) (aSetIx (aOp aAddE (aOp aIx (aVar 2) (aVar 5)) (aOp aMul (aVar 4) (aOp aAddE (aVar 3) (aC (.int 2))))) (aVar 2) (aVar 5)))) (aRetF (aVar 2))))
def m__law_cells : List Sl → ASto → Res Sl := runD 6 2 b__law_cells
theorem ok__law_cells {P : Program} {w : World} {K : PySem.W.Frag} {mg : Str → Option Value} {base : Heap} (T : Tx w K mg) {f : Addr} {fd : FuncData} (F : Fun K "_law_cells" "_law_cells" st__law_cells f fd) : FnOk P w K mg base CX0 1 f fd ["_law_script", "_law_most"] (spF P w K mg m__law_cells) := by
  exact fn_d F sc__law_cells b__law_cells fun cdv A outer s H E hr => ⟨_,
    (pss_cons (ps_set (i := 2) sc__law_cells.nd rfl (Or.inl rfl) (pe_orT (pe_callTy call_list_of (by rfl) T.b_list (by decide +kernel) (pa_cons (pe_slice sl_seq (pv 0) po_none (po_some (pv 1))) pa_nil)) (pe_one (pe_lst (pa_cons pe_int pa_nil))))) (pss_cons (ps_for PassesOwn.never rfl (pi_enum (by rfl) T.b_enumerate (pa_cons (pe_slice sl_seq (pv 0) (po_some (pv 1)) (po_some pe_int)) pa_nil)) (pg_tup rfl (pgs_cons (pg_name (i := 3) sc__law_cells.nd rfl (Or.inl rfl)) (pgs_cons (pg_name (i := 4) sc__law_cells.nd rfl (Or.inl rfl)) pgs_nil))) (pss_cons (ps_set (i := 5) sc__law_cells.nd rfl (Or.inl rfl) (pe_op op_modN (pe_callTy call_int1 (by rfl) T.b_int (by decide +kernel) (pa_cons (pv 3) pa_nil)) (pv 1))) (pss_one (ps_asg (pe_op opAddE (pe_ix ix_seq (pv 2) (pv 5) (fun _ _ => rfl)) (pe_op op_mul (pv 4) (pe_op opAddE (pv 3) pe_int))) (pg_sub (pv 2) (pv 5) set_list))))) (pss_one (ps_ret (pv 2))))),
    (ss_seq (ss_asg (se_orT (se_cb sc_listOfC (sa_cons (se_sliceS (se_var 0) so_none (so_some (se_var 1))) sa_nil)) (se_lstC (sa_cons se_int sa_nil))) (sg_name 2)) (ss_seq (ss_for (si_enum (sa_cons (se_sliceS (se_var 0) (so_some (se_var 1)) (so_some se_int)) sa_nil)) (sg_tup (sgs_cons (sg_name 3) (sgs_cons (sg_name 4) sgs_nil))) (ss_seq (ss_asg (se_op srMod (se_cb sc_int1 (sa_cons (se_var 3) sa_nil)) (se_var 1)) (sg_name 5)) (ss_setIx (se_op srAddE (se_op sr_ix (se_var 2) (se_var 5)) (se_op srMul (se_var 4) (se_op srAddE (se_var 3) se_int))) (se_var 2) (se_var 5)))) (ss_retF (se_var 2))))⟩
abbrev st__law_of : Stmt := topS 29
theorem sc__law_of : FnScope ["_law_tin", "_law_lot"] ["_law_tin", "_law_lot"] (defScope st__law_of) := ⟨rfl, rfl, rfl, by decide +kernel, rfl, by decide +kernel, by decide +kernel⟩
def b__law_of : AEnv → ASto → Out := (aRet (aOp aIx (aVar 1) (aCall0 m__law_take (aCons (aVar 0) (aCons (aCall aLen (aCons (aVar 1) aNil)) aNil)))))
def m__law_of : List Sl → ASto → Res Sl := runD 2 2 b__law_of
theorem ok__law_of {P : Program} {w : World} {K : PySem.W.Frag} {mg : Str → Option Value} {base : Heap} (T : Tx w K mg) {f : Addr} {fd : FuncData} (F : Fun K "_law_of" "_law_of" st__law_of f fd) : FnOk P w K mg base CX0 2 f fd ["_law_tin", "_law_lot"] (spF P w K mg m__law_of) := by
  obtain ⟨f__law_take, fd__law_take, e__law_take, F__law_take⟩ := T.h__law_take
  have G__law_take := ok__law_take (P := P) (w := w) (base := base) T F__law_take
  have B__law_take := F__law_take.binds (ps := ["_law_tin", "_law_top_so"]) fun _ _ _ _ _ _ us hl => match us, hl with | [_, _], _ => rfl
  exact fn_d F sc__law_of b__law_of fun cdv A outer s H E hr => ⟨_,
    (pss_one (ps_ret (pe_ix ix_seq (pv 1) (pe_call G__law_take (hr.mono (by decide)) (by rfl) e__law_take F__law_take.kp B__law_take .nil pass0 (pa_cons (pv 0) (pa_cons (pe_callB call_len_seq (by rfl) T.b_len (by decide +kernel) (pa_cons (pv 1) pa_nil)) pa_nil))) (fun _ _ => rfl)))),
    (ss_ret (se_op sr_ix (se_var 1) (se_call0 (sa_cons (se_var 0) (sa_cons (se_cb sc_len (sa_cons (se_var 1) sa_nil)) sa_nil)))))⟩
abbrev st__law_pick : Stmt := topS 30
theorem sc__law_pick : FnScope ["_law_tin", "_law_pool", "_law_size_so", "_law_rest", "_law_lot", "_law_turn"] ["_law_tin", "_law_pool", "_law_size_so"] (defScope st__law_pick) := ⟨rfl, rfl, rfl, by decide +kernel, rfl, by decide +kernel, by decide +kernel⟩
def b__law_pick : AEnv → ASto → Out := (aSeq (aPar 3 4 (aCons (aCall aListOfC (aCons (aVar 1) aNil)) (aCons (aLstC aNil) aNil))) (aSeq (aFor (iRng1A (aCons (aCall aMin2 (aCons (aVar 2) (aCons (aCall aLen (aCons (aVar 3) aNil)) aNil))) aNil)) (aNm 5) (aDrop (aMut gAppend (aVar 4) (aMut gPopAt (aVar 3) (aCall0 m__law_take (aCons (aVar 0) (aCons (aCall aLen (aCons (aVar 3) aNil)) aNil))))))) (aRetF (aVar 4))))
def m__law_pick : List Sl → ASto → Res Sl := runD 6 3 b__law_pick
theorem ok__law_pick {P : Program} {w : World} {K : PySem.W.Frag} {mg : Str → Option Value} {base : Heap} (T : Tx w K mg) {f : Addr} {fd : FuncData} (F : Fun K "_law_pick" "_law_pick" st__law_pick f fd) : FnOk P w K mg base CX0 2 f fd ["_law_tin", "_law_pool", "_law_size_so"] (spF P w K mg m__law_pick) := by
  obtain ⟨f__law_take, fd__law_take, e__law_take, F__law_take⟩ := T.h__law_take
  have G__law_take := ok__law_take (P := P) (w := w) (base := base) T F__law_take
  have B__law_take := F__law_take.binds (ps := ["_law_tin", "_law_top_so"]) fun _ _ _ _ _ _ us hl => match us, hl with | [_, _], _ => rfl
  exact fn_d F sc__law_pick b__law_pick fun cdv A outer s H E hr => ⟨_,
    (pss_cons (ps_par (i := 3) (j := 4) (by rfl) sc__law_pick.nd rfl rfl (by decide) rfl rfl (pa_cons (pe_callTy call_list_of (by rfl) T.b_list (by decide +kernel) (pa_cons (pv 1) pa_nil)) (pa_cons (pe_lst pa_nil) pa_nil)) (by rfl)) (pss_cons (ps_for PassesOwn.never rfl (pi_range1 (by rfl) T.b_range (pa_cons (pe_callB (call_min2 rfl) (by rfl) T.b_min (by decide +kernel) (pa_cons (pv 2) (pa_cons (pe_callB call_len_seq (by rfl) T.b_len (by decide +kernel) (pa_cons (pv 3) pa_nil)) pa_nil))) pa_nil)) (pg_name (i := 5) sc__law_pick.nd rfl (Or.inl rfl)) (pss_one (ps_expr (pe_bm PySem.F.plainAttrs_list PySem.F.slot_list_append PySem.F.type_list_append mt_append (pv 4) (pa_cons (pe_bm PySem.F.plainAttrs_list PySem.F.slot_list_pop PySem.F.type_list_pop mt_popAt (pv 3) (pa_cons (pe_call G__law_take (hr.mono (by decide)) (by rfl) e__law_take F__law_take.kp B__law_take .nil pass0 (pa_cons (pv 0) (pa_cons (pe_callB call_len_seq (by rfl) T.b_len (by decide +kernel) (pa_cons (pv 3) pa_nil)) pa_nil))) pa_nil)) pa_nil))))) (pss_one (ps_ret (pv 4))))),
    (ss_seq (ss_par (sa_cons (se_cb sc_listOfC (sa_cons (se_var 1) sa_nil)) (sa_cons (se_lstC sa_nil) sa_nil))) (ss_seq (ss_for (si_rng1 (sa_cons (se_cb sc_min2 (sa_cons (se_var 2) (sa_cons (se_cb sc_len (sa_cons (se_var 3) sa_nil)) sa_nil))) sa_nil)) (sg_name 5) (ss_drop (se_mut sm_append (se_var 4) (se_mut sm_popAt (se_var 3) (se_call0 (sa_cons (se_var 0) (sa_cons (se_cb sc_len (sa_cons (se_var 3) sa_nil)) sa_nil))))))) (ss_retF (se_var 4))))⟩
abbrev st__law_lists : Stmt := topS 31
theorem sc__law_lists : FnScope ["_law_matter", "_law_bit"] ["_law_matter"] (defScope st__law_lists) := ⟨rfl, rfl, rfl, by decide +kernel, rfl, by decide +kernel, by decide +kernel⟩
def b__law_lists (R : List Sl → ASto → Res Sl) : AEnv → ASto → Out := (aRet (aIfE (aTest (aIsI ["list", "tuple"] (aVar 0))) (aLc (iSeqA (aVar 0)) (aNm 1) aYes (aCall0 R (aCons (aVar 1) aNil)) [1]) (aVar 0)))
def r__law_lists : Nat → List Sl → ASto → Res Sl
  | 0 => fun _ _ => .no
  | k + 1 => runD 2 1 (b__law_lists (r__law_lists k))
def m__law_lists : List Sl → ASto → Res Sl := r__law_lists 10
theorem okr__law_lists {P : Program} {w : World} {K : PySem.W.Frag} {mg : Str → Option Value} {base : Heap} (T : Tx w K mg) : ∀ (k : Nat) (f : Addr) (fd : FuncData), Fun K "_law_lists" "_law_lists" st__law_lists f fd → FnOk P w K mg base CX0 (1 + k) f fd ["_law_matter"] (spF P w K mg (r__law_lists k))
  | 0, _, _, _ => fn_no
  | k + 1, f, fd, F => by
    obtain ⟨f__law_lists, fd__law_lists, e__law_lists, F__law_lists⟩ := T.h__law_lists
    have G__law_lists := okr__law_lists (P := P) (w := w) (base := base) T k f__law_lists fd__law_lists F__law_lists
    have B__law_lists := F__law_lists.binds (ps := ["_law_matter"]) fun _ _ _ _ _ _ us hl => match us, hl with | [_], _ => rfl
    exact fn_d (k := 1 + k) F sc__law_lists (b__law_lists (r__law_lists k)) fun cdv A outer s H E hr => ⟨_,
      (pss_one (ps_ret (pe_ifExp (pt_val (pe_callB call_isiT (by rfl) T.b_isinstance (by decide +kernel) (pa_cons (pv 0) (pa_cons (pe_tup (pa_cons (pe_bltn (v := .ty "list") (by rfl) T.b_list (by decide +kernel) rfl) (pa_cons (pe_bltn (v := .ty "tuple") (by rfl) T.b_tuple (by decide +kernel) rfl) pa_nil))) pa_nil)))) (pe_lc (own := [("_law_bit", 1)]) rfl sc__law_lists.nd (pi_seq (pv 0)) (blkOk_by (N := ["_law_matter", "_law_bit"]) (sc := (defScope st__law_lists)) (own := [("_law_bit", 1)]) (by decide +kernel)) (fun _ _ _ _ _ => (pg_name (i := 1) sc__law_lists.nd rfl (Or.inl rfl))) (fun _ _ _ _ _ => pts_nil) (fun _ _ _ _ _ => (pe_call G__law_lists (hr.mono (by omega)) (by rfl) e__law_lists F__law_lists.kp B__law_lists .nil pass0 (pa_cons (pv 1) pa_nil)))) (pv 0)))),
      (ss_ret (se_if (st_B (se_isiT (se_var 0))) (se_lc (vs := [1]) (si_seq (se_var 0)) (sg_name 1) (by decide) ST.yes (se_call0 (sa_cons (se_var 1) sa_nil))) (se_var 0)))⟩
theorem ok__law_lists {P : Program} {w : World} {K : PySem.W.Frag} {mg : Str → Option Value} {base : Heap} (T : Tx w K mg) {f : Addr} {fd : FuncData} (F : Fun K "_law_lists" "_law_lists" st__law_lists f fd) : FnOk P w K mg base CX0 11 f fd ["_law_matter"] (spF P w K mg m__law_lists) := okr__law_lists T 10 f fd F
abbrev st__law_same : Stmt := topS 32
theorem sc__law_same : FnScope ["_law_got", "_law_due", "_law_lot_so", "_law_mine", "_law_its"] ["_law_got", "_law_due"] (defScope st__law_same) := ⟨rfl, rfl, rfl, by decide +kernel, rfl, by decide +kernel, by decide +kernel⟩
def b__law_same (R : List Sl → ASto → Res Sl) : AEnv → ASto → Out := (aSeq (aIf (aTest (aIsI ["list", "tuple"] (aVar 1))) (aSeq (aIf (aOr (aTest (aOp (aEqD true) (aIsI ["list"] (aVar 0)) (aIsI ["list"] (aVar 1)))) (aTest (aOp (aEqD true) (aIsI ["tuple"] (aVar 0)) (aIsI ["tuple"] (aVar 1))))) (aRet (aC (.bool false))) aNext) (aRet (aAndV (aOp (aEqD false) (aCall aLen (aCons (aVar 0) aNil)) (aCall aLen (aCons (aVar 1) aNil))) (aCall aAll (aCons (aLc (iZip2A (aCons (aVar 0) (aCons (aVar 1) aNil))) (aGTup 2 (aGCons (aNm 3) (aGCons (aNm 4) aGNil))) aYes (aCall0 R (aCons (aVar 3) (aCons (aVar 4) aNil))) [3, 4]) aNil))))) aNext) (aSeq (aIf (aTest (aIsI ["dict"] (aVar 1))) aNo aNext) (aSeq (aIf (aOr (aTest (aOp (aIsN false) (aVar 1) (aC .none))) (aTest (aIsI ["bool", "str"] (aVar 1)))) (aRet (aAndV (aOp (aEqD false) (aVar 0) (aVar 1)) (aAndV (aOp (aEqD false) (aIsI ["bool"] (aVar 0)) (aIsI ["bool"] (aVar 1))) (aOp (aEqD false) (aOp (aIsN false) (aVar 0) (aC .none)) (aOp (aIsN false) (aVar 1) (aC .none)))))) aNext) (aRet (aAndV (aIsI ["int"] (aVar 0)) (aAndV (aNotV (aIsI ["bool"] (aVar 0))) (aOp (aEqD false) (aVar 0) (aVar 1))))))))
def r__law_same : Nat → List Sl → ASto → Res Sl
  | 0 => fun _ _ => .no
  | k + 1 => runD 5 2 (b__law_same (r__law_same k))
def m__law_same : List Sl → ASto → Res Sl := r__law_same 10
theorem okr__law_same {P : Program} {w : World} {K : PySem.W.Frag} {mg : Str → Option Value} {base : Heap} (T : Tx w K mg) : ∀ (k : Nat) (f : Addr) (fd : FuncData), Fun K "_law_same" "_law_same" st__law_same f fd → FnOk P w K mg base CX0 (1 + k) f fd ["_law_got", "_law_due"] (spF P w K mg (r__law_same k))
  | 0, _, _, _ => fn_no
  | k + 1, f, fd, F => by
    obtain ⟨f__law_same, fd__law_same, e__law_same, F__law_same⟩ := T.h__law_same
    have G__law_same := okr__law_same (P := P) (w := w) (base := base) T k f__law_same fd__law_same F__law_same
    have B__law_same := F__law_same.binds (ps := ["_law_got", "_law_due"]) fun _ _ _ _ _ _ us hl => match us, hl with | [_, _], _ => rfl
    exact fn_d (k := 1 + k) F sc__law_same (b__law_same (r__law_same k)) fun cdv A outer s H E hr => ⟨_,
      (pss_cons (ps_if (pt_val (pe_callB call_isiT (by rfl) T.b_isinstance (by decide +kernel) (pa_cons (pv 1) (pa_cons (pe_tup (pa_cons (pe_bltn (v := .ty "list") (by rfl) T.b_list (by decide +kernel) rfl) (pa_cons (pe_bltn (v := .ty "tuple") (by rfl) T.b_tuple (by decide +kernel) rfl) pa_nil))) pa_nil)))) (pss_cons (ps_if (PW.pt (pw_or (pt_cmpR (op_neD hr.units) (pe_callB call_isi (by rfl) T.b_isinstance (by decide +kernel) (pa_cons (pv 0) (pa_cons (pe_bltn (v := .ty "list") (by rfl) T.b_list (by decide +kernel) rfl) pa_nil))) (pe_callB call_isi (by rfl) T.b_isinstance (by decide +kernel) (pa_cons (pv 1) (pa_cons (pe_bltn (v := .ty "list") (by rfl) T.b_list (by decide +kernel) rfl) pa_nil))) (nomark _)) (pw_or1 (pt_cmpR (op_neD hr.units) (pe_callB call_isi (by rfl) T.b_isinstance (by decide +kernel) (pa_cons (pv 0) (pa_cons (pe_bltn (v := .ty "tuple") (by rfl) T.b_tuple (by decide +kernel) rfl) pa_nil))) (pe_callB call_isi (by rfl) T.b_isinstance (by decide +kernel) (pa_cons (pv 1) (pa_cons (pe_bltn (v := .ty "tuple") (by rfl) T.b_tuple (by decide +kernel) rfl) pa_nil))) (nomark _))))) (pss_one (ps_ret pe_bl)) pss_nil) (pss_one (ps_ret (pe_and (pe_cmpR (op_eqD hr.units) (pe_callB call_len_seq (by rfl) T.b_len (by decide +kernel) (pa_cons (pv 0) pa_nil)) (pe_callB call_len_seq (by rfl) T.b_len (by decide +kernel) (pa_cons (pv 1) pa_nil)) (nomark _)) (pe_one (pe_callB (cr_all rfl) (by rfl) T.b_all (by decide +kernel) (pa_cons (pe_lc (own := [("_law_mine", 3), ("_law_its", 4)]) rfl sc__law_same.nd (RZ.pi_zipA (by rfl) T.b_zip (pa_cons (pv 0) (pa_cons (pv 1) pa_nil))) (blkOk_by (N := ["_law_got", "_law_due", "_law_lot_so", "_law_mine", "_law_its"]) (sc := (defScope st__law_same)) (own := [("_law_mine", 3), ("_law_its", 4)]) (by decide +kernel)) (fun _ _ _ _ _ => (pg_tup rfl (pgs_cons (pg_name (i := 3) sc__law_same.nd rfl (Or.inl rfl)) (pgs_cons (pg_name (i := 4) sc__law_same.nd rfl (Or.inl rfl)) pgs_nil)))) (fun _ _ _ _ _ => pts_nil) (fun _ _ _ _ _ => (pe_call G__law_same (hr.mono (by omega)) (by rfl) e__law_same F__law_same.kp B__law_same .nil pass0 (pa_cons (pv 3) (pa_cons (pv 4) pa_nil))))) pa_nil))))))) pss_nil) (pss_cons (ps_if (pt_val (pe_callB call_isi (by rfl) T.b_isinstance (by decide +kernel) (pa_cons (pv 1) (pa_cons (pe_bltn (v := .ty "dict") (by rfl) T.b_dict (by decide +kernel) rfl) pa_nil)))) pss_never pss_nil) (pss_cons (ps_if (PW.pt (pw_or (pt_cmpR op_isN (pv 1) pe_non (nomark _)) (pw_or1 (pt_val (pe_callB call_isiT (by rfl) T.b_isinstance (by decide +kernel) (pa_cons (pv 1) (pa_cons (pe_tup (pa_cons (pe_bltn (v := .ty "bool") (by rfl) T.b_bool (by decide +kernel) rfl) (pa_cons (pe_bltn (v := .ty "str") (by rfl) T.b_str (by decide +kernel) rfl) pa_nil))) pa_nil))))))) (pss_one (ps_ret (pe_and (pe_cmpR (op_eqD hr.units) (pv 0) (pv 1) (nomark _)) (pe_and (pe_cmpR (op_eqD hr.units) (pe_callB call_isi (by rfl) T.b_isinstance (by decide +kernel) (pa_cons (pv 0) (pa_cons (pe_bltn (v := .ty "bool") (by rfl) T.b_bool (by decide +kernel) rfl) pa_nil))) (pe_callB call_isi (by rfl) T.b_isinstance (by decide +kernel) (pa_cons (pv 1) (pa_cons (pe_bltn (v := .ty "bool") (by rfl) T.b_bool (by decide +kernel) rfl) pa_nil))) (nomark _)) (pe_one (pe_cmpR (op_eqD hr.units) (pe_cmpR op_isN (pv 0) pe_non (nomark _)) (pe_cmpR op_isN (pv 1) pe_non (nomark _)) (nomark _))))))) pss_nil) (pss_one (ps_ret (pe_and (pe_callB call_isi (by rfl) T.b_isinstance (by decide +kernel) (pa_cons (pv 0) (pa_cons (pe_bltn (v := .ty "int") (by rfl) T.b_int (by decide +kernel) rfl) pa_nil))) (pe_and (pe_not (pe_callB call_isi (by rfl) T.b_isinstance (by decide +kernel) (pa_cons (pv 0) (pa_cons (pe_bltn (v := .ty "bool") (by rfl) T.b_bool (by decide +kernel) rfl) pa_nil)))) (pe_one (pe_cmpR (op_eqD hr.units) (pv 0) (pv 1) (nomark _)))))))))),
      (ss_seq (ss_if (st_B (se_isiT (se_var 1))) (ss_seq (ss_if (st_or (st_test (se_op sr_neD (se_isi (se_var 0)) (se_isi (se_var 1)))) (st_test (se_op sr_neD (se_isi (se_var 0)) (se_isi (se_var 1))))) (ss_ret se_bl) ss_next) (ss_ret (se_andV (se_op sr_eqD (se_cb sc_len (sa_cons (se_var 0) sa_nil)) (se_cb sc_len (sa_cons (se_var 1) sa_nil))) (se_cb sc_all (sa_cons (se_lc (vs := [3, 4]) (si_zip2 (sa_cons (se_var 0) (sa_cons (se_var 1) sa_nil))) (sg_tup (sgs_cons (sg_name 3) (sgs_cons (sg_name 4) sgs_nil))) (by decide) ST.yes (se_call0 (sa_cons (se_var 3) (sa_cons (se_var 4) sa_nil)))) sa_nil))))) ss_next) (ss_seq (ss_if (st_B (se_isi (se_var 1))) (ss_never fun _ _ => rfl) ss_next) (ss_seq (ss_if (st_or (st_test (se_op sr_isN (se_var 1) se_non)) (st_B (se_isiT (se_var 1)))) (ss_ret (se_andV (se_op sr_eqD (se_var 0) (se_var 1)) (se_andV (se_op sr_eqD (se_isi (se_var 0)) (se_isi (se_var 1))) (se_op sr_eqD (se_op sr_isN (se_var 0) se_non) (se_op sr_isN (se_var 1) se_non))))) ss_next) (ss_ret (se_andV (se_isi (se_var 0)) (se_andV (se_notV (se_isi (se_var 0))) (se_op sr_eqD (se_var 0) (se_var 1))))))))⟩
theorem ok__law_same {P : Program} {w : World} {K : PySem.W.Frag} {mg : Str → Option Value} {base : Heap} (T : Tx w K mg) {f : Addr} {fd : FuncData} (F : Fun K "_law_same" "_law_same" st__law_same f fd) : FnOk P w K mg base CX0 11 f fd ["_law_got", "_law_due"] (spF P w K mg m__law_same) := okr__law_same T 10 f fd F
abbrev st__law_net : Stmt := topS 33
theorem sc__law_net : FnScope ["_law_tin", "_law_most_so", "_law_links_so", "_law_tags", "_law_names_so", "_law_found", "_law_k", "_law_lap"] ["_law_tin", "_law_most_so", "_law_links_so"] (defScope st__law_net) := ⟨rfl, rfl, rfl, by decide +kernel, rfl, by decide +kernel, by decide +kernel⟩
def b__law_net : AEnv → ASto → Out := (aSeq (aAsg (aCall0 m__law_pick (aCons (aVar 0) (aCons (aCall aListStr (aCons (aC (.str "abcdefgh")) aNil)) (aCons (aOp aAddE (aC (.int 1)) (aCall0 m__law_take (aCons (aVar 0) (aCons (aVar 1) aNil)))) aNil)))) (aNm 3)) (aSeq (aPar 4 5 (aCons (aCall0 m__law_pick (aCons (aVar 0) (aCons (aOp aAddE (aCall aListStr (aCons (aC (.str "pqrstuvwxyz")) aNil)) (aLst (aCons (aC (.str "aa")) (aCons (aC (.str "b")) (aCons (aC (.str "zz")) (aCons (aC (.str "qq")) (aCons (aC (.str "rr")) aNil))))))) (aCons (aVar 2) aNil)))) (aCons (aLstC aNil) aNil))) (aSeq (aFor (iRng2A (aCons (aC (.int 1)) (aCons (aCall aLen (aCons (aVar 3) aNil)) aNil))) (aNm 6) (aFor (iRng1A (aCons (aCall0 m__law_take (aCons (aVar 0) (aCons (aC (.int 4)) aNil))) aNil)) (aNm 7) (aIf (aTest (aOp aLt (aCall aLen (aCons (aVar 5) aNil)) (aVar 2))) (aDrop (aMut gAppend (aVar 5) (aTup (aCons (aOp aIx (aVar 4) (aCall aLen (aCons (aVar 5) aNil))) (aCons (aOp aIx (aVar 3) (aCall0 m__law_take (aCons (aVar 0) (aCons (aVar 6) aNil)))) (aCons (aOp aIx (aVar 3) (aVar 6)) aNil)))))) aNext))) (aRet (aTup (aCons (aCall aTupOf (aCons (aCall aSortQ (aCons (aVar 3) aNil)) aNil)) (aCons (aCall aTupOf (aCons (aCall aSortQ (aCons (aVar 5) aNil)) aNil)) aNil)))))))
def m__law_net : List Sl → ASto → Res Sl := runD 8 3 b__law_net
theorem ok__law_net {P : Program} {w : World} {K : PySem.W.Frag} {mg : Str → Option Value} {base : Heap} (T : Tx w K mg) {f : Addr} {fd : FuncData} (F : Fun K "_law_net" "_law_net" st__law_net f fd) : FnOk P w K mg base CX0 3 f fd ["_law_tin", "_law_most_so", "_law_links_so"] (spF P w K mg m__law_net) := by
  obtain ⟨f__law_take, fd__law_take, e__law_take, F__law_take⟩ := T.h__law_take
  have G__law_take := ok__law_take (P := P) (w := w) (base := base) T F__law_take
  have B__law_take := F__law_take.binds (ps := ["_law_tin", "_law_top_so"]) fun _ _ _ _ _ _ us hl => match us, hl with | [_, _], _ => rfl
  obtain ⟨f__law_pick, fd__law_pick, e__law_pick, F__law_pick⟩ := T.h__law_pick
  have G__law_pick := ok__law_pick (P := P) (w := w) (base := base) T F__law_pick
  have B__law_pick := F__law_pick.binds (ps := ["_law_tin", "_law_pool", "_law_size_so"]) fun _ _ _ _ _ _ us hl => match us, hl with | [_, _, _], _ => rfl
  exact fn_d F sc__law_net b__law_net fun cdv A outer s H E hr => ⟨_,
    (pss_cons (ps_set (i := 3) sc__law_net.nd rfl (Or.inl rfl) (pe_call G__law_pick (hr.mono (by decide)) (by rfl) e__law_pick F__law_pick.kp B__law_pick .nil pass0 (pa_cons (pv 0) (pa_cons (pe_callTy (call_list_strX rfl) (by rfl) T.b_list (by decide +kernel) (pa_cons pe_str pa_nil)) (pa_cons (pe_op opAddE pe_int (pe_call G__law_take (hr.mono (by decide)) (by rfl) e__law_take F__law_take.kp B__law_take .nil pass0 (pa_cons (pv 0) (pa_cons (pv 1) pa_nil)))) pa_nil))))) (pss_cons (ps_par (i := 4) (j := 5) (by rfl) sc__law_net.nd rfl rfl (by decide) rfl rfl (pa_cons (pe_call G__law_pick (hr.mono (by decide)) (by rfl) e__law_pick F__law_pick.kp B__law_pick .nil pass0 (pa_cons (pv 0) (pa_cons (pe_op opAddE (pe_callTy (call_list_strX rfl) (by rfl) T.b_list (by decide +kernel) (pa_cons pe_str pa_nil)) (pe_lst (pa_cons pe_str (pa_cons pe_str (pa_cons pe_str (pa_cons pe_str (pa_cons pe_str pa_nil))))))) (pa_cons (pv 2) pa_nil)))) (pa_cons (pe_lst pa_nil) pa_nil)) (by rfl)) (pss_cons (ps_for PassesOwn.never rfl (pi_range2 (by rfl) T.b_range (pa_cons pe_int (pa_cons (pe_callB call_len_seq (by rfl) T.b_len (by decide +kernel) (pa_cons (pv 3) pa_nil)) pa_nil))) (pg_name (i := 6) sc__law_net.nd rfl (Or.inl rfl)) (pss_one (ps_for PassesOwn.never rfl (pi_range1 (by rfl) T.b_range (pa_cons (pe_call G__law_take (hr.mono (by decide)) (by rfl) e__law_take F__law_take.kp B__law_take .nil pass0 (pa_cons (pv 0) (pa_cons pe_int pa_nil))) pa_nil)) (pg_name (i := 7) sc__law_net.nd rfl (Or.inl rfl)) (pss_one (ps_if (pt_cmpR op_lt (pe_callB call_len_seq (by rfl) T.b_len (by decide +kernel) (pa_cons (pv 5) pa_nil)) (pv 2) (nomark _)) (pss_one (ps_expr (pe_bm PySem.F.plainAttrs_list PySem.F.slot_list_append PySem.F.type_list_append mt_append (pv 5) (pa_cons (pe_tupN (pa_cons (pe_ix ix_seq (pv 4) (pe_callB call_len_seq (by rfl) T.b_len (by decide +kernel) (pa_cons (pv 5) pa_nil)) (fun _ _ => rfl)) (pa_cons (pe_ix ix_seq (pv 3) (pe_call G__law_take (hr.mono (by decide)) (by rfl) e__law_take F__law_take.kp B__law_take .nil pass0 (pa_cons (pv 0) (pa_cons (pv 6) pa_nil))) (fun _ _ => rfl)) (pa_cons (pe_ix ix_seq (pv 3) (pv 6) (fun _ _ => rfl)) pa_nil)))) pa_nil)))) pss_nil))))) (pss_one (ps_ret (pe_tupN (pa_cons (pe_callTy call_tupN (by rfl) T.b_tuple (by decide +kernel) (pa_cons (pe_callB (crSortQ (hu65 hr)) (by rfl) T.b_sorted (by decide +kernel) (pa_cons (pv 3) pa_nil)) pa_nil)) (pa_cons (pe_callTy call_tupN (by rfl) T.b_tuple (by decide +kernel) (pa_cons (pe_callB (crSortQ (hu65 hr)) (by rfl) T.b_sorted (by decide +kernel) (pa_cons (pv 5) pa_nil)) pa_nil)) pa_nil)))))))),
    (ss_seq (ss_asg (se_call0 (sa_cons (se_var 0) (sa_cons (se_cb scListStr (sa_cons se_str sa_nil)) (sa_cons (se_op srAddE se_int (se_call0 (sa_cons (se_var 0) (sa_cons (se_var 1) sa_nil)))) sa_nil)))) (sg_name 3)) (ss_seq (ss_par (sa_cons (se_call0 (sa_cons (se_var 0) (sa_cons (se_op srAddE (se_cb scListStr (sa_cons se_str sa_nil)) (se_lst (sa_cons se_str (sa_cons se_str (sa_cons se_str (sa_cons se_str (sa_cons se_str sa_nil))))))) (sa_cons (se_var 2) sa_nil)))) (sa_cons (se_lstC sa_nil) sa_nil))) (ss_seq (ss_for (si_rng2 (sa_cons se_int (sa_cons (se_cb sc_len (sa_cons (se_var 3) sa_nil)) sa_nil))) (sg_name 6) (ss_for (si_rng1 (sa_cons (se_call0 (sa_cons (se_var 0) (sa_cons se_int sa_nil))) sa_nil)) (sg_name 7) (ss_if (st_test (se_op srLt (se_cb sc_len (sa_cons (se_var 5) sa_nil)) (se_var 2))) (ss_drop (se_mut sm_append (se_var 5) (se_tup (sa_cons (se_op sr_ix (se_var 4) (se_cb sc_len (sa_cons (se_var 5) sa_nil))) (sa_cons (se_op sr_ix (se_var 3) (se_call0 (sa_cons (se_var 0) (sa_cons (se_var 6) sa_nil)))) (sa_cons (se_op sr_ix (se_var 3) (se_var 6)) sa_nil)))))) ss_next))) (ss_ret (se_tup (sa_cons (se_cb sc_tupOf (sa_cons (se_cb scSortQ (sa_cons (se_var 3) sa_nil)) sa_nil)) (sa_cons (se_cb sc_tupOf (sa_cons (se_cb scSortQ (sa_cons (se_var 5) sa_nil)) sa_nil)) sa_nil)))))))⟩
abbrev st__law_port : Stmt := topS 34
theorem sc__law_port : FnScope ["_law_bands", "_law_tags", "_law_bare"] [] (defScope st__law_port) := ⟨rfl, rfl, rfl, by decide +kernel, rfl, by decide +kernel, by decide +kernel⟩
def b__law_port : AEnv → ASto → Out := (aSeq (aAsg (aTup (aCons (aTup (aCons (aC (.str "crane")) (aCons (aC (.int 1)) (aCons (aC (.int 3)) aNil)))) (aCons (aTup (aCons (aC (.str "pilot")) (aCons (aC (.int 0)) (aCons (aC (.int 2)) aNil)))) (aCons (aTup (aCons (aC (.str "sail")) (aCons (aC (.int 5)) (aCons (aC (.int 9)) aNil)))) (aCons (aTup (aCons (aC (.str "tide")) (aCons (aC (.int 4)) (aCons (aC (.int 6)) aNil)))) aNil))))) (aNm 0)) (aSeq (aAsg (aTup (aCons (aC (.str "dock")) (aCons (aC (.str "go")) (aCons (aC (.str "sea")) aNil)))) (aNm 1)) (aSeq (aAsg (aTup (aCons (aVar 1) (aCons (aTup (aCons (aTup (aCons (aC (.str "crane")) (aCons (aC (.str "dock")) (aCons (aC (.str "go")) aNil)))) (aCons (aTup (aCons (aC (.str "sail")) (aCons (aC (.str "sea")) (aCons (aC (.str "dock")) aNil)))) aNil))) aNil))) (aNm 2)) (aRet (aTup (aCons (aVar 0) (aCons (aTup (aCons (aVar 1) (aCons (aOp aAddE (aOp aIx (aVar 2) (aC (.int 1))) (aTup (aCons (aTup (aCons (aC (.str "tide")) (aCons (aC (.str "sea")) (aCons (aC (.str "go")) aNil)))) aNil))) aNil))) (aCons (aVar 2) (aCons (aTup (aCons (aVar 1) (aCons (aOp aAddE (aOp aIx (aVar 2) (aC (.int 1))) (aTup (aCons (aTup (aCons (aC (.str "tide")) (aCons (aC (.str "dock")) (aCons (aC (.str "go")) aNil)))) aNil))) aNil))) aNil)))))))))
def m__law_port : List Sl → ASto → Res Sl := runD 3 0 b__law_port
theorem ok__law_port {P : Program} {w : World} {K : PySem.W.Frag} {mg : Str → Option Value} {base : Heap} (T : Tx w K mg) {f : Addr} {fd : FuncData} (F : Fun K "_law_port" "_law_port" st__law_port f fd) : FnOk P w K mg base CX0 1 f fd [] (spF P w K mg m__law_port) := by
  exact fn_d F sc__law_port b__law_port fun cdv A outer s H E hr => ⟨_,
    (pss_cons (ps_set (i := 0) sc__law_port.nd rfl (Or.inl rfl) (pe_tupN (pa_cons (pe_tupN (pa_cons pe_str (pa_cons pe_int (pa_cons pe_int pa_nil)))) (pa_cons (pe_tupN (pa_cons pe_str (pa_cons pe_int (pa_cons pe_int pa_nil)))) (pa_cons (pe_tupN (pa_cons pe_str (pa_cons pe_int (pa_cons pe_int pa_nil)))) (pa_cons (pe_tupN (pa_cons pe_str (pa_cons pe_int (pa_cons pe_int pa_nil)))) pa_nil)))))) (pss_cons (ps_set (i := 1) sc__law_port.nd rfl (Or.inl rfl) (pe_tupN (pa_cons pe_str (pa_cons pe_str (pa_cons pe_str pa_nil))))) (pss_cons (ps_set (i := 2) sc__law_port.nd rfl (Or.inl rfl) (pe_tupN (pa_cons (pv 1) (pa_cons (pe_tupN (pa_cons (pe_tupN (pa_cons pe_str (pa_cons pe_str (pa_cons pe_str pa_nil)))) (pa_cons (pe_tupN (pa_cons pe_str (pa_cons pe_str (pa_cons pe_str pa_nil)))) pa_nil))) pa_nil)))) (pss_one (ps_ret (pe_tupN (pa_cons (pv 0) (pa_cons (pe_tupN (pa_cons (pv 1) (pa_cons (pe_op opAddE (pe_ix ix_seq (pv 2) pe_int (fun _ _ => rfl)) (pe_tupN (pa_cons (pe_tupN (pa_cons pe_str (pa_cons pe_str (pa_cons pe_str pa_nil)))) pa_nil))) pa_nil))) (pa_cons (pv 2) (pa_cons (pe_tupN (pa_cons (pv 1) (pa_cons (pe_op opAddE (pe_ix ix_seq (pv 2) pe_int (fun _ _ => rfl)) (pe_tupN (pa_cons (pe_tupN (pa_cons pe_str (pa_cons pe_str (pa_cons pe_str pa_nil)))) pa_nil))) pa_nil))) pa_nil)))))))))),
    (ss_seq (ss_asg (se_tup (sa_cons (se_tup (sa_cons se_str (sa_cons se_int (sa_cons se_int sa_nil)))) (sa_cons (se_tup (sa_cons se_str (sa_cons se_int (sa_cons se_int sa_nil)))) (sa_cons (se_tup (sa_cons se_str (sa_cons se_int (sa_cons se_int sa_nil)))) (sa_cons (se_tup (sa_cons se_str (sa_cons se_int (sa_cons se_int sa_nil)))) sa_nil))))) (sg_name 0)) (ss_seq (ss_asg (se_tup (sa_cons se_str (sa_cons se_str (sa_cons se_str sa_nil)))) (sg_name 1)) (ss_seq (ss_asg (se_tup (sa_cons (se_var 1) (sa_cons (se_tup (sa_cons (se_tup (sa_cons se_str (sa_cons se_str (sa_cons se_str sa_nil)))) (sa_cons (se_tup (sa_cons se_str (sa_cons se_str (sa_cons se_str sa_nil)))) sa_nil))) sa_nil))) (sg_name 2)) (ss_ret (se_tup (sa_cons (se_var 0) (sa_cons (se_tup (sa_cons (se_var 1) (sa_cons (se_op srAddE (se_op sr_ix (se_var 2) se_int) (se_tup (sa_cons (se_tup (sa_cons se_str (sa_cons se_str (sa_cons se_str sa_nil)))) sa_nil))) sa_nil))) (sa_cons (se_var 2) (sa_cons (se_tup (sa_cons (se_var 1) (sa_cons (se_op srAddE (se_op sr_ix (se_var 2) se_int) (se_tup (sa_cons (se_tup (sa_cons se_str (sa_cons se_str (sa_cons se_str sa_nil)))) sa_nil))) sa_nil))) sa_nil)))))))))⟩
abbrev st__law_arc_of : Stmt := topS 35
theorem sc__law_arc_of : FnScope ["_law_net_here", "_law_tag", "_law_own"] ["_law_net_here", "_law_tag"] (defScope st__law_arc_of) := ⟨rfl, rfl, rfl, by decide +kernel, rfl, by decide +kernel, by decide +kernel⟩
def b__law_arc_of : AEnv → ASto → Out := (aRet (aOp aIx (aOp aAddE (aLc (iSeqA (aOp aIx (aVar 0) (aC (.int 1)))) (aNm 2) (aTest (aOp (aEqD false) (aOp aIx (aVar 2) (aC (.int 0))) (aVar 1))) (aVar 2) [2]) (aLst (aCons (aC .none) aNil))) (aC (.int 0))))
def m__law_arc_of : List Sl → ASto → Res Sl := runD 3 2 b__law_arc_of
theorem ok__law_arc_of {P : Program} {w : World} {K : PySem.W.Frag} {mg : Str → Option Value} {base : Heap} (T : Tx w K mg) {f : Addr} {fd : FuncData} (F : Fun K "_law_arc_of" "_law_arc_of" st__law_arc_of f fd) : FnOk P w K mg base CX0 1 f fd ["_law_net_here", "_law_tag"] (spF P w K mg m__law_arc_of) := by
  exact fn_d F sc__law_arc_of b__law_arc_of fun cdv A outer s H E hr => ⟨_,
    (pss_one (ps_ret (pe_ix ix_seq (pe_op opAddE (pe_lc (own := [("_law_own", 2)]) rfl sc__law_arc_of.nd (pi_seq (pe_ix ix_seq (pv 0) pe_int (fun _ _ => rfl))) (blkOk_by (N := ["_law_net_here", "_law_tag", "_law_own"]) (sc := (defScope st__law_arc_of)) (own := [("_law_own", 2)]) (by decide +kernel)) (fun _ _ _ _ _ => (pg_name (i := 2) sc__law_arc_of.nd rfl (Or.inl rfl))) (fun _ _ _ _ _ => (pts_one (pt_cmpR (op_eqD hr.units) (pe_ix ix_seq (pv 2) pe_int (fun _ _ => rfl)) (pv 1) (nomark _)))) (fun _ _ _ _ _ => (pv 2))) (pe_lst (pa_cons pe_non pa_nil))) pe_int (fun _ _ => rfl)))),
    (ss_ret (se_op sr_ix (se_op srAddE (se_lc (vs := [2]) (si_seq (se_op sr_ix (se_var 0) se_int)) (sg_name 2) (by decide) (st_test (se_op sr_eqD (se_op sr_ix (se_var 2) se_int) (se_var 1))) (se_var 2)) (se_lst (sa_cons se_non sa_nil))) se_int))⟩
abbrev st__law_leads : Stmt := topS 36
theorem sc__law_leads : FnScope ["_law_links", "_law_near", "_law_far", "_law_found", "_law_rest", "_law_here", "_law_own"] ["_law_links", "_law_near", "_law_far"] (defScope st__law_leads) := ⟨rfl, rfl, rfl, by decide +kernel, rfl, by decide +kernel, by decide +kernel⟩
def b__law_leads : AEnv → ASto → Out := (aSeq (aPar 3 4 (aCons (aLstC (aCons (aVar 1) aNil)) (aCons (aLstC (aCons (aVar 1) aNil)) aNil))) (aSeq (aWhile 100000 (aTest (aOp (aEqV true) (aVar 4) (aLst aNil))) (aSeq (aAsg (aPop (aVar 4)) (aNm 5)) (aFor (iSeqA (aVar 0)) (aNm 6) (aIf (aAnd (aTest (aOp (aEqD false) (aOp aIx (aVar 6) (aC (.int 1))) (aVar 5))) (aTest (aOp (aInQ true) (aOp aIx (aVar 6) (aC (.int 2))) (aVar 3)))) (aSeq (aDrop (aMut gAppend (aVar 3) (aOp aIx (aVar 6) (aC (.int 2))))) (aDrop (aMut gAppend (aVar 4) (aOp aIx (aVar 6) (aC (.int 2)))))) aNext)))) (aRet (aOp (aInQ false) (aVar 2) (aVar 3)))))
def m__law_leads : List Sl → ASto → Res Sl := runD 7 3 b__law_leads
theorem ok__law_leads {P : Program} {w : World} {K : PySem.W.Frag} {mg : Str → Option Value} {base : Heap} (T : Tx w K mg) {f : Addr} {fd : FuncData} (F : Fun K "_law_leads" "_law_leads" st__law_leads f fd) : FnOk P w K mg base CX0 1 f fd ["_law_links", "_law_near", "_law_far"] (spF P w K mg m__law_leads) := by
  exact fn_d F sc__law_leads b__law_leads fun cdv A outer s H E hr => ⟨_,
    (pss_cons (ps_par (i := 3) (j := 4) (by rfl) sc__law_leads.nd rfl rfl (by decide) rfl rfl (pa_cons (pe_lst (pa_cons (pv 1) pa_nil)) (pa_cons (pe_lst (pa_cons (pv 1) pa_nil)) pa_nil)) (by rfl)) (pss_cons (ps_while PassesOwn.never (pt_cmpR (op_neD hr.units) (pv 4) (pe_lst pa_nil) (nomark _)) (pss_cons (ps_set (i := 5) sc__law_leads.nd rfl (Or.inl rfl) (pe_bm0 PySem.F.plainAttrs_list PySem.F.slot_list_pop PySem.F.type_list_pop mt_pop (pv 4))) (pss_one (ps_for PassesOwn.never rfl (pi_seq (pv 0)) (pg_name (i := 6) sc__law_leads.nd rfl (Or.inl rfl)) (pss_one (ps_if (PW.pt (pw_and (pt_cmpR (op_eqD hr.units) (pe_ix ix_seq (pv 6) pe_int (fun _ _ => rfl)) (pv 5) (nomark _)) (pw_and1 (pt_cmpR (opNotInQ (hu65 hr)) (pe_ix ix_seq (pv 6) pe_int (fun _ _ => rfl)) (pv 3) (by rfl))))) (pss_cons (ps_expr (pe_bm PySem.F.plainAttrs_list PySem.F.slot_list_append PySem.F.type_list_append mt_append (pv 3) (pa_cons (pe_ix ix_seq (pv 6) pe_int (fun _ _ => rfl)) pa_nil))) (pss_one (ps_expr (pe_bm PySem.F.plainAttrs_list PySem.F.slot_list_append PySem.F.type_list_append mt_append (pv 4) (pa_cons (pe_ix ix_seq (pv 6) pe_int (fun _ _ => rfl)) pa_nil))))) pss_nil)))))) (pss_one (ps_ret (pe_cmpR (opInQ (hu65 hr)) (pv 2) (pv 3) (by rfl)))))),
    (ss_seq (ss_par (sa_cons (se_lstC (sa_cons (se_var 1) sa_nil)) (sa_cons (se_lstC (sa_cons (se_var 1) sa_nil)) sa_nil))) (ss_seq (ss_while 100000 (st_test (se_op sr_neV (se_var 4) (se_lst sa_nil))) (ss_seq (ss_asg (se_pop (se_var 4)) (sg_name 5)) (ss_for (si_seq (se_var 0)) (sg_name 6) (ss_if (st_and (st_test (se_op sr_eqD (se_op sr_ix (se_var 6) se_int) (se_var 5))) (st_test (se_op (srInQ true) (se_op sr_ix (se_var 6) se_int) (se_var 3)))) (ss_seq (ss_drop (se_mut sm_append (se_var 3) (se_op sr_ix (se_var 6) se_int))) (ss_drop (se_mut sm_append (se_var 4) (se_op sr_ix (se_var 6) se_int)))) ss_next)))) (ss_ret (se_op (srInQ false) (se_var 2) (se_var 3)))))⟩
abbrev st__law_put : Stmt := topS 37
theorem sc__law_put : FnScope ["_law_net_here", "_law_links", "_law_link", "_law_tag"] ["_law_net_here", "_law_links", "_law_link"] (defScope st__law_put) := ⟨rfl, rfl, rfl, by decide +kernel, rfl, by decide +kernel, by decide +kernel⟩
def b__law_put : AEnv → ASto → Out := (aSeq (aFor (iSeqA (aSl (aVar 2) (aPart (aC (.int 1))) aNoPart)) (aNm 3) (aIf (aTest (aOp (aInQ true) (aVar 3) (aOp aIx (aVar 0) (aC (.int 0))))) (aRet (aLst (aCons (aC (.str "event")) (aCons (aVar 3) aNil)))) aNext)) (aSeq (aIf (aTest (aCall0 m__law_leads (aCons (aVar 1) (aCons (aOp aIx (aVar 2) (aC (.int 2))) (aCons (aOp aIx (aVar 2) (aC (.int 1))) aNil))))) (aRet (aLst (aCons (aC (.str "ring")) (aCons (aC .none) aNil)))) aNext) (aRet (aTup (aCons (aOp aIx (aVar 0) (aC (.int 0))) (aCons (aCall aTupOf (aCons (aCall aSortQ (aCons (aOp aAddE (aCall aListOf (aCons (aVar 1) aNil)) (aLst (aCons (aVar 2) aNil))) aNil)) aNil)) aNil))))))
def m__law_put : List Sl → ASto → Res Sl := runD 4 3 b__law_put
theorem ok__law_put {P : Program} {w : World} {K : PySem.W.Frag} {mg : Str → Option Value} {base : Heap} (T : Tx w K mg) {f : Addr} {fd : FuncData} (F : Fun K "_law_put" "_law_put" st__law_put f fd) : FnOk P w K mg base CX0 2 f fd ["_law_net_here", "_law_links", "_law_link"] (spF P w K mg m__law_put) := by
  obtain ⟨f__law_leads, fd__law_leads, e__law_leads, F__law_leads⟩ := T.h__law_leads
  have G__law_leads := ok__law_leads (P := P) (w := w) (base := base) T F__law_leads
  have B__law_leads := F__law_leads.binds (ps := ["_law_links", "_law_near", "_law_far"]) fun _ _ _ _ _ _ us hl => match us, hl with | [_, _, _], _ => rfl
  exact fn_d F sc__law_put b__law_put fun cdv A outer s H E hr => ⟨_,
    (pss_cons (ps_for PassesOwn.never rfl (pi_seq (pe_slice sl_seq (pv 2) (po_some pe_int) po_none)) (pg_name (i := 3) sc__law_put.nd rfl (Or.inl rfl)) (pss_one (ps_if (pt_cmpR (opNotInQ (hu65 hr)) (pv 3) (pe_ix ix_seq (pv 0) pe_int (fun _ _ => rfl)) (by rfl)) (pss_one (ps_ret (pe_lst (pa_cons pe_str (pa_cons (pv 3) pa_nil))))) pss_nil))) (pss_cons (ps_if (pt_val (pe_call G__law_leads (hr.mono (by decide)) (by rfl) e__law_leads F__law_leads.kp B__law_leads .nil pass0 (pa_cons (pv 1) (pa_cons (pe_ix ix_seq (pv 2) pe_int (fun _ _ => rfl)) (pa_cons (pe_ix ix_seq (pv 2) pe_int (fun _ _ => rfl)) pa_nil))))) (pss_one (ps_ret (pe_lst (pa_cons pe_str (pa_cons pe_non pa_nil))))) pss_nil) (pss_one (ps_ret (pe_tupN (pa_cons (pe_ix ix_seq (pv 0) pe_int (fun _ _ => rfl)) (pa_cons (pe_callTy call_tupN (by rfl) T.b_tuple (by decide +kernel) (pa_cons (pe_callB (crSortQ (hu65 hr)) (by rfl) T.b_sorted (by decide +kernel) (pa_cons (pe_op opAddE (pe_callTy call_list_of (by rfl) T.b_list (by decide +kernel) (pa_cons (pv 1) pa_nil)) (pe_lst (pa_cons (pv 2) pa_nil))) pa_nil)) pa_nil)) pa_nil))))))),
    (ss_seq (ss_for (si_seq (se_slice (se_var 2) (so_some se_int) so_none)) (sg_name 3) (ss_if (st_test (se_op (srInQ true) (se_var 3) (se_op sr_ix (se_var 0) se_int))) (ss_ret (se_lst (sa_cons se_str (sa_cons (se_var 3) sa_nil)))) ss_next)) (ss_seq (ss_if (st_B (se_call0 (sa_cons (se_var 1) (sa_cons (se_op sr_ix (se_var 2) se_int) (sa_cons (se_op sr_ix (se_var 2) se_int) sa_nil))))) (ss_ret (se_lst (sa_cons se_str (sa_cons se_non sa_nil)))) ss_next) (ss_ret (se_tup (sa_cons (se_op sr_ix (se_var 0) se_int) (sa_cons (se_cb sc_tupOf (sa_cons (se_cb scSortQ (sa_cons (se_op srAddE (se_cb sc_listOf (sa_cons (se_var 1) sa_nil)) (se_lst (sa_cons (se_var 2) sa_nil))) sa_nil)) sa_nil)) sa_nil))))))⟩
abbrev st__law_done : Stmt := topS 38
theorem sc__law_done : FnScope ["_law_net_here", "_law_deed_here", "_law_link", "_law_rest", "_law_own"] ["_law_net_here", "_law_deed_here"] (defScope st__law_done) := ⟨rfl, rfl, rfl, by decide +kernel, rfl, by decide +kernel, by decide +kernel⟩
def b__law_done : AEnv → ASto → Out := (aSeq (aAsg (aCall0 m__law_arc_of (aCons (aVar 0) (aCons (aOp aIx (aVar 1) (aC (.int 1))) aNil))) (aNm 2)) (aSeq (aIf (aTest (aOp (aEqD false) (aOp aIx (aVar 1) (aC (.int 0))) (aC (.str "put")))) (aRet (aIfE (aTest (aOp (aIsN true) (aVar 2) (aC .none))) (aLst (aCons (aC (.str "twice")) (aCons (aOp aIx (aVar 1) (aC (.int 1))) aNil))) (aCall0 m__law_put (aCons (aVar 0) (aCons (aOp aIx (aVar 0) (aC (.int 1))) (aCons (aSl (aVar 1) (aPart (aC (.int 1))) aNoPart) aNil)))))) aNext) (aSeq (aIf (aTest (aOp (aIsN false) (aVar 2) (aC .none))) (aRet (aLst (aCons (aC (.str "arc")) (aCons (aOp aIx (aVar 1) (aC (.int 1))) aNil)))) aNext) (aSeq (aAsg (aLc (iSeqA (aOp aIx (aVar 0) (aC (.int 1)))) (aNm 4) (aTest (aOp (aEqD true) (aVar 4) (aVar 2))) (aVar 4) [4]) (aNm 3)) (aSeq (aIf (aTest (aOp (aEqD false) (aOp aIx (aVar 1) (aC (.int 0))) (aC (.str "out")))) (aRet (aTup (aCons (aOp aIx (aVar 0) (aC (.int 0))) (aCons (aCall aTupOf (aCons (aVar 3) aNil)) aNil)))) aNext) (aSeq (aIf (aTest (aOp (aEqD false) (aOp aIx (aVar 1) (aC (.int 0))) (aC (.str "move")))) (aRet (aCall0 m__law_put (aCons (aVar 0) (aCons (aVar 3) (aCons (aSl (aVar 1) (aPart (aC (.int 1))) aNoPart) aNil))))) aNext) (aSeq (aIf (aTest (aOp (aIsN true) (aCall0 m__law_arc_of (aCons (aVar 0) (aCons (aOp aIx (aVar 1) (aC (.int 2))) aNil))) (aC .none))) (aRet (aLst (aCons (aC (.str "twice")) (aCons (aOp aIx (aVar 1) (aC (.int 2))) aNil)))) aNext) (aRet (aTup (aCons (aOp aIx (aVar 0) (aC (.int 0))) (aCons (aCall aTupOf (aCons (aCall aSortQ (aCons (aOp aAddE (aVar 3) (aLst (aCons (aOp aAddE (aTup (aCons (aOp aIx (aVar 1) (aC (.int 2))) aNil)) (aSl (aVar 2) (aPart (aC (.int 1))) aNoPart)) aNil))) aNil)) aNil)) aNil)))))))))))
def m__law_done : List Sl → ASto → Res Sl := runD 5 2 b__law_done
theorem ok__law_done {P : Program} {w : World} {K : PySem.W.Frag} {mg : Str → Option Value} {base : Heap} (T : Tx w K mg) {f : Addr} {fd : FuncData} (F : Fun K "_law_done" "_law_done" st__law_done f fd) : FnOk P w K mg base CX0 3 f fd ["_law_net_here", "_law_deed_here"] (spF P w K mg m__law_done) := by
  obtain ⟨f__law_arc_of, fd__law_arc_of, e__law_arc_of, F__law_arc_of⟩ := T.h__law_arc_of
  have G__law_arc_of := ok__law_arc_of (P := P) (w := w) (base := base) T F__law_arc_of
  have B__law_arc_of := F__law_arc_of.binds (ps := ["_law_net_here", "_law_tag"]) fun _ _ _ _ _ _ us hl => match us, hl with | [_, _], _ => rfl
  obtain ⟨f__law_put, fd__law_put, e__law_put, F__law_put⟩ := T.h__law_put
  have G__law_put := ok__law_put (P := P) (w := w) (base := base) T F__law_put
  have B__law_put := F__law_put.binds (ps := ["_law_net_here", "_law_links", "_law_link"]) fun _ _ _ _ _ _ us hl => match us, hl with | [_, _, _], _ => rfl
  exact fn_d F sc__law_done b__law_done fun cdv A outer s H E hr => ⟨_,
    (pss_cons (ps_set (i := 2) sc__law_done.nd rfl (Or.inr rfl) (pe_call G__law_arc_of (hr.mono (by decide)) (by rfl) e__law_arc_of F__law_arc_of.kp B__law_arc_of .nil pass0 (pa_cons (pv 0) (pa_cons (pe_ix ix_seq (pv 1) pe_int (fun _ _ => rfl)) pa_nil)))) (pss_cons (ps_if (pt_cmpR (op_eqD hr.units) (pe_ix ix_seq (pv 1) pe_int (fun _ _ => rfl)) pe_str (nomark _)) (pss_one (ps_ret (pe_ifExp (pt_cmpR op_notN (pv 2) pe_non (nomark _)) (pe_lst (pa_cons pe_str (pa_cons (pe_ix ix_seq (pv 1) pe_int (fun _ _ => rfl)) pa_nil))) (pe_call G__law_put (hr.mono (by decide)) (by rfl) e__law_put F__law_put.kp B__law_put .nil pass0 (pa_cons (pv 0) (pa_cons (pe_ix ix_seq (pv 0) pe_int (fun _ _ => rfl)) (pa_cons (pe_slice sl_seq (pv 1) (po_some pe_int) po_none) pa_nil))))))) pss_nil) (pss_cons (ps_if (pt_cmpR op_isN (pv 2) pe_non (nomark _)) (pss_one (ps_ret (pe_lst (pa_cons pe_str (pa_cons (pe_ix ix_seq (pv 1) pe_int (fun _ _ => rfl)) pa_nil))))) pss_nil) (pss_cons (ps_setLc (i := 3) (own := [("_law_own", 4)]) rfl sc__law_done.nd rfl rfl (sw_true rfl rfl rfl (by decide +kernel)) (pi_seq (pe_ix ix_seq (pv 0) pe_int (fun _ _ => rfl))) (blkOk_by (N := ["_law_net_here", "_law_deed_here", "_law_link", "_law_rest", "_law_own"]) (sc := (defScope st__law_done)) (own := [("_law_own", 4)]) (by decide +kernel)) (fun _ _ _ _ _ => (pg_name (i := 4) sc__law_done.nd rfl (Or.inl rfl))) (fun _ _ _ _ _ => (pts_one (pt_cmpR (op_neD hr.units) (pv 4) (pv 2) (nomark _)))) (fun _ _ _ _ _ => (pv 4))) (pss_cons (ps_if (pt_cmpR (op_eqD hr.units) (pe_ix ix_seq (pv 1) pe_int (fun _ _ => rfl)) pe_str (nomark _)) (pss_one (ps_ret (pe_tupN (pa_cons (pe_ix ix_seq (pv 0) pe_int (fun _ _ => rfl)) (pa_cons (pe_callTy call_tupN (by rfl) T.b_tuple (by decide +kernel) (pa_cons (pv 3) pa_nil)) pa_nil))))) pss_nil) (pss_cons (ps_if (pt_cmpR (op_eqD hr.units) (pe_ix ix_seq (pv 1) pe_int (fun _ _ => rfl)) pe_str (nomark _)) (pss_one (ps_ret (pe_call G__law_put (hr.mono (by decide)) (by rfl) e__law_put F__law_put.kp B__law_put .nil pass0 (pa_cons (pv 0) (pa_cons (pv 3) (pa_cons (pe_slice sl_seq (pv 1) (po_some pe_int) po_none) pa_nil)))))) pss_nil) (pss_cons (ps_if (pt_cmpR op_notN (pe_call G__law_arc_of (hr.mono (by decide)) (by rfl) e__law_arc_of F__law_arc_of.kp B__law_arc_of .nil pass0 (pa_cons (pv 0) (pa_cons (pe_ix ix_seq (pv 1) pe_int (fun _ _ => rfl)) pa_nil))) pe_non (nomark _)) (pss_one (ps_ret (pe_lst (pa_cons pe_str (pa_cons (pe_ix ix_seq (pv 1) pe_int (fun _ _ => rfl)) pa_nil))))) pss_nil) (pss_one (ps_ret (pe_tupN (pa_cons (pe_ix ix_seq (pv 0) pe_int (fun _ _ => rfl)) (pa_cons (pe_callTy call_tupN (by rfl) T.b_tuple (by decide +kernel) (pa_cons (pe_callB (crSortQ (hu65 hr)) (by rfl) T.b_sorted (by decide +kernel) (pa_cons (pe_op opAddE (pv 3) (pe_lst (pa_cons (pe_op opAddE (pe_tupN (pa_cons (pe_ix ix_seq (pv 1) pe_int (fun _ _ => rfl)) pa_nil)) (pe_slice sl_seq (pv 2) (po_some pe_int) po_none)) pa_nil))) pa_nil)) pa_nil)) pa_nil)))))))))))),
    (ss_seq (ss_asg (se_call0 (sa_cons (se_var 0) (sa_cons (se_op sr_ix (se_var 1) se_int) sa_nil))) (sg_name 2)) (ss_seq (ss_if (st_test (se_op sr_eqD (se_op sr_ix (se_var 1) se_int) se_str)) (ss_ret (se_if (st_test (se_op sr_notN (se_var 2) se_non)) (se_lst (sa_cons se_str (sa_cons (se_op sr_ix (se_var 1) se_int) sa_nil))) (se_call0 (sa_cons (se_var 0) (sa_cons (se_op sr_ix (se_var 0) se_int) (sa_cons (se_slice (se_var 1) (so_some se_int) so_none) sa_nil)))))) ss_next) (ss_seq (ss_if (st_test (se_op sr_isN (se_var 2) se_non)) (ss_ret (se_lst (sa_cons se_str (sa_cons (se_op sr_ix (se_var 1) se_int) sa_nil)))) ss_next) (ss_seq (ss_asg (se_lc (vs := [4]) (si_seq (se_op sr_ix (se_var 0) se_int)) (sg_name 4) (by decide) (st_test (se_op sr_neD (se_var 4) (se_var 2))) (se_var 4)) (sg_name 3)) (ss_seq (ss_if (st_test (se_op sr_eqD (se_op sr_ix (se_var 1) se_int) se_str)) (ss_ret (se_tup (sa_cons (se_op sr_ix (se_var 0) se_int) (sa_cons (se_cb sc_tupOf (sa_cons (se_var 3) sa_nil)) sa_nil)))) ss_next) (ss_seq (ss_if (st_test (se_op sr_eqD (se_op sr_ix (se_var 1) se_int) se_str)) (ss_ret (se_call0 (sa_cons (se_var 0) (sa_cons (se_var 3) (sa_cons (se_slice (se_var 1) (so_some se_int) so_none) sa_nil))))) ss_next) (ss_seq (ss_if (st_test (se_op sr_notN (se_call0 (sa_cons (se_var 0) (sa_cons (se_op sr_ix (se_var 1) se_int) sa_nil))) se_non)) (ss_ret (se_lst (sa_cons se_str (sa_cons (se_op sr_ix (se_var 1) se_int) sa_nil)))) ss_next) (ss_ret (se_tup (sa_cons (se_op sr_ix (se_var 0) se_int) (sa_cons (se_cb sc_tupOf (sa_cons (se_cb scSortQ (sa_cons (se_op srAddE (se_var 3) (se_lst (sa_cons (se_op srAddE (se_tup (sa_cons (se_op sr_ix (se_var 1) se_int) sa_nil)) (se_slice (se_var 2) (so_some se_int) so_none)) sa_nil))) sa_nil)) sa_nil)) sa_nil)))))))))))⟩
abbrev st__law_all_done : Stmt := topS 39
theorem sc__law_all_done : FnScope ["_law_net_here", "_law_deeds_here", "_law_here", "_law_k", "_law_deed_here"] ["_law_net_here", "_law_deeds_here"] (defScope st__law_all_done) := ⟨rfl, rfl, rfl, by decide +kernel, rfl, by decide +kernel, by decide +kernel⟩
def b__law_all_done : AEnv → ASto → Out := (aSeq (aAsg (aVar 0) (aNm 2)) (aSeq (aFor (iEnumQA (aCons (aVar 1) aNil)) (aGTup 2 (aGCons (aNm 3) (aGCons (aNm 4) aGNil))) (aSeq (aAsg (aCall0 m__law_done (aCons (aVar 2) (aCons (aVar 4) aNil))) (aNm 2)) (aIf (aTest (aIsI ["list"] (aVar 2))) (aRet (aLst (aCons (aVar 3) (aCons (aVar 2) aNil)))) aNext))) (aRet (aVar 2))))
def m__law_all_done : List Sl → ASto → Res Sl := runD 5 2 b__law_all_done
theorem ok__law_all_done {P : Program} {w : World} {K : PySem.W.Frag} {mg : Str → Option Value} {base : Heap} (T : Tx w K mg) {f : Addr} {fd : FuncData} (F : Fun K "_law_all_done" "_law_all_done" st__law_all_done f fd) : FnOk P w K mg base CX0 4 f fd ["_law_net_here", "_law_deeds_here"] (spF P w K mg m__law_all_done) := by
  obtain ⟨f__law_done, fd__law_done, e__law_done, F__law_done⟩ := T.h__law_done
  have G__law_done := ok__law_done (P := P) (w := w) (base := base) T F__law_done
  have B__law_done := F__law_done.binds (ps := ["_law_net_here", "_law_deed_here"]) fun _ _ _ _ _ _ us hl => match us, hl with | [_, _], _ => rfl
  exact fn_d F sc__law_all_done b__law_all_done fun cdv A outer s H E hr => ⟨_,
    (pss_cons (ps_set (i := 2) sc__law_all_done.nd rfl (Or.inl rfl) (pv 0)) (pss_cons (ps_for PassesOwn.never rfl (pi_enumQ (by rfl) T.b_enumerate (pa_cons (pv 1) pa_nil)) (pg_tup rfl (pgs_cons (pg_name (i := 3) sc__law_all_done.nd rfl (Or.inl rfl)) (pgs_cons (pg_name (i := 4) sc__law_all_done.nd rfl (Or.inl rfl)) pgs_nil))) (pss_cons (ps_set (i := 2) sc__law_all_done.nd rfl (Or.inl rfl) (pe_call G__law_done (hr.mono (by decide)) (by rfl) e__law_done F__law_done.kp B__law_done .nil pass0 (pa_cons (pv 2) (pa_cons (pv 4) pa_nil)))) (pss_one (ps_if (pt_val (pe_callB call_isi (by rfl) T.b_isinstance (by decide +kernel) (pa_cons (pv 2) (pa_cons (pe_bltn (v := .ty "list") (by rfl) T.b_list (by decide +kernel) rfl) pa_nil)))) (pss_one (ps_ret (pe_lst (pa_cons (pv 3) (pa_cons (pv 2) pa_nil))))) pss_nil)))) (pss_one (ps_ret (pv 2))))),
    (ss_seq (ss_asg (se_var 0) (sg_name 2)) (ss_seq (ss_for (si_enumQ (sa_cons (se_var 1) sa_nil)) (sg_tup (sgs_cons (sg_name 3) (sgs_cons (sg_name 4) sgs_nil))) (ss_seq (ss_asg (se_call0 (sa_cons (se_var 2) (sa_cons (se_var 4) sa_nil))) (sg_name 2)) (ss_if (st_B (se_isi (se_var 2))) (ss_ret (se_lst (sa_cons (se_var 3) (sa_cons (se_var 2) sa_nil)))) ss_next))) (ss_ret (se_var 2))))⟩
abbrev st__law_deed : Stmt := topS 40
theorem sc__law_deed : FnScope ["_law_tin", "_law_net_here", "_law_tags", "_law_names_so", "_law_tag", "_law_near", "_law_far", "_law_own"] ["_law_tin", "_law_net_here"] (defScope st__law_deed) := ⟨rfl, rfl, rfl, by decide +kernel, rfl, by decide +kernel, by decide +kernel⟩
def b__law_deed : AEnv → ASto → Out := (aSeq (aPar 2 3 (aCons (aOp aAddE (aCall aListOf (aCons (aOp aIx (aVar 1) (aC (.int 0))) aNil)) (aLst (aCons (aC (.str "zz")) aNil))) (aCons (aOp aAddE (aLc (iSeqA (aOp aIx (aVar 1) (aC (.int 1)))) (aNm 7) aYes (aOp aIx (aVar 7) (aC (.int 0))) [7]) (aLst (aCons (aC (.str "sa")) (aCons (aC (.str "sb")) aNil)))) aNil))) (aSeq (aPar3 4 5 6 (aCons (aCall0 m__law_of (aCons (aVar 0) (aCons (aVar 3) aNil))) (aCons (aCall0 m__law_of (aCons (aVar 0) (aCons (aVar 2) aNil))) (aCons (aCall0 m__law_of (aCons (aVar 0) (aCons (aVar 2) aNil))) aNil)))) (aRet (aCall0 m__law_of (aCons (aVar 0) (aCons (aLst (aCons (aTup (aCons (aC (.str "put")) (aCons (aCall0 m__law_of (aCons (aVar 0) (aCons (aLst (aCons (aC (.str "sa")) (aCons (aC (.str "sb")) (aCons (aVar 4) aNil)))) aNil))) (aCons (aVar 5) (aCons (aVar 6) aNil))))) (aCons (aTup (aCons (aC (.str "out")) (aCons (aVar 4) aNil))) (aCons (aTup (aCons (aC (.str "move")) (aCons (aVar 4) (aCons (aVar 5) (aCons (aVar 6) aNil))))) (aCons (aTup (aCons (aC (.str "call")) (aCons (aVar 4) (aCons (aCall0 m__law_of (aCons (aVar 0) (aCons (aLst (aCons (aC (.str "sa")) (aCons (aC (.str "sb")) (aCons (aVar 4) aNil)))) aNil))) aNil)))) aNil))))) aNil))))))
def m__law_deed : List Sl → ASto → Res Sl := runD 8 2 b__law_deed
theorem ok__law_deed {P : Program} {w : World} {K : PySem.W.Frag} {mg : Str → Option Value} {base : Heap} (T : Tx w K mg) {f : Addr} {fd : FuncData} (F : Fun K "_law_deed" "_law_deed" st__law_deed f fd) : FnOk P w K mg base CX0 3 f fd ["_law_tin", "_law_net_here"] (spF P w K mg m__law_deed) := by
  obtain ⟨f__law_of, fd__law_of, e__law_of, F__law_of⟩ := T.h__law_of
  have G__law_of := ok__law_of (P := P) (w := w) (base := base) T F__law_of
  have B__law_of := F__law_of.binds (ps := ["_law_tin", "_law_lot"]) fun _ _ _ _ _ _ us hl => match us, hl with | [_, _], _ => rfl
  exact fn_d F sc__law_deed b__law_deed fun cdv A outer s H E hr => ⟨_,
    (pss_cons (ps_par (i := 2) (j := 3) (by rfl) sc__law_deed.nd rfl rfl (by decide) rfl rfl (pa_cons (pe_op opAddE (pe_callTy call_list_of (by rfl) T.b_list (by decide +kernel) (pa_cons (pe_ix ix_seq (pv 1) pe_int (fun _ _ => rfl)) pa_nil)) (pe_lst (pa_cons pe_str pa_nil))) (pa_cons (pe_op opAddE (pe_lc (own := [("_law_own", 7)]) rfl sc__law_deed.nd (pi_seq (pe_ix ix_seq (pv 1) pe_int (fun _ _ => rfl))) (blkOk_by (N := ["_law_tin", "_law_net_here", "_law_tags", "_law_names_so", "_law_tag", "_law_near", "_law_far", "_law_own"]) (sc := (defScope st__law_deed)) (own := [("_law_own", 7)]) (by decide +kernel)) (fun _ _ _ _ _ => (pg_name (i := 7) sc__law_deed.nd rfl (Or.inl rfl))) (fun _ _ _ _ _ => pts_nil) (fun _ _ _ _ _ => (pe_ix ix_seq (pv 7) pe_int (fun _ _ => rfl)))) (pe_lst (pa_cons pe_str (pa_cons pe_str pa_nil)))) pa_nil)) (by rfl)) (pss_cons (ps_par3 (i := 4) (j := 5) (l := 6) (by rfl) sc__law_deed.nd rfl rfl rfl (by decide) (by decide) (by decide) rfl rfl rfl (pa_cons (pe_call G__law_of (hr.mono (by decide)) (by rfl) e__law_of F__law_of.kp B__law_of .nil pass0 (pa_cons (pv 0) (pa_cons (pv 3) pa_nil))) (pa_cons (pe_call G__law_of (hr.mono (by decide)) (by rfl) e__law_of F__law_of.kp B__law_of .nil pass0 (pa_cons (pv 0) (pa_cons (pv 2) pa_nil))) (pa_cons (pe_call G__law_of (hr.mono (by decide)) (by rfl) e__law_of F__law_of.kp B__law_of .nil pass0 (pa_cons (pv 0) (pa_cons (pv 2) pa_nil))) pa_nil))) (by rfl)) (pss_one (ps_ret (pe_call G__law_of (hr.mono (by decide)) (by rfl) e__law_of F__law_of.kp B__law_of .nil pass0 (pa_cons (pv 0) (pa_cons (pe_lst (pa_cons (pe_tupN (pa_cons pe_str (pa_cons (pe_call G__law_of (hr.mono (by decide)) (by rfl) e__law_of F__law_of.kp B__law_of .nil pass0 (pa_cons (pv 0) (pa_cons (pe_lst (pa_cons pe_str (pa_cons pe_str (pa_cons (pv 4) pa_nil)))) pa_nil))) (pa_cons (pv 5) (pa_cons (pv 6) pa_nil))))) (pa_cons (pe_tupN (pa_cons pe_str (pa_cons (pv 4) pa_nil))) (pa_cons (pe_tupN (pa_cons pe_str (pa_cons (pv 4) (pa_cons (pv 5) (pa_cons (pv 6) pa_nil))))) (pa_cons (pe_tupN (pa_cons pe_str (pa_cons (pv 4) (pa_cons (pe_call G__law_of (hr.mono (by decide)) (by rfl) e__law_of F__law_of.kp B__law_of .nil pass0 (pa_cons (pv 0) (pa_cons (pe_lst (pa_cons pe_str (pa_cons pe_str (pa_cons (pv 4) pa_nil)))) pa_nil))) pa_nil)))) pa_nil))))) pa_nil))))))),
    (ss_seq (ss_par (sa_cons (se_op srAddE (se_cb sc_listOf (sa_cons (se_op sr_ix (se_var 1) se_int) sa_nil)) (se_lst (sa_cons se_str sa_nil))) (sa_cons (se_op srAddE (se_lc (vs := [7]) (si_seq (se_op sr_ix (se_var 1) se_int)) (sg_name 7) (by decide) ST.yes (se_op sr_ix (se_var 7) se_int)) (se_lst (sa_cons se_str (sa_cons se_str sa_nil)))) sa_nil))) (ss_seq (ss_par3 (sa_cons (se_call0 (sa_cons (se_var 0) (sa_cons (se_var 3) sa_nil))) (sa_cons (se_call0 (sa_cons (se_var 0) (sa_cons (se_var 2) sa_nil))) (sa_cons (se_call0 (sa_cons (se_var 0) (sa_cons (se_var 2) sa_nil))) sa_nil)))) (ss_ret (se_call0 (sa_cons (se_var 0) (sa_cons (se_lst (sa_cons (se_tup (sa_cons se_str (sa_cons (se_call0 (sa_cons (se_var 0) (sa_cons (se_lst (sa_cons se_str (sa_cons se_str (sa_cons (se_var 4) sa_nil)))) sa_nil))) (sa_cons (se_var 5) (sa_cons (se_var 6) sa_nil))))) (sa_cons (se_tup (sa_cons se_str (sa_cons (se_var 4) sa_nil))) (sa_cons (se_tup (sa_cons se_str (sa_cons (se_var 4) (sa_cons (se_var 5) (sa_cons (se_var 6) sa_nil))))) (sa_cons (se_tup (sa_cons se_str (sa_cons (se_var 4) (sa_cons (se_call0 (sa_cons (se_var 0) (sa_cons (se_lst (sa_cons se_str (sa_cons se_str (sa_cons (se_var 4) sa_nil)))) sa_nil))) sa_nil)))) sa_nil))))) sa_nil))))))⟩
abbrev st__law_deeds : Stmt := topS 41
theorem sc__law_deeds : FnScope ["_law_tin", "_law_net_here", "_law_most", "_law_here", "_law_found", "_law_lap", "_law_deed_here", "_law_later"] ["_law_tin", "_law_net_here", "_law_most"] (defScope st__law_deeds) := ⟨rfl, rfl, rfl, by decide +kernel, rfl, by decide +kernel, by decide +kernel⟩
def b__law_deeds : AEnv → ASto → Out := (aSeq (aPar 3 4 (aCons (aVar 1) (aCons (aLst aNil) aNil))) (aSeq (aFor (iRng1A (aCons (aCall0 m__law_take (aCons (aVar 0) (aCons (aOp aAddE (aOp aMul (aC (.int 2)) (aVar 2)) (aC (.int 1))) aNil))) aNil)) (aNm 5) (aSeq (aAsg (aCall0 m__law_deed (aCons (aVar 0) (aCons (aVar 3) aNil))) (aNm 6)) (aSeq (aAsg (aCall0 m__law_done (aCons (aVar 3) (aCons (aVar 6) aNil))) (aNm 7)) (aIf (aAnd (aNot (aTest (aIsI ["list"] (aVar 7)))) (aTest (aOp aLt (aCall aLen (aCons (aVar 4) aNil)) (aVar 2)))) (aPar 3 4 (aCons (aVar 7) (aCons (aOp aAddE (aVar 4) (aLst (aCons (aVar 6) aNil))) aNil))) aNext)))) (aRet (aCall aTupOf (aCons (aVar 4) aNil)))))
def m__law_deeds : List Sl → ASto → Res Sl := runD 8 3 b__law_deeds
theorem ok__law_deeds {P : Program} {w : World} {K : PySem.W.Frag} {mg : Str → Option Value} {base : Heap} (T : Tx w K mg) {f : Addr} {fd : FuncData} (F : Fun K "_law_deeds" "_law_deeds" st__law_deeds f fd) : FnOk P w K mg base CX0 4 f fd ["_law_tin", "_law_net_here", "_law_most"] (spF P w K mg m__law_deeds) := by
  obtain ⟨f__law_take, fd__law_take, e__law_take, F__law_take⟩ := T.h__law_take
  have G__law_take := ok__law_take (P := P) (w := w) (base := base) T F__law_take
  have B__law_take := F__law_take.binds (ps := ["_law_tin", "_law_top_so"]) fun _ _ _ _ _ _ us hl => match us, hl with | [_, _], _ => rfl
  obtain ⟨f__law_deed, fd__law_deed, e__law_deed, F__law_deed⟩ := T.h__law_deed
  have G__law_deed := ok__law_deed (P := P) (w := w) (base := base) T F__law_deed
  have B__law_deed := F__law_deed.binds (ps := ["_law_tin", "_law_net_here"]) fun _ _ _ _ _ _ us hl => match us, hl with | [_, _], _ => rfl
  obtain ⟨f__law_done, fd__law_done, e__law_done, F__law_done⟩ := T.h__law_done
  have G__law_done := ok__law_done (P := P) (w := w) (base := base) T F__law_done
  have B__law_done := F__law_done.binds (ps := ["_law_net_here", "_law_deed_here"]) fun _ _ _ _ _ _ us hl => match us, hl with | [_, _], _ => rfl
  exact fn_d F sc__law_deeds b__law_deeds fun cdv A outer s H E hr => ⟨_,
    (pss_cons (ps_par (i := 3) (j := 4) (by rfl) sc__law_deeds.nd rfl rfl (by decide) rfl rfl (pa_cons (pv 1) (pa_cons (pe_lst pa_nil) pa_nil)) (by rfl)) (pss_cons (ps_for PassesOwn.never rfl (pi_range1 (by rfl) T.b_range (pa_cons (pe_call G__law_take (hr.mono (by decide)) (by rfl) e__law_take F__law_take.kp B__law_take .nil pass0 (pa_cons (pv 0) (pa_cons (pe_op opAddE (pe_op op_mul pe_int (pv 2)) pe_int) pa_nil))) pa_nil)) (pg_name (i := 5) sc__law_deeds.nd rfl (Or.inl rfl)) (pss_cons (ps_set (i := 6) sc__law_deeds.nd rfl (Or.inl rfl) (pe_call G__law_deed (hr.mono (by decide)) (by rfl) e__law_deed F__law_deed.kp B__law_deed .nil pass0 (pa_cons (pv 0) (pa_cons (pv 3) pa_nil)))) (pss_cons (ps_set (i := 7) sc__law_deeds.nd rfl (Or.inl rfl) (pe_call G__law_done (hr.mono (by decide)) (by rfl) e__law_done F__law_done.kp B__law_done .nil pass0 (pa_cons (pv 3) (pa_cons (pv 6) pa_nil)))) (pss_one (ps_if (PW.pt (pw_and (pt_not (pt_val (pe_callB call_isi (by rfl) T.b_isinstance (by decide +kernel) (pa_cons (pv 7) (pa_cons (pe_bltn (v := .ty "list") (by rfl) T.b_list (by decide +kernel) rfl) pa_nil))))) (pw_and1 (pt_cmpR op_lt (pe_callB call_len_seq (by rfl) T.b_len (by decide +kernel) (pa_cons (pv 4) pa_nil)) (pv 2) (nomark _))))) (pss_one (ps_par (i := 3) (j := 4) (by rfl) sc__law_deeds.nd rfl rfl (by decide) rfl rfl (pa_cons (pv 7) (pa_cons (pe_op opAddE (pv 4) (pe_lst (pa_cons (pv 6) pa_nil))) pa_nil)) (by rfl))) pss_nil))))) (pss_one (ps_ret (pe_callTy call_tupN (by rfl) T.b_tuple (by decide +kernel) (pa_cons (pv 4) pa_nil)))))),
    (ss_seq (ss_par (sa_cons (se_var 1) (sa_cons (se_lst sa_nil) sa_nil))) (ss_seq (ss_for (si_rng1 (sa_cons (se_call0 (sa_cons (se_var 0) (sa_cons (se_op srAddE (se_op srMul se_int (se_var 2)) se_int) sa_nil))) sa_nil)) (sg_name 5) (ss_seq (ss_asg (se_call0 (sa_cons (se_var 0) (sa_cons (se_var 3) sa_nil))) (sg_name 6)) (ss_seq (ss_asg (se_call0 (sa_cons (se_var 3) (sa_cons (se_var 6) sa_nil))) (sg_name 7)) (ss_if (st_and (st_not (st_B (se_isi (se_var 7)))) (st_test (se_op srLt (se_cb sc_len (sa_cons (se_var 4) sa_nil)) (se_var 2)))) (ss_par (sa_cons (se_var 7) (sa_cons (se_op srAddE (se_var 4) (se_lst (sa_cons (se_var 6) sa_nil))) sa_nil))) ss_next)))) (ss_ret (se_cb sc_tupOf (sa_cons (se_var 4) sa_nil)))))⟩
abbrev st__law_heard : Stmt := topS 42
theorem sc__law_heard : FnScope ["_law_net_here", "_law_deeds_here", "_law_caught", "_law_told", "error"] ["_law_net_here", "_law_deeds_here"] (defScope st__law_heard) := ⟨rfl, rfl, rfl, by decide +kernel, rfl, by decide +kernel, by decide +kernel⟩
def b__law_heard : AEnv → ASto → Out := (aSeq (aAsg (aTup (aCons (aC .none) (aCons (aC .none) aNil))) (aGTup 2 (aGCons (aNm 2) (aGCons (aNm 3) aGNil)))) (aSeq (aTry errsL m_edited (aCons (aVar 0) (aCons (aVar 1) aNil)) 3 [("Twice", 4, aSui 2 (xCons (xC (.str "twice")) (xCons (xFld "name") (xCons (xC (.bool true)) xNil)))), ("NoArc", 4, aSui 2 (xCons (xC (.str "arc")) (xCons (xFld "name") (xCons (xC (.bool true)) xNil)))), ("NoEvent", 4, aSui 2 (xCons (xC (.str "event")) (xCons (xFld "event") (xCons (xC (.bool true)) xNil)))), ("Ring", 4, aSui 2 (xCons (xC (.str "ring")) (xCons (xC .none) (xCons (xC (.bool true)) xNil))))]) (aRet (aIfE (aTest (aOp (aIsN false) (aVar 2) (aC .none))) (aVar 3) (aVar 2)))))
def m__law_heard : List Sl → ASto → Res Sl := runD 5 2 b__law_heard
theorem ok__law_heard {P : Program} {w : World} {K : PySem.W.Frag} {mg : Str → Option Value} {base : Heap} (T : Tx w K mg) {f : Addr} {fd : FuncData} (F : Fun K "_law_heard" "_law_heard" st__law_heard f fd) : FnOk P w K mg base CX0 16 f fd ["_law_net_here", "_law_deeds_here"] (spF P w K mg m__law_heard) := by
  obtain ⟨f_edited, fd_edited, e_edited, F_edited⟩ := T.h_edited
  have G_edited := ok_edited (P := P) (w := w) (base := base) T F_edited
  have B_edited := F_edited.binds (ps := ["web", "edits"]) fun _ _ _ _ _ _ us hl => match us, hl with | [_, _], _ => rfl
  obtain ⟨C_Ring, X_Ring, Q_Ring⟩ := T.x_Ring
  obtain ⟨C_NoEvent, fI_NoEvent, X_NoEvent⟩ := T.x_NoEvent
  obtain ⟨C_NoArc, fI_NoArc, X_NoArc⟩ := T.x_NoArc
  obtain ⟨C_Twice, fI_Twice, X_Twice⟩ := T.x_Twice
  exact fn_d F sc__law_heard b__law_heard fun cdv A outer s H E hr => ⟨_,
    (pss_cons (ps_asg (pe_tupN (pa_cons pe_non (pa_cons pe_non pa_nil))) (pg_tup rfl (pgs_cons (pg_name (i := 2) sc__law_heard.nd rfl (Or.inl rfl)) (pgs_cons (pg_name (i := 3) sc__law_heard.nd rfl (Or.inl rfl)) pgs_nil)))) (pss_cons (ps_tryAs rfl rfl sc__law_heard.nd takes0 (fun W pn xe tk _ => pss_one (ps_set (i := 3) sc__law_heard.nd rfl (Or.inl rfl) (pe_callS G_edited (hr.mono (by decide)) (by rfl) e_edited F_edited.kp B_edited (fun σ => passAt tk σ) (pa_cons (pv 0) (pa_cons (pv 1) pa_nil))))) (ClsOk.cons (i := 4) ⟨rfl, by decide, Or.inl X_Twice.gC⟩ rfl rfl (fun a oe cls d pn hz hf => pss_one (ps_set (i := 2) sc__law_heard.nd rfl (Or.inl rfl) (pe_lst (pa_cons pe_str (pa_cons (pe_xf ⟨X_Twice.ga, X_Twice.gg, X_Twice.exC, X_Twice.hdC⟩ X_Twice.noF hz hf (pv 4)) (pa_cons (pe_callB (call_isX X_Twice.toErrC hz hf) (by rfl) T.b_isinstance (by decide +kernel) (pa_cons (pv 4) (pa_cons (pe_bltn (v := .ty "ValueError") (by rfl) T.b_ValueError (by decide +kernel) rfl) pa_nil))) pa_nil)))))) (ClsOk.cons (i := 4) ⟨rfl, by decide, Or.inl X_NoArc.gC⟩ rfl rfl (fun a oe cls d pn hz hf => pss_one (ps_set (i := 2) sc__law_heard.nd rfl (Or.inl rfl) (pe_lst (pa_cons pe_str (pa_cons (pe_xf ⟨X_NoArc.ga, X_NoArc.gg, X_NoArc.exC, X_NoArc.hdC⟩ X_NoArc.noF hz hf (pv 4)) (pa_cons (pe_callB (call_isX X_NoArc.toErrC hz hf) (by rfl) T.b_isinstance (by decide +kernel) (pa_cons (pv 4) (pa_cons (pe_bltn (v := .ty "LookupError") (by rfl) T.b_LookupError (by decide +kernel) rfl) pa_nil))) pa_nil)))))) (ClsOk.cons (i := 4) ⟨rfl, by decide, Or.inl X_NoEvent.gC⟩ rfl rfl (fun a oe cls d pn hz hf => pss_one (ps_set (i := 2) sc__law_heard.nd rfl (Or.inl rfl) (pe_lst (pa_cons pe_str (pa_cons (pe_xf ⟨X_NoEvent.ga, X_NoEvent.gg, X_NoEvent.exC, X_NoEvent.hdC⟩ X_NoEvent.noF hz hf (pv 4)) (pa_cons (pe_callB (call_isX X_NoEvent.toErrC hz hf) (by rfl) T.b_isinstance (by decide +kernel) (pa_cons (pv 4) (pa_cons (pe_bltn (v := .ty "LookupError") (by rfl) T.b_LookupError (by decide +kernel) rfl) pa_nil))) pa_nil)))))) (ClsOk.cons (i := 4) ⟨rfl, by decide, Or.inl X_Ring.gC⟩ rfl rfl (fun a oe cls d pn hz hf => pss_one (ps_set (i := 2) sc__law_heard.nd rfl (Or.inl rfl) (pe_lst (pa_cons pe_str (pa_cons pe_non (pa_cons (pe_callB (call_isX X_Ring hz hf) (by rfl) T.b_isinstance (by decide +kernel) (pa_cons (pv 4) (pa_cons (pe_bltn (v := .ty "ValueError") (by rfl) T.b_ValueError (by decide +kernel) rfl) pa_nil))) pa_nil)))))) ClsOk.nil))))) (pss_one (ps_ret (pe_ifExp (pt_cmpR op_isN (pv 2) pe_non (nomark _)) (pv 3) (pv 2)))))),
    (ss_seq (ss_asg (se_tup (sa_cons se_non (sa_cons se_non sa_nil))) (sg_tup (sgs_cons (sg_name 2) (sgs_cons (sg_name 3) sgs_nil)))) (ss_seq (ss_try T.exm (sa_cons (se_var 0) (sa_cons (se_var 1) sa_nil)) (ClsRel.cons X_Twice.gC (by decide) (su_lst (ats_cons (at_str _) (ats_cons (at_fld X_Twice.gC "name") (ats_cons (at_is X_Twice.gC (T.k_Twice_ValueError _ X_Twice.gC)) ats_nil)))) (ClsRel.cons X_NoArc.gC (by decide) (su_lst (ats_cons (at_str _) (ats_cons (at_fld X_NoArc.gC "name") (ats_cons (at_is X_NoArc.gC (T.k_NoArc_LookupError _ X_NoArc.gC)) ats_nil)))) (ClsRel.cons X_NoEvent.gC (by decide) (su_lst (ats_cons (at_str _) (ats_cons (at_fld X_NoEvent.gC "event") (ats_cons (at_is X_NoEvent.gC (T.k_NoEvent_LookupError _ X_NoEvent.gC)) ats_nil)))) (ClsRel.cons X_Ring.gC (by decide) (su_lst (ats_cons (at_str _) (ats_cons at_none (ats_cons (at_is X_Ring.gC (T.k_Ring_ValueError _ X_Ring.gC)) ats_nil)))) ClsRel.nil))))) (ss_ret (se_if (st_test (se_op sr_isN (se_var 2) se_non)) (se_var 3) (se_var 2)))))⟩
abbrev st__law_case_right : Stmt := topS 43
theorem sc__law_case_right : FnScope ["_law_net_here", "_law_deeds_here", "_law_due", "_law_k", "_law_soft", "_law_got"] ["_law_net_here", "_law_deeds_here"] (defScope st__law_case_right) := ⟨rfl, rfl, rfl, by decide +kernel, rfl, by decide +kernel, by decide +kernel⟩
def b__law_case_right : AEnv → ASto → Out := (aSeq (aPar 2 3 (aCons (aCall0 m__law_all_done (aCons (aVar 0) (aCons (aVar 1) aNil))) (aCons (aC .none) aNil))) (aSeq (aIf (aTest (aIsI ["list"] (aVar 2))) (aPar 3 2 (aCons (aOp aIx (aVar 2) (aC (.int 0))) (aCons (aOp aAddE (aOp aIx (aVar 2) (aC (.int 1))) (aLst (aCons (aC (.bool true)) aNil))) aNil))) aNext) (aSeq (aAsg (aCall0 m__law_lists (aCons (aLst (aCons (aVar 0) (aCons (aVar 1) aNil))) aNil)) (aNm 4)) (aSeq (aAsg (aLst (aCons (aCall0 m__law_heard (aCons (aVar 0) (aCons (aVar 1) aNil))) (aCons (aCall0 m__law_heard (aCons (aOp aIx (aVar 4) (aC (.int 0))) (aCons (aOp aIx (aVar 4) (aC (.int 1))) aNil))) (aCons (aCall0 m_first_refused (aCons (aVar 0) (aCons (aVar 1) aNil))) aNil)))) (aNm 5)) (aSeq (aAsg (aOp aAddE (aVar 5) (aLst (aCons (aCall0 m_first_refused (aCons (aOp aIx (aVar 4) (aC (.int 0))) (aCons (aOp aIx (aVar 4) (aC (.int 1))) aNil))) (aCons (aVar 4) aNil)))) (aNm 5)) (aRet (aCall0 m__law_same (aCons (aVar 5) (aCons (aLst (aCons (aVar 2) (aCons (aVar 2) (aCons (aVar 3) (aCons (aVar 3) (aCons (aCall0 m__law_lists (aCons (aLst (aCons (aVar 0) (aCons (aVar 1) aNil))) aNil)) aNil)))))) aNil)))))))))
def m__law_case_right : List Sl → ASto → Res Sl := runD 6 2 b__law_case_right
theorem ok__law_case_right {P : Program} {w : World} {K : PySem.W.Frag} {mg : Str → Option Value} {base : Heap} (T : Tx w K mg) {f : Addr} {fd : FuncData} (F : Fun K "_law_case_right" "_law_case_right" st__law_case_right f fd) : FnOk P w K mg base CX0 17 f fd ["_law_net_here", "_law_deeds_here"] (spF P w K mg m__law_case_right) := by
  obtain ⟨f__law_all_done, fd__law_all_done, e__law_all_done, F__law_all_done⟩ := T.h__law_all_done
  have G__law_all_done := ok__law_all_done (P := P) (w := w) (base := base) T F__law_all_done
  have B__law_all_done := F__law_all_done.binds (ps := ["_law_net_here", "_law_deeds_here"]) fun _ _ _ _ _ _ us hl => match us, hl with | [_, _], _ => rfl
  obtain ⟨f__law_lists, fd__law_lists, e__law_lists, F__law_lists⟩ := T.h__law_lists
  have G__law_lists := ok__law_lists (P := P) (w := w) (base := base) T F__law_lists
  have B__law_lists := F__law_lists.binds (ps := ["_law_matter"]) fun _ _ _ _ _ _ us hl => match us, hl with | [_], _ => rfl
  obtain ⟨f_first_refused, fd_first_refused, e_first_refused, F_first_refused⟩ := T.h_first_refused
  have G_first_refused := ok_first_refused (P := P) (w := w) (base := base) T F_first_refused
  have B_first_refused := F_first_refused.binds (ps := ["web", "edits"]) fun _ _ _ _ _ _ us hl => match us, hl with | [_, _], _ => rfl
  obtain ⟨f__law_heard, fd__law_heard, e__law_heard, F__law_heard⟩ := T.h__law_heard
  have G__law_heard := ok__law_heard (P := P) (w := w) (base := base) T F__law_heard
  have B__law_heard := F__law_heard.binds (ps := ["_law_net_here", "_law_deeds_here"]) fun _ _ _ _ _ _ us hl => match us, hl with | [_, _], _ => rfl
  obtain ⟨f__law_same, fd__law_same, e__law_same, F__law_same⟩ := T.h__law_same
  have G__law_same := ok__law_same (P := P) (w := w) (base := base) T F__law_same
  have B__law_same := F__law_same.binds (ps := ["_law_got", "_law_due"]) fun _ _ _ _ _ _ us hl => match us, hl with | [_, _], _ => rfl
  exact fn_d F sc__law_case_right b__law_case_right fun cdv A outer s H E hr => ⟨_,
    (pss_cons (ps_par (i := 2) (j := 3) (by rfl) sc__law_case_right.nd rfl rfl (by decide) rfl rfl (pa_cons (pe_call G__law_all_done (hr.mono (by decide)) (by rfl) e__law_all_done F__law_all_done.kp B__law_all_done .nil pass0 (pa_cons (pv 0) (pa_cons (pv 1) pa_nil))) (pa_cons pe_non pa_nil)) (by rfl)) (pss_cons (ps_if (pt_val (pe_callB call_isi (by rfl) T.b_isinstance (by decide +kernel) (pa_cons (pv 2) (pa_cons (pe_bltn (v := .ty "list") (by rfl) T.b_list (by decide +kernel) rfl) pa_nil)))) (pss_one (ps_par (i := 3) (j := 2) (by rfl) sc__law_case_right.nd rfl rfl (by decide) rfl rfl (pa_cons (pe_ix ix_seq (pv 2) pe_int (fun _ _ => rfl)) (pa_cons (pe_op opAddE (pe_ix ix_seq (pv 2) pe_int (fun _ _ => rfl)) (pe_lst (pa_cons pe_bl pa_nil))) pa_nil)) (by rfl))) pss_nil) (pss_cons (ps_set (i := 4) sc__law_case_right.nd rfl (Or.inl rfl) (pe_call G__law_lists (hr.mono (by decide)) (by rfl) e__law_lists F__law_lists.kp B__law_lists .nil pass0 (pa_cons (pe_lst (pa_cons (pv 0) (pa_cons (pv 1) pa_nil))) pa_nil))) (pss_cons (ps_set (i := 5) sc__law_case_right.nd rfl (Or.inl rfl) (pe_lst (pa_cons (pe_call G__law_heard (hr.mono (by decide)) (by rfl) e__law_heard F__law_heard.kp B__law_heard .nil pass0 (pa_cons (pv 0) (pa_cons (pv 1) pa_nil))) (pa_cons (pe_call G__law_heard (hr.mono (by decide)) (by rfl) e__law_heard F__law_heard.kp B__law_heard .nil pass0 (pa_cons (pe_ix ix_seq (pv 4) pe_int (fun _ _ => rfl)) (pa_cons (pe_ix ix_seq (pv 4) pe_int (fun _ _ => rfl)) pa_nil))) (pa_cons (pe_call G_first_refused (hr.mono (by decide)) (by rfl) e_first_refused F_first_refused.kp B_first_refused .nil pass0 (pa_cons (pv 0) (pa_cons (pv 1) pa_nil))) pa_nil))))) (pss_cons (ps_set (i := 5) sc__law_case_right.nd rfl (Or.inl rfl) (pe_op opAddE (pv 5) (pe_lst (pa_cons (pe_call G_first_refused (hr.mono (by decide)) (by rfl) e_first_refused F_first_refused.kp B_first_refused .nil pass0 (pa_cons (pe_ix ix_seq (pv 4) pe_int (fun _ _ => rfl)) (pa_cons (pe_ix ix_seq (pv 4) pe_int (fun _ _ => rfl)) pa_nil))) (pa_cons (pv 4) pa_nil))))) (pss_one (ps_ret (pe_call G__law_same (hr.mono (by decide)) (by rfl) e__law_same F__law_same.kp B__law_same .nil pass0 (pa_cons (pv 5) (pa_cons (pe_lst (pa_cons (pv 2) (pa_cons (pv 2) (pa_cons (pv 3) (pa_cons (pv 3) (pa_cons (pe_call G__law_lists (hr.mono (by decide)) (by rfl) e__law_lists F__law_lists.kp B__law_lists .nil pass0 (pa_cons (pe_lst (pa_cons (pv 0) (pa_cons (pv 1) pa_nil))) pa_nil)) pa_nil)))))) pa_nil)))))))))),
    (ss_seq (ss_par (sa_cons (se_call0 (sa_cons (se_var 0) (sa_cons (se_var 1) sa_nil))) (sa_cons se_non sa_nil))) (ss_seq (ss_if (st_B (se_isi (se_var 2))) (ss_par (sa_cons (se_op sr_ix (se_var 2) se_int) (sa_cons (se_op srAddE (se_op sr_ix (se_var 2) se_int) (se_lst (sa_cons se_bl sa_nil))) sa_nil))) ss_next) (ss_seq (ss_asg (se_call0 (sa_cons (se_lst (sa_cons (se_var 0) (sa_cons (se_var 1) sa_nil))) sa_nil)) (sg_name 4)) (ss_seq (ss_asg (se_lst (sa_cons (se_call0 (sa_cons (se_var 0) (sa_cons (se_var 1) sa_nil))) (sa_cons (se_call0 (sa_cons (se_op sr_ix (se_var 4) se_int) (sa_cons (se_op sr_ix (se_var 4) se_int) sa_nil))) (sa_cons (se_call0 (sa_cons (se_var 0) (sa_cons (se_var 1) sa_nil))) sa_nil)))) (sg_name 5)) (ss_seq (ss_asg (se_op srAddE (se_var 5) (se_lst (sa_cons (se_call0 (sa_cons (se_op sr_ix (se_var 4) se_int) (sa_cons (se_op sr_ix (se_var 4) se_int) sa_nil))) (sa_cons (se_var 4) sa_nil)))) (sg_name 5)) (ss_ret (se_call0 (sa_cons (se_var 5) (sa_cons (se_lst (sa_cons (se_var 2) (sa_cons (se_var 2) (sa_cons (se_var 3) (sa_cons (se_var 3) (sa_cons (se_call0 (sa_cons (se_lst (sa_cons (se_var 0) (sa_cons (se_var 1) sa_nil))) sa_nil)) sa_nil)))))) sa_nil)))))))))⟩
abbrev st__law_things_right : Stmt := topS 45
theorem sc__law_things_right : FnScope ["_law_net_here", "_law_fine", "_law_odd", "_law_got", "_law_soft", "_law_own"] ["_law_net_here"] (defScope st__law_things_right) := ⟨rfl, rfl, rfl, by decide +kernel, rfl, by decide +kernel, by decide +kernel⟩
def b__law_things_right : AEnv → ASto → Out := (aSeq (aAsg (aLstC (aCons (aTup (aCons (aC (.str "put")) (aCons (aC (.str "a")) (aCons (aC (.str "b")) (aCons (aC (.str "c")) aNil))))) (aCons (aTup (aCons (aC (.str "out")) (aCons (aC (.str "tide")) aNil))) (aCons (aTup (aCons (aC (.str "move")) (aCons (aC (.str "a")) (aCons (aC (.str "b")) (aCons (aC (.str "b")) aNil))))) (aCons (aTup (aCons (aC (.str "call")) (aCons (aC (.str "a")) (aCons (aC (.str "a")) aNil)))) aNil))))) (aNm 1)) (aSeq (aDrop (aMut gAppend (aVar 1) (aTup (aCons (aC (.str "put")) (aCons (aC (.str "put")) (aCons (aC (.str "out")) (aCons (aC (.str "z")) aNil))))))) (aSeq (aAsg (aLst (aCons (aTup (aCons (aC (.str "put")) (aCons (aC (.str "a")) (aCons (aC (.str "b")) aNil)))) (aCons (aTup (aCons (aC (.str "out")) aNil)) (aCons (aTup (aCons (aC (.str "out")) (aCons (aC (.str "a")) (aCons (aC (.str "b")) aNil)))) (aCons (aTup (aCons (aC (.str "move")) (aCons (aC (.str "a")) (aCons (aC (.str "b")) aNil)))) (aCons (aTup (aCons (aC (.str "call")) (aCons (aC (.str "a")) aNil))) (aCons (aTup (aCons (aC (.str "call")) (aCons (aC (.str "a")) (aCons (aC (.str "b")) (aCons (aC (.str "c")) aNil))))) aNil))))))) (aNm 2)) (aSeq (aAsg (aOp aAddE (aVar 2) (aLst (aCons (aTup aNil) (aCons (aLst (aCons (aC (.str "out")) (aCons (aC (.str "tide")) aNil))) (aCons (aTup (aCons (aC (.str "out")) (aCons (aC (.str "Tide")) aNil))) (aCons (aTup (aCons (aC (.str "out")) (aCons (aC (.str "")) aNil))) (aCons (aTup (aCons (aC (.str "out")) (aCons (aC (.str "abcdefghi")) aNil))) (aCons (aTup (aCons (aC (.str "go")) (aCons (aC (.str "a")) aNil))) (aCons (aC .none) (aCons (aC (.int 0)) (aCons (aC (.str "out")) aNil))))))))))) (aNm 2)) (aSeq (aAsg (aOp aAddE (aVar 2) (aLst (aCons (aTup (aCons (aC (.str "out")) (aCons (aC (.int 1)) aNil))) (aCons (aTup (aCons (aLst (aCons (aC (.str "out")) aNil)) (aCons (aC (.str "a")) aNil))) (aCons (aTup (aCons (aC (.str "put")) (aCons (aC (.str "a")) (aCons (aLst (aCons (aC (.str "b")) aNil)) (aCons (aC (.str "c")) aNil))))) (aCons (aTup (aCons (aTup (aCons (aC (.str "out")) (aCons (aC (.str "a")) aNil))) aNil)) (aCons (aTup (aCons (aC .none) (aCons (aC (.str "a")) aNil))) (aCons (aTup (aCons (aC (.str "out")) (aCons (aC .none) aNil))) aNil)))))))) (aNm 2)) (aSeq (aAsg (aOp aAddE (aVar 2) (aLst (aCons (aTup (aCons (aC (.str "OUT")) (aCons (aC (.str "a")) aNil))) (aCons (aC (.bool true)) aNil)))) (aNm 2)) (aFrz 1 (aSeq (aAsg (aLstC (aCons (aLc (iSeqA (aVar 1)) (aNm 5) aYes (aCall0 m_is_edit (aCons (aVar 5) aNil)) [5]) (aCons (aLc (iSeqA (aVar 2)) (aNm 5) aYes (aCall0 m_is_edit (aCons (aVar 5) aNil)) [5]) (aCons (aCall0 (aKw 1 [0] m_is_edit) (aCons (aTup (aCons (aC (.str "out")) (aCons (aC (.str "a")) aNil))) aNil)) aNil)))) (aNm 3)) (aSeq (aAsg (aCall0 m__law_lists (aCons (aLst (aCons (aVar 0) (aCons (aLst (aCons (aTup (aCons (aC (.str "out")) (aCons (aC (.str "tide")) aNil))) (aCons (aTup (aCons (aC (.str "call")) (aCons (aC (.str "sail")) (aCons (aC (.str "a")) aNil)))) aNil))) aNil))) aNil)) (aNm 4)) (aSeq (aAsg (aOp aCatC (aVar 3) (aLst (aCons (aOp (aEqD false) (aCall (aKw 2 [1, 0] m_edited) (aCons (aOp aIx (aVar 4) (aC (.int 1))) (aCons (aOp aIx (aVar 4) (aC (.int 0))) aNil))) (aCall m_edited (aCons (aVar 0) (aCons (aTup (aCons (aTup (aCons (aC (.str "out")) (aCons (aC (.str "tide")) aNil))) (aCons (aTup (aCons (aC (.str "call")) (aCons (aC (.str "sail")) (aCons (aC (.str "a")) aNil)))) aNil))) aNil)))) aNil))) (aNm 3)) (aSeq (aDrop (aMut gAppend (aVar 3) (aCall0 (aKw 2 [1, 0] m_first_refused) (aCons (aTup (aCons (aLst (aCons (aC (.str "out")) (aCons (aC (.str "tide")) aNil))) (aCons (aTup (aCons (aC (.str "out")) (aCons (aC (.str "tide")) aNil))) aNil))) (aCons (aVar 0) aNil))))) (aFrz 3 (aRet (aCall0 m__law_same (aCons (aVar 3) (aCons (aLst (aCons (aOp aRep (aLst (aCons (aC (.bool true)) aNil)) (aC (.int 5))) (aCons (aOp aRep (aLst (aCons (aC (.bool false)) aNil)) (aC (.int 23))) (aCons (aC (.bool true)) (aCons (aC (.bool true)) (aCons (aC (.int 1)) aNil)))))) aNil))))))))))))))))
def m__law_things_right : List Sl → ASto → Res Sl := runD 6 1 b__law_things_right
theorem ok__law_things_right {P : Program} {w : World} {K : PySem.W.Frag} {mg : Str → Option Value} {base : Heap} (T : Tx w K mg) {f : Addr} {fd : FuncData} (F : Fun K "_law_things_right" "_law_things_right" st__law_things_right f fd) : FnOk P w K mg base (L2.CX P w) 16 f fd ["_law_net_here"] (spF P w K mg m__law_things_right) := by
  obtain ⟨f_is_edit, fd_is_edit, e_is_edit, F_is_edit⟩ := T.h_is_edit
  have G_is_edit := ok_is_edit (P := P) (w := w) (base := base) T F_is_edit
  have B_is_edit := F_is_edit.binds (ps := ["thing"]) fun _ _ _ _ _ _ us hl => match us, hl with | [_], _ => rfl
  obtain ⟨f__law_lists, fd__law_lists, e__law_lists, F__law_lists⟩ := T.h__law_lists
  have G__law_lists := ok__law_lists (P := P) (w := w) (base := base) T F__law_lists
  have B__law_lists := F__law_lists.binds (ps := ["_law_matter"]) fun _ _ _ _ _ _ us hl => match us, hl with | [_], _ => rfl
  obtain ⟨f_edited, fd_edited, e_edited, F_edited⟩ := T.h_edited
  have G_edited := ok_edited (P := P) (w := w) (base := base) T F_edited
  have B_edited := F_edited.binds (ps := ["web", "edits"]) fun _ _ _ _ _ _ us hl => match us, hl with | [_, _], _ => rfl
  obtain ⟨f_first_refused, fd_first_refused, e_first_refused, F_first_refused⟩ := T.h_first_refused
  have G_first_refused := ok_first_refused (P := P) (w := w) (base := base) T F_first_refused
  have B_first_refused := F_first_refused.binds (ps := ["web", "edits"]) fun _ _ _ _ _ _ us hl => match us, hl with | [_, _], _ => rfl
  obtain ⟨f__law_same, fd__law_same, e__law_same, F__law_same⟩ := T.h__law_same
  have G__law_same := ok__law_same (P := P) (w := w) (base := base) T F__law_same
  have B__law_same := F__law_same.binds (ps := ["_law_got", "_law_due"]) fun _ _ _ _ _ _ us hl => match us, hl with | [_, _], _ => rfl
  exact fn_x F sc__law_things_right b__law_things_right fun cdv A outer s H E hr => ⟨_,
    (pss_cons (ps_set (i := 1) sc__law_things_right.nd rfl (Or.inl rfl) (pe_lst (pa_cons (pe_tupN (pa_cons pe_str (pa_cons pe_str (pa_cons pe_str (pa_cons pe_str pa_nil))))) (pa_cons (pe_tupN (pa_cons pe_str (pa_cons pe_str pa_nil))) (pa_cons (pe_tupN (pa_cons pe_str (pa_cons pe_str (pa_cons pe_str (pa_cons pe_str pa_nil))))) (pa_cons (pe_tupN (pa_cons pe_str (pa_cons pe_str (pa_cons pe_str pa_nil)))) pa_nil)))))) (pss_cons (ps_expr (pe_bm PySem.F.plainAttrs_list PySem.F.slot_list_append PySem.F.type_list_append mt_append (pv 1) (pa_cons (pe_tupN (pa_cons pe_str (pa_cons pe_str (pa_cons pe_str (pa_cons pe_str pa_nil))))) pa_nil))) (pss_cons (ps_set (i := 2) sc__law_things_right.nd rfl (Or.inl rfl) (pe_lst (pa_cons (pe_tupN (pa_cons pe_str (pa_cons pe_str (pa_cons pe_str pa_nil)))) (pa_cons (pe_tupN (pa_cons pe_str pa_nil)) (pa_cons (pe_tupN (pa_cons pe_str (pa_cons pe_str (pa_cons pe_str pa_nil)))) (pa_cons (pe_tupN (pa_cons pe_str (pa_cons pe_str (pa_cons pe_str pa_nil)))) (pa_cons (pe_tupN (pa_cons pe_str (pa_cons pe_str pa_nil))) (pa_cons (pe_tupN (pa_cons pe_str (pa_cons pe_str (pa_cons pe_str (pa_cons pe_str pa_nil))))) pa_nil)))))))) (pss_cons (ps_set (i := 2) sc__law_things_right.nd rfl (Or.inl rfl) (pe_op opAddE (pv 2) (pe_lst (pa_cons (pe_tupN pa_nil) (pa_cons (pe_lst (pa_cons pe_str (pa_cons pe_str pa_nil))) (pa_cons (pe_tupN (pa_cons pe_str (pa_cons pe_str pa_nil))) (pa_cons (pe_tupN (pa_cons pe_str (pa_cons pe_str pa_nil))) (pa_cons (pe_tupN (pa_cons pe_str (pa_cons pe_str pa_nil))) (pa_cons (pe_tupN (pa_cons pe_str (pa_cons pe_str pa_nil))) (pa_cons pe_non (pa_cons pe_int (pa_cons pe_str pa_nil)))))))))))) (pss_cons (ps_set (i := 2) sc__law_things_right.nd rfl (Or.inl rfl) (pe_op opAddE (pv 2) (pe_lst (pa_cons (pe_tupN (pa_cons pe_str (pa_cons pe_int pa_nil))) (pa_cons (pe_tupN (pa_cons (pe_lst (pa_cons pe_str pa_nil)) (pa_cons pe_str pa_nil))) (pa_cons (pe_tupN (pa_cons pe_str (pa_cons pe_str (pa_cons (pe_lst (pa_cons pe_str pa_nil)) (pa_cons pe_str pa_nil))))) (pa_cons (pe_tupN (pa_cons (pe_tupN (pa_cons pe_str (pa_cons pe_str pa_nil))) pa_nil)) (pa_cons (pe_tupN (pa_cons pe_non (pa_cons pe_str pa_nil))) (pa_cons (pe_tupN (pa_cons pe_str (pa_cons pe_non pa_nil))) pa_nil))))))))) (pss_cons (ps_set (i := 2) sc__law_things_right.nd rfl (Or.inl rfl) (pe_op opAddE (pv 2) (pe_lst (pa_cons (pe_tupN (pa_cons pe_str (pa_cons pe_str pa_nil))) (pa_cons pe_bl pa_nil))))) (pss_cons (ps_set (i := 3) sc__law_things_right.nd rfl (Or.inl rfl) (pe_lst (pa_cons (pe_lc (own := [("_law_own", 5)]) rfl sc__law_things_right.nd (pi_seq (pv 1)) (blkOk_by (N := ["_law_net_here", "_law_fine", "_law_odd", "_law_got", "_law_soft", "_law_own"]) (sc := (defScope st__law_things_right)) (own := [("_law_own", 5)]) (by decide +kernel)) (fun _ _ _ _ _ => (pg_name (i := 5) sc__law_things_right.nd rfl (Or.inl rfl))) (fun _ _ _ _ _ => pts_nil) (fun _ _ _ _ _ => (pe_call G_is_edit (hr.mono (by decide)) (by rfl) e_is_edit F_is_edit.kp B_is_edit .nil pass0 (pa_cons (pv 5) pa_nil)))) (pa_cons (pe_lc (own := [("_law_own", 5)]) rfl sc__law_things_right.nd (pi_seq (pv 2)) (blkOk_by (N := ["_law_net_here", "_law_fine", "_law_odd", "_law_got", "_law_soft", "_law_own"]) (sc := (defScope st__law_things_right)) (own := [("_law_own", 5)]) (by decide +kernel)) (fun _ _ _ _ _ => (pg_name (i := 5) sc__law_things_right.nd rfl (Or.inl rfl))) (fun _ _ _ _ _ => pts_nil) (fun _ _ _ _ _ => (pe_call G_is_edit (hr.mono (by decide)) (by rfl) e_is_edit F_is_edit.kp B_is_edit .nil pass0 (pa_cons (pv 5) pa_nil)))) (pa_cons (pe_callKW G_is_edit (hr.mono (by decide)) (by rfl) e_is_edit F_is_edit.kp (kb_of (ps := ["thing"]) (ks := ["thing"]) (pm := [0]) F_is_edit (by simp) fun _ _ _ _ _ _ ws hl => match ws, hl with | [_], _ => rfl) pass0 (pk_cons (pe_tupN (pa_cons pe_str (pa_cons pe_str pa_nil))) pk_nil)) pa_nil))))) (pss_cons (ps_set (i := 4) sc__law_things_right.nd rfl (Or.inl rfl) (pe_call G__law_lists (hr.mono (by decide)) (by rfl) e__law_lists F__law_lists.kp B__law_lists .nil pass0 (pa_cons (pe_lst (pa_cons (pv 0) (pa_cons (pe_lst (pa_cons (pe_tupN (pa_cons pe_str (pa_cons pe_str pa_nil))) (pa_cons (pe_tupN (pa_cons pe_str (pa_cons pe_str (pa_cons pe_str pa_nil)))) pa_nil))) pa_nil))) pa_nil))) (pss_cons (ps_set (i := 3) sc__law_things_right.nd rfl (Or.inl rfl) (pe_op op_cat (pv 3) (pe_lst (pa_cons (pe_cmpR (op_eqD hr.units) (pe_callKW G_edited (hr.mono (by decide)) (by rfl) e_edited F_edited.kp (kb_of (ps := ["web", "edits"]) (ks := ["edits", "web"]) (pm := [1, 0]) F_edited (by simp) fun _ _ _ _ _ _ ws hl => match ws, hl with | [_, _], _ => rfl) (passes_call (takes_of rfl rfl rfl rfl) fun _ _ _ _ h => h) (pk_cons (pe_ix ix_seq (pv 4) pe_int (fun _ _ => rfl)) (pk_cons (pe_ix ix_seq (pv 4) pe_int (fun _ _ => rfl)) pk_nil))) (pe_call G_edited (hr.mono (by decide)) (by rfl) e_edited F_edited.kp B_edited .nil (passes_call (takes_of rfl rfl rfl rfl) fun _ _ _ _ h => h) (pa_cons (pv 0) (pa_cons (pe_tupN (pa_cons (pe_tupN (pa_cons pe_str (pa_cons pe_str pa_nil))) (pa_cons (pe_tupN (pa_cons pe_str (pa_cons pe_str (pa_cons pe_str pa_nil)))) pa_nil))) pa_nil))) (nomark _)) pa_nil)))) (pss_cons (ps_expr (pe_bm PySem.F.plainAttrs_list PySem.F.slot_list_append PySem.F.type_list_append mt_append (pv 3) (pa_cons (pe_callKW G_first_refused (hr.mono (by decide)) (by rfl) e_first_refused F_first_refused.kp (kb_of (ps := ["web", "edits"]) (ks := ["edits", "web"]) (pm := [1, 0]) F_first_refused (by simp) fun _ _ _ _ _ _ ws hl => match ws, hl with | [_, _], _ => rfl) pass0 (pk_cons (pe_tupN (pa_cons (pe_lst (pa_cons pe_str (pa_cons pe_str pa_nil))) (pa_cons (pe_tupN (pa_cons pe_str (pa_cons pe_str pa_nil))) pa_nil))) (pk_cons (pv 0) pk_nil))) pa_nil))) (pss_one (ps_ret (pe_call G__law_same (hr.mono (by decide)) (by rfl) e__law_same F__law_same.kp B__law_same .nil pass0 (pa_cons (pv 3) (pa_cons (pe_lst (pa_cons (pe_op op_rep (pe_lst (pa_cons pe_bl pa_nil)) pe_int) (pa_cons (pe_op op_rep (pe_lst (pa_cons pe_bl pa_nil)) pe_int) (pa_cons pe_bl (pa_cons pe_bl (pa_cons pe_int pa_nil)))))) pa_nil))))))))))))))),
    (ss_seq (ss_asg (se_lstC (sa_cons (se_tup (sa_cons se_str (sa_cons se_str (sa_cons se_str (sa_cons se_str sa_nil))))) (sa_cons (se_tup (sa_cons se_str (sa_cons se_str sa_nil))) (sa_cons (se_tup (sa_cons se_str (sa_cons se_str (sa_cons se_str (sa_cons se_str sa_nil))))) (sa_cons (se_tup (sa_cons se_str (sa_cons se_str (sa_cons se_str sa_nil)))) sa_nil))))) (sg_name 1)) (ss_seq (ss_drop (se_mut sm_append (se_var 1) (se_tup (sa_cons se_str (sa_cons se_str (sa_cons se_str (sa_cons se_str sa_nil))))))) (ss_seq (ss_asg (se_lst (sa_cons (se_tup (sa_cons se_str (sa_cons se_str (sa_cons se_str sa_nil)))) (sa_cons (se_tup (sa_cons se_str sa_nil)) (sa_cons (se_tup (sa_cons se_str (sa_cons se_str (sa_cons se_str sa_nil)))) (sa_cons (se_tup (sa_cons se_str (sa_cons se_str (sa_cons se_str sa_nil)))) (sa_cons (se_tup (sa_cons se_str (sa_cons se_str sa_nil))) (sa_cons (se_tup (sa_cons se_str (sa_cons se_str (sa_cons se_str (sa_cons se_str sa_nil))))) sa_nil))))))) (sg_name 2)) (ss_seq (ss_asg (se_op srAddE (se_var 2) (se_lst (sa_cons (se_tup sa_nil) (sa_cons (se_lst (sa_cons se_str (sa_cons se_str sa_nil))) (sa_cons (se_tup (sa_cons se_str (sa_cons se_str sa_nil))) (sa_cons (se_tup (sa_cons se_str (sa_cons se_str sa_nil))) (sa_cons (se_tup (sa_cons se_str (sa_cons se_str sa_nil))) (sa_cons (se_tup (sa_cons se_str (sa_cons se_str sa_nil))) (sa_cons se_non (sa_cons se_int (sa_cons se_str sa_nil))))))))))) (sg_name 2)) (ss_seq (ss_asg (se_op srAddE (se_var 2) (se_lst (sa_cons (se_tup (sa_cons se_str (sa_cons se_int sa_nil))) (sa_cons (se_tup (sa_cons (se_lst (sa_cons se_str sa_nil)) (sa_cons se_str sa_nil))) (sa_cons (se_tup (sa_cons se_str (sa_cons se_str (sa_cons (se_lst (sa_cons se_str sa_nil)) (sa_cons se_str sa_nil))))) (sa_cons (se_tup (sa_cons (se_tup (sa_cons se_str (sa_cons se_str sa_nil))) sa_nil)) (sa_cons (se_tup (sa_cons se_non (sa_cons se_str sa_nil))) (sa_cons (se_tup (sa_cons se_str (sa_cons se_non sa_nil))) sa_nil)))))))) (sg_name 2)) (ss_seq (ss_asg (se_op srAddE (se_var 2) (se_lst (sa_cons (se_tup (sa_cons se_str (sa_cons se_str sa_nil))) (sa_cons se_bl sa_nil)))) (sg_name 2)) (ss_frz 1 (ss_seq (ss_asg (se_lstC (sa_cons (se_lc (vs := [5]) (si_seq (se_var 1)) (sg_name 5) (by decide) ST.yes (se_call0 (sa_cons (se_var 5) sa_nil))) (sa_cons (se_lc (vs := [5]) (si_seq (se_var 2)) (sg_name 5) (by decide) ST.yes (se_call0 (sa_cons (se_var 5) sa_nil))) (sa_cons (se_callKW0 (sa_cons (se_tup (sa_cons se_str (sa_cons se_str sa_nil))) sa_nil)) sa_nil)))) (sg_name 3)) (ss_seq (ss_asg (se_call0 (sa_cons (se_lst (sa_cons (se_var 0) (sa_cons (se_lst (sa_cons (se_tup (sa_cons se_str (sa_cons se_str sa_nil))) (sa_cons (se_tup (sa_cons se_str (sa_cons se_str (sa_cons se_str sa_nil)))) sa_nil))) sa_nil))) sa_nil)) (sg_name 4)) (ss_seq (ss_asg (se_op sr_catC (se_var 3) (se_lst (sa_cons (se_op sr_eqD (se_callKW (sa_cons (se_op sr_ix (se_var 4) se_int) (sa_cons (se_op sr_ix (se_var 4) se_int) sa_nil))) (se_call (sa_cons (se_var 0) (sa_cons (se_tup (sa_cons (se_tup (sa_cons se_str (sa_cons se_str sa_nil))) (sa_cons (se_tup (sa_cons se_str (sa_cons se_str (sa_cons se_str sa_nil)))) sa_nil))) sa_nil)))) sa_nil))) (sg_name 3)) (ss_seq (ss_drop (se_mut sm_append (se_var 3) (se_callKW0 (sa_cons (se_tup (sa_cons (se_lst (sa_cons se_str (sa_cons se_str sa_nil))) (sa_cons (se_tup (sa_cons se_str (sa_cons se_str sa_nil))) sa_nil))) (sa_cons (se_var 0) sa_nil))))) (ss_frz 3 (ss_ret (se_call0 (sa_cons (se_var 3) (sa_cons (se_lst (sa_cons (se_op sr_rep (se_lst (sa_cons se_bl sa_nil)) se_int) (sa_cons (se_op sr_rep (se_lst (sa_cons se_bl sa_nil)) se_int) (sa_cons se_bl (sa_cons se_bl (sa_cons se_int sa_nil)))))) sa_nil))))))))))))))))⟩
abbrev st__law_by_hand_right : Stmt := topS 44
theorem sc__law_by_hand_right : FnScope ["_law_bands", "_law_net_here", "_law_bare", "_law_late", "_law_tags", "_law_got", "_law_due", "_law_row_so", "_law_cases", "_law_k", "_law_own"] [] (defScope st__law_by_hand_right) := ⟨rfl, rfl, rfl, by decide +kernel, rfl, by decide +kernel, by decide +kernel⟩
def b__law_by_hand_right : AEnv → ASto → Out := (aSeq (aAsg (aCall0 m__law_port aNil) (aGTup 4 (aGCons (aNm 0) (aGCons (aNm 1) (aGCons (aNm 2) (aGCons (aNm 3) aGNil)))))) (aSeq (aAsg (aOp aIx (aVar 1) (aC (.int 0))) (aNm 4)) (aSeq (aAsg (aLstC (aCons (aCall m_edited (aCons (aVar 1) (aCons (aTup (aCons (aTup (aCons (aC (.str "out")) (aCons (aC (.str "tide")) aNil))) aNil)) aNil))) (aCons (aCall m_edited (aCons (aVar 2) (aCons (aTup (aCons (aTup (aCons (aC (.str "put")) (aCons (aC (.str "tide")) (aCons (aC (.str "dock")) (aCons (aC (.str "go")) aNil))))) aNil)) aNil))) aNil))) (aNm 5)) (aSeq (aAsg (aOp aCatC (aVar 5) (aLst (aCons (aCall m_edited (aCons (aVar 1) (aCons (aTup (aCons (aTup (aCons (aC (.str "move")) (aCons (aC (.str "tide")) (aCons (aC (.str "dock")) (aCons (aC (.str "go")) aNil))))) aNil)) aNil))) (aCons (aCall m_edited (aCons (aVar 1) (aCons (aTup (aCons (aTup (aCons (aC (.str "call")) (aCons (aC (.str "sail")) (aCons (aC (.str "a")) aNil)))) aNil)) aNil))) (aCons (aCall m_edited (aCons (aVar 1) (aCons (aTup aNil) aNil))) aNil))))) (aNm 5)) (aSeq (aAsg (aLstC (aCons (aVar 2) (aCons (aVar 3) (aCons (aVar 3) (aCons (aTup (aCons (aVar 4) (aCons (aTup (aCons (aTup (aCons (aC (.str "a")) (aCons (aC (.str "sea")) (aCons (aC (.str "dock")) aNil)))) (aCons (aOp aIx (aOp aIx (aVar 1) (aC (.int 1))) (aC (.int 0))) (aCons (aOp aIx (aOp aIx (aVar 1) (aC (.int 1))) (aC (.int 2))) aNil)))) aNil))) (aCons (aVar 1) aNil)))))) (aNm 6)) (aSeq (aAsg (aTup (aCons (aTup (aCons (aC (.str "b")) (aCons (aC (.str "a")) (aCons (aC (.str "c")) aNil)))) (aCons (aTup (aCons (aTup (aCons (aC (.str "x")) (aCons (aC (.str "b")) (aCons (aC (.str "a")) aNil)))) aNil)) aNil))) (aNm 7)) (aSeq (aAsg (aTup (aCons (aCall aTupOf (aCons (aCall aSortQ (aCons (aOp aIx (aVar 7) (aC (.int 0))) aNil)) aNil)) (aCons (aOp aIx (aVar 7) (aC (.int 1))) aNil))) (aNm 7)) (aSeq (aAsg (aOp aCatC (aVar 5) (aLst (aCons (aCall m_edited (aCons (aVar 7) (aCons (aTup (aCons (aTup (aCons (aC (.str "move")) (aCons (aC (.str "x")) (aCons (aC (.str "a")) (aCons (aC (.str "b")) aNil))))) aNil)) aNil))) (aCons (aCall m_edited (aCons (aVar 7) (aCons (aTup (aCons (aTup (aCons (aC (.str "out")) (aCons (aC (.str "x")) aNil))) (aCons (aTup (aCons (aC (.str "put")) (aCons (aC (.str "x")) (aCons (aC (.str "a")) (aCons (aC (.str "c")) aNil))))) aNil))) aNil))) aNil)))) (aNm 5)) (aSeq (aDrop (aMut gAppend (aVar 5) (aCall m_edited (aCons (aVar 7) (aCons (aTup (aCons (aTup (aCons (aC (.str "call")) (aCons (aC (.str "x")) (aCons (aC (.str "y")) aNil)))) (aCons (aTup (aCons (aC (.str "put")) (aCons (aC (.str "x")) (aCons (aC (.str "a")) (aCons (aC (.str "c")) aNil))))) (aCons (aTup (aCons (aC (.str "call")) (aCons (aC (.str "y")) (aCons (aC (.str "z")) aNil)))) aNil)))) aNil))))) (aSeq (aAsg (aOp aCatC (aVar 6) (aLst (aCons (aTup (aCons (aOp aIx (aVar 7) (aC (.int 0))) (aCons (aTup (aCons (aTup (aCons (aC (.str "x")) (aCons (aC (.str "a")) (aCons (aC (.str "b")) aNil)))) aNil)) aNil))) (aCons (aTup (aCons (aOp aIx (aVar 7) (aC (.int 0))) (aCons (aTup (aCons (aTup (aCons (aC (.str "x")) (aCons (aC (.str "a")) (aCons (aC (.str "c")) aNil)))) aNil)) aNil))) aNil)))) (aNm 6)) (aSeq (aDrop (aMut gAppend (aVar 6) (aTup (aCons (aOp aIx (aVar 7) (aC (.int 0))) (aCons (aTup (aCons (aTup (aCons (aC (.str "x")) (aCons (aC (.str "a")) (aCons (aC (.str "c")) aNil)))) (aCons (aTup (aCons (aC (.str "z")) (aCons (aC (.str "b")) (aCons (aC (.str "a")) aNil)))) aNil))) aNil))))) (aFrz 6 (aFrz 5 (aSeq (aIf (aNot (aTest (aCall0 m__law_same (aCons (aVar 5) (aCons (aVar 6) aNil))))) (aRet (aC (.bool false))) aNext) (aSeq (aAsg (aLstC (aCons (aTup (aCons (aTup (aCons (aC (.str "put")) (aCons (aC (.str "tide")) (aCons (aC (.str "zz")) (aCons (aC (.str "dock")) aNil))))) aNil)) (aCons (aTup (aCons (aTup (aCons (aC (.str "put")) (aCons (aC (.str "x")) (aCons (aC (.str "zz")) (aCons (aC (.str "yy")) aNil))))) aNil)) (aCons (aTup (aCons (aTup (aCons (aC (.str "put")) (aCons (aC (.str "x")) (aCons (aC (.str "dock")) (aCons (aC (.str "yy")) aNil))))) aNil)) aNil)))) (aNm 8)) (aSeq (aAsg (aOp aCatC (aVar 8) (aLst (aCons (aTup (aCons (aTup (aCons (aC (.str "put")) (aCons (aC (.str "x")) (aCons (aC (.str "go")) (aCons (aC (.str "sea")) aNil))))) aNil)) (aCons (aTup (aCons (aTup (aCons (aC (.str "put")) (aCons (aC (.str "x")) (aCons (aC (.str "dock")) (aCons (aC (.str "dock")) aNil))))) aNil)) (aCons (aTup (aCons (aTup (aCons (aC (.str "out")) (aCons (aC (.str "x")) aNil))) aNil)) aNil))))) (aNm 8)) (aSeq (aAsg (aOp aCatC (aVar 8) (aLst (aCons (aTup (aCons (aTup (aCons (aC (.str "call")) (aCons (aC (.str "x")) (aCons (aC (.str "y")) aNil)))) aNil)) (aCons (aTup (aCons (aTup (aCons (aC (.str "call")) (aCons (aC (.str "sail")) (aCons (aC (.str "sail")) aNil)))) aNil)) (aCons (aTup (aCons (aTup (aCons (aC (.str "call")) (aCons (aC (.str "sail")) (aCons (aC (.str "tide")) aNil)))) aNil)) aNil))))) (aNm 8)) (aSeq (aAsg (aOp aCatC (aVar 8) (aLst (aCons (aTup (aCons (aTup (aCons (aC (.str "move")) (aCons (aC (.str "x")) (aCons (aC (.str "zz")) (aCons (aC (.str "yy")) aNil))))) aNil)) (aCons (aTup (aCons (aTup (aCons (aC (.str "move")) (aCons (aC (.str "sail")) (aCons (aC (.str "zz")) (aCons (aC (.str "yy")) aNil))))) aNil)) (aCons (aTup (aCons (aTup (aCons (aC (.str "move")) (aCons (aC (.str "crane")) (aCons (aC (.str "go")) (aCons (aC (.str "sea")) aNil))))) aNil)) aNil))))) (aNm 8)) (aSeq (aAsg (aOp aCatC (aVar 8) (aLst (aCons (aTup (aCons (aTup (aCons (aC (.str "move")) (aCons (aC (.str "crane")) (aCons (aC (.str "go")) (aCons (aC (.str "dock")) aNil))))) aNil)) (aCons (aTup (aCons (aTup (aCons (aC (.str "out")) (aCons (aC (.str "tide")) aNil))) (aCons (aTup (aCons (aC (.str "out")) (aCons (aC (.str "tide")) aNil))) aNil))) aNil)))) (aNm 8)) (aSeq (aDrop (aMut gAppend (aVar 8) (aTup (aCons (aTup (aCons (aC (.str "out")) (aCons (aC (.str "tide")) aNil))) (aCons (aTup (aCons (aC (.str "call")) (aCons (aC (.str "sail")) (aCons (aC (.str "tide")) aNil)))) (aCons (aTup (aCons (aC (.str "out")) (aCons (aC (.str "sail")) aNil))) aNil)))))) (aFrz 8 (aSeq (aIf (aNot (aTest (aCall aAll (aCons (aLc (iSeqA (aVar 8)) (aNm 10) aYes (aCall0 m__law_case_right (aCons (aVar 1) (aCons (aVar 10) aNil))) [10]) aNil)))) (aRet (aC (.bool false))) aNext) (aSeq (aAsg (aLc (iSeqA (aTup (aCons (aC (.int 0)) (aCons (aC (.int 1)) (aCons (aC (.int 2)) (aCons (aC (.int 3)) (aCons (aC (.int 4)) (aCons (aC (.int 8)) (aCons (aC (.int 9)) (aCons (aC (.int 11)) aNil)))))))))) (aNm 9) aYes (aCall0 m__law_heard (aCons (aVar 1) (aCons (aOp aIx (aVar 8) (aVar 9)) aNil))) [9]) (aNm 5)) (aSeq (aAsg (aOp aAddE (aVar 5) (aLc (iSeqA (aSl (aVar 8) (aPart (aNeg (aC (.int 2)))) aNoPart)) (aNm 10) aYes (aCall0 m_first_refused (aCons (aVar 1) (aCons (aVar 10) aNil))) [10])) (aNm 5)) (aSeq (aAsg (aLst (aCons (aLst (aCons (aC (.str "twice")) (aCons (aC (.str "tide")) (aCons (aC (.bool true)) aNil)))) (aCons (aLst (aCons (aC (.str "event")) (aCons (aC (.str "zz")) (aCons (aC (.bool true)) aNil)))) (aCons (aLst (aCons (aC (.str "event")) (aCons (aC (.str "yy")) (aCons (aC (.bool true)) aNil)))) (aCons (aLst (aCons (aC (.str "ring")) (aCons (aC .none) (aCons (aC (.bool true)) aNil)))) aNil))))) (aNm 6)) (aSeq (aAsg (aOp aAddE (aVar 6) (aLst (aCons (aLst (aCons (aC (.str "ring")) (aCons (aC .none) (aCons (aC (.bool true)) aNil)))) (aCons (aLst (aCons (aC (.str "twice")) (aCons (aC (.str "tide")) (aCons (aC (.bool true)) aNil)))) (aCons (aLst (aCons (aC (.str "arc")) (aCons (aC (.str "x")) (aCons (aC (.bool true)) aNil)))) (aCons (aLst (aCons (aC (.str "ring")) (aCons (aC .none) (aCons (aC (.bool true)) aNil)))) (aCons (aC (.int 1)) (aCons (aC (.int 2)) aNil)))))))) (aNm 6)) (aRet (aAndV (aCall0 m__law_same (aCons (aVar 5) (aCons (aVar 6) aNil))) (aCall m__law_things_right (aCons (aVar 1) aNil))))))))))))))))))))))))))))))
def m__law_by_hand_right : List Sl → ASto → Res Sl := runD 11 0 b__law_by_hand_right
theorem ok__law_by_hand_right {P : Program} {w : World} {K : PySem.W.Frag} {mg : Str → Option Value} {base : Heap} (T : Tx w K mg) {f : Addr} {fd : FuncData} (F : Fun K "_law_by_hand_right" "_law_by_hand_right" st__law_by_hand_right f fd) : FnOk P w K mg base (L2.CX P w) 18 f fd [] (spF P w K mg m__law_by_hand_right) := by
  obtain ⟨f__law_port, fd__law_port, e__law_port, F__law_port⟩ := T.h__law_port
  have G__law_port := ok__law_port (P := P) (w := w) (base := base) T F__law_port
  have B__law_port := F__law_port.binds (ps := []) fun _ _ _ _ _ _ us hl => match us, hl with | [], _ => rfl
  obtain ⟨f_edited, fd_edited, e_edited, F_edited⟩ := T.h_edited
  have G_edited := ok_edited (P := P) (w := w) (base := base) T F_edited
  have B_edited := F_edited.binds (ps := ["web", "edits"]) fun _ _ _ _ _ _ us hl => match us, hl with | [_, _], _ => rfl
  obtain ⟨f__law_same, fd__law_same, e__law_same, F__law_same⟩ := T.h__law_same
  have G__law_same := ok__law_same (P := P) (w := w) (base := base) T F__law_same
  have B__law_same := F__law_same.binds (ps := ["_law_got", "_law_due"]) fun _ _ _ _ _ _ us hl => match us, hl with | [_, _], _ => rfl
  obtain ⟨f__law_case_right, fd__law_case_right, e__law_case_right, F__law_case_right⟩ := T.h__law_case_right
  have G__law_case_right := ok__law_case_right (P := P) (w := w) (base := base) T F__law_case_right
  have B__law_case_right := F__law_case_right.binds (ps := ["_law_net_here", "_law_deeds_here"]) fun _ _ _ _ _ _ us hl => match us, hl with | [_, _], _ => rfl
  obtain ⟨f__law_heard, fd__law_heard, e__law_heard, F__law_heard⟩ := T.h__law_heard
  have G__law_heard := ok__law_heard (P := P) (w := w) (base := base) T F__law_heard
  have B__law_heard := F__law_heard.binds (ps := ["_law_net_here", "_law_deeds_here"]) fun _ _ _ _ _ _ us hl => match us, hl with | [_, _], _ => rfl
  obtain ⟨f_first_refused, fd_first_refused, e_first_refused, F_first_refused⟩ := T.h_first_refused
  have G_first_refused := ok_first_refused (P := P) (w := w) (base := base) T F_first_refused
  have B_first_refused := F_first_refused.binds (ps := ["web", "edits"]) fun _ _ _ _ _ _ us hl => match us, hl with | [_, _], _ => rfl
  obtain ⟨f__law_things_right, fd__law_things_right, e__law_things_right, F__law_things_right⟩ := T.h__law_things_right
  have G__law_things_right := ok__law_things_right (P := P) (w := w) (base := base) T F__law_things_right
  have B__law_things_right := F__law_things_right.binds (ps := ["_law_net_here"]) fun _ _ _ _ _ _ us hl => match us, hl with | [_], _ => rfl
  exact fn_x F sc__law_by_hand_right b__law_by_hand_right fun cdv A outer s H E hr => ⟨_,
    (pss_cons (ps_asg (pe_call0 G__law_port (hr.mono (by decide)) (by rfl) e__law_port F__law_port.kp B__law_port .nil pass0) (pg_tup rfl (pgs_cons (pg_name (i := 0) sc__law_by_hand_right.nd rfl (Or.inl rfl)) (pgs_cons (pg_name (i := 1) sc__law_by_hand_right.nd rfl (Or.inr rfl)) (pgs_cons (pg_name (i := 2) sc__law_by_hand_right.nd rfl (Or.inl rfl)) (pgs_cons (pg_name (i := 3) sc__law_by_hand_right.nd rfl (Or.inl rfl)) pgs_nil)))))) (pss_cons (ps_set (i := 4) sc__law_by_hand_right.nd rfl (Or.inl rfl) (pe_ix ix_seq (pv 1) pe_int (fun _ _ => rfl))) (pss_cons (ps_set (i := 5) sc__law_by_hand_right.nd rfl (Or.inl rfl) (pe_lst (pa_cons (pe_call G_edited (hr.mono (by decide)) (by rfl) e_edited F_edited.kp B_edited .nil (passes_call (takes_of rfl rfl rfl rfl) fun _ _ _ _ h => h) (pa_cons (pv 1) (pa_cons (pe_tupN (pa_cons (pe_tupN (pa_cons pe_str (pa_cons pe_str pa_nil))) pa_nil)) pa_nil))) (pa_cons (pe_call G_edited (hr.mono (by decide)) (by rfl) e_edited F_edited.kp B_edited .nil (passes_call (takes_of rfl rfl rfl rfl) fun _ _ _ _ h => h) (pa_cons (pv 2) (pa_cons (pe_tupN (pa_cons (pe_tupN (pa_cons pe_str (pa_cons pe_str (pa_cons pe_str (pa_cons pe_str pa_nil))))) pa_nil)) pa_nil))) pa_nil)))) (pss_cons (ps_set (i := 5) sc__law_by_hand_right.nd rfl (Or.inl rfl) (pe_op op_cat (pv 5) (pe_lst (pa_cons (pe_call G_edited (hr.mono (by decide)) (by rfl) e_edited F_edited.kp B_edited .nil (passes_call (takes_of rfl rfl rfl rfl) fun _ _ _ _ h => h) (pa_cons (pv 1) (pa_cons (pe_tupN (pa_cons (pe_tupN (pa_cons pe_str (pa_cons pe_str (pa_cons pe_str (pa_cons pe_str pa_nil))))) pa_nil)) pa_nil))) (pa_cons (pe_call G_edited (hr.mono (by decide)) (by rfl) e_edited F_edited.kp B_edited .nil (passes_call (takes_of rfl rfl rfl rfl) fun _ _ _ _ h => h) (pa_cons (pv 1) (pa_cons (pe_tupN (pa_cons (pe_tupN (pa_cons pe_str (pa_cons pe_str (pa_cons pe_str pa_nil)))) pa_nil)) pa_nil))) (pa_cons (pe_call G_edited (hr.mono (by decide)) (by rfl) e_edited F_edited.kp B_edited .nil (passes_call (takes_of rfl rfl rfl rfl) fun _ _ _ _ h => h) (pa_cons (pv 1) (pa_cons (pe_tupN pa_nil) pa_nil))) pa_nil)))))) (pss_cons (ps_set (i := 6) sc__law_by_hand_right.nd rfl (Or.inl rfl) (pe_lst (pa_cons (pv 2) (pa_cons (pv 3) (pa_cons (pv 3) (pa_cons (pe_tupN (pa_cons (pv 4) (pa_cons (pe_tupN (pa_cons (pe_tupN (pa_cons pe_str (pa_cons pe_str (pa_cons pe_str pa_nil)))) (pa_cons (pe_ix ix_seq (pe_ix ix_seq (pv 1) pe_int (fun _ _ => rfl)) pe_int (fun _ _ => rfl)) (pa_cons (pe_ix ix_seq (pe_ix ix_seq (pv 1) pe_int (fun _ _ => rfl)) pe_int (fun _ _ => rfl)) pa_nil)))) pa_nil))) (pa_cons (pv 1) pa_nil))))))) (pss_cons (ps_set (i := 7) sc__law_by_hand_right.nd rfl (Or.inl rfl) (pe_tupN (pa_cons (pe_tupN (pa_cons pe_str (pa_cons pe_str (pa_cons pe_str pa_nil)))) (pa_cons (pe_tupN (pa_cons (pe_tupN (pa_cons pe_str (pa_cons pe_str (pa_cons pe_str pa_nil)))) pa_nil)) pa_nil)))) (pss_cons (ps_set (i := 7) sc__law_by_hand_right.nd rfl (Or.inl rfl) (pe_tupN (pa_cons (pe_callTy call_tupN (by rfl) T.b_tuple (by decide +kernel) (pa_cons (pe_callB (crSortQ (hu65 hr)) (by rfl) T.b_sorted (by decide +kernel) (pa_cons (pe_ix ix_seq (pv 7) pe_int (fun _ _ => rfl)) pa_nil)) pa_nil)) (pa_cons (pe_ix ix_seq (pv 7) pe_int (fun _ _ => rfl)) pa_nil)))) (pss_cons (ps_set (i := 5) sc__law_by_hand_right.nd rfl (Or.inl rfl) (pe_op op_cat (pv 5) (pe_lst (pa_cons (pe_call G_edited (hr.mono (by decide)) (by rfl) e_edited F_edited.kp B_edited .nil (passes_call (takes_of rfl rfl rfl rfl) fun _ _ _ _ h => h) (pa_cons (pv 7) (pa_cons (pe_tupN (pa_cons (pe_tupN (pa_cons pe_str (pa_cons pe_str (pa_cons pe_str (pa_cons pe_str pa_nil))))) pa_nil)) pa_nil))) (pa_cons (pe_call G_edited (hr.mono (by decide)) (by rfl) e_edited F_edited.kp B_edited .nil (passes_call (takes_of rfl rfl rfl rfl) fun _ _ _ _ h => h) (pa_cons (pv 7) (pa_cons (pe_tupN (pa_cons (pe_tupN (pa_cons pe_str (pa_cons pe_str pa_nil))) (pa_cons (pe_tupN (pa_cons pe_str (pa_cons pe_str (pa_cons pe_str (pa_cons pe_str pa_nil))))) pa_nil))) pa_nil))) pa_nil))))) (pss_cons (ps_expr (pe_bm PySem.F.plainAttrs_list PySem.F.slot_list_append PySem.F.type_list_append mt_append (pv 5) (pa_cons (pe_call G_edited (hr.mono (by decide)) (by rfl) e_edited F_edited.kp B_edited .nil (passes_call (takes_of rfl rfl rfl rfl) fun _ _ _ _ h => h) (pa_cons (pv 7) (pa_cons (pe_tupN (pa_cons (pe_tupN (pa_cons pe_str (pa_cons pe_str (pa_cons pe_str pa_nil)))) (pa_cons (pe_tupN (pa_cons pe_str (pa_cons pe_str (pa_cons pe_str (pa_cons pe_str pa_nil))))) (pa_cons (pe_tupN (pa_cons pe_str (pa_cons pe_str (pa_cons pe_str pa_nil)))) pa_nil)))) pa_nil))) pa_nil))) (pss_cons (ps_set (i := 6) sc__law_by_hand_right.nd rfl (Or.inl rfl) (pe_op op_cat (pv 6) (pe_lst (pa_cons (pe_tupN (pa_cons (pe_ix ix_seq (pv 7) pe_int (fun _ _ => rfl)) (pa_cons (pe_tupN (pa_cons (pe_tupN (pa_cons pe_str (pa_cons pe_str (pa_cons pe_str pa_nil)))) pa_nil)) pa_nil))) (pa_cons (pe_tupN (pa_cons (pe_ix ix_seq (pv 7) pe_int (fun _ _ => rfl)) (pa_cons (pe_tupN (pa_cons (pe_tupN (pa_cons pe_str (pa_cons pe_str (pa_cons pe_str pa_nil)))) pa_nil)) pa_nil))) pa_nil))))) (pss_cons (ps_expr (pe_bm PySem.F.plainAttrs_list PySem.F.slot_list_append PySem.F.type_list_append mt_append (pv 6) (pa_cons (pe_tupN (pa_cons (pe_ix ix_seq (pv 7) pe_int (fun _ _ => rfl)) (pa_cons (pe_tupN (pa_cons (pe_tupN (pa_cons pe_str (pa_cons pe_str (pa_cons pe_str pa_nil)))) (pa_cons (pe_tupN (pa_cons pe_str (pa_cons pe_str (pa_cons pe_str pa_nil)))) pa_nil))) pa_nil))) pa_nil))) (pss_cons (ps_if (pt_not (pt_val (pe_call G__law_same (hr.mono (by decide)) (by rfl) e__law_same F__law_same.kp B__law_same .nil pass0 (pa_cons (pv 5) (pa_cons (pv 6) pa_nil))))) (pss_one (ps_ret pe_bl)) pss_nil) (pss_cons (ps_set (i := 8) sc__law_by_hand_right.nd rfl (Or.inr rfl) (pe_lst (pa_cons (pe_tupN (pa_cons (pe_tupN (pa_cons pe_str (pa_cons pe_str (pa_cons pe_str (pa_cons pe_str pa_nil))))) pa_nil)) (pa_cons (pe_tupN (pa_cons (pe_tupN (pa_cons pe_str (pa_cons pe_str (pa_cons pe_str (pa_cons pe_str pa_nil))))) pa_nil)) (pa_cons (pe_tupN (pa_cons (pe_tupN (pa_cons pe_str (pa_cons pe_str (pa_cons pe_str (pa_cons pe_str pa_nil))))) pa_nil)) pa_nil))))) (pss_cons (ps_set (i := 8) sc__law_by_hand_right.nd rfl (Or.inr rfl) (pe_op op_cat (pv 8) (pe_lst (pa_cons (pe_tupN (pa_cons (pe_tupN (pa_cons pe_str (pa_cons pe_str (pa_cons pe_str (pa_cons pe_str pa_nil))))) pa_nil)) (pa_cons (pe_tupN (pa_cons (pe_tupN (pa_cons pe_str (pa_cons pe_str (pa_cons pe_str (pa_cons pe_str pa_nil))))) pa_nil)) (pa_cons (pe_tupN (pa_cons (pe_tupN (pa_cons pe_str (pa_cons pe_str pa_nil))) pa_nil)) pa_nil)))))) (pss_cons (ps_set (i := 8) sc__law_by_hand_right.nd rfl (Or.inr rfl) (pe_op op_cat (pv 8) (pe_lst (pa_cons (pe_tupN (pa_cons (pe_tupN (pa_cons pe_str (pa_cons pe_str (pa_cons pe_str pa_nil)))) pa_nil)) (pa_cons (pe_tupN (pa_cons (pe_tupN (pa_cons pe_str (pa_cons pe_str (pa_cons pe_str pa_nil)))) pa_nil)) (pa_cons (pe_tupN (pa_cons (pe_tupN (pa_cons pe_str (pa_cons pe_str (pa_cons pe_str pa_nil)))) pa_nil)) pa_nil)))))) (pss_cons (ps_set (i := 8) sc__law_by_hand_right.nd rfl (Or.inr rfl) (pe_op op_cat (pv 8) (pe_lst (pa_cons (pe_tupN (pa_cons (pe_tupN (pa_cons pe_str (pa_cons pe_str (pa_cons pe_str (pa_cons pe_str pa_nil))))) pa_nil)) (pa_cons (pe_tupN (pa_cons (pe_tupN (pa_cons pe_str (pa_cons pe_str (pa_cons pe_str (pa_cons pe_str pa_nil))))) pa_nil)) (pa_cons (pe_tupN (pa_cons (pe_tupN (pa_cons pe_str (pa_cons pe_str (pa_cons pe_str (pa_cons pe_str pa_nil))))) pa_nil)) pa_nil)))))) (pss_cons (ps_set (i := 8) sc__law_by_hand_right.nd rfl (Or.inr rfl) (pe_op op_cat (pv 8) (pe_lst (pa_cons (pe_tupN (pa_cons (pe_tupN (pa_cons pe_str (pa_cons pe_str (pa_cons pe_str (pa_cons pe_str pa_nil))))) pa_nil)) (pa_cons (pe_tupN (pa_cons (pe_tupN (pa_cons pe_str (pa_cons pe_str pa_nil))) (pa_cons (pe_tupN (pa_cons pe_str (pa_cons pe_str pa_nil))) pa_nil))) pa_nil))))) (pss_cons (ps_expr (pe_bm PySem.F.plainAttrs_list PySem.F.slot_list_append PySem.F.type_list_append mt_append (pv 8) (pa_cons (pe_tupN (pa_cons (pe_tupN (pa_cons pe_str (pa_cons pe_str pa_nil))) (pa_cons (pe_tupN (pa_cons pe_str (pa_cons pe_str (pa_cons pe_str pa_nil)))) (pa_cons (pe_tupN (pa_cons pe_str (pa_cons pe_str pa_nil))) pa_nil)))) pa_nil))) (pss_cons (ps_if (pt_not (pt_val (pe_callB (cr_all rfl) (by rfl) T.b_all (by decide +kernel) (pa_cons (pe_lc (own := [("_law_own", 10)]) rfl sc__law_by_hand_right.nd (pi_seq (pv 8)) (blkOk_by (N := ["_law_bands", "_law_net_here", "_law_bare", "_law_late", "_law_tags", "_law_got", "_law_due", "_law_row_so", "_law_cases", "_law_k", "_law_own"]) (sc := (defScope st__law_by_hand_right)) (own := [("_law_own", 10)]) (by decide +kernel)) (fun _ _ _ _ _ => (pg_name (i := 10) sc__law_by_hand_right.nd rfl (Or.inl rfl))) (fun _ _ _ _ _ => pts_nil) (fun _ _ _ _ _ => (pe_call G__law_case_right (hr.mono (by decide)) (by rfl) e__law_case_right F__law_case_right.kp B__law_case_right .nil pass0 (pa_cons (pv 1) (pa_cons (pv 10) pa_nil))))) pa_nil)))) (pss_one (ps_ret pe_bl)) pss_nil) (pss_cons (ps_setLc (i := 5) (own := [("_law_k", 9)]) rfl sc__law_by_hand_right.nd rfl rfl (sw_true rfl rfl rfl (by decide +kernel)) (pi_seq (pe_tupN (pa_cons pe_int (pa_cons pe_int (pa_cons pe_int (pa_cons pe_int (pa_cons pe_int (pa_cons pe_int (pa_cons pe_int (pa_cons pe_int pa_nil)))))))))) (blkOk_by (N := ["_law_bands", "_law_net_here", "_law_bare", "_law_late", "_law_tags", "_law_got", "_law_due", "_law_row_so", "_law_cases", "_law_k", "_law_own"]) (sc := (defScope st__law_by_hand_right)) (own := [("_law_k", 9)]) (by decide +kernel)) (fun _ _ _ _ _ => (pg_name (i := 9) sc__law_by_hand_right.nd rfl (Or.inl rfl))) (fun _ _ _ _ _ => pts_nil) (fun _ _ _ _ _ => (pe_call G__law_heard (hr.mono (by decide)) (by rfl) e__law_heard F__law_heard.kp B__law_heard .nil pass0 (pa_cons (pv 1) (pa_cons (pe_ix ix_seq (pv 8) (pv 9) (fun _ _ => rfl)) pa_nil))))) (pss_cons (ps_set (i := 5) sc__law_by_hand_right.nd rfl (Or.inl rfl) (pe_op opAddE (pv 5) (pe_lc (own := [("_law_own", 10)]) rfl sc__law_by_hand_right.nd (pi_seq (pe_slice sl_seq (pv 8) (po_some (pe_un un_neg pe_int)) po_none)) (blkOk_by (N := ["_law_bands", "_law_net_here", "_law_bare", "_law_late", "_law_tags", "_law_got", "_law_due", "_law_row_so", "_law_cases", "_law_k", "_law_own"]) (sc := (defScope st__law_by_hand_right)) (own := [("_law_own", 10)]) (by decide +kernel)) (fun _ _ _ _ _ => (pg_name (i := 10) sc__law_by_hand_right.nd rfl (Or.inl rfl))) (fun _ _ _ _ _ => pts_nil) (fun _ _ _ _ _ => (pe_call G_first_refused (hr.mono (by decide)) (by rfl) e_first_refused F_first_refused.kp B_first_refused .nil pass0 (pa_cons (pv 1) (pa_cons (pv 10) pa_nil))))))) (pss_cons (ps_set (i := 6) sc__law_by_hand_right.nd rfl (Or.inl rfl) (pe_lst (pa_cons (pe_lst (pa_cons pe_str (pa_cons pe_str (pa_cons pe_bl pa_nil)))) (pa_cons (pe_lst (pa_cons pe_str (pa_cons pe_str (pa_cons pe_bl pa_nil)))) (pa_cons (pe_lst (pa_cons pe_str (pa_cons pe_str (pa_cons pe_bl pa_nil)))) (pa_cons (pe_lst (pa_cons pe_str (pa_cons pe_non (pa_cons pe_bl pa_nil)))) pa_nil)))))) (pss_cons (ps_set (i := 6) sc__law_by_hand_right.nd rfl (Or.inl rfl) (pe_op opAddE (pv 6) (pe_lst (pa_cons (pe_lst (pa_cons pe_str (pa_cons pe_non (pa_cons pe_bl pa_nil)))) (pa_cons (pe_lst (pa_cons pe_str (pa_cons pe_str (pa_cons pe_bl pa_nil)))) (pa_cons (pe_lst (pa_cons pe_str (pa_cons pe_str (pa_cons pe_bl pa_nil)))) (pa_cons (pe_lst (pa_cons pe_str (pa_cons pe_non (pa_cons pe_bl pa_nil)))) (pa_cons pe_int (pa_cons pe_int pa_nil))))))))) (pss_one (ps_ret (pe_and (pe_call G__law_same (hr.mono (by decide)) (by rfl) e__law_same F__law_same.kp B__law_same .nil pass0 (pa_cons (pv 5) (pa_cons (pv 6) pa_nil))) (pe_one (pe_call G__law_things_right (hr.mono (by decide)) (by rfl) e__law_things_right F__law_things_right.kp B__law_things_right .nil (passes_call (takes_of rfl rfl rfl rfl) fun _ _ _ _ h => h) (pa_cons (pv 1) pa_nil))))))))))))))))))))))))))))),
    (ss_seq (ss_asg (se_call0 sa_nil) (sg_tup (sgs_cons (sg_name 0) (sgs_cons (sg_name 1) (sgs_cons (sg_name 2) (sgs_cons (sg_name 3) sgs_nil)))))) (ss_seq (ss_asg (se_op sr_ix (se_var 1) se_int) (sg_name 4)) (ss_seq (ss_asg (se_lstC (sa_cons (se_call (sa_cons (se_var 1) (sa_cons (se_tup (sa_cons (se_tup (sa_cons se_str (sa_cons se_str sa_nil))) sa_nil)) sa_nil))) (sa_cons (se_call (sa_cons (se_var 2) (sa_cons (se_tup (sa_cons (se_tup (sa_cons se_str (sa_cons se_str (sa_cons se_str (sa_cons se_str sa_nil))))) sa_nil)) sa_nil))) sa_nil))) (sg_name 5)) (ss_seq (ss_asg (se_op sr_catC (se_var 5) (se_lst (sa_cons (se_call (sa_cons (se_var 1) (sa_cons (se_tup (sa_cons (se_tup (sa_cons se_str (sa_cons se_str (sa_cons se_str (sa_cons se_str sa_nil))))) sa_nil)) sa_nil))) (sa_cons (se_call (sa_cons (se_var 1) (sa_cons (se_tup (sa_cons (se_tup (sa_cons se_str (sa_cons se_str (sa_cons se_str sa_nil)))) sa_nil)) sa_nil))) (sa_cons (se_call (sa_cons (se_var 1) (sa_cons (se_tup sa_nil) sa_nil))) sa_nil))))) (sg_name 5)) (ss_seq (ss_asg (se_lstC (sa_cons (se_var 2) (sa_cons (se_var 3) (sa_cons (se_var 3) (sa_cons (se_tup (sa_cons (se_var 4) (sa_cons (se_tup (sa_cons (se_tup (sa_cons se_str (sa_cons se_str (sa_cons se_str sa_nil)))) (sa_cons (se_op sr_ix (se_op sr_ix (se_var 1) se_int) se_int) (sa_cons (se_op sr_ix (se_op sr_ix (se_var 1) se_int) se_int) sa_nil)))) sa_nil))) (sa_cons (se_var 1) sa_nil)))))) (sg_name 6)) (ss_seq (ss_asg (se_tup (sa_cons (se_tup (sa_cons se_str (sa_cons se_str (sa_cons se_str sa_nil)))) (sa_cons (se_tup (sa_cons (se_tup (sa_cons se_str (sa_cons se_str (sa_cons se_str sa_nil)))) sa_nil)) sa_nil))) (sg_name 7)) (ss_seq (ss_asg (se_tup (sa_cons (se_cb sc_tupOf (sa_cons (se_cb scSortQ (sa_cons (se_op sr_ix (se_var 7) se_int) sa_nil)) sa_nil)) (sa_cons (se_op sr_ix (se_var 7) se_int) sa_nil))) (sg_name 7)) (ss_seq (ss_asg (se_op sr_catC (se_var 5) (se_lst (sa_cons (se_call (sa_cons (se_var 7) (sa_cons (se_tup (sa_cons (se_tup (sa_cons se_str (sa_cons se_str (sa_cons se_str (sa_cons se_str sa_nil))))) sa_nil)) sa_nil))) (sa_cons (se_call (sa_cons (se_var 7) (sa_cons (se_tup (sa_cons (se_tup (sa_cons se_str (sa_cons se_str sa_nil))) (sa_cons (se_tup (sa_cons se_str (sa_cons se_str (sa_cons se_str (sa_cons se_str sa_nil))))) sa_nil))) sa_nil))) sa_nil)))) (sg_name 5)) (ss_seq (ss_drop (se_mut sm_append (se_var 5) (se_call (sa_cons (se_var 7) (sa_cons (se_tup (sa_cons (se_tup (sa_cons se_str (sa_cons se_str (sa_cons se_str sa_nil)))) (sa_cons (se_tup (sa_cons se_str (sa_cons se_str (sa_cons se_str (sa_cons se_str sa_nil))))) (sa_cons (se_tup (sa_cons se_str (sa_cons se_str (sa_cons se_str sa_nil)))) sa_nil)))) sa_nil))))) (ss_seq (ss_asg (se_op sr_catC (se_var 6) (se_lst (sa_cons (se_tup (sa_cons (se_op sr_ix (se_var 7) se_int) (sa_cons (se_tup (sa_cons (se_tup (sa_cons se_str (sa_cons se_str (sa_cons se_str sa_nil)))) sa_nil)) sa_nil))) (sa_cons (se_tup (sa_cons (se_op sr_ix (se_var 7) se_int) (sa_cons (se_tup (sa_cons (se_tup (sa_cons se_str (sa_cons se_str (sa_cons se_str sa_nil)))) sa_nil)) sa_nil))) sa_nil)))) (sg_name 6)) (ss_seq (ss_drop (se_mut sm_append (se_var 6) (se_tup (sa_cons (se_op sr_ix (se_var 7) se_int) (sa_cons (se_tup (sa_cons (se_tup (sa_cons se_str (sa_cons se_str (sa_cons se_str sa_nil)))) (sa_cons (se_tup (sa_cons se_str (sa_cons se_str (sa_cons se_str sa_nil)))) sa_nil))) sa_nil))))) (ss_frz 6 (ss_frz 5 (ss_seq (ss_if (st_not (st_B (se_call0 (sa_cons (se_var 5) (sa_cons (se_var 6) sa_nil))))) (ss_ret se_bl) ss_next) (ss_seq (ss_asg (se_lstC (sa_cons (se_tup (sa_cons (se_tup (sa_cons se_str (sa_cons se_str (sa_cons se_str (sa_cons se_str sa_nil))))) sa_nil)) (sa_cons (se_tup (sa_cons (se_tup (sa_cons se_str (sa_cons se_str (sa_cons se_str (sa_cons se_str sa_nil))))) sa_nil)) (sa_cons (se_tup (sa_cons (se_tup (sa_cons se_str (sa_cons se_str (sa_cons se_str (sa_cons se_str sa_nil))))) sa_nil)) sa_nil)))) (sg_name 8)) (ss_seq (ss_asg (se_op sr_catC (se_var 8) (se_lst (sa_cons (se_tup (sa_cons (se_tup (sa_cons se_str (sa_cons se_str (sa_cons se_str (sa_cons se_str sa_nil))))) sa_nil)) (sa_cons (se_tup (sa_cons (se_tup (sa_cons se_str (sa_cons se_str (sa_cons se_str (sa_cons se_str sa_nil))))) sa_nil)) (sa_cons (se_tup (sa_cons (se_tup (sa_cons se_str (sa_cons se_str sa_nil))) sa_nil)) sa_nil))))) (sg_name 8)) (ss_seq (ss_asg (se_op sr_catC (se_var 8) (se_lst (sa_cons (se_tup (sa_cons (se_tup (sa_cons se_str (sa_cons se_str (sa_cons se_str sa_nil)))) sa_nil)) (sa_cons (se_tup (sa_cons (se_tup (sa_cons se_str (sa_cons se_str (sa_cons se_str sa_nil)))) sa_nil)) (sa_cons (se_tup (sa_cons (se_tup (sa_cons se_str (sa_cons se_str (sa_cons se_str sa_nil)))) sa_nil)) sa_nil))))) (sg_name 8)) (ss_seq (ss_asg (se_op sr_catC (se_var 8) (se_lst (sa_cons (se_tup (sa_cons (se_tup (sa_cons se_str (sa_cons se_str (sa_cons se_str (sa_cons se_str sa_nil))))) sa_nil)) (sa_cons (se_tup (sa_cons (se_tup (sa_cons se_str (sa_cons se_str (sa_cons se_str (sa_cons se_str sa_nil))))) sa_nil)) (sa_cons (se_tup (sa_cons (se_tup (sa_cons se_str (sa_cons se_str (sa_cons se_str (sa_cons se_str sa_nil))))) sa_nil)) sa_nil))))) (sg_name 8)) (ss_seq (ss_asg (se_op sr_catC (se_var 8) (se_lst (sa_cons (se_tup (sa_cons (se_tup (sa_cons se_str (sa_cons se_str (sa_cons se_str (sa_cons se_str sa_nil))))) sa_nil)) (sa_cons (se_tup (sa_cons (se_tup (sa_cons se_str (sa_cons se_str sa_nil))) (sa_cons (se_tup (sa_cons se_str (sa_cons se_str sa_nil))) sa_nil))) sa_nil)))) (sg_name 8)) (ss_seq (ss_drop (se_mut sm_append (se_var 8) (se_tup (sa_cons (se_tup (sa_cons se_str (sa_cons se_str sa_nil))) (sa_cons (se_tup (sa_cons se_str (sa_cons se_str (sa_cons se_str sa_nil)))) (sa_cons (se_tup (sa_cons se_str (sa_cons se_str sa_nil))) sa_nil)))))) (ss_frz 8 (ss_seq (ss_if (st_not (st_B (se_cb sc_all (sa_cons (se_lc (vs := [10]) (si_seq (se_var 8)) (sg_name 10) (by decide) ST.yes (se_call0 (sa_cons (se_var 1) (sa_cons (se_var 10) sa_nil)))) sa_nil)))) (ss_ret se_bl) ss_next) (ss_seq (ss_asg (se_lc (vs := [9]) (si_seq (se_tup (sa_cons se_int (sa_cons se_int (sa_cons se_int (sa_cons se_int (sa_cons se_int (sa_cons se_int (sa_cons se_int (sa_cons se_int sa_nil)))))))))) (sg_name 9) (by decide) ST.yes (se_call0 (sa_cons (se_var 1) (sa_cons (se_op sr_ix (se_var 8) (se_var 9)) sa_nil)))) (sg_name 5)) (ss_seq (ss_asg (se_op srAddE (se_var 5) (se_lc (vs := [10]) (si_seq (se_slice (se_var 8) (so_some (se_neg se_int)) so_none)) (sg_name 10) (by decide) ST.yes (se_call0 (sa_cons (se_var 1) (sa_cons (se_var 10) sa_nil))))) (sg_name 5)) (ss_seq (ss_asg (se_lst (sa_cons (se_lst (sa_cons se_str (sa_cons se_str (sa_cons se_bl sa_nil)))) (sa_cons (se_lst (sa_cons se_str (sa_cons se_str (sa_cons se_bl sa_nil)))) (sa_cons (se_lst (sa_cons se_str (sa_cons se_str (sa_cons se_bl sa_nil)))) (sa_cons (se_lst (sa_cons se_str (sa_cons se_non (sa_cons se_bl sa_nil)))) sa_nil))))) (sg_name 6)) (ss_seq (ss_asg (se_op srAddE (se_var 6) (se_lst (sa_cons (se_lst (sa_cons se_str (sa_cons se_non (sa_cons se_bl sa_nil)))) (sa_cons (se_lst (sa_cons se_str (sa_cons se_str (sa_cons se_bl sa_nil)))) (sa_cons (se_lst (sa_cons se_str (sa_cons se_str (sa_cons se_bl sa_nil)))) (sa_cons (se_lst (sa_cons se_str (sa_cons se_non (sa_cons se_bl sa_nil)))) (sa_cons se_int (sa_cons se_int sa_nil)))))))) (sg_name 6)) (ss_ret (se_andV (se_call0 (sa_cons (se_var 5) (sa_cons (se_var 6) sa_nil))) (se_call (sa_cons (se_var 1) sa_nil))))))))))))))))))))))))))))))⟩
abbrev st__law_right : Stmt := topS 46
theorem sc__law_right : FnScope ["_law_tin", "_law_turn", "_law_net_here", "_law_deeds_here", "_law_lap"] ["_law_tin"] (defScope st__law_right) := ⟨rfl, rfl, rfl, by decide +kernel, rfl, by decide +kernel, by decide +kernel⟩
def b__law_right : AEnv → ASto → Out := (aSeq (aFor (iRng1A (aCons (aC (.int 3)) aNil)) (aNm 1) (aSeq (aAsg (aCall0 m__law_net (aCons (aVar 0) (aCons (aC (.int 5)) (aCons (aC (.int 5)) aNil)))) (aNm 2)) (aSeq (aAsg (aCall0 m__law_deeds (aCons (aVar 0) (aCons (aVar 2) (aCons (aC (.int 4)) aNil)))) (aNm 3)) (aSeq (aIf (aNot (aTest (aCall0 m__law_case_right (aCons (aVar 2) (aCons (aVar 3) aNil))))) (aRet (aC (.bool false))) aNext) (aIf (aNot (aTest (aCall0 m__law_case_right (aCons (aVar 2) (aCons (aCall aTupOf (aCons (aLc (iRng1A (aCons (aOp aAddE (aC (.int 1)) (aCall0 m__law_take (aCons (aVar 0) (aCons (aC (.int 4)) aNil)))) aNil)) (aNm 4) aYes (aCall0 m__law_deed (aCons (aVar 0) (aCons (aVar 2) aNil))) [4]) aNil)) aNil))))) (aRet (aC (.bool false))) aNext))))) (aRet (aC (.bool true))))
def m__law_right : List Sl → ASto → Res Sl := runD 5 1 b__law_right
theorem ok__law_right {P : Program} {w : World} {K : PySem.W.Frag} {mg : Str → Option Value} {base : Heap} (T : Tx w K mg) {f : Addr} {fd : FuncData} (F : Fun K "_law_right" "_law_right" st__law_right f fd) : FnOk P w K mg base CX0 18 f fd ["_law_tin"] (spF P w K mg m__law_right) := by
  obtain ⟨f__law_net, fd__law_net, e__law_net, F__law_net⟩ := T.h__law_net
  have G__law_net := ok__law_net (P := P) (w := w) (base := base) T F__law_net
  have B__law_net := F__law_net.binds (ps := ["_law_tin", "_law_most_so", "_law_links_so"]) fun _ _ _ _ _ _ us hl => match us, hl with | [_, _, _], _ => rfl
  obtain ⟨f__law_deeds, fd__law_deeds, e__law_deeds, F__law_deeds⟩ := T.h__law_deeds
  have G__law_deeds := ok__law_deeds (P := P) (w := w) (base := base) T F__law_deeds
  have B__law_deeds := F__law_deeds.binds (ps := ["_law_tin", "_law_net_here", "_law_most"]) fun _ _ _ _ _ _ us hl => match us, hl with | [_, _, _], _ => rfl
  obtain ⟨f__law_case_right, fd__law_case_right, e__law_case_right, F__law_case_right⟩ := T.h__law_case_right
  have G__law_case_right := ok__law_case_right (P := P) (w := w) (base := base) T F__law_case_right
  have B__law_case_right := F__law_case_right.binds (ps := ["_law_net_here", "_law_deeds_here"]) fun _ _ _ _ _ _ us hl => match us, hl with | [_, _], _ => rfl
  obtain ⟨f__law_take, fd__law_take, e__law_take, F__law_take⟩ := T.h__law_take
  have G__law_take := ok__law_take (P := P) (w := w) (base := base) T F__law_take
  have B__law_take := F__law_take.binds (ps := ["_law_tin", "_law_top_so"]) fun _ _ _ _ _ _ us hl => match us, hl with | [_, _], _ => rfl
  obtain ⟨f__law_deed, fd__law_deed, e__law_deed, F__law_deed⟩ := T.h__law_deed
  have G__law_deed := ok__law_deed (P := P) (w := w) (base := base) T F__law_deed
  have B__law_deed := F__law_deed.binds (ps := ["_law_tin", "_law_net_here"]) fun _ _ _ _ _ _ us hl => match us, hl with | [_, _], _ => rfl
  exact fn_d F sc__law_right b__law_right fun cdv A outer s H E hr => ⟨_,
    (pss_cons (ps_for PassesOwn.never rfl (pi_range1 (by rfl) T.b_range (pa_cons pe_int pa_nil)) (pg_name (i := 1) sc__law_right.nd rfl (Or.inl rfl)) (pss_cons (ps_set (i := 2) sc__law_right.nd rfl (Or.inr rfl) (pe_call G__law_net (hr.mono (by decide)) (by rfl) e__law_net F__law_net.kp B__law_net .nil pass0 (pa_cons (pv 0) (pa_cons pe_int (pa_cons pe_int pa_nil))))) (pss_cons (ps_set (i := 3) sc__law_right.nd rfl (Or.inl rfl) (pe_call G__law_deeds (hr.mono (by decide)) (by rfl) e__law_deeds F__law_deeds.kp B__law_deeds .nil pass0 (pa_cons (pv 0) (pa_cons (pv 2) (pa_cons pe_int pa_nil))))) (pss_cons (ps_if (pt_not (pt_val (pe_call G__law_case_right (hr.mono (by decide)) (by rfl) e__law_case_right F__law_case_right.kp B__law_case_right .nil pass0 (pa_cons (pv 2) (pa_cons (pv 3) pa_nil))))) (pss_one (ps_ret pe_bl)) pss_nil) (pss_one (ps_if (pt_not (pt_val (pe_call G__law_case_right (hr.mono (by decide)) (by rfl) e__law_case_right F__law_case_right.kp B__law_case_right .nil pass0 (pa_cons (pv 2) (pa_cons (pe_callTy call_tupN (by rfl) T.b_tuple (by decide +kernel) (pa_cons (pe_lc (own := [("_law_lap", 4)]) rfl sc__law_right.nd (pi_range1 (by rfl) T.b_range (pa_cons (pe_op opAddE pe_int (pe_call G__law_take (hr.mono (by decide)) (by rfl) e__law_take F__law_take.kp B__law_take .nil pass0 (pa_cons (pv 0) (pa_cons pe_int pa_nil)))) pa_nil)) (blkOk_by (N := ["_law_tin", "_law_turn", "_law_net_here", "_law_deeds_here", "_law_lap"]) (sc := (defScope st__law_right)) (own := [("_law_lap", 4)]) (by decide +kernel)) (fun _ _ _ _ _ => (pg_name (i := 4) sc__law_right.nd rfl (Or.inl rfl))) (fun _ _ _ _ _ => pts_nil) (fun _ _ _ _ _ => (pe_call G__law_deed (hr.mono (by decide)) (by rfl) e__law_deed F__law_deed.kp B__law_deed .nil pass0 (pa_cons (pv 0) (pa_cons (pv 2) pa_nil))))) pa_nil)) pa_nil))))) (pss_one (ps_ret pe_bl)) pss_nil)))))) (pss_one (ps_ret pe_bl))),
    (ss_seq (ss_for (si_rng1 (sa_cons se_int sa_nil)) (sg_name 1) (ss_seq (ss_asg (se_call0 (sa_cons (se_var 0) (sa_cons se_int (sa_cons se_int sa_nil)))) (sg_name 2)) (ss_seq (ss_asg (se_call0 (sa_cons (se_var 0) (sa_cons (se_var 2) (sa_cons se_int sa_nil)))) (sg_name 3)) (ss_seq (ss_if (st_not (st_B (se_call0 (sa_cons (se_var 2) (sa_cons (se_var 3) sa_nil))))) (ss_ret se_bl) ss_next) (ss_if (st_not (st_B (se_call0 (sa_cons (se_var 2) (sa_cons (se_cb sc_tupOf (sa_cons (se_lc (vs := [4]) (si_rng1 (sa_cons (se_op srAddE se_int (se_call0 (sa_cons (se_var 0) (sa_cons se_int sa_nil)))) sa_nil)) (sg_name 4) (by decide) ST.yes (se_call0 (sa_cons (se_var 0) (sa_cons (se_var 2) sa_nil)))) sa_nil)) sa_nil))))) (ss_ret se_bl) ss_next))))) (ss_ret se_bl))⟩
abbrev st_law : Stmt := topS 47
theorem sc_law : FnScope ["_law_script", "_law_cells_here", "_law_k"] ["_law_script"] (defScope st_law) := ⟨rfl, rfl, rfl, by decide +kernel, rfl, by decide +kernel, by decide +kernel⟩
def b_law : AEnv → ASto → Out := (aSeq (aIf (aNot (aTest (aCall m__law_by_hand_right aNil))) (aRet (aC (.bool false))) aNext) (aSeq (aAsg (aCall0 m__law_cells (aCons (aVar 0) (aCons (aC (.int 3)) aNil))) (aNm 1)) (aRet (aCall aAll (aCons (aLc (iRng1A (aCons (aCall aLen (aCons (aVar 1) aNil)) aNil)) (aNm 2) aYes (aCall0 m__law_right (aCons (aCall0 m__law_box (aCons (aVar 1) (aCons (aVar 2) aNil))) aNil)) [2]) aNil)))))
def m_law : List Sl → ASto → Res Sl := runD 3 1 b_law
theorem ok_law {P : Program} {w : World} {K : PySem.W.Frag} {mg : Str → Option Value} {base : Heap} (T : Tx w K mg) {f : Addr} {fd : FuncData} (F : Fun K "law" "law" st_law f fd) : FnOk P w K mg base (L2.CX P w) 19 f fd ["_law_script"] (spF P w K mg m_law) := by
  obtain ⟨f__law_by_hand_right, fd__law_by_hand_right, e__law_by_hand_right, F__law_by_hand_right⟩ := T.h__law_by_hand_right
  have G__law_by_hand_right := ok__law_by_hand_right (P := P) (w := w) (base := base) T F__law_by_hand_right
  have B__law_by_hand_right := F__law_by_hand_right.binds (ps := []) fun _ _ _ _ _ _ us hl => match us, hl with | [], _ => rfl
  obtain ⟨f__law_cells, fd__law_cells, e__law_cells, F__law_cells⟩ := T.h__law_cells
  have G__law_cells := ok__law_cells (P := P) (w := w) (base := base) T F__law_cells
  have B__law_cells := F__law_cells.binds (ps := ["_law_script", "_law_most"]) fun _ _ _ _ _ _ us hl => match us, hl with | [_, _], _ => rfl
  obtain ⟨f__law_box, fd__law_box, e__law_box, F__law_box⟩ := T.h__law_box
  have G__law_box := ok__law_box (P := P) (w := w) (base := base) T F__law_box
  have B__law_box := F__law_box.binds (ps := ["_law_script", "_law_k"]) fun _ _ _ _ _ _ us hl => match us, hl with | [_, _], _ => rfl
  obtain ⟨f__law_right, fd__law_right, e__law_right, F__law_right⟩ := T.h__law_right
  have G__law_right := ok__law_right (P := P) (w := w) (base := base) T F__law_right
  have B__law_right := F__law_right.binds (ps := ["_law_tin"]) fun _ _ _ _ _ _ us hl => match us, hl with | [_], _ => rfl
  exact fn_x F sc_law b_law fun cdv A outer s H E hr => ⟨_,
    (pss_cons (ps_if (pt_not (pt_val (pe_call0 G__law_by_hand_right (hr.mono (by decide)) (by rfl) e__law_by_hand_right F__law_by_hand_right.kp B__law_by_hand_right .nil (passes_call (takes_of rfl rfl rfl rfl) fun _ _ _ _ h => h)))) (pss_one (ps_ret pe_bl)) pss_nil) (pss_cons (ps_set (i := 1) sc_law.nd rfl (Or.inr rfl) (pe_call G__law_cells (hr.mono (by decide)) (by rfl) e__law_cells F__law_cells.kp B__law_cells .nil pass0 (pa_cons (pv 0) (pa_cons pe_int pa_nil)))) (pss_one (ps_ret (pe_callB (cr_all rfl) (by rfl) T.b_all (by decide +kernel) (pa_cons (pe_lc (own := [("_law_k", 2)]) rfl sc_law.nd (pi_range1 (by rfl) T.b_range (pa_cons (pe_callB call_len_seq (by rfl) T.b_len (by decide +kernel) (pa_cons (pv 1) pa_nil)) pa_nil)) (blkOk_by (N := ["_law_script", "_law_cells_here", "_law_k"]) (sc := (defScope st_law)) (own := [("_law_k", 2)]) (by decide +kernel)) (fun _ _ _ _ _ => (pg_name (i := 2) sc_law.nd rfl (Or.inl rfl))) (fun _ _ _ _ _ => pts_nil) (fun _ _ _ _ _ => (pe_call G__law_right (hr.mono (by decide)) (by rfl) e__law_right F__law_right.kp B__law_right .nil pass0 (pa_cons (pe_call G__law_box (hr.mono (by decide)) (by rfl) e__law_box F__law_box.kp B__law_box .nil pass0 (pa_cons (pv 1) (pa_cons (pv 2) pa_nil))) pa_nil)))) pa_nil)))))),
    (ss_seq (ss_if (st_not (st_B (se_call sa_nil))) (ss_ret se_bl) ss_next) (ss_seq (ss_asg (se_call0 (sa_cons (se_var 0) (sa_cons se_int sa_nil))) (sg_name 1)) (ss_ret (se_cb sc_all (sa_cons (se_lc (vs := [2]) (si_rng1 (sa_cons (se_cb sc_len (sa_cons (se_var 1) sa_nil)) sa_nil)) (sg_name 2) (by decide) ST.yes (se_call0 (sa_cons (se_call0 (sa_cons (se_var 1) (sa_cons (se_var 2) sa_nil))) sa_nil))) sa_nil)))))⟩
end G
end
section
set_option Elab.async false
set_option linter.all false
set_option maxRecDepth 100000
set_option maxHeartbeats 4000000
namespace G
open PySem Ab
class Ko where
  k : AEnv → ASto → Out
class Kb (α β : Type) where
  k : α → ASto → Res β
class Kr (β : Type) where
  k : β → ASto → Out
def oSeq (o : Out) [g : Ko] : Out := match o with
  | .nx ds' M' => g.k ds' M'
  | o => o
def bindL {α β : Type} (r : Res α) [k : Kb α β] : Res β := r.bind k.k
def resOL {β : Type} (r : Res β) [k : Kr β] : Out := resO r k.k
theorem aSeq_eq (f g : AEnv → ASto → Out) (ds : AEnv) (M : ASto) : aSeq f g ds M = @oSeq (f ds M) ⟨g⟩ := rfl
theorem oSeq_nx (d : AEnv) (m : ASto) (g : AEnv → ASto → Out) : @oSeq (.nx d m) ⟨g⟩ = g d m := rfl
theorem oSeq_rt (d : Sl) (m : ASto) (g : AEnv → ASto → Out) : @oSeq (.rt d m) ⟨g⟩ = .rt d m := rfl
theorem oSeq_ex (d : AErr) (m : ASto) (g : AEnv → ASto → Out) : @oSeq (.ex d m) ⟨g⟩ = .ex d m := rfl
theorem bind_L {α β : Type} (r : Res α) (k : α → ASto → Res β) : r.bind k = @bindL α β r ⟨k⟩ := rfl
theorem bind_ok {α β : Type} (x : α) (m : ASto) (k : α → ASto → Res β) : @bindL α β (Res.ok x m) ⟨k⟩ = k x m := rfl
theorem bind_ex {α β : Type} (x : AErr) (m : ASto) (k : α → ASto → Res β) : @bindL α β (Res.ex x m) ⟨k⟩ = .ex x m := rfl
theorem resO_L {β : Type} (r : Res β) (k : β → ASto → Out) : resO r k = @resOL β r ⟨k⟩ := rfl
theorem resO_ok {β : Type} (x : β) (m : ASto) (k : β → ASto → Out) : @resOL β (.ok x m) ⟨k⟩ = k x m := rfl
theorem resO_ex {β : Type} (x : AErr) (m : ASto) (k : β → ASto → Out) : @resOL β (.ex x m) ⟨k⟩ = .ex x m := rfl
theorem ixN0 (n : Nat) : L2.ixN (n + 1) 0 = some 0 := by
  unfold L2.ixN
  rw [if_pos (Int.le_refl _), if_pos (by omega)]
  rfl
theorem ixNp (n k : Nat) (h : k < n) : L2.ixN n (k : Int) = some k := by
  unfold L2.ixN
  rw [if_pos (by omega), if_pos (by omega)]
  rfl
def tinC (a b c : Int) : Cell := .lst [.d (.int a), .d (.int b), .d (.int c)]
def Cl (M : ASto) : Prop := ∀ c ∈ M, closedC 0 c = true
theorem closedS_mono {n : Nat} {s : Sl} (h : closedS 0 s = true) : closedS n s = true := by
  cases s with
  | d x => rfl
  | r k => simp [closedS] at h
  | s ns => rfl
theorem closedC_mono {n : Nat} {c : Cell} (h : closedC 0 c = true) : closedC n c = true := by
  cases c with
  | lst ss =>
    simp only [closedC, List.all_eq_true] at h ⊢
    exact fun x hx => closedS_mono (h x hx)
  | dct kvs =>
    simp only [closedC, List.all_eq_true] at h ⊢
    exact fun x hx => closedS_mono (h x hx)
  | set ks => rfl
  | gone => rfl
theorem Cl.app {M J : ASto} (h : Cl M) (h2 : Cl J) : Cl (M ++ J) := fun c hc => by
  rcases List.mem_append.mp hc with q | q
  · exact h c q
  · exact h2 c q
theorem Cl.left {M J : ASto} (h : Cl (M ++ J)) : Cl M := fun c hc => h c (List.mem_append_left _ hc)
theorem Cl.set {M : ASto} (cl : Cl M) {n : Nat} {c : Cell} (h : closedC 0 c = true) : Cl (M.set n c) := fun x hx => by
  rcases List.mem_or_eq_of_mem_set hx with h1 | h1
  · exact cl x h1
  · rw [h1]; exact h
theorem cl_data (xs : List PyData) : closedC 0 (.lst (xs.map Sl.d)) = true := by
  simp [closedC, closedS]
theorem Cl.one {c : Cell} (h : closedC 0 c = true) : Cl [c] := fun x hx => by
  rw [List.mem_singleton.mp hx]; exact h
theorem Cl.two {c d : Cell} (h : closedC 0 c = true) (h2 : closedC 0 d = true) : Cl [c, d] := fun x hx => by
  rcases List.mem_cons.mp hx with q | q
  · rw [q]; exact h
  · rw [List.mem_singleton.mp q]; exact h2
theorem ix3_0 {α : Type} (a b c : α) : L2.atI [a, b, c] 0 = some a := rfl
theorem ix3_1 {α : Type} (a b c : α) : L2.atI [a, b, c] 1 = some b := rfl
theorem ix3_2 {α : Type} (a b c : α) : L2.atI [a, b, c] 2 = some c := rfl
theorem ixN3_0 : L2.ixN 3 0 = some 0 := rfl
theorem ixN3_2 : L2.ixN 3 2 = some 2 := rfl
theorem close_app {m : Nat} {M' J : ASto} {x : PyData} (hl : M'.length = m) (cl : Cl M') : closeR m (.ok (.d x) (M' ++ J)) = .ok (.d x) M' := by
  unfold closeR
  dsimp only
  rw [List.take_append_of_le_length (by omega), List.take_of_length_le (by omega)]
  have : List.all M' (closedC m) = true := by
    simp only [List.all_eq_true]
    exact fun c hc => closedC_mono (cl c hc)
  simp [closedS, this]
theorem close_ok {m : Nat} {M' : ASto} {x : PyData} (hl : M'.length = m) (cl : Cl M') : closeR m (.ok (.d x) M') = .ok (.d x) M' := by
  have := close_app (J := []) (x := x) hl cl
  rwa [List.append_nil] at this
theorem close_ex {m : Nat} {M' J : ASto} {e : AErr} (hl : M'.length = m) (cl : Cl M') : closeR m (.ex e (M' ++ J)) = .ex e M' := by
  unfold closeR
  dsimp only
  rw [List.take_append_of_le_length (by omega), List.take_of_length_le (by omega)]
  have : List.all M' (closedC m) = true := by
    simp only [List.all_eq_true]
    exact fun c hc => closedC_mono (cl c hc)
  simp [this]
theorem mul_ok {i j : Int} {M : ASto} (h : (-(2 ^ 64) < i ∧ i < 2 ^ 64) ∨ (-(2 ^ 64) < j ∧ j < 2 ^ 64)) : aMul (.d (.int i)) (.d (.int j)) M = .ok (.d (.int (i * j))) M := by
  unfold aMul aI2C
  dsimp only
  rw [if_pos (decide_eq_true h)]
theorem mod_ok {i j : Int} {M : ASto} (h : 0 < j) : aMod (.d (.int i)) (.d (.int j)) M = .ok (.d (.int (i.fmod j))) M := by
  unfold aMod aI2C
  dsimp only
  rw [if_pos (decide_eq_true (by omega))]
theorem div_ok {i j : Int} {M : ASto} (h : 0 < j ∧ j < 1073741824) : aDiv (.d (.int i)) (.d (.int j)) M = .ok (.d (.int (i.fdiv j))) M := by
  unfold aDiv aI2C
  dsimp only
  rw [if_pos (decide_eq_true (by omega))]
theorem lt_ok (i j : Int) (M : ASto) : aLt (.d (.int i)) (.d (.int j)) M = .ok (.d (.bool (decide (i < j)))) M := rfl
theorem gt_ok (i j : Int) (M : ASto) : aGt (.d (.int i)) (.d (.int j)) M = .ok (.d (.bool (decide (j < i)))) M := rfl
theorem le_ok (i j : Int) (M : ASto) : aLe (.d (.int i)) (.d (.int j)) M = .ok (.d (.bool (decide (i ≤ j)))) M := rfl
theorem ge_ok (i j : Int) (M : ASto) : aGe (.d (.int i)) (.d (.int j)) M = .ok (.d (.bool (decide (j ≤ i)))) M := rfl
theorem sub_ok (i j : Int) (M : ASto) : aSub (.d (.int i)) (.d (.int j)) M = .ok (.d (.int (i - j))) M := rfl
theorem fmod_b (x m : Int) (h : 0 < m) : 0 ≤ x.fmod m ∧ x.fmod m < m := ⟨Int.fmod_nonneg_of_pos x h, Int.fmod_lt_of_pos x h⟩
theorem fdiv_b (x m : Int) (h : 0 < m) (hx : x.natAbs < 2 ^ 62) : -(2 ^ 62) ≤ x.fdiv m ∧ x.fdiv m < 2 ^ 62 := by
  have e := Int.mul_fdiv_add_fmod x m
  have ⟨f1, f2⟩ := fmod_b x m h
  rw [Int.fdiv_eq_ediv_of_nonneg x (by omega)]
  constructor
  · refine Int.le_ediv_of_mul_le h ?_
    have : -(2 ^ 62) * m ≤ -(2 ^ 62) := by omega
    omega
  · refine Int.ediv_lt_of_lt_mul h ?_
    have : (2 ^ 62 : Int) ≤ 2 ^ 62 * m := by omega
    omega
theorem take_ok {M : ASto} {n : Nat} {a b c t : Int} (hM : M[n]? = some (tinC a b c)) (hb : b.natAbs < 2 ^ 62) (hc0 : 0 ≤ c) (hc : c < 2 ^ 40) (ht : 0 < t) (ht2 : t < 1000) (cl : Cl M) :
    ∃ k a' c', m__law_take [.r n, .d (.int t)] M = .ok (.d (.int k)) (M.set n (tinC a' b c')) ∧ 0 ≤ k ∧ k < t ∧ c ≤ c' ∧ c' ≤ c + 1 := by
  have hlt := (List.getElem?_eq_some_iff.mp hM).1
  have hs : ∀ x : Cell, (M.set n x)[n]? = some x := fun x => by rw [List.getElem?_set, if_pos rfl, if_pos hlt]
  unfold m__law_take b__law_take runD
  have p1 : (0 : Int) < 2147483647 := by decide
  have p2 : (0 : Int) < 40009 := by decide
  have p3 : (0 : Int) < 2147483629 := by decide
  have p4 : (0 : Int) < 2147483587 := by decide
  by_cases h : 0 < a
  · refine ⟨a.fmod t, a.fdiv t, c, ?_, (fmod_b a t ht).1, (fmod_b a t ht).2, by omega, by omega⟩
    have d1 := fun M => div_ok (i := a) (j := t) (M := M) ⟨ht, by omega⟩
    simp only [aSeq_eq, oSeq_nx, oSeq_rt, oSeq_ex, ↓bind_L, bind_ok, bind_ex, ↓resO_L, resO_ok, resO_ex, aIf, aRet, aAsg, aNm, aVar, aC, aOp, aCall, aCall0, aCons, aNil, aTest, aDrop, aNext, aTup, aLst, allD, aGTup, aGCons, aGNil, noEx, fnR, aNot, aAnd, aOr, aIfE, aPar, aPar3, startA, List.replicate, aI2, aI2C, aAddE, aCat0, aAddQ, sub_ok, lt_ok, gt_ok, le_ok, ge_ok, orF, aInt1, aAbs, aAndV, aOrV, aNotV, aIx, aSetIx, mod_ok, Nat.reduceAdd, Nat.reduceSub, Nat.zero_add, ixN0, ixNp, Option.bind_some, List.set_cons_zero, List.set_cons_succ, decide_eq_true_eq, decide_true, if_true, if_false, reduceIte, Bool.false_eq_true, ne_eq, aPart, aNoPart, aLen, aMin2, aLstC, List.length_cons, List.length_nil, List.map_cons, List.map_nil, List.cons_append, List.nil_append, List.getElem?_cons_zero, List.getElem?_cons_succ, List.append_assoc, List.length_append, Nat.zero_le, Nat.reduceLeDiff, Nat.le_refl, vwS, vwL, Option.map_some, hM, h, ht, d1, tinC, ix3_0, ix3_1, ix3_2, ixN3_0, ixN3_2, List.length_cons, List.length_nil, List.map_cons, List.map_nil, List.cons_append, List.nil_append, List.getElem?_cons_zero, List.getElem?_cons_succ]
    exact close_ok (by simp) (cl.set rfl)
  · have q1 := fmod_b ((b + 48271 * (c + 1)) * (39373 + (c + 1))) 2147483647 p1
    have q2 := fmod_b (((b + 48271 * (c + 1)) * (39373 + (c + 1))).fmod 2147483647) 40009 p2
    have q3 := fdiv_b b 1000003 (by decide) hb
    have q4 := fmod_b ((((b + 48271 * (c + 1)) * (39373 + (c + 1))).fmod 2147483647 + (c + 1) + b.fdiv 1000003) * ((((b + 48271 * (c + 1)) * (39373 + (c + 1))).fmod 2147483647).fmod 40009 + 7)) 2147483629 p3
    have m1 := fun M => mul_ok (i := 48271) (j := c + 1) (M := M) (.inl (by omega))
    have m2 := fun M => mul_ok (i := b + 48271 * (c + 1)) (j := 39373 + (c + 1)) (M := M) (.inr (by omega))
    have m3 := fun M => mul_ok (i := ((b + 48271 * (c + 1)) * (39373 + (c + 1))).fmod 2147483647 + (c + 1) + b.fdiv 1000003) (j := (((b + 48271 * (c + 1)) * (39373 + (c + 1))).fmod 2147483647).fmod 40009 + 7) (M := M) (.inr (by omega))
    have m4 := fun M => mul_ok (i := (((((b + 48271 * (c + 1)) * (39373 + (c + 1))).fmod 2147483647 + (c + 1) + b.fdiv 1000003) * ((((b + 48271 * (c + 1)) * (39373 + (c + 1))).fmod 2147483647).fmod 40009 + 7)).fmod 2147483629)) (j := 48271) (M := M) (.inr (by omega))
    have d1 := fun M => div_ok (i := b) (j := 1000003) (M := M) (by decide)
    have d2 := fun M => div_ok (i := ((((((b + 48271 * (c + 1)) * (39373 + (c + 1))).fmod 2147483647 + (c + 1) + b.fdiv 1000003) * ((((b + 48271 * (c + 1)) * (39373 + (c + 1))).fmod 2147483647).fmod 40009 + 7)).fmod 2147483629) * 48271 + ((b + 48271 * (c + 1)) * (39373 + (c + 1))).fmod 2147483647).fmod 2147483587) (j := 64) (M := M) (by decide)
    refine ⟨(((((((b + 48271 * (c + 1)) * (39373 + (c + 1))).fmod 2147483647 + (c + 1) + b.fdiv 1000003) * ((((b + 48271 * (c + 1)) * (39373 + (c + 1))).fmod 2147483647).fmod 40009 + 7)).fmod 2147483629 * 48271 + ((b + 48271 * (c + 1)) * (39373 + (c + 1))).fmod 2147483647).fmod 2147483587).fdiv 64).fmod t, a, c + 1, ?_, (fmod_b _ t ht).1, (fmod_b _ t ht).2, by omega, by omega⟩
    simp only [aSeq_eq, oSeq_nx, oSeq_rt, oSeq_ex, ↓bind_L, bind_ok, bind_ex, ↓resO_L, resO_ok, resO_ex, aIf, aRet, aAsg, aNm, aVar, aC, aOp, aCall, aCall0, aCons, aNil, aTest, aDrop, aNext, aTup, aLst, allD, aGTup, aGCons, aGNil, noEx, fnR, aNot, aAnd, aOr, aIfE, aPar, aPar3, startA, List.replicate, aI2, aI2C, aAddE, aCat0, aAddQ, sub_ok, lt_ok, gt_ok, le_ok, ge_ok, orF, aInt1, aAbs, aAndV, aOrV, aNotV, aIx, aSetIx, mod_ok, Nat.reduceAdd, Nat.reduceSub, Nat.zero_add, ixN0, ixNp, Option.bind_some, List.set_cons_zero, List.set_cons_succ, decide_eq_true_eq, decide_true, if_true, if_false, reduceIte, Bool.false_eq_true, ne_eq, aPart, aNoPart, aLen, aMin2, aLstC, List.length_cons, List.length_nil, List.map_cons, List.map_nil, List.cons_append, List.nil_append, List.getElem?_cons_zero, List.getElem?_cons_succ, List.append_assoc, List.length_append, Nat.zero_le, Nat.reduceLeDiff, Nat.le_refl, vwS, vwL, Option.map_some, hM, h, hs, ht, p1, p2, p3, p4, m1, m2, m3, m4, d1, d2, tinC, ix3_0, ix3_1, ix3_2, ixN3_0, ixN3_2, List.length_cons, List.length_nil, List.map_cons, List.map_nil, List.cons_append, List.nil_append, List.getElem?_cons_zero, List.getElem?_cons_succ]
    exact close_ok (by simp) (cl.set rfl)
/-- the drawn numbers: at n, at most k draws so far -/
structure Tn (n : Nat) (k : Int) (M : ASto) : Prop where
  cl : Cl M
  st : ∃ a b c, M[n]? = some (tinC a b c) ∧ b.natAbs < 2 ^ 62 ∧ 0 ≤ c ∧ c ≤ k
def Set1 (n : Nat) (M M' : ASto) : Prop := ∃ x, M' = M.set n x
theorem Set1.trans {n : Nat} {M M1 M2 : ASto} (a : Set1 n M M1) (b : Set1 n M1 M2) : Set1 n M M2 := by
  obtain ⟨x, rfl⟩ := a
  obtain ⟨y, rfl⟩ := b
  exact ⟨y, List.set_set ..⟩
theorem Set1.len {n : Nat} {M M1 : ASto} (a : Set1 n M M1) : M1.length = M.length := by
  obtain ⟨x, rfl⟩ := a
  exact List.length_set
theorem Tn.lt {n : Nat} {k : Int} {M : ASto} (t : Tn n k M) : n < M.length := by
  obtain ⟨_, _, _, h, _⟩ := t.st
  exact (List.getElem?_eq_some_iff.mp h).1
theorem Tn.refl {n : Nat} {k : Int} {M : ASto} (t : Tn n k M) : Set1 n M M := by
  obtain ⟨a, b, c, h, _⟩ := t.st
  refine ⟨tinC a b c, ?_⟩
  refine List.ext_getElem? fun j => ?_
  rw [List.getElem?_set]
  by_cases q : n = j
  · subst q; rw [if_pos rfl, if_pos t.lt, h]
  · rw [if_neg q]
theorem Tn.mono {n : Nat} {k k' : Int} {M : ASto} (t : Tn n k M) (h : k ≤ k') : Tn n k' M := by
  obtain ⟨a, b, c, h1, h2, h3, h4⟩ := t.st
  exact ⟨t.cl, a, b, c, h1, h2, h3, by omega⟩
theorem Tn.app {n : Nat} {k : Int} {M J : ASto} (t : Tn n k M) (h : Cl J) : Tn n k (M ++ J) := by
  obtain ⟨a, b, c, h1, h2⟩ := t.st
  exact ⟨t.cl.app h, a, b, c, by rw [List.getElem?_append_left t.lt]; exact h1, h2⟩
theorem Tn.left {n : Nat} {k : Int} {M J : ASto} (t : Tn n k (M ++ J)) (h : n < M.length) : Tn n k M := by
  obtain ⟨a, b, c, h1, h2⟩ := t.st
  exact ⟨t.cl.left, a, b, c, by rw [List.getElem?_append_left h] at h1; exact h1, h2⟩
theorem take_s {M : ASto} {n : Nat} {k t : Int} (T : Tn n k M) (hk : k < 2 ^ 40) (ht : 0 < t) (ht2 : t < 1000) :
    ∃ v M', m__law_take [.r n, .d (.int t)] M = .ok (.d (.int v)) M' ∧ 0 ≤ v ∧ v < t ∧ Tn n (k + 1) M' ∧ Set1 n M M' := by
  obtain ⟨a, b, c, h1, h2, h3, h4⟩ := T.st
  obtain ⟨v, a', c', e, v0, v1, c0, c1⟩ := take_ok h1 h2 h3 (by omega) ht ht2 T.cl
  exact ⟨v, _, e, v0, v1, ⟨T.cl.set rfl, a', b, c', by rw [List.getElem?_set, if_pos rfl, if_pos T.lt], h2, by omega, by omega⟩, _, rfl⟩
theorem take_a {M J : ASto} {n : Nat} {k t : Int} (T : Tn n k M) (hJ : Cl J) (hk : k < 2 ^ 40) (ht : 0 < t) (ht2 : t < 1000) :
    ∃ v M', m__law_take [.r n, .d (.int t)] (M ++ J) = .ok (.d (.int v)) (M' ++ J) ∧ 0 ≤ v ∧ v < t ∧ Tn n (k + 1) M' ∧ Set1 n M M' := by
  obtain ⟨v, M', e, v0, v1, T', x, hx⟩ := take_s (T.app hJ) hk ht ht2
  rw [List.set_append_left _ _ T.lt] at hx
  subst hx
  exact ⟨v, _, e, v0, v1, T'.left (by rw [List.length_set]; exact T.lt), _, rfl⟩
/-! ### loops -/
theorem for_inv {G : Sl → AEnv → Option AEnv} {f : AEnv → ASto → Out} (Inv : Nat → AEnv → ASto → Prop) : ∀ (xs : List Sl) (i : Nat) (ds : AEnv) (M : ASto),
    (∀ j x ds M, xs[j]? = some x → Inv (i + j) ds M → ∃ ds1 ds2 M2, G x ds = some ds1 ∧ f ds1 M = .nx ds2 M2 ∧ Inv (i + j + 1) ds2 M2) → Inv i ds M →
    ∃ ds' M', aForL G f xs ds M = .nx ds' M' ∧ Inv (i + xs.length) ds' M'
  | [], i, ds, M, _, h => ⟨ds, M, rfl, h⟩
  | x :: xs, i, ds, M, s, h => by
    obtain ⟨ds1, ds2, M2, e1, e2, h2⟩ := s 0 x ds M rfl h
    obtain ⟨ds', M', e, h'⟩ := for_inv Inv xs (i + 1) ds2 M2 (fun j y d m hj hi => by
      have := s (j + 1) y d m (by simpa using hj) (by rw [show i + (j + 1) = i + 1 + j by omega]; exact hi)
      rw [show i + (j + 1) + 1 = i + 1 + j + 1 by omega] at this
      exact this) h2
    refine ⟨ds', M', ?_, by rw [List.length_cons, show i + (xs.length + 1) = i + 1 + xs.length by omega]; exact h'⟩
    unfold aForL
    rw [e1]
    dsimp only
    rw [e2]
    exact e
theorem range_len (lo : Int) : ∀ n, (rangeL lo n).length = n
  | 0 => rfl
  | n + 1 => by simp [rangeL, range_len lo n]
theorem range_at (lo : Int) {n i : Nat} {s : Sl} (h : (rangeL lo n)[i]? = some s) : s = .d (.int (lo + i)) := Ab.rangeL_at lo n i s h
theorem at0 {M J : ASto} {x : Cell} {m : Nat} (h : M.length = m) : (M ++ x :: J)[m]? = some x := by
  subst h
  simp
theorem at1 {M J : ASto} {x y : Cell} {m : Nat} (h : M.length = m) : (M ++ x :: y :: J)[m + 1]? = some y := by
  subst h
  simp
theorem set0 {M J : ASto} {x z : Cell} {m : Nat} (h : M.length = m) : (M ++ x :: J).set m z = M ++ z :: J := by
  subst h
  simp
theorem set1 {M J : ASto} {x y z : Cell} {m : Nat} (h : M.length = m) : (M ++ x :: y :: J).set (m + 1) z = M ++ x :: z :: J := by
  subst h
  simp
end G
end
section
set_option Elab.async false
set_option linter.all false
set_option maxRecDepth 100000
set_option maxHeartbeats 4000000
namespace G
open PySem Ab
theorem erase_map {α β : Type} (f : α → β) : ∀ (xs : List α) (i : Nat), (xs.map f).eraseIdx i = (xs.eraseIdx i).map f
  | [], _ => rfl
  | x :: xs, 0 => rfl
  | x :: xs, i + 1 => by simp [erase_map f xs i]
theorem erase_perm {α : Type} : ∀ (xs : List α) (i : Nat) (h : i < xs.length), xs.Perm (xs[i] :: xs.eraseIdx i)
  | x :: xs, 0, _ => List.Perm.refl _
  | x :: xs, i + 1, h => by
    have := erase_perm xs i (by simpa using h)
    exact (List.Perm.cons x this).trans (List.Perm.swap _ _ _)
theorem allD_map (xs : List PyData) : allD (xs.map Sl.d) = some xs := by
  induction xs with
  | nil => rfl
  | cons x xs ih => simp [allD, ih]
theorem pick_body {n m : Nat} {pool : List PyData} {sz : Int} {k : Int} (ds : AEnv) {M0 M1 : ASto} {ls rs : List PyData} (s : Sl) (hn : n < m) (hm : M0.length = m) (hl : ls.length < 100000)
    (T : Tn n k M1) (S : Set1 n M0 M1) (hk : k < 2 ^ 40) (h0 : rs ≠ []) (h1 : rs.length < 1000) :
    ∃ M2 z rs', (aDrop (aMut gAppend (aVar 4) (aMut gPopAt (aVar 3) (aCall0 m__law_take (aCons (aVar 0) (aCons (aCall aLen (aCons (aVar 3) aNil)) aNil)))))) [some (.r n), some (.d (.list pool)), some (.d (.int sz)), some (.r m), some (.r (m + 1)), some s]
      (M1 ++ [.lst (rs.map Sl.d), .lst (ls.map Sl.d)]) = .nx [some (.r n), some (.d (.list pool)), some (.d (.int sz)), some (.r m), some (.r (m + 1)), some s] (M2 ++ [.lst (rs'.map Sl.d), .lst ((ls ++ [z]).map Sl.d)]) ∧ rs.Perm (z :: rs') ∧ Tn n (k + 1) M2 ∧ Set1 n M0 M2 := by
  have hm1 : M1.length = m := S.len.trans hm
  obtain ⟨v, M2, e, v0, v1, T2, S2⟩ := take_a (J := [.lst (rs.map Sl.d), .lst (ls.map Sl.d)]) (t := (rs.length : Int)) T (.two (cl_data _) (cl_data _)) hk (by have := List.length_pos_iff.mpr h0; omega) (by omega)
  have hm2 : M2.length = m := S2.len.trans hm1
  have hv : v.toNat < rs.length := by omega
  have e2 : (rs.map Sl.d)[v.toNat]? = some (.d rs[v.toNat]) := by rw [List.getElem?_map, List.getElem?_eq_getElem hv]; rfl
  have b1 : (0 ≤ v ∧ v < 100000) = True := eq_true ⟨v0, by omega⟩
  have b2 : (ls.length < 100000) = True := eq_true hl
  refine ⟨M2, rs[v.toNat], rs.eraseIdx v.toNat, ?_, ?_, T2, S.trans S2⟩
  · simp only [aSeq_eq, oSeq_nx, oSeq_rt, oSeq_ex, ↓bind_L, bind_ok, bind_ex, ↓resO_L, resO_ok, resO_ex, aIf, aRet, aAsg, aNm, aVar, aC, aOp, aCall, aCall0, aCons, aNil, aTest, aDrop, aNext, aTup, aLst, allD, aGTup, aGCons, aGNil, noEx, fnR, aNot, aAnd, aOr, aIfE, aPar, aPar3, startA, List.replicate, aI2, aI2C, aAddE, aCat0, aAddQ, sub_ok, lt_ok, gt_ok, le_ok, ge_ok, orF, aInt1, aAbs, aAndV, aOrV, aNotV, aIx, aSetIx, mod_ok, Nat.reduceAdd, Nat.reduceSub, Nat.zero_add, ixN0, ixNp, Option.bind_some, List.set_cons_zero, List.set_cons_succ, decide_eq_true_eq, decide_true, if_true, if_false, reduceIte, Bool.false_eq_true, ne_eq, aPart, aNoPart, aLen, aMin2, aLstC, List.length_cons, List.length_nil, List.map_cons, List.map_nil, List.cons_append, List.nil_append, List.getElem?_cons_zero, List.getElem?_cons_succ, List.append_assoc, List.length_append, Nat.zero_le, Nat.reduceLeDiff, Nat.le_refl, vwS, vwL, Option.map_some, aMut, isL, at0 hm1, at1 hm1, at0 hm2, at1 hm2, List.length_map, e, gPopAt, gAppend, b1, b2, e2, set0 hm2, set1 hm2, List.map_append]
    rw [erase_map]
  · exact erase_perm rs _ hv
/-- names drawn out of a pool -/
theorem pick_s {M : ASto} {n : Nat} {k : Int} {pool : List PyData} {sz : Int} (T : Tn n k M) (hk : k + pool.length < 2 ^ 40) (hs : 0 ≤ sz) (hp : pool.length < 1000) :
    ∃ ls M', m__law_pick [.r n, .d (.list pool), .d (.int sz)] M = .ok (.d (.list ls)) M' ∧ ls.length = min sz.toNat pool.length ∧ (∃ rs, (ls ++ rs).Perm pool) ∧ Tn n (k + pool.length) M' ∧ Set1 n M M' := by
  have hn := T.lt
  let q := min sz.toNat pool.length
  have hrng : (-100000 ≤ (if (pool.length : Int) < sz then (pool.length : Int) else sz) ∧ (if (pool.length : Int) < sz then (pool.length : Int) else sz) ≤ 100000) = True := eq_true (by split <;> omega)
  have hq : (if (pool.length : Int) < sz then (pool.length : Int) else sz).toNat = q := by
    show _ = min _ _
    split <;> omega
  obtain ⟨ds', M', e, s, ls, rs, M1, rfl, rfl, hl, hp2, T', S'⟩ := for_inv (G := aNm 5) (f := aDrop (aMut gAppend (aVar 4) (aMut gPopAt (aVar 3) (aCall0 m__law_take (aCons (aVar 0) (aCons (aCall aLen (aCons (aVar 3) aNil)) aNil))))))
    (fun i ds M2 => ∃ (s : Option Sl) (ls rs : List PyData) (M1 : ASto), ds = [some (.r n), some (.d (.list pool)), some (.d (.int sz)), some (.r M.length), some (.r (M.length + 1)), s] ∧ M2 = M1 ++ [.lst (rs.map Sl.d), .lst (ls.map Sl.d)] ∧ ls.length = i ∧ (ls ++ rs).Perm pool ∧ Tn n (k + i) M1 ∧ Set1 n M M1)
    (rangeL 0 q) 0 [some (.r n), some (.d (.list pool)), some (.d (.int sz)), some (.r M.length), some (.r (M.length + 1)), none] (M ++ [.lst (pool.map Sl.d), .lst (([] : List PyData).map Sl.d)])
    (fun j x ds M2 hx ⟨s, ls, rs, M1, e1, e2, hl, hp2, T1, S1⟩ => by
      subst e1 e2
      have hj : j < q := by
        have := (List.getElem?_eq_some_iff.mp hx).1
        rwa [range_len] at this
      have hlen := hp2.length_eq
      rw [List.length_append] at hlen
      have hq2 : q ≤ pool.length := Nat.min_le_right _ _
      obtain ⟨M3, z, rs', e3, p3, T3, S3⟩ := pick_body (ls := ls) (rs := rs) (pool := pool) (sz := sz) [] x hn rfl (by omega) T1 S1 (by omega) (by
        intro h; subst h; simp at hlen; omega) (by omega)
      refine ⟨_, _, _, rfl, e3, some x, ls ++ [z], rs', M3, rfl, rfl, by simp [hl], ?_, by rw [show k + ((0 + j + 1 : Nat) : Int) = k + ((0 + j : Nat) : Int) + 1 by omega]; exact T3, S3⟩
      rw [List.append_assoc]
      exact (List.Perm.append_left ls p3.symm).trans hp2)
    ⟨none, [], pool, M, rfl, rfl, rfl, List.Perm.refl _, by simpa using T, T.refl⟩
  have hfin : ls.length = q := by rw [hl, range_len]; omega
  have hq2 : q ≤ pool.length := Nat.min_le_right _ _
  refine ⟨ls, M1, ?_, hfin, ⟨rs, hp2⟩, T'.mono (by rw [range_len]; omega), S'⟩
  have hm1 : M1.length = M.length := S'.len
  have hl1 : ∀ x y : Cell, (M ++ [x])[M.length]? = some x := fun x y => by simp
  have e0 := e
  rw [show (List.map Sl.d ([] : List PyData)) = [] from rfl] at e0
  unfold m__law_pick b__law_pick runD
  simp only [aSeq_eq, oSeq_nx, oSeq_rt, oSeq_ex, ↓bind_L, bind_ok, bind_ex, ↓resO_L, resO_ok, resO_ex, aIf, aRet, aAsg, aNm, aVar, aC, aOp, aCall, aCall0, aCons, aNil, aTest, aDrop, aNext, aTup, aLst, allD, aGTup, aGCons, aGNil, noEx, fnR, aNot, aAnd, aOr, aIfE, aPar, aPar3, startA, List.replicate, aI2, aI2C, aAddE, aCat0, aAddQ, sub_ok, lt_ok, gt_ok, le_ok, ge_ok, orF, aInt1, aAbs, aAndV, aOrV, aNotV, aIx, aSetIx, mod_ok, Nat.reduceAdd, Nat.reduceSub, Nat.zero_add, ixN0, ixNp, Option.bind_some, List.set_cons_zero, List.set_cons_succ, decide_eq_true_eq, decide_true, if_true, if_false, reduceIte, Bool.false_eq_true, ne_eq, aPart, aNoPart, aLen, aMin2, aLstC, List.length_cons, List.length_nil, List.map_cons, List.map_nil, List.cons_append, List.nil_append, List.getElem?_cons_zero, List.getElem?_cons_succ, List.append_assoc, List.length_append, Nat.zero_le, Nat.reduceLeDiff, Nat.le_refl, vwS, vwL, Option.map_some, aListOfC, vwS, at0 rfl, at1 rfl, vwL, aFor, iRng1A, List.length_map, hrng, hq, e0, aRetF, frzD, at0 hm1, at1 hm1, allD_map, Option.map_some, set1 hm1]
  exact close_app hm1 T'.cl
end G
end
section
set_option Elab.async false
set_option linter.all false
set_option maxRecDepth 100000
set_option maxHeartbeats 4000000
namespace G
open PySem Ab
abbrev Arc := Str × Str × Str
def arcD (a : Arc) : PyData := .tuple [.str a.1, .str a.2.1, .str a.2.2]
def strsD (ss : List Str) : List PyData := ss.map PyData.str
def arcsD (as : List Arc) : List PyData := as.map arcD
def webD (es : List Str) (as : List Arc) : PyData := .tuple [.tuple (strsD es), .tuple (arcsD as)]
theorem strs_of {ls rs : List PyData} {ps : List Str} (h : (ls ++ rs).Perm (strsD ps)) : ∃ ss rr : List Str, ls = strsD ss ∧ (ss ++ rr).Perm ps := by
  have key : ∀ (l : List PyData), (∀ x ∈ l, ∃ s, x = PyData.str s) → ∃ ss, l = strsD ss := fun l => by
    induction l with
    | nil => exact fun _ => ⟨[], rfl⟩
    | cons x l ih =>
      intro h
      obtain ⟨s, rfl⟩ := h x (by simp)
      obtain ⟨ss, rfl⟩ := ih fun y hy => h y (by simp [hy])
      exact ⟨s :: ss, rfl⟩
  have hall : ∀ x ∈ ls ++ rs, ∃ s, x = PyData.str s := fun x hx => by
    have := (h.mem_iff).mp hx
    simp only [strsD, List.mem_map] at this
    obtain ⟨s, _, rfl⟩ := this
    exact ⟨s, rfl⟩
  obtain ⟨ss, rfl⟩ := key ls fun x hx => hall x (List.mem_append_left _ hx)
  obtain ⟨rr, rfl⟩ := key rs fun x hx => hall x (List.mem_append_right _ hx)
  refine ⟨ss, rr, rfl, ?_⟩
  have e : strsD ss ++ strsD rr = strsD (ss ++ rr) := by simp [strsD]
  rw [e] at h
  have := h.map (fun d => match d with | PyData.str s => s | _ => default)
  simpa [strsD, List.map_map, Function.comp_def] using this
theorem ix_str {ss : List Str} {i : Int} (h0 : 0 ≤ i) (h : i.toNat < ss.length) : L2.atI (strsD ss) i = some (.str ss[i.toNat]) := by
  unfold L2.atI L2.ixN
  have hl : (strsD ss).length = ss.length := by simp [strsD]
  rw [if_pos h0, if_pos (by rw [hl]; omega)]
  simp only [Option.bind_some, strsD, List.getElem?_map, List.getElem?_eq_getElem h, Option.map_some]
theorem arcs_app (as : List Arc) (a : Arc) : arcsD (as ++ [a]) = arcsD as ++ [arcD a] := by simp [arcsD]
theorem strs_len (ss : List Str) : (strsD ss).length = ss.length := by simp [strsD]
theorem leD_tot : PySem.W.TotalLe leD := PySem.W.sortLe_total (PyProof.Rows.listOrd PyProof.Rows.itemOrd) false fun b : PyData => PySem.W.keyToks (id b)
theorem sort_pw (l : List PyData) : (sortD l).Pairwise fun a b => leD a b = true := List.pairwise_mergeSort (fun a b c h1 h2 => leD_tot.trans a b c h1 h2) (fun a b => by
    have h : leD a b = true ∨ leD b a = true := leD_tot.total a b
    rcases h with h | h
    · rw [h]; rfl
    · rw [h, Bool.or_true]) l
theorem sort_p (l : List PyData) : (sortD l).Perm l := List.mergeSort_perm _ _
theorem sort_id {l : List PyData} (h : l.Pairwise fun a b => leD a b = true) : sortD l = l := List.mergeSort_of_pairwise h
theorem sort_id_sub {l l2 : List PyData} (h : sortD l = l) (s : l2.Sublist l) : sortD l2 = l2 := sort_id (List.Pairwise.sublist s (h ▸ sort_pw l))
theorem arcs_of {ls : List PyData} {fs : List Arc} (h : ls.Perm (arcsD fs)) : ∃ as : List Arc, ls = arcsD as ∧ as.Perm fs := by
  have key : ∀ (l : List PyData), (∀ x ∈ l, ∃ s, x = arcD s) → ∃ ss, l = arcsD ss := fun l => by
    induction l with
    | nil => exact fun _ => ⟨[], rfl⟩
    | cons x l ih =>
      intro h
      obtain ⟨s, rfl⟩ := h x (by simp)
      obtain ⟨ss, rfl⟩ := ih fun y hy => h y (by simp [hy])
      exact ⟨s :: ss, rfl⟩
  obtain ⟨as, rfl⟩ := key ls fun x hx => by
    have := (h.mem_iff).mp hx
    simp only [arcsD, List.mem_map] at this
    obtain ⟨s, _, rfl⟩ := this
    exact ⟨s, rfl⟩
  refine ⟨as, rfl, ?_⟩
  have := h.map (fun d => match d with | PyData.tuple [PyData.str a, PyData.str b, PyData.str c] => ((a, b, c) : Arc) | _ => default)
  simpa [arcsD, arcD, List.map_map, Function.comp_def] using this
theorem sortable_strs (ss : List Str) (h : ss.length ≤ 100000) : sortable (strsD ss) = true := by
  unfold sortable
  simp only [Bool.and_eq_true, Bool.or_eq_true, decide_eq_true_eq, strs_len]
  refine ⟨⟨⟨.inr ?_, ?_⟩, ?_⟩, h⟩
  · simp [strsD, isOth]
  · simp [strsD, alikeAllB, PySem.W.alike]
  · simp [strsD, PyData.depth]
theorem sortable_arcs (as : List Arc) (h : as.length ≤ 100000) : sortable (arcsD as) = true := by
  unfold sortable
  simp only [Bool.and_eq_true, Bool.or_eq_true, decide_eq_true_eq]
  refine ⟨⟨⟨.inl ?_, ?_⟩, ?_⟩, by simpa [arcsD] using h⟩
  · simp [arcsD, arcD, isTupC]
  · simp [arcsD, arcD, alikeAllB, PySem.W.alike, PySem.W.alikeAll]
  · simp [arcsD, arcD, PyData.depth, PyData.depthAll]
/-- what is drawn of ARCS so far -/
structure Fnd (tags names : List Str) (links : Nat) (as : List Arc) : Prop where
  len : as.length ≤ links
  nm : as.map (·.1) = names.take as.length
  en : ∀ a ∈ as, a.2.1 ∈ tags ∧ a.2.2 ∈ tags
theorem net_in {n m : Nat} {tags names : List Str} {most : Int} {links : Nat} {k : Int} {i : Nat} {M0 M1 : ASto} {as : List Arc} (s : Option Sl) (hn : n < m) (hm : M0.length = m) (hl : links ≤ names.length) (hl2 : links < 1000) (ht : tags.length < 900)
    (T : Tn n k M1) (S : Set1 n M0 M1) (hk : k < 2 ^ 40) (h0 : 0 < i) (h1 : i < tags.length) (F : Fnd tags names links as) :
    ∃ M2 as', (aIf (aTest (aOp aLt (aCall aLen (aCons (aVar 5) aNil)) (aVar 2))) (aDrop (aMut gAppend (aVar 5) (aTup (aCons (aOp aIx (aVar 4) (aCall aLen (aCons (aVar 5) aNil))) (aCons (aOp aIx (aVar 3) (aCall0 m__law_take (aCons (aVar 0) (aCons (aVar 6) aNil)))) (aCons (aOp aIx (aVar 3) (aVar 6)) aNil)))))) aNext)
      [some (.r n), some (.d (.int most)), some (.d (.int links)), some (.d (.list (strsD tags))), some (.d (.list (strsD names))), some (.r m), some (.d (.int i)), s]
      (M1 ++ [.lst ((arcsD as).map Sl.d)]) = .nx [some (.r n), some (.d (.int most)), some (.d (.int links)), some (.d (.list (strsD tags))), some (.d (.list (strsD names))), some (.r m), some (.d (.int i)), s] (M2 ++ [.lst ((arcsD as').map Sl.d)]) ∧ Fnd tags names links as' ∧ Tn n (k + 1) M2 ∧ Set1 n M0 M2 := by
  have hm1 : M1.length = m := S.len.trans hm
  by_cases hc : as.length < links
  · obtain ⟨v, M2, e, v0, v1, T2, S2⟩ := take_a (J := [.lst ((arcsD as).map Sl.d)]) (t := (i : Int)) T (.one (cl_data _)) hk (by omega) (by omega)
    have hm2 : M2.length = m := S2.len.trans hm1
    have hv : v.toNat < tags.length := by omega
    have e1 := ix_str (ss := names) (i := (as.length : Int)) (by omega) (by simp; omega)
    have e2 := ix_str (ss := tags) v0 hv
    have e3 := ix_str (ss := tags) (i := (i : Int)) (by omega) (by simpa using h1)
    have hc2 : ((as.length : Int) < (links : Int)) = True := eq_true (by omega)
    have b2 : (as.length < 100000) = True := eq_true (by omega)
    have al : (arcsD as).length = as.length := by simp [arcsD]
    refine ⟨M2, as ++ [(names[as.length]'(by omega), tags[v.toNat], tags[i])], ?_, ⟨by simp; omega, ?_, fun a ha => ?_⟩, T2, S.trans S2⟩
    · simp only [aSeq_eq, oSeq_nx, oSeq_rt, oSeq_ex, ↓bind_L, bind_ok, bind_ex, ↓resO_L, resO_ok, resO_ex, aIf, aRet, aAsg, aNm, aVar, aC, aOp, aCall, aCall0, aCons, aNil, aTest, aDrop, aNext, aTup, aLst, allD, aGTup, aGCons, aGNil, noEx, fnR, aNot, aAnd, aOr, aIfE, aPar, aPar3, startA, List.replicate, aI2, aI2C, aAddE, aCat0, aAddQ, sub_ok, lt_ok, gt_ok, le_ok, ge_ok, orF, aInt1, aAbs, aAndV, aOrV, aNotV, aIx, aSetIx, mod_ok, Nat.reduceAdd, Nat.reduceSub, Nat.zero_add, ixN0, ixNp, Option.bind_some, List.set_cons_zero, List.set_cons_succ, decide_eq_true_eq, decide_true, if_true, if_false, reduceIte, Bool.false_eq_true, ne_eq, aPart, aNoPart, aLen, aMin2, aLstC, List.length_cons, List.length_nil, List.map_cons, List.map_nil, List.cons_append, List.nil_append, List.getElem?_cons_zero, List.getElem?_cons_succ, List.append_assoc, List.length_append, Nat.zero_le, Nat.reduceLeDiff, Nat.le_refl, vwS, vwL, Option.map_some, aMut, isL, at0 hm1, at0 hm2, List.length_map, al, e, gAppend, b2, hc2, e1, e2, e3, set0 hm2, List.map_append, Int.toNat_natCast, arcs_app, arcD]
    · rw [List.map_append, F.nm, List.length_append]
      simp
    · rcases List.mem_append.mp ha with q | q
      · exact F.en a q
      · rw [List.mem_singleton.mp q]
        exact ⟨List.getElem_mem _, List.getElem_mem _⟩
  · have hc2 : ((as.length : Int) < (links : Int)) = False := eq_false (by omega)
    have al : (arcsD as).length = as.length := by simp [arcsD]
    refine ⟨M1, as, ?_, F, T.mono (by omega), S⟩
    simp only [aSeq_eq, oSeq_nx, oSeq_rt, oSeq_ex, ↓bind_L, bind_ok, bind_ex, ↓resO_L, resO_ok, resO_ex, aIf, aRet, aAsg, aNm, aVar, aC, aOp, aCall, aCall0, aCons, aNil, aTest, aDrop, aNext, aTup, aLst, allD, aGTup, aGCons, aGNil, noEx, fnR, aNot, aAnd, aOr, aIfE, aPar, aPar3, startA, List.replicate, aI2, aI2C, aAddE, aCat0, aAddQ, sub_ok, lt_ok, gt_ok, le_ok, ge_ok, orF, aInt1, aAbs, aAndV, aOrV, aNotV, aIx, aSetIx, mod_ok, Nat.reduceAdd, Nat.reduceSub, Nat.zero_add, ixN0, ixNp, Option.bind_some, List.set_cons_zero, List.set_cons_succ, decide_eq_true_eq, decide_true, if_true, if_false, reduceIte, Bool.false_eq_true, ne_eq, aPart, aNoPart, aLen, aMin2, aLstC, List.length_cons, List.length_nil, List.map_cons, List.map_nil, List.cons_append, List.nil_append, List.getElem?_cons_zero, List.getElem?_cons_succ, List.append_assoc, List.length_append, Nat.zero_le, Nat.reduceLeDiff, Nat.le_refl, vwS, vwL, Option.map_some, at0 hm1, List.length_map, al, hc2, decide_false]
end G
end
section
set_option Elab.async false
set_option linter.all false
set_option maxRecDepth 100000
set_option maxHeartbeats 4000000
namespace G
open PySem Ab
abbrev netB : AEnv → ASto → Out := aIf (aTest (aOp aLt (aCall aLen (aCons (aVar 5) aNil)) (aVar 2))) (aDrop (aMut gAppend (aVar 5) (aTup (aCons (aOp aIx (aVar 4) (aCall aLen (aCons (aVar 5) aNil))) (aCons (aOp aIx (aVar 3) (aCall0 m__law_take (aCons (aVar 0) (aCons (aVar 6) aNil)))) (aCons (aOp aIx (aVar 3) (aVar 6)) aNil)))))) aNext
abbrev netO : AEnv → ASto → Out := aFor (iRng1A (aCons (aCall0 m__law_take (aCons (aVar 0) (aCons (aC (.int 4)) aNil))) aNil)) (aNm 7) netB
theorem net_out {n m : Nat} {tags names : List Str} {most : Int} {links : Nat} {k : Int} {i : Nat} {M0 M1 : ASto} {as : List Arc} (s : Option Sl) (hn : n < m) (hm : M0.length = m) (hl : links ≤ names.length) (hl2 : links < 1000) (ht : tags.length < 900)
    (T : Tn n k M1) (S : Set1 n M0 M1) (hk : k + 10 < 2 ^ 40) (h0 : 0 < i) (h1 : i < tags.length) (F : Fnd tags names links as) :
    ∃ M2 as' s', netO [some (.r n), some (.d (.int most)), some (.d (.int links)), some (.d (.list (strsD tags))), some (.d (.list (strsD names))), some (.r m), some (.d (.int i)), s]
      (M1 ++ [.lst ((arcsD as).map Sl.d)]) = .nx [some (.r n), some (.d (.int most)), some (.d (.int links)), some (.d (.list (strsD tags))), some (.d (.list (strsD names))), some (.r m), some (.d (.int i)), s'] (M2 ++ [.lst ((arcsD as').map Sl.d)]) ∧ Fnd tags names links as' ∧ Tn n (k + 5) M2 ∧ Set1 n M0 M2 := by
  have hm1 : M1.length = m := S.len.trans hm
  obtain ⟨v, M2, e, v0, v1, T2, S2⟩ := take_a (J := [.lst ((arcsD as).map Sl.d)]) (t := 4) T (.one (cl_data _)) (by omega) (by omega) (by omega)
  have hrng : (-100000 ≤ v ∧ v ≤ 100000) = True := eq_true (by omega)
  obtain ⟨ds', M', e', s', as', M3, rfl, rfl, F3, T3, S3⟩ := for_inv (G := aNm 7) (f := netB)
    (fun j ds Mx => ∃ (s : Option Sl) (as' : List Arc) (M3 : ASto), ds = [some (.r n), some (.d (.int most)), some (.d (.int links)), some (.d (.list (strsD tags))), some (.d (.list (strsD names))), some (.r m), some (.d (.int i)), s] ∧ Mx = M3 ++ [.lst ((arcsD as').map Sl.d)] ∧ Fnd tags names links as' ∧ Tn n (k + 1 + j) M3 ∧ Set1 n M0 M3)
    (rangeL 0 v.toNat) 0 [some (.r n), some (.d (.int most)), some (.d (.int links)), some (.d (.list (strsD tags))), some (.d (.list (strsD names))), some (.r m), some (.d (.int i)), s] (M2 ++ [.lst ((arcsD as).map Sl.d)])
    (fun j x ds Mx hx ⟨s, as', M3, e1, e2, F3, T3, S3⟩ => by
      subst e1 e2
      have hj := (List.getElem?_eq_some_iff.mp hx).1
      rw [range_len] at hj
      obtain ⟨M4, as4, e4, F4, T4, S4⟩ := net_in (most := most) (some x) hn hm hl hl2 ht T3 S3 (by omega) h0 h1 F3
      exact ⟨_, _, _, rfl, e4, some x, as4, M4, rfl, rfl, F4, T4.mono (by omega), S4⟩)
    ⟨s, as, M2, rfl, rfl, F, T2.mono (by omega), S.trans S2⟩
  refine ⟨M3, as', s', ?_, F3, T3.mono (by rw [range_len]; omega), S3⟩
  simp only [aSeq_eq, oSeq_nx, oSeq_rt, oSeq_ex, ↓bind_L, bind_ok, bind_ex, ↓resO_L, resO_ok, resO_ex, aIf, aRet, aAsg, aNm, aVar, aC, aOp, aCall, aCall0, aCons, aNil, aTest, aDrop, aNext, aTup, aLst, allD, aGTup, aGCons, aGNil, noEx, fnR, aNot, aAnd, aOr, aIfE, aPar, aPar3, startA, List.replicate, aI2, aI2C, aAddE, aCat0, aAddQ, sub_ok, lt_ok, gt_ok, le_ok, ge_ok, orF, aInt1, aAbs, aAndV, aOrV, aNotV, aIx, aSetIx, mod_ok, Nat.reduceAdd, Nat.reduceSub, Nat.zero_add, ixN0, ixNp, Option.bind_some, List.set_cons_zero, List.set_cons_succ, decide_eq_true_eq, decide_true, if_true, if_false, reduceIte, Bool.false_eq_true, ne_eq, aPart, aNoPart, aLen, aMin2, aLstC, List.length_cons, List.length_nil, List.map_cons, List.map_nil, List.cons_append, List.nil_append, List.getElem?_cons_zero, List.getElem?_cons_succ, List.append_assoc, List.length_append, Nat.zero_le, Nat.reduceLeDiff, Nat.le_refl, vwS, vwL, Option.map_some, aFor, iRng1A, e, hrng, e']
def pool8 : List Str := (("abcdefgh" : Str).cps.toList.map fun c => (⟨#[c]⟩ : Str))
def pool16 : List Str := (("pqrstuvwxyz" : Str).cps.toList.map fun c => (⟨#[c]⟩ : Str)) ++ ([("aa" : Str), "b", "zz", "qq", "rr"] : List Str)
theorem strD8 : strD "abcdefgh" = strsD pool8 := by simp [strD, strsD, pool8, Function.comp_def]
theorem strD11 : strD "pqrstuvwxyz" = strsD (("pqrstuvwxyz" : Str).cps.toList.map fun c => (⟨#[c]⟩ : Str)) := by simp [strD, strsD, Function.comp_def]
theorem sz8 : (PySem.Str.ofString "abcdefgh").cps.size ≤ 100000 := by decide +kernel
theorem sz11 : (PySem.Str.ofString "pqrstuvwxyz").cps.size ≤ 100000 := by decide +kernel
theorem len8 : (strsD pool8).length = 8 := by decide +kernel
theorem len16 : pool16.length = 16 := by decide +kernel
theorem nodup8 : pool8.Nodup := by decide +kernel
theorem nodup16 : pool16.Nodup := by decide +kernel
/-- a drawn WEB -/
structure Web (es : List Str) (as : List Arc) : Prop where
  ne : es ≠ []
  le : es.length ≤ 8
  la : as.length ≤ 16
  nd : (as.map (·.1)).Nodup
  pl : ∀ a ∈ as, a.1 ∈ pool16
  en : ∀ a ∈ as, a.2.1 ∈ es ∧ a.2.2 ∈ es
  so : sortD (arcsD as) = arcsD as
  el : ∀ e ∈ es, e ∈ pool8
  ed : es.Nodup
  eso : sortD (strsD es) = strsD es
theorem net_s2 {M : ASto} {n : Nat} {k : Int} {most : Int} {links : Nat} (T : Tn n k M) (hk : k + 200 < 2 ^ 40) (h1 : 0 < most) (h2 : most ≤ 8) (h3 : links ≤ 16) :
    ∃ es as M', m__law_net [.r n, .d (.int most), .d (.int links)] M = .ok (.d (webD es as)) M' ∧ Web es as ∧ as.length ≤ links ∧ Tn n (k + 200) M' ∧ Set1 n M M' := by
  have hn := T.lt
  obtain ⟨v, M1, e1, v0, v1, T1, S1⟩ := take_s T (by omega) h1 (by omega)
  obtain ⟨ls, M2, e2, hl2, ⟨rs, hp2⟩, T2, S2⟩ := pick_s (pool := strsD pool8) (sz := 1 + v) T1 (by rw [len8]; omega) (by omega) (by rw [len8]; omega)
  obtain ⟨tags, rr, rfl, hp⟩ := strs_of hp2
  have l16 : (strsD pool16).length = 16 := by rw [strs_len, len16]
  rw [len8] at hl2 T2
  obtain ⟨ls3, M3, e3, hl3, ⟨rs3, hp3⟩, T3, S3⟩ := pick_s (pool := strsD pool16) (sz := (links : Int)) T2 (by rw [l16]; omega) (by omega) (by rw [l16]; omega)
  obtain ⟨names, rr3, rfl, hpn⟩ := strs_of hp3
  rw [l16] at hl3 T3
  rw [strs_len] at hl2 hl3
  have hm3 : M3.length = M.length := (S3.len.trans S2.len).trans S1.len
  have hcat : (strsD (("pqrstuvwxyz" : Str).cps.toList.map fun c => (⟨#[c]⟩ : Str))) ++ [.str "aa", .str "b", .str "zz", .str "qq", .str "rr"] = strsD pool16 := by simp [pool16, strsD]
  have t1 : 0 < tags.length := by omega
  have hrng : (-100000 ≤ (1 : Int) ∧ (1 : Int) ≤ 100000 ∧ -100000 ≤ (tags.length : Int) ∧ (tags.length : Int) ≤ 100000) = True := eq_true (by omega)
  obtain ⟨ds', M', e', s6, s7, as, M4, rfl, rfl, F4, T4, S4⟩ := for_inv (G := aNm 6) (f := netO)
    (fun j ds Mx => ∃ (s6 s7 : Option Sl) (as' : List Arc) (M4 : ASto), ds = [some (.r n), some (.d (.int most)), some (.d (.int links)), some (.d (.list (strsD tags))), some (.d (.list (strsD names))), some (.r M3.length), s6, s7] ∧ Mx = M4 ++ [.lst ((arcsD as').map Sl.d)] ∧ Fnd tags names links as' ∧ Tn n (k + 1 + 8 + 16 + 5 * j) M4 ∧ Set1 n M3 M4)
    (rangeL 1 (tags.length - 1)) 0 [some (.r n), some (.d (.int most)), some (.d (.int links)), some (.d (.list (strsD tags))), some (.d (.list (strsD names))), some (.r M3.length), none, none] (M3 ++ [.lst ((arcsD []).map Sl.d)])
    (fun j x ds Mx hx ⟨s6, s7, as', M4, e1, e2, F4, T4, S4⟩ => by
      subst e1 e2
      have hj := (List.getElem?_eq_some_iff.mp hx).1
      rw [range_len] at hj
      have hx2 := range_at 1 hx
      obtain ⟨M5, as5, s5, e5, F5, T5, S5⟩ := net_out (i := j + 1) (most := most) s7 (by rw [hm3]; exact hn) rfl (by omega) (by omega) (by omega) T4 S4 (by omega) (by omega) (by omega) F4
      refine ⟨_, _, _, rfl, ?_, some (.d (.int ((j + 1 : Nat) : Int))), s5, as5, M5, rfl, rfl, F5, T5.mono (by omega), S5⟩
      rw [hx2, show (1 : Int) + (j : Int) = ((j + 1 : Nat) : Int) by omega]
      exact e5)
    ⟨none, none, [], M3, rfl, rfl, ⟨Nat.zero_le _, rfl, fun a ha => by cases ha⟩, T3.mono (by omega), T3.refl⟩
  have hm4 : M4.length = M.length := S4.len.trans hm3
  obtain ⟨es, rr5, hes, pes⟩ := strs_of (ls := sortD (strsD tags)) (rs := []) (ps := tags) (by rw [List.append_nil]; exact sort_p (strsD tags))
  obtain ⟨as5, has, pas⟩ := arcs_of (sort_p (arcsD as))
  have rr0 : rr5 = [] := by
    have h1 := pes.length_eq
    have h2 : es.length = tags.length := by rw [← strs_len es, ← hes, (sort_p _).length_eq, strs_len]
    rw [List.length_append] at h1
    exact List.eq_nil_of_length_eq_zero (by omega)
  subst rr0
  rw [List.append_nil] at pes
  have nl : names.length = links := by omega
  have hnd : (tags ++ rr).Nodup := (hp.nodup_iff).mpr nodup8
  have hndn : (names ++ rr3).Nodup := (hpn.nodup_iff).mpr nodup16
  have hfl : as.length ≤ 16 := Nat.le_trans F4.len h3
  refine ⟨es, as5, M4, ?_, ⟨?_, ?_, by rw [pas.length_eq]; exact hfl, ?_, fun a ha => ?_, fun a ha => ?_, by rw [← has]; exact sort_id (sort_pw _), fun e he => hp.mem_iff.mp (List.mem_append_left _ (pes.mem_iff.mp he)), pes.nodup_iff.mpr (List.nodup_append.mp hnd).1, by rw [← hes]; exact sort_id (sort_pw _)⟩, by rw [pas.length_eq]; exact F4.len, T4.mono (by rw [range_len]; omega), ((S1.trans S2).trans S3).trans S4⟩
  · have hrng2 : (tags.length - 1 : Int).toNat = tags.length - 1 := by omega
    have e4 : m__law_pick [Sl.r n, Sl.d (PyData.list (strsD pool8)), Sl.d (PyData.int (1 + v))] M1 = _ := e2
    have e0 : arcsD [] = [] := rfl
    rw [e0, List.map_nil] at e'
    have l11 : ((List.map (fun c => (⟨#[c]⟩ : Str)) (PySem.Str.ofString "pqrstuvwxyz").cps.toList).length ≤ 99995) = True := eq_true (by decide +kernel)
    unfold m__law_net b__law_net runD
    simp only [aSeq_eq, oSeq_nx, oSeq_rt, oSeq_ex, ↓bind_L, bind_ok, bind_ex, ↓resO_L, resO_ok, resO_ex, aIf, aRet, aAsg, aNm, aVar, aC, aOp, aCall, aCall0, aCons, aNil, aTest, aDrop, aNext, aTup, aLst, allD, aGTup, aGCons, aGNil, noEx, fnR, aNot, aAnd, aOr, aIfE, aPar, aPar3, startA, List.replicate, aI2, aI2C, aAddE, aCat0, aAddQ, sub_ok, lt_ok, gt_ok, le_ok, ge_ok, orF, aInt1, aAbs, aAndV, aOrV, aNotV, aIx, aSetIx, mod_ok, Nat.reduceAdd, Nat.reduceSub, Nat.zero_add, ixN0, ixNp, Option.bind_some, List.set_cons_zero, List.set_cons_succ, decide_eq_true_eq, decide_true, if_true, if_false, reduceIte, Bool.false_eq_true, ne_eq, aPart, aNoPart, aLen, aMin2, aLstC, List.length_cons, List.length_nil, List.map_cons, List.map_nil, List.cons_append, List.nil_append, List.getElem?_cons_zero, List.getElem?_cons_succ, List.append_assoc, List.length_append, Nat.zero_le, Nat.reduceLeDiff, Nat.le_refl, vwS, vwL, Option.map_some, aListStr, sz8, sz11, strD8, strD11, e1, e2, orF, aCat, vwL, hcat, e3, aFor, iRng2A, strs_len, hrng, hrng2, l11, e', at0 S4.len, aTupOf, aSortQ, allD_map, sortable_strs tags (by omega), sortable_arcs as (by omega), webD]
    rw [← has, ← hes]
    exact close_app hm4 T4.cl
  · intro h; subst h
    have := pes.length_eq
    simp at this
    omega
  · rw [pes.length_eq]; omega
  · have h1 : (as5.map (·.1)).Perm (as.map (·.1)) := pas.map _
    rw [h1.nodup_iff, F4.nm]
    exact (List.nodup_append.mp hndn).1.sublist (List.take_sublist _ _)
  · have h1 : a.1 ∈ as.map (·.1) := List.mem_map.mpr ⟨a, pas.mem_iff.mp ha, rfl⟩
    rw [F4.nm] at h1
    exact hpn.mem_iff.mp (List.mem_append_left _ (List.mem_of_mem_take h1))
  · obtain ⟨q1, q2⟩ := F4.en a (pas.mem_iff.mp ha)
    exact ⟨pes.mem_iff.mpr q1, pes.mem_iff.mpr q2⟩
theorem net_s {M : ASto} {n : Nat} {k : Int} {most : Int} {links : Nat} (T : Tn n k M) (hk : k + 200 < 2 ^ 40) (h1 : 0 < most) (h2 : most ≤ 8) (h3 : links ≤ 16) :
    ∃ es as M', m__law_net [.r n, .d (.int most), .d (.int links)] M = .ok (.d (webD es as)) M' ∧ Web es as ∧ Tn n (k + 200) M' ∧ Set1 n M M' := by
  obtain ⟨es, as, M', e, W, _, T', S'⟩ := net_s2 T hk h1 h2 h3
  exact ⟨es, as, M', e, W, T', S'⟩
end G
end
section
set_option Elab.async false
set_option linter.all false
set_option maxRecDepth 100000
set_option maxHeartbeats 4000000
namespace G
open PySem Ab
theorem ia_list_tuple : (["list", "tuple"] : List String).all (fun b => tagsAll.contains b) = true := by decide +kernel
theorem iy_list_tuple__NoneType : (["list", "tuple"] : List String).any (subT "NoneType") = false := by decide +kernel
theorem iy_list_tuple__bool : (["list", "tuple"] : List String).any (subT "bool") = false := by decide +kernel
theorem iy_list_tuple__int : (["list", "tuple"] : List String).any (subT "int") = false := by decide +kernel
theorem iy_list_tuple__str : (["list", "tuple"] : List String).any (subT "str") = false := by decide +kernel
theorem iy_list_tuple__list : (["list", "tuple"] : List String).any (subT "list") = true := by decide +kernel
theorem iy_list_tuple__tuple : (["list", "tuple"] : List String).any (subT "tuple") = true := by decide +kernel
theorem ia_list : (["list"] : List String).all (fun b => tagsAll.contains b) = true := by decide +kernel
theorem iy_list__NoneType : (["list"] : List String).any (subT "NoneType") = false := by decide +kernel
theorem iy_list__bool : (["list"] : List String).any (subT "bool") = false := by decide +kernel
theorem iy_list__int : (["list"] : List String).any (subT "int") = false := by decide +kernel
theorem iy_list__str : (["list"] : List String).any (subT "str") = false := by decide +kernel
theorem iy_list__list : (["list"] : List String).any (subT "list") = true := by decide +kernel
theorem iy_list__tuple : (["list"] : List String).any (subT "tuple") = false := by decide +kernel
theorem ia_tuple : (["tuple"] : List String).all (fun b => tagsAll.contains b) = true := by decide +kernel
theorem iy_tuple__NoneType : (["tuple"] : List String).any (subT "NoneType") = false := by decide +kernel
theorem iy_tuple__bool : (["tuple"] : List String).any (subT "bool") = false := by decide +kernel
theorem iy_tuple__int : (["tuple"] : List String).any (subT "int") = false := by decide +kernel
theorem iy_tuple__str : (["tuple"] : List String).any (subT "str") = false := by decide +kernel
theorem iy_tuple__list : (["tuple"] : List String).any (subT "list") = false := by decide +kernel
theorem iy_tuple__tuple : (["tuple"] : List String).any (subT "tuple") = true := by decide +kernel
theorem ia_dict : (["dict"] : List String).all (fun b => tagsAll.contains b) = true := by decide +kernel
theorem iy_dict__NoneType : (["dict"] : List String).any (subT "NoneType") = false := by decide +kernel
theorem iy_dict__bool : (["dict"] : List String).any (subT "bool") = false := by decide +kernel
theorem iy_dict__int : (["dict"] : List String).any (subT "int") = false := by decide +kernel
theorem iy_dict__str : (["dict"] : List String).any (subT "str") = false := by decide +kernel
theorem iy_dict__list : (["dict"] : List String).any (subT "list") = false := by decide +kernel
theorem iy_dict__tuple : (["dict"] : List String).any (subT "tuple") = false := by decide +kernel
theorem ia_bool_str : (["bool", "str"] : List String).all (fun b => tagsAll.contains b) = true := by decide +kernel
theorem iy_bool_str__NoneType : (["bool", "str"] : List String).any (subT "NoneType") = false := by decide +kernel
theorem iy_bool_str__bool : (["bool", "str"] : List String).any (subT "bool") = true := by decide +kernel
theorem iy_bool_str__int : (["bool", "str"] : List String).any (subT "int") = false := by decide +kernel
theorem iy_bool_str__str : (["bool", "str"] : List String).any (subT "str") = true := by decide +kernel
theorem iy_bool_str__list : (["bool", "str"] : List String).any (subT "list") = false := by decide +kernel
theorem iy_bool_str__tuple : (["bool", "str"] : List String).any (subT "tuple") = false := by decide +kernel
theorem ia_int : (["int"] : List String).all (fun b => tagsAll.contains b) = true := by decide +kernel
theorem iy_int__NoneType : (["int"] : List String).any (subT "NoneType") = false := by decide +kernel
theorem iy_int__bool : (["int"] : List String).any (subT "bool") = true := by decide +kernel
theorem iy_int__int : (["int"] : List String).any (subT "int") = true := by decide +kernel
theorem iy_int__str : (["int"] : List String).any (subT "str") = false := by decide +kernel
theorem iy_int__list : (["int"] : List String).any (subT "list") = false := by decide +kernel
theorem iy_int__tuple : (["int"] : List String).any (subT "tuple") = false := by decide +kernel
theorem ia_bool : (["bool"] : List String).all (fun b => tagsAll.contains b) = true := by decide +kernel
theorem iy_bool__NoneType : (["bool"] : List String).any (subT "NoneType") = false := by decide +kernel
theorem iy_bool__bool : (["bool"] : List String).any (subT "bool") = true := by decide +kernel
theorem iy_bool__int : (["bool"] : List String).any (subT "int") = false := by decide +kernel
theorem iy_bool__str : (["bool"] : List String).any (subT "str") = false := by decide +kernel
theorem iy_bool__list : (["bool"] : List String).any (subT "list") = false := by decide +kernel
theorem iy_bool__tuple : (["bool"] : List String).any (subT "tuple") = false := by decide +kernel
theorem ia_str : (["str"] : List String).all (fun b => tagsAll.contains b) = true := by decide +kernel
theorem iy_str__NoneType : (["str"] : List String).any (subT "NoneType") = false := by decide +kernel
theorem iy_str__bool : (["str"] : List String).any (subT "bool") = false := by decide +kernel
theorem iy_str__int : (["str"] : List String).any (subT "int") = false := by decide +kernel
theorem iy_str__str : (["str"] : List String).any (subT "str") = true := by decide +kernel
theorem iy_str__list : (["str"] : List String).any (subT "list") = false := by decide +kernel
theorem iy_str__tuple : (["str"] : List String).any (subT "tuple") = false := by decide +kernel
/-- data of small size, at most k deep -/
def okD : Nat → PyData → Prop
  | 0, _ => False
  | k + 1, .list xs => xs.length ≤ 100000 ∧ ∀ y ∈ xs, okD k y
  | k + 1, .tuple xs => xs.length ≤ 100000 ∧ ∀ y ∈ xs, okD k y
  | _ + 1, .dict _ => False
  | _ + 1, .str x => PyData.strOk x = true
  | _ + 1, _ => True
def listsD : PyData → PyData
  | .list xs => .list (xs.attach.map fun ⟨x, _⟩ => listsD x)
  | .tuple xs => .list (xs.attach.map fun ⟨x, _⟩ => listsD x)
  | x => x
def frozenD : PyData → PyData
  | .list xs => .tuple (xs.attach.map fun ⟨x, _⟩ => frozenD x)
  | .tuple xs => .tuple (xs.attach.map fun ⟨x, _⟩ => frozenD x)
  | x => x
theorem lists_list (xs : List PyData) : listsD (.list xs) = .list (xs.map listsD) := by rw [listsD]; simp
theorem lists_tup (xs : List PyData) : listsD (.tuple xs) = .list (xs.map listsD) := by rw [listsD]; simp
theorem frozen_list (xs : List PyData) : frozenD (.list xs) = .tuple (xs.map frozenD) := by rw [frozenD]; simp
theorem frozen_tup (xs : List PyData) : frozenD (.tuple xs) = .tuple (xs.map frozenD) := by rw [frozenD]; simp
theorem lc_gen {G : Sl → AEnv → Option AEnv} {T : AEnv → ASto → Res Bool} {A : AEnv → ASto → Res Sl} {ds : AEnv} {M : ASto} {p : PyData → Bool} {h : PyData → PyData} :
    ∀ (xs acc : List PyData), (∀ x ∈ xs, ∃ e, G (.d x) ds = some e ∧ T e M = .ok (p x) M ∧ (p x = true → A e M = .ok (.d (h x)) M)) → aLcL G T A ds (xs.map Sl.d) acc M = .ok (acc ++ (xs.filter p).map h) M
  | [], acc, _ => by simp [aLcL]
  | x :: xs, acc, H => by
    obtain ⟨e, h1, h2, h3⟩ := H x (by simp)
    rw [List.map_cons]
    unfold aLcL
    rw [h1]
    dsimp only
    rw [h2]
    cases hp : p x with
    | false =>
      dsimp only
      rw [lc_gen xs acc fun y hy => H y (by simp [hy])]
      simp [hp]
    | true =>
      dsimp only
      rw [h3 hp]
      dsimp only
      rw [lc_gen xs (acc ++ [h x]) fun y hy => H y (by simp [hy])]
      simp [hp]
/-- a comprehension without conditions -/
theorem lc_all {G : Sl → AEnv → Option AEnv} {A : AEnv → ASto → Res Sl} {ds : AEnv} {M : ASto} {h : PyData → PyData} (xs : List PyData)
    (H : ∀ x ∈ xs, ∃ e, G (.d x) ds = some e ∧ A e M = .ok (.d (h x)) M) : aLcL G aYes A ds (xs.map Sl.d) [] M = .ok (xs.map h) M := by
  have := lc_gen (G := G) (T := aYes) (A := A) (ds := ds) (M := M) (p := fun _ => true) (h := h) xs [] fun x hx => by
    obtain ⟨e, h1, h2⟩ := H x hx
    exact ⟨e, h1, rfl, fun _ => h2⟩
  rw [this, List.nil_append, List.filter_eq_self.mpr (fun _ _ => rfl)]
theorem lists_ok {M : ASto} (cl : Cl M) : ∀ (k : Nat) (x : PyData), okD k x → r__law_lists k [.d x] M = .ok (.d (listsD x)) M
  | 0, x, h => h.elim
  | k + 1, x, h => by
    have key : ∀ xs : List PyData, (∀ y ∈ xs, okD k y) → aLcL (aNm 1) aYes (aCall0 (r__law_lists k) (aCons (aVar 1) aNil)) [some (.d x), none] (xs.map Sl.d) [] M = .ok (xs.map listsD) M := fun xs hx => lc_all xs fun y hy => ⟨[some (.d x), some (.d y)], rfl, by
      simp only [aSeq_eq, oSeq_nx, oSeq_rt, oSeq_ex, ↓bind_L, bind_ok, bind_ex, ↓resO_L, resO_ok, resO_ex, aIf, aRet, aAsg, aNm, aVar, aC, aOp, aCall, aCall0, aCons, aNil, aTest, aDrop, aNext, aTup, aLst, allD, aGTup, aGCons, aGNil, noEx, fnR, aNot, aAnd, aOr, aIfE, aPar, aPar3, startA, List.replicate, aI2, aI2C, aAddE, aCat0, aAddQ, sub_ok, lt_ok, gt_ok, le_ok, ge_ok, orF, aInt1, aAbs, aAndV, aOrV, aNotV, aIx, aSetIx, mod_ok, Nat.reduceAdd, Nat.reduceSub, Nat.zero_add, ixN0, ixNp, Option.bind_some, List.set_cons_zero, List.set_cons_succ, decide_eq_true_eq, decide_true, if_true, if_false, reduceIte, Bool.false_eq_true, ne_eq, aPart, aNoPart, aLen, aMin2, aLstC, List.length_cons, List.length_nil, List.map_cons, List.map_nil, List.cons_append, List.nil_append, List.getElem?_cons_zero, List.getElem?_cons_succ, List.append_assoc, List.length_append, Nat.zero_le, Nat.reduceLeDiff, Nat.le_refl, vwS, vwL, Option.map_some, lists_ok cl k y (hx y hy)]⟩
    unfold r__law_lists runD b__law_lists
    cases x with
    | list xs =>
      obtain ⟨h1, h2⟩ := h
      simp only [aSeq_eq, oSeq_nx, oSeq_rt, oSeq_ex, ↓bind_L, bind_ok, bind_ex, ↓resO_L, resO_ok, resO_ex, aIf, aRet, aAsg, aNm, aVar, aC, aOp, aCall, aCall0, aCons, aNil, aTest, aDrop, aNext, aTup, aLst, allD, aGTup, aGCons, aGNil, noEx, fnR, aNot, aAnd, aOr, aIfE, aPar, aPar3, startA, List.replicate, aI2, aI2C, aAddE, aCat0, aAddQ, sub_ok, lt_ok, gt_ok, le_ok, ge_ok, orF, aInt1, aAbs, aAndV, aOrV, aNotV, aIx, aSetIx, mod_ok, Nat.reduceAdd, Nat.reduceSub, Nat.zero_add, ixN0, ixNp, Option.bind_some, List.set_cons_zero, List.set_cons_succ, decide_eq_true_eq, decide_true, if_true, if_false, reduceIte, Bool.false_eq_true, ne_eq, aPart, aNoPart, aLen, aMin2, aLstC, List.length_cons, List.length_nil, List.map_cons, List.map_nil, List.cons_append, List.nil_append, List.getElem?_cons_zero, List.getElem?_cons_succ, List.append_assoc, List.length_append, Nat.zero_le, Nat.reduceLeDiff, Nat.le_refl, vwS, vwL, Option.map_some, aIsI, tagS, tagD, ia_list_tuple, iy_list_tuple__NoneType, iy_list_tuple__bool, iy_list_tuple__int, iy_list_tuple__str, iy_list_tuple__list, iy_list_tuple__tuple, ia_list, iy_list__NoneType, iy_list__bool, iy_list__int, iy_list__str, iy_list__list, iy_list__tuple, ia_tuple, iy_tuple__NoneType, iy_tuple__bool, iy_tuple__int, iy_tuple__str, iy_tuple__list, iy_tuple__tuple, ia_dict, iy_dict__NoneType, iy_dict__bool, iy_dict__int, iy_dict__str, iy_dict__list, iy_dict__tuple, ia_bool_str, iy_bool_str__NoneType, iy_bool_str__bool, iy_bool_str__int, iy_bool_str__str, iy_bool_str__list, iy_bool_str__tuple, ia_int, iy_int__NoneType, iy_int__bool, iy_int__int, iy_int__str, iy_int__list, iy_int__tuple, ia_bool, iy_bool__NoneType, iy_bool__bool, iy_bool__int, iy_bool__str, iy_bool__list, iy_bool__tuple, ia_str, iy_str__NoneType, iy_str__bool, iy_str__int, iy_str__str, iy_str__list, iy_str__tuple, aLc, iSeqA, List.length_map, h1, wipeA, key xs h2, lists_list]
      exact close_ok rfl cl
    | tuple xs =>
      obtain ⟨h1, h2⟩ := h
      simp only [aSeq_eq, oSeq_nx, oSeq_rt, oSeq_ex, ↓bind_L, bind_ok, bind_ex, ↓resO_L, resO_ok, resO_ex, aIf, aRet, aAsg, aNm, aVar, aC, aOp, aCall, aCall0, aCons, aNil, aTest, aDrop, aNext, aTup, aLst, allD, aGTup, aGCons, aGNil, noEx, fnR, aNot, aAnd, aOr, aIfE, aPar, aPar3, startA, List.replicate, aI2, aI2C, aAddE, aCat0, aAddQ, sub_ok, lt_ok, gt_ok, le_ok, ge_ok, orF, aInt1, aAbs, aAndV, aOrV, aNotV, aIx, aSetIx, mod_ok, Nat.reduceAdd, Nat.reduceSub, Nat.zero_add, ixN0, ixNp, Option.bind_some, List.set_cons_zero, List.set_cons_succ, decide_eq_true_eq, decide_true, if_true, if_false, reduceIte, Bool.false_eq_true, ne_eq, aPart, aNoPart, aLen, aMin2, aLstC, List.length_cons, List.length_nil, List.map_cons, List.map_nil, List.cons_append, List.nil_append, List.getElem?_cons_zero, List.getElem?_cons_succ, List.append_assoc, List.length_append, Nat.zero_le, Nat.reduceLeDiff, Nat.le_refl, vwS, vwL, Option.map_some, aIsI, tagS, tagD, ia_list_tuple, iy_list_tuple__NoneType, iy_list_tuple__bool, iy_list_tuple__int, iy_list_tuple__str, iy_list_tuple__list, iy_list_tuple__tuple, ia_list, iy_list__NoneType, iy_list__bool, iy_list__int, iy_list__str, iy_list__list, iy_list__tuple, ia_tuple, iy_tuple__NoneType, iy_tuple__bool, iy_tuple__int, iy_tuple__str, iy_tuple__list, iy_tuple__tuple, ia_dict, iy_dict__NoneType, iy_dict__bool, iy_dict__int, iy_dict__str, iy_dict__list, iy_dict__tuple, ia_bool_str, iy_bool_str__NoneType, iy_bool_str__bool, iy_bool_str__int, iy_bool_str__str, iy_bool_str__list, iy_bool_str__tuple, ia_int, iy_int__NoneType, iy_int__bool, iy_int__int, iy_int__str, iy_int__list, iy_int__tuple, ia_bool, iy_bool__NoneType, iy_bool__bool, iy_bool__int, iy_bool__str, iy_bool__list, iy_bool__tuple, ia_str, iy_str__NoneType, iy_str__bool, iy_str__int, iy_str__str, iy_str__list, iy_str__tuple, aLc, iSeqA, List.length_map, h1, wipeA, key xs h2, lists_tup]
      exact close_ok rfl cl
    | dict kv => exact h.elim
    | none => simp only [aSeq_eq, oSeq_nx, oSeq_rt, oSeq_ex, ↓bind_L, bind_ok, bind_ex, ↓resO_L, resO_ok, resO_ex, aIf, aRet, aAsg, aNm, aVar, aC, aOp, aCall, aCall0, aCons, aNil, aTest, aDrop, aNext, aTup, aLst, allD, aGTup, aGCons, aGNil, noEx, fnR, aNot, aAnd, aOr, aIfE, aPar, aPar3, startA, List.replicate, aI2, aI2C, aAddE, aCat0, aAddQ, sub_ok, lt_ok, gt_ok, le_ok, ge_ok, orF, aInt1, aAbs, aAndV, aOrV, aNotV, aIx, aSetIx, mod_ok, Nat.reduceAdd, Nat.reduceSub, Nat.zero_add, ixN0, ixNp, Option.bind_some, List.set_cons_zero, List.set_cons_succ, decide_eq_true_eq, decide_true, if_true, if_false, reduceIte, Bool.false_eq_true, ne_eq, aPart, aNoPart, aLen, aMin2, aLstC, List.length_cons, List.length_nil, List.map_cons, List.map_nil, List.cons_append, List.nil_append, List.getElem?_cons_zero, List.getElem?_cons_succ, List.append_assoc, List.length_append, Nat.zero_le, Nat.reduceLeDiff, Nat.le_refl, vwS, vwL, Option.map_some, aIsI, tagS, tagD, ia_list_tuple, iy_list_tuple__NoneType, iy_list_tuple__bool, iy_list_tuple__int, iy_list_tuple__str, iy_list_tuple__list, iy_list_tuple__tuple, ia_list, iy_list__NoneType, iy_list__bool, iy_list__int, iy_list__str, iy_list__list, iy_list__tuple, ia_tuple, iy_tuple__NoneType, iy_tuple__bool, iy_tuple__int, iy_tuple__str, iy_tuple__list, iy_tuple__tuple, ia_dict, iy_dict__NoneType, iy_dict__bool, iy_dict__int, iy_dict__str, iy_dict__list, iy_dict__tuple, ia_bool_str, iy_bool_str__NoneType, iy_bool_str__bool, iy_bool_str__int, iy_bool_str__str, iy_bool_str__list, iy_bool_str__tuple, ia_int, iy_int__NoneType, iy_int__bool, iy_int__int, iy_int__str, iy_int__list, iy_int__tuple, ia_bool, iy_bool__NoneType, iy_bool__bool, iy_bool__int, iy_bool__str, iy_bool__list, iy_bool__tuple, ia_str, iy_str__NoneType, iy_str__bool, iy_str__int, iy_str__str, iy_str__list, iy_str__tuple, listsD]; exact close_ok rfl cl
    | bool b => simp only [aSeq_eq, oSeq_nx, oSeq_rt, oSeq_ex, ↓bind_L, bind_ok, bind_ex, ↓resO_L, resO_ok, resO_ex, aIf, aRet, aAsg, aNm, aVar, aC, aOp, aCall, aCall0, aCons, aNil, aTest, aDrop, aNext, aTup, aLst, allD, aGTup, aGCons, aGNil, noEx, fnR, aNot, aAnd, aOr, aIfE, aPar, aPar3, startA, List.replicate, aI2, aI2C, aAddE, aCat0, aAddQ, sub_ok, lt_ok, gt_ok, le_ok, ge_ok, orF, aInt1, aAbs, aAndV, aOrV, aNotV, aIx, aSetIx, mod_ok, Nat.reduceAdd, Nat.reduceSub, Nat.zero_add, ixN0, ixNp, Option.bind_some, List.set_cons_zero, List.set_cons_succ, decide_eq_true_eq, decide_true, if_true, if_false, reduceIte, Bool.false_eq_true, ne_eq, aPart, aNoPart, aLen, aMin2, aLstC, List.length_cons, List.length_nil, List.map_cons, List.map_nil, List.cons_append, List.nil_append, List.getElem?_cons_zero, List.getElem?_cons_succ, List.append_assoc, List.length_append, Nat.zero_le, Nat.reduceLeDiff, Nat.le_refl, vwS, vwL, Option.map_some, aIsI, tagS, tagD, ia_list_tuple, iy_list_tuple__NoneType, iy_list_tuple__bool, iy_list_tuple__int, iy_list_tuple__str, iy_list_tuple__list, iy_list_tuple__tuple, ia_list, iy_list__NoneType, iy_list__bool, iy_list__int, iy_list__str, iy_list__list, iy_list__tuple, ia_tuple, iy_tuple__NoneType, iy_tuple__bool, iy_tuple__int, iy_tuple__str, iy_tuple__list, iy_tuple__tuple, ia_dict, iy_dict__NoneType, iy_dict__bool, iy_dict__int, iy_dict__str, iy_dict__list, iy_dict__tuple, ia_bool_str, iy_bool_str__NoneType, iy_bool_str__bool, iy_bool_str__int, iy_bool_str__str, iy_bool_str__list, iy_bool_str__tuple, ia_int, iy_int__NoneType, iy_int__bool, iy_int__int, iy_int__str, iy_int__list, iy_int__tuple, ia_bool, iy_bool__NoneType, iy_bool__bool, iy_bool__int, iy_bool__str, iy_bool__list, iy_bool__tuple, ia_str, iy_str__NoneType, iy_str__bool, iy_str__int, iy_str__str, iy_str__list, iy_str__tuple, listsD]; exact close_ok rfl cl
    | int b => simp only [aSeq_eq, oSeq_nx, oSeq_rt, oSeq_ex, ↓bind_L, bind_ok, bind_ex, ↓resO_L, resO_ok, resO_ex, aIf, aRet, aAsg, aNm, aVar, aC, aOp, aCall, aCall0, aCons, aNil, aTest, aDrop, aNext, aTup, aLst, allD, aGTup, aGCons, aGNil, noEx, fnR, aNot, aAnd, aOr, aIfE, aPar, aPar3, startA, List.replicate, aI2, aI2C, aAddE, aCat0, aAddQ, sub_ok, lt_ok, gt_ok, le_ok, ge_ok, orF, aInt1, aAbs, aAndV, aOrV, aNotV, aIx, aSetIx, mod_ok, Nat.reduceAdd, Nat.reduceSub, Nat.zero_add, ixN0, ixNp, Option.bind_some, List.set_cons_zero, List.set_cons_succ, decide_eq_true_eq, decide_true, if_true, if_false, reduceIte, Bool.false_eq_true, ne_eq, aPart, aNoPart, aLen, aMin2, aLstC, List.length_cons, List.length_nil, List.map_cons, List.map_nil, List.cons_append, List.nil_append, List.getElem?_cons_zero, List.getElem?_cons_succ, List.append_assoc, List.length_append, Nat.zero_le, Nat.reduceLeDiff, Nat.le_refl, vwS, vwL, Option.map_some, aIsI, tagS, tagD, ia_list_tuple, iy_list_tuple__NoneType, iy_list_tuple__bool, iy_list_tuple__int, iy_list_tuple__str, iy_list_tuple__list, iy_list_tuple__tuple, ia_list, iy_list__NoneType, iy_list__bool, iy_list__int, iy_list__str, iy_list__list, iy_list__tuple, ia_tuple, iy_tuple__NoneType, iy_tuple__bool, iy_tuple__int, iy_tuple__str, iy_tuple__list, iy_tuple__tuple, ia_dict, iy_dict__NoneType, iy_dict__bool, iy_dict__int, iy_dict__str, iy_dict__list, iy_dict__tuple, ia_bool_str, iy_bool_str__NoneType, iy_bool_str__bool, iy_bool_str__int, iy_bool_str__str, iy_bool_str__list, iy_bool_str__tuple, ia_int, iy_int__NoneType, iy_int__bool, iy_int__int, iy_int__str, iy_int__list, iy_int__tuple, ia_bool, iy_bool__NoneType, iy_bool__bool, iy_bool__int, iy_bool__str, iy_bool__list, iy_bool__tuple, ia_str, iy_str__NoneType, iy_str__bool, iy_str__int, iy_str__str, iy_str__list, iy_str__tuple, listsD]; exact close_ok rfl cl
    | str b => simp only [aSeq_eq, oSeq_nx, oSeq_rt, oSeq_ex, ↓bind_L, bind_ok, bind_ex, ↓resO_L, resO_ok, resO_ex, aIf, aRet, aAsg, aNm, aVar, aC, aOp, aCall, aCall0, aCons, aNil, aTest, aDrop, aNext, aTup, aLst, allD, aGTup, aGCons, aGNil, noEx, fnR, aNot, aAnd, aOr, aIfE, aPar, aPar3, startA, List.replicate, aI2, aI2C, aAddE, aCat0, aAddQ, sub_ok, lt_ok, gt_ok, le_ok, ge_ok, orF, aInt1, aAbs, aAndV, aOrV, aNotV, aIx, aSetIx, mod_ok, Nat.reduceAdd, Nat.reduceSub, Nat.zero_add, ixN0, ixNp, Option.bind_some, List.set_cons_zero, List.set_cons_succ, decide_eq_true_eq, decide_true, if_true, if_false, reduceIte, Bool.false_eq_true, ne_eq, aPart, aNoPart, aLen, aMin2, aLstC, List.length_cons, List.length_nil, List.map_cons, List.map_nil, List.cons_append, List.nil_append, List.getElem?_cons_zero, List.getElem?_cons_succ, List.append_assoc, List.length_append, Nat.zero_le, Nat.reduceLeDiff, Nat.le_refl, vwS, vwL, Option.map_some, aIsI, tagS, tagD, ia_list_tuple, iy_list_tuple__NoneType, iy_list_tuple__bool, iy_list_tuple__int, iy_list_tuple__str, iy_list_tuple__list, iy_list_tuple__tuple, ia_list, iy_list__NoneType, iy_list__bool, iy_list__int, iy_list__str, iy_list__list, iy_list__tuple, ia_tuple, iy_tuple__NoneType, iy_tuple__bool, iy_tuple__int, iy_tuple__str, iy_tuple__list, iy_tuple__tuple, ia_dict, iy_dict__NoneType, iy_dict__bool, iy_dict__int, iy_dict__str, iy_dict__list, iy_dict__tuple, ia_bool_str, iy_bool_str__NoneType, iy_bool_str__bool, iy_bool_str__int, iy_bool_str__str, iy_bool_str__list, iy_bool_str__tuple, ia_int, iy_int__NoneType, iy_int__bool, iy_int__int, iy_int__str, iy_int__list, iy_int__tuple, ia_bool, iy_bool__NoneType, iy_bool__bool, iy_bool__int, iy_bool__str, iy_bool__list, iy_bool__tuple, ia_str, iy_str__NoneType, iy_str__bool, iy_str__int, iy_str__str, iy_str__list, iy_str__tuple, listsD]; exact close_ok rfl cl
theorem frozen_ok {M : ASto} (cl : Cl M) : ∀ (k : Nat) (x : PyData), okD k x → r_frozen k [.d x] M = .ok (.d (frozenD x)) M
  | 0, x, h => h.elim
  | k + 1, x, h => by
    have key : ∀ xs : List PyData, (∀ y ∈ xs, okD k y) → aLcL (aNm 1) aYes (aCall0 (r_frozen k) (aCons (aVar 1) aNil)) [some (.d x), none] (xs.map Sl.d) [] M = .ok (xs.map frozenD) M := fun xs hx => lc_all xs fun y hy => ⟨[some (.d x), some (.d y)], rfl, by
      simp only [aSeq_eq, oSeq_nx, oSeq_rt, oSeq_ex, ↓bind_L, bind_ok, bind_ex, ↓resO_L, resO_ok, resO_ex, aIf, aRet, aAsg, aNm, aVar, aC, aOp, aCall, aCall0, aCons, aNil, aTest, aDrop, aNext, aTup, aLst, allD, aGTup, aGCons, aGNil, noEx, fnR, aNot, aAnd, aOr, aIfE, aPar, aPar3, startA, List.replicate, aI2, aI2C, aAddE, aCat0, aAddQ, sub_ok, lt_ok, gt_ok, le_ok, ge_ok, orF, aInt1, aAbs, aAndV, aOrV, aNotV, aIx, aSetIx, mod_ok, Nat.reduceAdd, Nat.reduceSub, Nat.zero_add, ixN0, ixNp, Option.bind_some, List.set_cons_zero, List.set_cons_succ, decide_eq_true_eq, decide_true, if_true, if_false, reduceIte, Bool.false_eq_true, ne_eq, aPart, aNoPart, aLen, aMin2, aLstC, List.length_cons, List.length_nil, List.map_cons, List.map_nil, List.cons_append, List.nil_append, List.getElem?_cons_zero, List.getElem?_cons_succ, List.append_assoc, List.length_append, Nat.zero_le, Nat.reduceLeDiff, Nat.le_refl, vwS, vwL, Option.map_some, frozen_ok cl k y (hx y hy)]⟩
    unfold r_frozen runD b_frozen
    cases x with
    | list xs =>
      obtain ⟨h1, h2⟩ := h
      simp only [aSeq_eq, oSeq_nx, oSeq_rt, oSeq_ex, ↓bind_L, bind_ok, bind_ex, ↓resO_L, resO_ok, resO_ex, aIf, aRet, aAsg, aNm, aVar, aC, aOp, aCall, aCall0, aCons, aNil, aTest, aDrop, aNext, aTup, aLst, allD, aGTup, aGCons, aGNil, noEx, fnR, aNot, aAnd, aOr, aIfE, aPar, aPar3, startA, List.replicate, aI2, aI2C, aAddE, aCat0, aAddQ, sub_ok, lt_ok, gt_ok, le_ok, ge_ok, orF, aInt1, aAbs, aAndV, aOrV, aNotV, aIx, aSetIx, mod_ok, Nat.reduceAdd, Nat.reduceSub, Nat.zero_add, ixN0, ixNp, Option.bind_some, List.set_cons_zero, List.set_cons_succ, decide_eq_true_eq, decide_true, if_true, if_false, reduceIte, Bool.false_eq_true, ne_eq, aPart, aNoPart, aLen, aMin2, aLstC, List.length_cons, List.length_nil, List.map_cons, List.map_nil, List.cons_append, List.nil_append, List.getElem?_cons_zero, List.getElem?_cons_succ, List.append_assoc, List.length_append, Nat.zero_le, Nat.reduceLeDiff, Nat.le_refl, vwS, vwL, Option.map_some, aIsI, tagS, tagD, ia_list_tuple, iy_list_tuple__NoneType, iy_list_tuple__bool, iy_list_tuple__int, iy_list_tuple__str, iy_list_tuple__list, iy_list_tuple__tuple, ia_list, iy_list__NoneType, iy_list__bool, iy_list__int, iy_list__str, iy_list__list, iy_list__tuple, ia_tuple, iy_tuple__NoneType, iy_tuple__bool, iy_tuple__int, iy_tuple__str, iy_tuple__list, iy_tuple__tuple, ia_dict, iy_dict__NoneType, iy_dict__bool, iy_dict__int, iy_dict__str, iy_dict__list, iy_dict__tuple, ia_bool_str, iy_bool_str__NoneType, iy_bool_str__bool, iy_bool_str__int, iy_bool_str__str, iy_bool_str__list, iy_bool_str__tuple, ia_int, iy_int__NoneType, iy_int__bool, iy_int__int, iy_int__str, iy_int__list, iy_int__tuple, ia_bool, iy_bool__NoneType, iy_bool__bool, iy_bool__int, iy_bool__str, iy_bool__list, iy_bool__tuple, ia_str, iy_str__NoneType, iy_str__bool, iy_str__int, iy_str__str, iy_str__list, iy_str__tuple, aLc, iSeqA, List.length_map, h1, wipeA, key xs h2, frozen_list, aTupOf]
      exact close_ok rfl cl
    | tuple xs =>
      obtain ⟨h1, h2⟩ := h
      simp only [aSeq_eq, oSeq_nx, oSeq_rt, oSeq_ex, ↓bind_L, bind_ok, bind_ex, ↓resO_L, resO_ok, resO_ex, aIf, aRet, aAsg, aNm, aVar, aC, aOp, aCall, aCall0, aCons, aNil, aTest, aDrop, aNext, aTup, aLst, allD, aGTup, aGCons, aGNil, noEx, fnR, aNot, aAnd, aOr, aIfE, aPar, aPar3, startA, List.replicate, aI2, aI2C, aAddE, aCat0, aAddQ, sub_ok, lt_ok, gt_ok, le_ok, ge_ok, orF, aInt1, aAbs, aAndV, aOrV, aNotV, aIx, aSetIx, mod_ok, Nat.reduceAdd, Nat.reduceSub, Nat.zero_add, ixN0, ixNp, Option.bind_some, List.set_cons_zero, List.set_cons_succ, decide_eq_true_eq, decide_true, if_true, if_false, reduceIte, Bool.false_eq_true, ne_eq, aPart, aNoPart, aLen, aMin2, aLstC, List.length_cons, List.length_nil, List.map_cons, List.map_nil, List.cons_append, List.nil_append, List.getElem?_cons_zero, List.getElem?_cons_succ, List.append_assoc, List.length_append, Nat.zero_le, Nat.reduceLeDiff, Nat.le_refl, vwS, vwL, Option.map_some, aIsI, tagS, tagD, ia_list_tuple, iy_list_tuple__NoneType, iy_list_tuple__bool, iy_list_tuple__int, iy_list_tuple__str, iy_list_tuple__list, iy_list_tuple__tuple, ia_list, iy_list__NoneType, iy_list__bool, iy_list__int, iy_list__str, iy_list__list, iy_list__tuple, ia_tuple, iy_tuple__NoneType, iy_tuple__bool, iy_tuple__int, iy_tuple__str, iy_tuple__list, iy_tuple__tuple, ia_dict, iy_dict__NoneType, iy_dict__bool, iy_dict__int, iy_dict__str, iy_dict__list, iy_dict__tuple, ia_bool_str, iy_bool_str__NoneType, iy_bool_str__bool, iy_bool_str__int, iy_bool_str__str, iy_bool_str__list, iy_bool_str__tuple, ia_int, iy_int__NoneType, iy_int__bool, iy_int__int, iy_int__str, iy_int__list, iy_int__tuple, ia_bool, iy_bool__NoneType, iy_bool__bool, iy_bool__int, iy_bool__str, iy_bool__list, iy_bool__tuple, ia_str, iy_str__NoneType, iy_str__bool, iy_str__int, iy_str__str, iy_str__list, iy_str__tuple, aLc, iSeqA, List.length_map, h1, wipeA, key xs h2, frozen_tup, aTupOf]
      exact close_ok rfl cl
    | dict kv => exact h.elim
    | none => simp only [aSeq_eq, oSeq_nx, oSeq_rt, oSeq_ex, ↓bind_L, bind_ok, bind_ex, ↓resO_L, resO_ok, resO_ex, aIf, aRet, aAsg, aNm, aVar, aC, aOp, aCall, aCall0, aCons, aNil, aTest, aDrop, aNext, aTup, aLst, allD, aGTup, aGCons, aGNil, noEx, fnR, aNot, aAnd, aOr, aIfE, aPar, aPar3, startA, List.replicate, aI2, aI2C, aAddE, aCat0, aAddQ, sub_ok, lt_ok, gt_ok, le_ok, ge_ok, orF, aInt1, aAbs, aAndV, aOrV, aNotV, aIx, aSetIx, mod_ok, Nat.reduceAdd, Nat.reduceSub, Nat.zero_add, ixN0, ixNp, Option.bind_some, List.set_cons_zero, List.set_cons_succ, decide_eq_true_eq, decide_true, if_true, if_false, reduceIte, Bool.false_eq_true, ne_eq, aPart, aNoPart, aLen, aMin2, aLstC, List.length_cons, List.length_nil, List.map_cons, List.map_nil, List.cons_append, List.nil_append, List.getElem?_cons_zero, List.getElem?_cons_succ, List.append_assoc, List.length_append, Nat.zero_le, Nat.reduceLeDiff, Nat.le_refl, vwS, vwL, Option.map_some, aIsI, tagS, tagD, ia_list_tuple, iy_list_tuple__NoneType, iy_list_tuple__bool, iy_list_tuple__int, iy_list_tuple__str, iy_list_tuple__list, iy_list_tuple__tuple, ia_list, iy_list__NoneType, iy_list__bool, iy_list__int, iy_list__str, iy_list__list, iy_list__tuple, ia_tuple, iy_tuple__NoneType, iy_tuple__bool, iy_tuple__int, iy_tuple__str, iy_tuple__list, iy_tuple__tuple, ia_dict, iy_dict__NoneType, iy_dict__bool, iy_dict__int, iy_dict__str, iy_dict__list, iy_dict__tuple, ia_bool_str, iy_bool_str__NoneType, iy_bool_str__bool, iy_bool_str__int, iy_bool_str__str, iy_bool_str__list, iy_bool_str__tuple, ia_int, iy_int__NoneType, iy_int__bool, iy_int__int, iy_int__str, iy_int__list, iy_int__tuple, ia_bool, iy_bool__NoneType, iy_bool__bool, iy_bool__int, iy_bool__str, iy_bool__list, iy_bool__tuple, ia_str, iy_str__NoneType, iy_str__bool, iy_str__int, iy_str__str, iy_str__list, iy_str__tuple, frozenD]; exact close_ok rfl cl
    | bool b => simp only [aSeq_eq, oSeq_nx, oSeq_rt, oSeq_ex, ↓bind_L, bind_ok, bind_ex, ↓resO_L, resO_ok, resO_ex, aIf, aRet, aAsg, aNm, aVar, aC, aOp, aCall, aCall0, aCons, aNil, aTest, aDrop, aNext, aTup, aLst, allD, aGTup, aGCons, aGNil, noEx, fnR, aNot, aAnd, aOr, aIfE, aPar, aPar3, startA, List.replicate, aI2, aI2C, aAddE, aCat0, aAddQ, sub_ok, lt_ok, gt_ok, le_ok, ge_ok, orF, aInt1, aAbs, aAndV, aOrV, aNotV, aIx, aSetIx, mod_ok, Nat.reduceAdd, Nat.reduceSub, Nat.zero_add, ixN0, ixNp, Option.bind_some, List.set_cons_zero, List.set_cons_succ, decide_eq_true_eq, decide_true, if_true, if_false, reduceIte, Bool.false_eq_true, ne_eq, aPart, aNoPart, aLen, aMin2, aLstC, List.length_cons, List.length_nil, List.map_cons, List.map_nil, List.cons_append, List.nil_append, List.getElem?_cons_zero, List.getElem?_cons_succ, List.append_assoc, List.length_append, Nat.zero_le, Nat.reduceLeDiff, Nat.le_refl, vwS, vwL, Option.map_some, aIsI, tagS, tagD, ia_list_tuple, iy_list_tuple__NoneType, iy_list_tuple__bool, iy_list_tuple__int, iy_list_tuple__str, iy_list_tuple__list, iy_list_tuple__tuple, ia_list, iy_list__NoneType, iy_list__bool, iy_list__int, iy_list__str, iy_list__list, iy_list__tuple, ia_tuple, iy_tuple__NoneType, iy_tuple__bool, iy_tuple__int, iy_tuple__str, iy_tuple__list, iy_tuple__tuple, ia_dict, iy_dict__NoneType, iy_dict__bool, iy_dict__int, iy_dict__str, iy_dict__list, iy_dict__tuple, ia_bool_str, iy_bool_str__NoneType, iy_bool_str__bool, iy_bool_str__int, iy_bool_str__str, iy_bool_str__list, iy_bool_str__tuple, ia_int, iy_int__NoneType, iy_int__bool, iy_int__int, iy_int__str, iy_int__list, iy_int__tuple, ia_bool, iy_bool__NoneType, iy_bool__bool, iy_bool__int, iy_bool__str, iy_bool__list, iy_bool__tuple, ia_str, iy_str__NoneType, iy_str__bool, iy_str__int, iy_str__str, iy_str__list, iy_str__tuple, frozenD]; exact close_ok rfl cl
    | int b => simp only [aSeq_eq, oSeq_nx, oSeq_rt, oSeq_ex, ↓bind_L, bind_ok, bind_ex, ↓resO_L, resO_ok, resO_ex, aIf, aRet, aAsg, aNm, aVar, aC, aOp, aCall, aCall0, aCons, aNil, aTest, aDrop, aNext, aTup, aLst, allD, aGTup, aGCons, aGNil, noEx, fnR, aNot, aAnd, aOr, aIfE, aPar, aPar3, startA, List.replicate, aI2, aI2C, aAddE, aCat0, aAddQ, sub_ok, lt_ok, gt_ok, le_ok, ge_ok, orF, aInt1, aAbs, aAndV, aOrV, aNotV, aIx, aSetIx, mod_ok, Nat.reduceAdd, Nat.reduceSub, Nat.zero_add, ixN0, ixNp, Option.bind_some, List.set_cons_zero, List.set_cons_succ, decide_eq_true_eq, decide_true, if_true, if_false, reduceIte, Bool.false_eq_true, ne_eq, aPart, aNoPart, aLen, aMin2, aLstC, List.length_cons, List.length_nil, List.map_cons, List.map_nil, List.cons_append, List.nil_append, List.getElem?_cons_zero, List.getElem?_cons_succ, List.append_assoc, List.length_append, Nat.zero_le, Nat.reduceLeDiff, Nat.le_refl, vwS, vwL, Option.map_some, aIsI, tagS, tagD, ia_list_tuple, iy_list_tuple__NoneType, iy_list_tuple__bool, iy_list_tuple__int, iy_list_tuple__str, iy_list_tuple__list, iy_list_tuple__tuple, ia_list, iy_list__NoneType, iy_list__bool, iy_list__int, iy_list__str, iy_list__list, iy_list__tuple, ia_tuple, iy_tuple__NoneType, iy_tuple__bool, iy_tuple__int, iy_tuple__str, iy_tuple__list, iy_tuple__tuple, ia_dict, iy_dict__NoneType, iy_dict__bool, iy_dict__int, iy_dict__str, iy_dict__list, iy_dict__tuple, ia_bool_str, iy_bool_str__NoneType, iy_bool_str__bool, iy_bool_str__int, iy_bool_str__str, iy_bool_str__list, iy_bool_str__tuple, ia_int, iy_int__NoneType, iy_int__bool, iy_int__int, iy_int__str, iy_int__list, iy_int__tuple, ia_bool, iy_bool__NoneType, iy_bool__bool, iy_bool__int, iy_bool__str, iy_bool__list, iy_bool__tuple, ia_str, iy_str__NoneType, iy_str__bool, iy_str__int, iy_str__str, iy_str__list, iy_str__tuple, frozenD]; exact close_ok rfl cl
    | str b => simp only [aSeq_eq, oSeq_nx, oSeq_rt, oSeq_ex, ↓bind_L, bind_ok, bind_ex, ↓resO_L, resO_ok, resO_ex, aIf, aRet, aAsg, aNm, aVar, aC, aOp, aCall, aCall0, aCons, aNil, aTest, aDrop, aNext, aTup, aLst, allD, aGTup, aGCons, aGNil, noEx, fnR, aNot, aAnd, aOr, aIfE, aPar, aPar3, startA, List.replicate, aI2, aI2C, aAddE, aCat0, aAddQ, sub_ok, lt_ok, gt_ok, le_ok, ge_ok, orF, aInt1, aAbs, aAndV, aOrV, aNotV, aIx, aSetIx, mod_ok, Nat.reduceAdd, Nat.reduceSub, Nat.zero_add, ixN0, ixNp, Option.bind_some, List.set_cons_zero, List.set_cons_succ, decide_eq_true_eq, decide_true, if_true, if_false, reduceIte, Bool.false_eq_true, ne_eq, aPart, aNoPart, aLen, aMin2, aLstC, List.length_cons, List.length_nil, List.map_cons, List.map_nil, List.cons_append, List.nil_append, List.getElem?_cons_zero, List.getElem?_cons_succ, List.append_assoc, List.length_append, Nat.zero_le, Nat.reduceLeDiff, Nat.le_refl, vwS, vwL, Option.map_some, aIsI, tagS, tagD, ia_list_tuple, iy_list_tuple__NoneType, iy_list_tuple__bool, iy_list_tuple__int, iy_list_tuple__str, iy_list_tuple__list, iy_list_tuple__tuple, ia_list, iy_list__NoneType, iy_list__bool, iy_list__int, iy_list__str, iy_list__list, iy_list__tuple, ia_tuple, iy_tuple__NoneType, iy_tuple__bool, iy_tuple__int, iy_tuple__str, iy_tuple__list, iy_tuple__tuple, ia_dict, iy_dict__NoneType, iy_dict__bool, iy_dict__int, iy_dict__str, iy_dict__list, iy_dict__tuple, ia_bool_str, iy_bool_str__NoneType, iy_bool_str__bool, iy_bool_str__int, iy_bool_str__str, iy_bool_str__list, iy_bool_str__tuple, ia_int, iy_int__NoneType, iy_int__bool, iy_int__int, iy_int__str, iy_int__list, iy_int__tuple, ia_bool, iy_bool__NoneType, iy_bool__bool, iy_bool__int, iy_bool__str, iy_bool__list, iy_bool__tuple, ia_str, iy_str__NoneType, iy_str__bool, iy_str__int, iy_str__str, iy_str__list, iy_str__tuple, frozenD]; exact close_ok rfl cl
theorem lc_zip {G : Sl → AEnv → Option AEnv} {A : AEnv → ASto → Res Sl} {ds : AEnv} {M : ASto} : ∀ (xs acc : List PyData),
    (∀ x ∈ xs, ∃ e, G (.d (.tuple [x, x])) ds = some e ∧ A e M = .ok (.d (.bool true)) M) → aLcL G aYes A ds (zipL xs xs) acc M = .ok (acc ++ xs.map fun _ => PyData.bool true) M
  | [], acc, _ => by simp [aLcL, zipL]
  | x :: xs, acc, H => by
    obtain ⟨e, h1, h2⟩ := H x (by simp)
    unfold zipL aLcL
    rw [h1]
    dsimp only [aYes]
    rw [h2]
    dsimp only
    rw [lc_zip xs _ fun y hy => H y (by simp [hy])]
    simp
theorem eq_bb (n a b : Bool) (M : ASto) : aEqD n (.d (.bool a)) (.d (.bool b)) M = .ok (.d (.bool (if n then !(a == b) else a == b))) M := rfl
theorem eq_ii (n : Bool) (a b : Int) (M : ASto) : aEqD n (.d (.int a)) (.d (.int b)) M = .ok (.d (.bool (if n then !decide (a = b) else decide (a = b)))) M := by
  cases n <;> rfl
theorem eq_nn (n : Bool) (M : ASto) : aEqD n (.d .none) (.d .none) M = .ok (.d (.bool (!n))) M := by
  cases n <;> rfl
theorem eq_ss (n : Bool) {a b : Str} (ha : PyData.strOk a = true) (hb : PyData.strOk b = true) (M : ASto) : aEqD n (.d (.str a)) (.d (.str b)) M = .ok (.d (.bool (if n then !decide (a = b) else decide (a = b)))) M := by
  have h : (a == b) = decide (a = b) := by
    by_cases e : a = b
    · subst e; simp
    · simp [e]
  have q : (SeqAt.shaped (.str a) && SeqAt.shaped (.str b)) = true := by
    simp [SeqAt.shaped, PyData.canLay0, ha, hb, PyData.depth]
  unfold aEqD
  dsimp only
  rw [if_pos q, ← h]
  rfl
theorem is_nn (n : Bool) (M : ASto) : aIsN n (.d .none) (.d .none) M = .ok (.d (.bool (!n))) M := rfl
theorem is_bn (n b : Bool) (M : ASto) : aIsN n (.d (.bool b)) (.d .none) M = .ok (.d (.bool n)) M := rfl
theorem is_in (n : Bool) (b : Int) (M : ASto) : aIsN n (.d (.int b)) (.d .none) M = .ok (.d (.bool n)) M := rfl
theorem is_sn (n : Bool) (b : Str) (M : ASto) : aIsN n (.d (.str b)) (.d .none) M = .ok (.d (.bool n)) M := rfl
theorem is_ln (n : Bool) (b : List PyData) (M : ASto) : aIsN n (.d (.list b)) (.d .none) M = .ok (.d (.bool n)) M := rfl
theorem is_tn (n : Bool) (b : List PyData) (M : ASto) : aIsN n (.d (.tuple b)) (.d .none) M = .ok (.d (.bool n)) M := rfl
theorem bools_true (xs : List PyData) : bools (xs.map fun _ => PyData.bool true) = some (xs.map fun _ => true) := by
  induction xs with
  | nil => rfl
  | cons x xs ih => simp [bools, ih]
theorem all_true (xs : List PyData) : (xs.map fun _ => true).all id = true := by simp
theorem same_ok {M : ASto} (cl : Cl M) : ∀ (k : Nat) (x : PyData), okD k x → r__law_same k [.d x, .d x] M = .ok (.d (.bool true)) M
  | 0, x, h => h.elim
  | k + 1, x, h => by
    have key : ∀ xs : List PyData, (∀ y ∈ xs, okD k y) → aLcL (aGTup 2 (aGCons (aNm 3) (aGCons (aNm 4) aGNil))) aYes (aCall0 (r__law_same k) (aCons (aVar 3) (aCons (aVar 4) aNil))) [some (.d x), some (.d x), none, none, none] (zipL xs xs) [] M = .ok (xs.map fun _ => PyData.bool true) M := fun xs hx => by
      have := lc_zip (G := aGTup 2 (aGCons (aNm 3) (aGCons (aNm 4) aGNil))) (A := aCall0 (r__law_same k) (aCons (aVar 3) (aCons (aVar 4) aNil))) (ds := [some (.d x), some (.d x), none, none, none]) (M := M) xs [] fun y hy => ⟨[some (.d x), some (.d x), none, some (.d y), some (.d y)], rfl, by
        simp only [aSeq_eq, oSeq_nx, oSeq_rt, oSeq_ex, ↓bind_L, bind_ok, bind_ex, ↓resO_L, resO_ok, resO_ex, aIf, aRet, aAsg, aNm, aVar, aC, aOp, aCall, aCall0, aCons, aNil, aTest, aDrop, aNext, aTup, aLst, allD, aGTup, aGCons, aGNil, noEx, fnR, aNot, aAnd, aOr, aIfE, aPar, aPar3, startA, List.replicate, aI2, aI2C, aAddE, aCat0, aAddQ, sub_ok, lt_ok, gt_ok, le_ok, ge_ok, orF, aInt1, aAbs, aAndV, aOrV, aNotV, aIx, aSetIx, mod_ok, Nat.reduceAdd, Nat.reduceSub, Nat.zero_add, ixN0, ixNp, Option.bind_some, List.set_cons_zero, List.set_cons_succ, decide_eq_true_eq, decide_true, if_true, if_false, reduceIte, Bool.false_eq_true, ne_eq, aPart, aNoPart, aLen, aMin2, aLstC, List.length_cons, List.length_nil, List.map_cons, List.map_nil, List.cons_append, List.nil_append, List.getElem?_cons_zero, List.getElem?_cons_succ, List.append_assoc, List.length_append, Nat.zero_le, Nat.reduceLeDiff, Nat.le_refl, vwS, vwL, Option.map_some, same_ok cl k y (hx y hy)]⟩
      rwa [List.nil_append] at this
    unfold r__law_same runD b__law_same
    cases x with
    | list xs =>
      obtain ⟨h1, h2⟩ := h
      simp only [aSeq_eq, oSeq_nx, oSeq_rt, oSeq_ex, ↓bind_L, bind_ok, bind_ex, ↓resO_L, resO_ok, resO_ex, aIf, aRet, aAsg, aNm, aVar, aC, aOp, aCall, aCall0, aCons, aNil, aTest, aDrop, aNext, aTup, aLst, allD, aGTup, aGCons, aGNil, noEx, fnR, aNot, aAnd, aOr, aIfE, aPar, aPar3, startA, List.replicate, aI2, aI2C, aAddE, aCat0, aAddQ, sub_ok, lt_ok, gt_ok, le_ok, ge_ok, orF, aInt1, aAbs, aAndV, aOrV, aNotV, aIx, aSetIx, mod_ok, Nat.reduceAdd, Nat.reduceSub, Nat.zero_add, ixN0, ixNp, Option.bind_some, List.set_cons_zero, List.set_cons_succ, decide_eq_true_eq, decide_true, if_true, if_false, reduceIte, Bool.false_eq_true, ne_eq, aPart, aNoPart, aLen, aMin2, aLstC, List.length_cons, List.length_nil, List.map_cons, List.map_nil, List.cons_append, List.nil_append, List.getElem?_cons_zero, List.getElem?_cons_succ, List.append_assoc, List.length_append, Nat.zero_le, Nat.reduceLeDiff, Nat.le_refl, vwS, vwL, Option.map_some, aIsI, tagS, tagD, ia_list_tuple, iy_list_tuple__NoneType, iy_list_tuple__bool, iy_list_tuple__int, iy_list_tuple__str, iy_list_tuple__list, iy_list_tuple__tuple, ia_list, iy_list__NoneType, iy_list__bool, iy_list__int, iy_list__str, iy_list__list, iy_list__tuple, ia_tuple, iy_tuple__NoneType, iy_tuple__bool, iy_tuple__int, iy_tuple__str, iy_tuple__list, iy_tuple__tuple, ia_dict, iy_dict__NoneType, iy_dict__bool, iy_dict__int, iy_dict__str, iy_dict__list, iy_dict__tuple, ia_bool_str, iy_bool_str__NoneType, iy_bool_str__bool, iy_bool_str__int, iy_bool_str__str, iy_bool_str__list, iy_bool_str__tuple, ia_int, iy_int__NoneType, iy_int__bool, iy_int__int, iy_int__str, iy_int__list, iy_int__tuple, ia_bool, iy_bool__NoneType, iy_bool__bool, iy_bool__int, iy_bool__str, iy_bool__list, iy_bool__tuple, ia_str, iy_str__NoneType, iy_str__bool, iy_str__int, iy_str__str, iy_str__list, iy_str__tuple, eq_bb, eq_ii, eq_nn, eq_ss, is_nn, is_bn, is_in, is_sn, is_ln, is_tn, Bool.not_true, Bool.not_false, BEq.rfl, beq_self_eq_true, aLc, iZip2A, zipL_len, Nat.min_self, h1, wipeA, key xs h2, aAll, bools_true, all_true]
      exact close_ok rfl cl
    | tuple xs =>
      obtain ⟨h1, h2⟩ := h
      simp only [aSeq_eq, oSeq_nx, oSeq_rt, oSeq_ex, ↓bind_L, bind_ok, bind_ex, ↓resO_L, resO_ok, resO_ex, aIf, aRet, aAsg, aNm, aVar, aC, aOp, aCall, aCall0, aCons, aNil, aTest, aDrop, aNext, aTup, aLst, allD, aGTup, aGCons, aGNil, noEx, fnR, aNot, aAnd, aOr, aIfE, aPar, aPar3, startA, List.replicate, aI2, aI2C, aAddE, aCat0, aAddQ, sub_ok, lt_ok, gt_ok, le_ok, ge_ok, orF, aInt1, aAbs, aAndV, aOrV, aNotV, aIx, aSetIx, mod_ok, Nat.reduceAdd, Nat.reduceSub, Nat.zero_add, ixN0, ixNp, Option.bind_some, List.set_cons_zero, List.set_cons_succ, decide_eq_true_eq, decide_true, if_true, if_false, reduceIte, Bool.false_eq_true, ne_eq, aPart, aNoPart, aLen, aMin2, aLstC, List.length_cons, List.length_nil, List.map_cons, List.map_nil, List.cons_append, List.nil_append, List.getElem?_cons_zero, List.getElem?_cons_succ, List.append_assoc, List.length_append, Nat.zero_le, Nat.reduceLeDiff, Nat.le_refl, vwS, vwL, Option.map_some, aIsI, tagS, tagD, ia_list_tuple, iy_list_tuple__NoneType, iy_list_tuple__bool, iy_list_tuple__int, iy_list_tuple__str, iy_list_tuple__list, iy_list_tuple__tuple, ia_list, iy_list__NoneType, iy_list__bool, iy_list__int, iy_list__str, iy_list__list, iy_list__tuple, ia_tuple, iy_tuple__NoneType, iy_tuple__bool, iy_tuple__int, iy_tuple__str, iy_tuple__list, iy_tuple__tuple, ia_dict, iy_dict__NoneType, iy_dict__bool, iy_dict__int, iy_dict__str, iy_dict__list, iy_dict__tuple, ia_bool_str, iy_bool_str__NoneType, iy_bool_str__bool, iy_bool_str__int, iy_bool_str__str, iy_bool_str__list, iy_bool_str__tuple, ia_int, iy_int__NoneType, iy_int__bool, iy_int__int, iy_int__str, iy_int__list, iy_int__tuple, ia_bool, iy_bool__NoneType, iy_bool__bool, iy_bool__int, iy_bool__str, iy_bool__list, iy_bool__tuple, ia_str, iy_str__NoneType, iy_str__bool, iy_str__int, iy_str__str, iy_str__list, iy_str__tuple, eq_bb, eq_ii, eq_nn, eq_ss, is_nn, is_bn, is_in, is_sn, is_ln, is_tn, Bool.not_true, Bool.not_false, BEq.rfl, beq_self_eq_true, aLc, iZip2A, zipL_len, Nat.min_self, h1, wipeA, key xs h2, aAll, bools_true, all_true]
      exact close_ok rfl cl
    | dict kv => exact h.elim
    | none => simp only [aSeq_eq, oSeq_nx, oSeq_rt, oSeq_ex, ↓bind_L, bind_ok, bind_ex, ↓resO_L, resO_ok, resO_ex, aIf, aRet, aAsg, aNm, aVar, aC, aOp, aCall, aCall0, aCons, aNil, aTest, aDrop, aNext, aTup, aLst, allD, aGTup, aGCons, aGNil, noEx, fnR, aNot, aAnd, aOr, aIfE, aPar, aPar3, startA, List.replicate, aI2, aI2C, aAddE, aCat0, aAddQ, sub_ok, lt_ok, gt_ok, le_ok, ge_ok, orF, aInt1, aAbs, aAndV, aOrV, aNotV, aIx, aSetIx, mod_ok, Nat.reduceAdd, Nat.reduceSub, Nat.zero_add, ixN0, ixNp, Option.bind_some, List.set_cons_zero, List.set_cons_succ, decide_eq_true_eq, decide_true, if_true, if_false, reduceIte, Bool.false_eq_true, ne_eq, aPart, aNoPart, aLen, aMin2, aLstC, List.length_cons, List.length_nil, List.map_cons, List.map_nil, List.cons_append, List.nil_append, List.getElem?_cons_zero, List.getElem?_cons_succ, List.append_assoc, List.length_append, Nat.zero_le, Nat.reduceLeDiff, Nat.le_refl, vwS, vwL, Option.map_some, aIsI, tagS, tagD, ia_list_tuple, iy_list_tuple__NoneType, iy_list_tuple__bool, iy_list_tuple__int, iy_list_tuple__str, iy_list_tuple__list, iy_list_tuple__tuple, ia_list, iy_list__NoneType, iy_list__bool, iy_list__int, iy_list__str, iy_list__list, iy_list__tuple, ia_tuple, iy_tuple__NoneType, iy_tuple__bool, iy_tuple__int, iy_tuple__str, iy_tuple__list, iy_tuple__tuple, ia_dict, iy_dict__NoneType, iy_dict__bool, iy_dict__int, iy_dict__str, iy_dict__list, iy_dict__tuple, ia_bool_str, iy_bool_str__NoneType, iy_bool_str__bool, iy_bool_str__int, iy_bool_str__str, iy_bool_str__list, iy_bool_str__tuple, ia_int, iy_int__NoneType, iy_int__bool, iy_int__int, iy_int__str, iy_int__list, iy_int__tuple, ia_bool, iy_bool__NoneType, iy_bool__bool, iy_bool__int, iy_bool__str, iy_bool__list, iy_bool__tuple, ia_str, iy_str__NoneType, iy_str__bool, iy_str__int, iy_str__str, iy_str__list, iy_str__tuple, eq_bb, eq_ii, eq_nn, eq_ss, is_nn, is_bn, is_in, is_sn, is_ln, is_tn, Bool.not_true, Bool.not_false, BEq.rfl, beq_self_eq_true]; exact close_ok rfl cl
    | bool b => simp only [aSeq_eq, oSeq_nx, oSeq_rt, oSeq_ex, ↓bind_L, bind_ok, bind_ex, ↓resO_L, resO_ok, resO_ex, aIf, aRet, aAsg, aNm, aVar, aC, aOp, aCall, aCall0, aCons, aNil, aTest, aDrop, aNext, aTup, aLst, allD, aGTup, aGCons, aGNil, noEx, fnR, aNot, aAnd, aOr, aIfE, aPar, aPar3, startA, List.replicate, aI2, aI2C, aAddE, aCat0, aAddQ, sub_ok, lt_ok, gt_ok, le_ok, ge_ok, orF, aInt1, aAbs, aAndV, aOrV, aNotV, aIx, aSetIx, mod_ok, Nat.reduceAdd, Nat.reduceSub, Nat.zero_add, ixN0, ixNp, Option.bind_some, List.set_cons_zero, List.set_cons_succ, decide_eq_true_eq, decide_true, if_true, if_false, reduceIte, Bool.false_eq_true, ne_eq, aPart, aNoPart, aLen, aMin2, aLstC, List.length_cons, List.length_nil, List.map_cons, List.map_nil, List.cons_append, List.nil_append, List.getElem?_cons_zero, List.getElem?_cons_succ, List.append_assoc, List.length_append, Nat.zero_le, Nat.reduceLeDiff, Nat.le_refl, vwS, vwL, Option.map_some, aIsI, tagS, tagD, ia_list_tuple, iy_list_tuple__NoneType, iy_list_tuple__bool, iy_list_tuple__int, iy_list_tuple__str, iy_list_tuple__list, iy_list_tuple__tuple, ia_list, iy_list__NoneType, iy_list__bool, iy_list__int, iy_list__str, iy_list__list, iy_list__tuple, ia_tuple, iy_tuple__NoneType, iy_tuple__bool, iy_tuple__int, iy_tuple__str, iy_tuple__list, iy_tuple__tuple, ia_dict, iy_dict__NoneType, iy_dict__bool, iy_dict__int, iy_dict__str, iy_dict__list, iy_dict__tuple, ia_bool_str, iy_bool_str__NoneType, iy_bool_str__bool, iy_bool_str__int, iy_bool_str__str, iy_bool_str__list, iy_bool_str__tuple, ia_int, iy_int__NoneType, iy_int__bool, iy_int__int, iy_int__str, iy_int__list, iy_int__tuple, ia_bool, iy_bool__NoneType, iy_bool__bool, iy_bool__int, iy_bool__str, iy_bool__list, iy_bool__tuple, ia_str, iy_str__NoneType, iy_str__bool, iy_str__int, iy_str__str, iy_str__list, iy_str__tuple, eq_bb, eq_ii, eq_nn, eq_ss, is_nn, is_bn, is_in, is_sn, is_ln, is_tn, Bool.not_true, Bool.not_false, BEq.rfl, beq_self_eq_true]; exact close_ok rfl cl
    | int b => simp only [aSeq_eq, oSeq_nx, oSeq_rt, oSeq_ex, ↓bind_L, bind_ok, bind_ex, ↓resO_L, resO_ok, resO_ex, aIf, aRet, aAsg, aNm, aVar, aC, aOp, aCall, aCall0, aCons, aNil, aTest, aDrop, aNext, aTup, aLst, allD, aGTup, aGCons, aGNil, noEx, fnR, aNot, aAnd, aOr, aIfE, aPar, aPar3, startA, List.replicate, aI2, aI2C, aAddE, aCat0, aAddQ, sub_ok, lt_ok, gt_ok, le_ok, ge_ok, orF, aInt1, aAbs, aAndV, aOrV, aNotV, aIx, aSetIx, mod_ok, Nat.reduceAdd, Nat.reduceSub, Nat.zero_add, ixN0, ixNp, Option.bind_some, List.set_cons_zero, List.set_cons_succ, decide_eq_true_eq, decide_true, if_true, if_false, reduceIte, Bool.false_eq_true, ne_eq, aPart, aNoPart, aLen, aMin2, aLstC, List.length_cons, List.length_nil, List.map_cons, List.map_nil, List.cons_append, List.nil_append, List.getElem?_cons_zero, List.getElem?_cons_succ, List.append_assoc, List.length_append, Nat.zero_le, Nat.reduceLeDiff, Nat.le_refl, vwS, vwL, Option.map_some, aIsI, tagS, tagD, ia_list_tuple, iy_list_tuple__NoneType, iy_list_tuple__bool, iy_list_tuple__int, iy_list_tuple__str, iy_list_tuple__list, iy_list_tuple__tuple, ia_list, iy_list__NoneType, iy_list__bool, iy_list__int, iy_list__str, iy_list__list, iy_list__tuple, ia_tuple, iy_tuple__NoneType, iy_tuple__bool, iy_tuple__int, iy_tuple__str, iy_tuple__list, iy_tuple__tuple, ia_dict, iy_dict__NoneType, iy_dict__bool, iy_dict__int, iy_dict__str, iy_dict__list, iy_dict__tuple, ia_bool_str, iy_bool_str__NoneType, iy_bool_str__bool, iy_bool_str__int, iy_bool_str__str, iy_bool_str__list, iy_bool_str__tuple, ia_int, iy_int__NoneType, iy_int__bool, iy_int__int, iy_int__str, iy_int__list, iy_int__tuple, ia_bool, iy_bool__NoneType, iy_bool__bool, iy_bool__int, iy_bool__str, iy_bool__list, iy_bool__tuple, ia_str, iy_str__NoneType, iy_str__bool, iy_str__int, iy_str__str, iy_str__list, iy_str__tuple, eq_bb, eq_ii, eq_nn, eq_ss, is_nn, is_bn, is_in, is_sn, is_ln, is_tn, Bool.not_true, Bool.not_false, BEq.rfl, beq_self_eq_true]; exact close_ok rfl cl
    | str b =>
      have hb : PyData.strOk b = true := h
      simp only [aSeq_eq, oSeq_nx, oSeq_rt, oSeq_ex, ↓bind_L, bind_ok, bind_ex, ↓resO_L, resO_ok, resO_ex, aIf, aRet, aAsg, aNm, aVar, aC, aOp, aCall, aCall0, aCons, aNil, aTest, aDrop, aNext, aTup, aLst, allD, aGTup, aGCons, aGNil, noEx, fnR, aNot, aAnd, aOr, aIfE, aPar, aPar3, startA, List.replicate, aI2, aI2C, aAddE, aCat0, aAddQ, sub_ok, lt_ok, gt_ok, le_ok, ge_ok, orF, aInt1, aAbs, aAndV, aOrV, aNotV, aIx, aSetIx, mod_ok, Nat.reduceAdd, Nat.reduceSub, Nat.zero_add, ixN0, ixNp, Option.bind_some, List.set_cons_zero, List.set_cons_succ, decide_eq_true_eq, decide_true, if_true, if_false, reduceIte, Bool.false_eq_true, ne_eq, aPart, aNoPart, aLen, aMin2, aLstC, List.length_cons, List.length_nil, List.map_cons, List.map_nil, List.cons_append, List.nil_append, List.getElem?_cons_zero, List.getElem?_cons_succ, List.append_assoc, List.length_append, Nat.zero_le, Nat.reduceLeDiff, Nat.le_refl, vwS, vwL, Option.map_some, aIsI, tagS, tagD, ia_list_tuple, iy_list_tuple__NoneType, iy_list_tuple__bool, iy_list_tuple__int, iy_list_tuple__str, iy_list_tuple__list, iy_list_tuple__tuple, ia_list, iy_list__NoneType, iy_list__bool, iy_list__int, iy_list__str, iy_list__list, iy_list__tuple, ia_tuple, iy_tuple__NoneType, iy_tuple__bool, iy_tuple__int, iy_tuple__str, iy_tuple__list, iy_tuple__tuple, ia_dict, iy_dict__NoneType, iy_dict__bool, iy_dict__int, iy_dict__str, iy_dict__list, iy_dict__tuple, ia_bool_str, iy_bool_str__NoneType, iy_bool_str__bool, iy_bool_str__int, iy_bool_str__str, iy_bool_str__list, iy_bool_str__tuple, ia_int, iy_int__NoneType, iy_int__bool, iy_int__int, iy_int__str, iy_int__list, iy_int__tuple, ia_bool, iy_bool__NoneType, iy_bool__bool, iy_bool__int, iy_bool__str, iy_bool__list, iy_bool__tuple, ia_str, iy_str__NoneType, iy_str__bool, iy_str__int, iy_str__str, iy_str__list, iy_str__tuple, hb, eq_bb, eq_ii, eq_nn, eq_ss, is_nn, is_bn, is_in, is_sn, is_ln, is_tn, Bool.not_true, Bool.not_false, BEq.rfl, beq_self_eq_true]; exact close_ok rfl cl
end G
end
section
set_option Elab.async false
set_option linter.all false
set_option maxRecDepth 100000
set_option maxHeartbeats 4000000
namespace G
open PySem Ab
theorem any_strs (es : List Str) (e : Str) : ((strsD es).any fun y => eqF y (.str e)) = decide (e ∈ es) := by
  induction es with
  | nil => simp [strsD]
  | cons x es ih =>
    have h : (strsD (x :: es)) = .str x :: strsD es := rfl
    rw [h, List.any_cons, ih]
    simp only [eqF, List.mem_cons]
    by_cases q : x = e
    · subst q; simp
    · have q2 : ¬ e = x := fun z => q z.symm
      simp [q, q2]
theorem flat_strs (es : List Str) : (flatD (.str e) && (strsD es).all flatD) = true := by
  simp [flatD, strsD]
theorem in_tup (neg : Bool) (e : Str) (es : List Str) (M : ASto) : aInQ neg (.d (.str e)) (.d (.tuple (strsD es))) M = .ok (.d (.bool (if neg then !decide (e ∈ es) else decide (e ∈ es)))) M := by
  unfold aInQ aInF
  dsimp only [vwS]
  rw [if_pos (flat_strs es), any_strs]
  rfl
theorem in_lst (neg : Bool) (e : Str) (es : List Str) (M : ASto) : aInQ neg (.d (.str e)) (.d (.list (strsD es))) M = .ok (.d (.bool (if neg then !decide (e ∈ es) else decide (e ∈ es)))) M := by
  unfold aInQ aInF
  dsimp only [vwS, vwL]
  rw [if_pos (flat_strs es), any_strs]
  rfl
def EsOk (es : List Str) : Prop := ∀ e ∈ es, PyData.strOk e = true
def AsOk (as : List Arc) : Prop := ∀ a ∈ as, PyData.strOk a.1 = true ∧ PyData.strOk a.2.1 = true ∧ PyData.strOk a.2.2 = true
theorem keys_strs (es : List Str) : keysD (strsD es) = some (es.map Sum.inr) := by
  induction es with
  | nil => rfl
  | cons x es ih =>
    have h : (strsD (x :: es)) = .str x :: strsD es := rfl
    rw [h]
    simp [keysD, keyD, ih]
theorem has_add (ks : List L2.Key) (k j : L2.Key) : hasK (addK ks k) j = (hasK ks j || decide (k = j)) := by
  unfold addK
  split
  · rename_i h
    by_cases q : k = j
    · subst q; simp [h]
    · simp [q]
  · simp [hasK, List.any_append]
theorem has_cons (k : L2.Key) (ks : List L2.Key) (j : L2.Key) : hasK (k :: ks) j = (decide (k = j) || hasK ks j) := rfl
theorem has_of (ks acc : List L2.Key) (j : L2.Key) : hasK (ks.foldl addK acc) j = (hasK acc j || hasK ks j) := by
  induction ks generalizing acc with
  | nil => simp [hasK]
  | cons k ks ih => rw [List.foldl_cons, ih, has_add, has_cons, Bool.or_assoc]
theorem has_map (es : List Str) (e : Str) : hasK (es.map Sum.inr) (.inr e) = decide (e ∈ es) := by
  induction es with
  | nil => simp [hasK]
  | cons x es ih =>
    rw [List.map_cons, has_cons, ih]
    by_cases q : x = e
    · subst q; simp
    · have q2 : ¬ e = x := fun z => q z.symm
      have q3 : ¬ (Sum.inr x : L2.Key) = Sum.inr e := fun z => q (Sum.inr.inj z)
      simp [q2, q3]
theorem has_strs (es : List Str) (e : Str) : hasK (ofK (es.map Sum.inr)) (.inr e) = decide (e ∈ es) := by
  unfold ofK
  rw [has_of, has_map]
  simp [hasK]
/-- the first that is no EVENT -/
def noEv (e : Str) : AErr := ⟨"NoEvent", some [("event", .str e)]⟩
theorem need_loop {w vs : Sl} {m : Nat} {es : List Str} {M0 : ASto} (hm : M0.length = m) : ∀ (evs : List Str) (s : Option Sl),
    (match evs.find? (fun e => !decide (e ∈ es)) with
      | none => ∃ s', aForL (aNm 3) (aIf (aTest (aOp (aInS true) (aVar 3) (aVar 2))) (aRaiseF "NoEvent" "event" (aCons (aVar 3) aNil)) aNext) ((strsD evs).map Sl.d) [some w, some vs, some (.r m), s] (M0 ++ [.set (ofK (es.map Sum.inr))]) = .nx [some w, some vs, some (.r m), s'] (M0 ++ [.set (ofK (es.map Sum.inr))])
      | some e => aForL (aNm 3) (aIf (aTest (aOp (aInS true) (aVar 3) (aVar 2))) (aRaiseF "NoEvent" "event" (aCons (aVar 3) aNil)) aNext) ((strsD evs).map Sl.d) [some w, some vs, some (.r m), s] (M0 ++ [.set (ofK (es.map Sum.inr))]) = .ex (noEv e) (M0 ++ [.set (ofK (es.map Sum.inr))]))
  | [], s => ⟨s, rfl⟩
  | e :: evs, s => by
    have body : (aIf (aTest (aOp (aInS true) (aVar 3) (aVar 2))) (aRaiseF "NoEvent" "event" (aCons (aVar 3) aNil)) aNext) [some w, some vs, some (.r m), some (.d (.str e))] (M0 ++ [.set (ofK (es.map Sum.inr))]) =
        if e ∈ es then .nx [some w, some vs, some (.r m), some (.d (.str e))] (M0 ++ [.set (ofK (es.map Sum.inr))]) else .ex (noEv e) (M0 ++ [.set (ofK (es.map Sum.inr))]) := by
      by_cases q : e ∈ es
      · simp only [aSeq_eq, oSeq_nx, oSeq_rt, oSeq_ex, ↓bind_L, bind_ok, bind_ex, ↓resO_L, resO_ok, resO_ex, aIf, aRet, aAsg, aNm, aVar, aC, aOp, aCall, aCall0, aCons, aNil, aTest, aDrop, aNext, aTup, aLst, allD, aGTup, aGCons, aGNil, noEx, fnR, aNot, aAnd, aOr, aIfE, aPar, aPar3, startA, List.replicate, aI2, aI2C, aAddE, aCat0, aAddQ, sub_ok, lt_ok, gt_ok, le_ok, ge_ok, orF, aInt1, aAbs, aAndV, aOrV, aNotV, aIx, aSetIx, mod_ok, Nat.reduceAdd, Nat.reduceSub, Nat.zero_add, ixN0, ixNp, Option.bind_some, List.set_cons_zero, List.set_cons_succ, decide_eq_true_eq, decide_true, if_true, if_false, reduceIte, Bool.false_eq_true, ne_eq, aPart, aNoPart, aLen, aMin2, aLstC, List.length_cons, List.length_nil, List.map_cons, List.map_nil, List.cons_append, List.nil_append, List.getElem?_cons_zero, List.getElem?_cons_succ, List.append_assoc, List.length_append, Nat.zero_le, Nat.reduceLeDiff, Nat.le_refl, vwS, vwL, Option.map_some, aInS, setAt, at0 hm, keyS, keyD, has_strs, q, Bool.not_true]
      · simp only [aSeq_eq, oSeq_nx, oSeq_rt, oSeq_ex, ↓bind_L, bind_ok, bind_ex, ↓resO_L, resO_ok, resO_ex, aIf, aRet, aAsg, aNm, aVar, aC, aOp, aCall, aCall0, aCons, aNil, aTest, aDrop, aNext, aTup, aLst, allD, aGTup, aGCons, aGNil, noEx, fnR, aNot, aAnd, aOr, aIfE, aPar, aPar3, startA, List.replicate, aI2, aI2C, aAddE, aCat0, aAddQ, sub_ok, lt_ok, gt_ok, le_ok, ge_ok, orF, aInt1, aAbs, aAndV, aOrV, aNotV, aIx, aSetIx, mod_ok, Nat.reduceAdd, Nat.reduceSub, Nat.zero_add, ixN0, ixNp, Option.bind_some, List.set_cons_zero, List.set_cons_succ, decide_eq_true_eq, decide_true, if_true, if_false, reduceIte, Bool.false_eq_true, ne_eq, aPart, aNoPart, aLen, aMin2, aLstC, List.length_cons, List.length_nil, List.map_cons, List.map_nil, List.cons_append, List.nil_append, List.getElem?_cons_zero, List.getElem?_cons_succ, List.append_assoc, List.length_append, Nat.zero_le, Nat.reduceLeDiff, Nat.le_refl, vwS, vwL, Option.map_some, aInS, setAt, at0 hm, keyS, keyD, has_strs, q, decide_false, Bool.not_false, aRaiseF, noEv]
    have hs : (strsD (e :: evs)).map Sl.d = Sl.d (.str e) :: (strsD evs).map Sl.d := rfl
    by_cases q : e ∈ es
    · rw [if_pos q] at body
      rw [List.find?_cons_of_neg (by simp [q])]
      have ih := need_loop (w := w) (vs := vs) hm (es := es) evs (some (.d (.str e)))
      rw [hs]
      unfold aForL
      dsimp only [aNm, List.set_cons_zero, List.set_cons_succ]
      rw [body]
      exact ih
    · rw [if_neg q] at body
      rw [List.find?_cons_of_pos (by simp [q]), hs]
      dsimp only
      unfold aForL
      dsimp only [aNm, List.set_cons_zero, List.set_cons_succ]
      rw [body]
theorem need_ok {M : ASto} (cl : Cl M) {es evs : List Str} {x : PyData} (h : es.length < 4000) :
    m_need_events [.d (.tuple [.tuple (strsD es), x]), .d (.tuple (strsD evs))] M = (match evs.find? (fun e => !decide (e ∈ es)) with
      | none => .ok (.d .none) M
      | some e => .ex (noEv e) M) := by
  have hl := need_loop (w := .d (.tuple [.tuple (strsD es), x])) (vs := .d (.tuple (strsD evs))) (m := M.length) (es := es) (M0 := M) rfl evs none
  have i0 : L2.atI [PyData.tuple (strsD es), x] 0 = some (.tuple (strsD es)) := rfl
  have hk : ((es.map Sum.inr : List L2.Key).length < 4000) = True := eq_true (by simpa using h)
  cases q : evs.find? (fun e => !decide (e ∈ es)) with
  | none =>
    rw [q] at hl
    obtain ⟨s', e⟩ := hl
    unfold m_need_events b_need_events runD
    simp only [aSeq_eq, oSeq_nx, oSeq_rt, oSeq_ex, ↓bind_L, bind_ok, bind_ex, ↓resO_L, resO_ok, resO_ex, aIf, aRet, aAsg, aNm, aVar, aC, aOp, aCall, aCall0, aCons, aNil, aTest, aDrop, aNext, aTup, aLst, allD, aGTup, aGCons, aGNil, noEx, fnR, aNot, aAnd, aOr, aIfE, aPar, aPar3, startA, List.replicate, aI2, aI2C, aAddE, aCat0, aAddQ, sub_ok, lt_ok, gt_ok, le_ok, ge_ok, orF, aInt1, aAbs, aAndV, aOrV, aNotV, aIx, aSetIx, mod_ok, Nat.reduceAdd, Nat.reduceSub, Nat.zero_add, ixN0, ixNp, Option.bind_some, List.set_cons_zero, List.set_cons_succ, decide_eq_true_eq, decide_true, if_true, if_false, reduceIte, Bool.false_eq_true, ne_eq, aPart, aNoPart, aLen, aMin2, aLstC, List.length_cons, List.length_nil, List.map_cons, List.map_nil, List.cons_append, List.nil_append, List.getElem?_cons_zero, List.getElem?_cons_succ, List.append_assoc, List.length_append, Nat.zero_le, Nat.reduceLeDiff, Nat.le_refl, vwS, vwL, Option.map_some, i0, aSetQ, keys_strs, List.length_map, h, aFor, iSeqA, e]
    exact close_app rfl cl
  | some v =>
    rw [q] at hl
    dsimp only at hl ⊢
    unfold m_need_events b_need_events runD
    simp only [aSeq_eq, oSeq_nx, oSeq_rt, oSeq_ex, ↓bind_L, bind_ok, bind_ex, ↓resO_L, resO_ok, resO_ex, aIf, aRet, aAsg, aNm, aVar, aC, aOp, aCall, aCall0, aCons, aNil, aTest, aDrop, aNext, aTup, aLst, allD, aGTup, aGCons, aGNil, noEx, fnR, aNot, aAnd, aOr, aIfE, aPar, aPar3, startA, List.replicate, aI2, aI2C, aAddE, aCat0, aAddQ, sub_ok, lt_ok, gt_ok, le_ok, ge_ok, orF, aInt1, aAbs, aAndV, aOrV, aNotV, aIx, aSetIx, mod_ok, Nat.reduceAdd, Nat.reduceSub, Nat.zero_add, ixN0, ixNp, Option.bind_some, List.set_cons_zero, List.set_cons_succ, decide_eq_true_eq, decide_true, if_true, if_false, reduceIte, Bool.false_eq_true, ne_eq, aPart, aNoPart, aLen, aMin2, aLstC, List.length_cons, List.length_nil, List.map_cons, List.map_nil, List.cons_append, List.nil_append, List.getElem?_cons_zero, List.getElem?_cons_succ, List.append_assoc, List.length_append, Nat.zero_le, Nat.reduceLeDiff, Nat.le_refl, vwS, vwL, Option.map_some, i0, aSetQ, keys_strs, List.length_map, h, aFor, iSeqA, hl]
    exact close_ex rfl cl
end G
end
section
set_option Elab.async false
set_option linter.all false
set_option maxRecDepth 100000
set_option maxHeartbeats 4000000
namespace G
open PySem Ab
theorem add_ii (i j : Int) (M : ASto) : aAddE (.d (.int i)) (.d (.int j)) M = .ok (.d (.int (i + j))) M := rfl
theorem cat_ll {xs ys : List PyData} (h : xs.length + ys.length ≤ 100000) (M : ASto) : aAddE (.d (.list xs)) (.d (.list ys)) M = .ok (.d (.list (xs ++ ys))) M := by
  unfold aAddE aAddQ aCat
  simp only [aI2, vwL, h, orF, if_true]
theorem cat_tt {xs ys : List PyData} (h : xs.length + ys.length ≤ 100000) (M : ASto) : aAddE (.d (.tuple xs)) (.d (.tuple ys)) M = .ok (.d (.tuple (xs ++ ys))) M := by
  unfold aAddE aAddQ aCat aCatT aCat0
  cases xs with
  | nil => simp only [aI2, vwL, orF, List.nil_append]
  | cons x xs =>
    cases ys with
    | nil =>
      have h2 : xs.length ≤ 100000 := by simp at h; omega
      simp only [aI2, vwL, orF, h2, if_true, List.append_nil]
    | cons y ys =>
      have h2 : xs.length + ys.length ≤ 100000 := by simp at h; omega
      simp only [aI2, vwL, orF, h2, if_true]
theorem allD_app (xs : List PyData) (y : PyData) : allD (xs.map Sl.d ++ [.d y]) = some (xs ++ [y]) := by
  have := allD_map (xs ++ [y])
  simpa using this
theorem strs_app (es : List Str) (e : Str) : strsD es ++ [PyData.str e] = strsD (es ++ [e]) := by simp [strsD]
theorem arcs_app2 (as : List Arc) (n a b : Str) : arcsD as ++ [PyData.tuple [.str n, .str a, .str b]] = arcsD (as ++ [(n, a, b)]) := by simp [arcsD, arcD]
theorem arcs_len (as : List Arc) : (arcsD as).length = as.length := by simp [arcsD]
theorem close_ex0 {M : ASto} {e : AErr} (cl : Cl M) : closeR M.length (.ex e M) = .ex e M := by
  have := close_ex (J := []) (e := e) (m := M.length) rfl cl
  rwa [List.append_nil] at this
/-- what is handed in: it reads as the WEB -/
structure Like (w : PyData) (es : List Str) (as : List Arc) : Prop where
  fz : frozenD w = webD es as
  ok : okD 10 w
  le : es.length ≤ 8
  la : as.length ≤ 16
  eo : EsOk es
  ao : AsOk as
theorem frz_w {w : PyData} {es : List Str} {as : List Arc} (L : Like w es as) {M : ASto} (cl : Cl M) : m_frozen [.d w] M = .ok (.d (.tuple [.tuple (strsD es), .tuple (arcsD as)])) M := by
  have := frozen_ok cl 10 w L.ok
  rw [L.fz] at this
  exact this
def errE (c f : Str) (x : Str) : AErr := ⟨c, some [(f, .str x)]⟩
theorem sl_arc (a : Arc) (M : ASto) : (aSl (fun _ M => .ok (.d (arcD a)) M) (aPart (aC (.int 1))) aNoPart) [] M = .ok (.d (.tuple (strsD [a.2.1, a.2.2]))) M := rfl
theorem ix_arc0 (a : Arc) : L2.atI [PyData.str a.1, .str a.2.1, .str a.2.2] 0 = some (.str a.1) := rfl
theorem ix_arc1 (a : Arc) : L2.atI [PyData.str a.1, .str a.2.1, .str a.2.2] 1 = some (.str a.2.1) := rfl
theorem ix_arc2 (a : Arc) : L2.atI [PyData.str a.1, .str a.2.1, .str a.2.2] 2 = some (.str a.2.2) := rfl
/-- a comprehension over ARCS -/
theorem lc_arcs {G : Sl → AEnv → Option AEnv} {T : AEnv → ASto → Res Bool} {A : AEnv → ASto → Res Sl} {ds : AEnv} {M : ASto} {p : Arc → Bool} {h : Arc → PyData} :
    ∀ (xs : List Arc) (acc : List PyData), (∀ x ∈ xs, ∃ e, G (.d (arcD x)) ds = some e ∧ T e M = .ok (p x) M ∧ (p x = true → A e M = .ok (.d (h x)) M)) → aLcL G T A ds ((arcsD xs).map Sl.d) acc M = .ok (acc ++ (xs.filter p).map h) M
  | [], acc, _ => by simp [aLcL, arcsD]
  | x :: xs, acc, H => by
    obtain ⟨e, h1, h2, h3⟩ := H x (by simp)
    have hs : (arcsD (x :: xs)).map Sl.d = Sl.d (arcD x) :: (arcsD xs).map Sl.d := rfl
    rw [hs]
    unfold aLcL
    rw [h1]
    dsimp only
    rw [h2]
    cases hp : p x with
    | false =>
      dsimp only
      rw [lc_arcs xs acc fun y hy => H y (by simp [hy])]
      simp [hp]
    | true =>
      dsimp only
      rw [h3 hp]
      dsimp only
      rw [lc_arcs xs (acc ++ [h x]) fun y hy => H y (by simp [hy])]
      simp [hp]
/-- the same over names -/
theorem lc_strs {G : Sl → AEnv → Option AEnv} {T : AEnv → ASto → Res Bool} {A : AEnv → ASto → Res Sl} {ds : AEnv} {M : ASto} {p : Str → Bool} {h : Str → PyData} :
    ∀ (xs : List Str) (acc : List PyData), (∀ x ∈ xs, ∃ e, G (.d (.str x)) ds = some e ∧ T e M = .ok (p x) M ∧ (p x = true → A e M = .ok (.d (h x)) M)) → aLcL G T A ds ((strsD xs).map Sl.d) acc M = .ok (acc ++ (xs.filter p).map h) M
  | [], acc, _ => by simp [aLcL, strsD]
  | x :: xs, acc, H => by
    obtain ⟨e, h1, h2, h3⟩ := H x (by simp)
    have hs : (strsD (x :: xs)).map Sl.d = Sl.d (.str x) :: (strsD xs).map Sl.d := rfl
    rw [hs]
    unfold aLcL
    rw [h1]
    dsimp only
    rw [h2]
    cases hp : p x with
    | false =>
      dsimp only
      rw [lc_strs xs acc fun y hy => H y (by simp [hy])]
      simp [hp]
    | true =>
      dsimp only
      rw [h3 hp]
      dsimp only
      rw [lc_strs xs (acc ++ [h x]) fun y hy => H y (by simp [hy])]
      simp [hp]
theorem filt_arcs (as : List Arc) (p : Arc → Bool) : (as.filter p).map arcD = arcsD (as.filter p) := rfl
theorem filt_strs (as : List Str) (p : Str → Bool) : (as.filter p).map PyData.str = strsD (as.filter p) := rfl
theorem ltrue (x : Arc) : (fun _ : Arc => true) x = true := rfl
theorem bools_map {α : Type} (f : α → Bool) (xs : List α) : bools (xs.map fun x => PyData.bool (f x)) = some (xs.map f) := by
  induction xs with
  | nil => rfl
  | cons x xs ih => simp [bools, ih]
theorem has_arc_ok {M : ASto} (cl : Cl M) {as : List Arc} (ao : AsOk as) (hl : as.length ≤ 16) {n : Str} (hn : PyData.strOk n = true) :
    m__has_arc [.d (.tuple (arcsD as)), .d (.str n)] M = .ok (.d (.bool (decide (n ∈ as.map (·.1))))) M := by
  have e := lc_arcs (G := aNm 2) (T := aYes) (A := aOp (aEqD false) (aOp aIx (aVar 2) (aC (.int 0))) (aVar 1)) (ds := [some (.d (.tuple (arcsD as))), some (.d (.str n)), none]) (M := M) (p := fun _ => true) (h := fun a => .bool (decide (a.1 = n))) as [] fun a ha =>
    ⟨_, rfl, rfl, fun _ => by simp only [aSeq_eq, oSeq_nx, oSeq_rt, oSeq_ex, ↓bind_L, bind_ok, bind_ex, ↓resO_L, resO_ok, resO_ex, aIf, aRet, aAsg, aNm, aVar, aC, aOp, aCall, aCall0, aCons, aNil, aTest, aDrop, aNext, aTup, aLst, allD, aGTup, aGCons, aGNil, noEx, fnR, aNot, aAnd, aOr, aIfE, aPar, aPar3, startA, List.replicate, aI2, aI2C, add_ii, sub_ok, lt_ok, gt_ok, le_ok, ge_ok, aInt1, aAbs, aAndV, aOrV, aNotV, aIx, aSetIx, mod_ok, Nat.reduceAdd, Nat.reduceSub, Nat.zero_add, ixN0, ixNp, Option.bind_some, List.set_cons_zero, List.set_cons_succ, decide_eq_true_eq, decide_true, if_true, if_false, reduceIte, Bool.false_eq_true, ne_eq, aPart, aNoPart, aLen, aMin2, aLstC, List.length_cons, List.length_nil, List.map_cons, List.map_nil, List.cons_append, List.nil_append, List.getElem?_cons_zero, List.getElem?_cons_succ, List.append_assoc, List.length_append, Nat.zero_le, Nat.reduceLeDiff, Nat.le_refl, vwS, vwL, Option.map_some, arcD, ix_arc0, eq_ss, (ao a ha).1, hn]⟩
  rw [List.nil_append, List.filter_eq_self.mpr (fun _ _ => rfl)] at e
  have ha : (as.map fun a => decide (a.1 = n)).any id = decide (n ∈ as.map (·.1)) := by
    rw [Bool.eq_iff_iff]
    simp
  have h2 : (arcsD as).length ≤ 100000 := by rw [arcs_len]; omega
  unfold m__has_arc b__has_arc runD
  simp only [aSeq_eq, oSeq_nx, oSeq_rt, oSeq_ex, ↓bind_L, bind_ok, bind_ex, ↓resO_L, resO_ok, resO_ex, aIf, aRet, aAsg, aNm, aVar, aC, aOp, aCall, aCall0, aCons, aNil, aTest, aDrop, aNext, aTup, aLst, allD, aGTup, aGCons, aGNil, noEx, fnR, aNot, aAnd, aOr, aIfE, aPar, aPar3, startA, List.replicate, aI2, aI2C, add_ii, sub_ok, lt_ok, gt_ok, le_ok, ge_ok, aInt1, aAbs, aAndV, aOrV, aNotV, aIx, aSetIx, mod_ok, Nat.reduceAdd, Nat.reduceSub, Nat.zero_add, ixN0, ixNp, Option.bind_some, List.set_cons_zero, List.set_cons_succ, decide_eq_true_eq, decide_true, if_true, if_false, reduceIte, Bool.false_eq_true, ne_eq, aPart, aNoPart, aLen, aMin2, aLstC, List.length_cons, List.length_nil, List.map_cons, List.map_nil, List.cons_append, List.nil_append, List.getElem?_cons_zero, List.getElem?_cons_succ, List.append_assoc, List.length_append, Nat.zero_le, Nat.reduceLeDiff, Nat.le_refl, vwS, vwL, Option.map_some, aLc, iSeqA, List.length_map, h2, wipeA, e, aAny, bools_map, ha]
  exact close_ok rfl cl
theorem without_arc_ok {w : PyData} {es : List Str} {as : List Arc} (L : Like w es as) {M : ASto} (cl : Cl M) {n : Str} (hn : PyData.strOk n = true) :
    m_without_arc [.d w, .d (.str n)] M = if n ∈ as.map (·.1) then .ok (.d (.tuple [.tuple (strsD es), .tuple (arcsD (as.filter fun a => !decide (a.1 = n)))])) M else .ex (errE "NoArc" "name" n) M := by
  have h1 := has_arc_ok cl L.ao L.la hn
  have h2 : (arcsD as).length ≤ 100000 := by rw [arcs_len]; have := L.la; omega
  unfold m_without_arc b_without_arc runD
  by_cases q : n ∈ as.map (·.1)
  · rw [if_pos q]
    have e1 := lc_arcs (G := aNm 4) (T := aTest (aOp (aEqD true) (aOp aIx (aVar 4) (aC (.int 0))) (aVar 1))) (A := aVar 4) (ds := [some (.d w), some (.d (.str n)), some (.d (.tuple (strsD es))), some (.d (.tuple (arcsD as))), none]) (M := M) (p := fun a => !decide (a.1 = n)) (h := arcD) as [] fun a ha =>
      ⟨_, rfl, by simp only [aSeq_eq, oSeq_nx, oSeq_rt, oSeq_ex, ↓bind_L, bind_ok, bind_ex, ↓resO_L, resO_ok, resO_ex, aIf, aRet, aAsg, aNm, aVar, aC, aOp, aCall, aCall0, aCons, aNil, aTest, aDrop, aNext, aTup, aLst, allD, aGTup, aGCons, aGNil, noEx, fnR, aNot, aAnd, aOr, aIfE, aPar, aPar3, startA, List.replicate, aI2, aI2C, add_ii, sub_ok, lt_ok, gt_ok, le_ok, ge_ok, aInt1, aAbs, aAndV, aOrV, aNotV, aIx, aSetIx, mod_ok, Nat.reduceAdd, Nat.reduceSub, Nat.zero_add, ixN0, ixNp, Option.bind_some, List.set_cons_zero, List.set_cons_succ, decide_eq_true_eq, decide_true, if_true, if_false, reduceIte, Bool.false_eq_true, ne_eq, aPart, aNoPart, aLen, aMin2, aLstC, List.length_cons, List.length_nil, List.map_cons, List.map_nil, List.cons_append, List.nil_append, List.getElem?_cons_zero, List.getElem?_cons_succ, List.append_assoc, List.length_append, Nat.zero_le, Nat.reduceLeDiff, Nat.le_refl, vwS, vwL, Option.map_some, arcD, ix_arc0, eq_ss, (L.ao a ha).1, hn], fun _ => by simp only [aSeq_eq, oSeq_nx, oSeq_rt, oSeq_ex, ↓bind_L, bind_ok, bind_ex, ↓resO_L, resO_ok, resO_ex, aIf, aRet, aAsg, aNm, aVar, aC, aOp, aCall, aCall0, aCons, aNil, aTest, aDrop, aNext, aTup, aLst, allD, aGTup, aGCons, aGNil, noEx, fnR, aNot, aAnd, aOr, aIfE, aPar, aPar3, startA, List.replicate, aI2, aI2C, add_ii, sub_ok, lt_ok, gt_ok, le_ok, ge_ok, aInt1, aAbs, aAndV, aOrV, aNotV, aIx, aSetIx, mod_ok, Nat.reduceAdd, Nat.reduceSub, Nat.zero_add, ixN0, ixNp, Option.bind_some, List.set_cons_zero, List.set_cons_succ, decide_eq_true_eq, decide_true, if_true, if_false, reduceIte, Bool.false_eq_true, ne_eq, aPart, aNoPart, aLen, aMin2, aLstC, List.length_cons, List.length_nil, List.map_cons, List.map_nil, List.cons_append, List.nil_append, List.getElem?_cons_zero, List.getElem?_cons_succ, List.append_assoc, List.length_append, Nat.zero_le, Nat.reduceLeDiff, Nat.le_refl, vwS, vwL, Option.map_some]⟩
    rw [List.nil_append, filt_arcs] at e1
    simp only [aSeq_eq, oSeq_nx, oSeq_rt, oSeq_ex, ↓bind_L, bind_ok, bind_ex, ↓resO_L, resO_ok, resO_ex, aIf, aRet, aAsg, aNm, aVar, aC, aOp, aCall, aCall0, aCons, aNil, aTest, aDrop, aNext, aTup, aLst, allD, aGTup, aGCons, aGNil, noEx, fnR, aNot, aAnd, aOr, aIfE, aPar, aPar3, startA, List.replicate, aI2, aI2C, add_ii, sub_ok, lt_ok, gt_ok, le_ok, ge_ok, aInt1, aAbs, aAndV, aOrV, aNotV, aIx, aSetIx, mod_ok, Nat.reduceAdd, Nat.reduceSub, Nat.zero_add, ixN0, ixNp, Option.bind_some, List.set_cons_zero, List.set_cons_succ, decide_eq_true_eq, decide_true, if_true, if_false, reduceIte, Bool.false_eq_true, ne_eq, aPart, aNoPart, aLen, aMin2, aLstC, List.length_cons, List.length_nil, List.map_cons, List.map_nil, List.cons_append, List.nil_append, List.getElem?_cons_zero, List.getElem?_cons_succ, List.append_assoc, List.length_append, Nat.zero_le, Nat.reduceLeDiff, Nat.le_refl, vwS, vwL, Option.map_some, frz_w L cl, h1, q, Bool.not_true, aLc, iSeqA, List.length_map, h2, wipeA, e1, aTupOf]
    exact close_ok rfl cl
  · rw [if_neg q]
    simp only [aSeq_eq, oSeq_nx, oSeq_rt, oSeq_ex, ↓bind_L, bind_ok, bind_ex, ↓resO_L, resO_ok, resO_ex, aIf, aRet, aAsg, aNm, aVar, aC, aOp, aCall, aCall0, aCons, aNil, aTest, aDrop, aNext, aTup, aLst, allD, aGTup, aGCons, aGNil, noEx, fnR, aNot, aAnd, aOr, aIfE, aPar, aPar3, startA, List.replicate, aI2, aI2C, add_ii, sub_ok, lt_ok, gt_ok, le_ok, ge_ok, aInt1, aAbs, aAndV, aOrV, aNotV, aIx, aSetIx, mod_ok, Nat.reduceAdd, Nat.reduceSub, Nat.zero_add, ixN0, ixNp, Option.bind_some, List.set_cons_zero, List.set_cons_succ, decide_eq_true_eq, decide_true, if_true, if_false, reduceIte, Bool.false_eq_true, ne_eq, aPart, aNoPart, aLen, aMin2, aLstC, List.length_cons, List.length_nil, List.map_cons, List.map_nil, List.cons_append, List.nil_append, List.getElem?_cons_zero, List.getElem?_cons_succ, List.append_assoc, List.length_append, Nat.zero_le, Nat.reduceLeDiff, Nat.le_refl, vwS, vwL, Option.map_some, frz_w L cl, h1, q, decide_false, Bool.not_false, aRaiseF]
    exact close_ex0 cl
end G
end
section
set_option Elab.async false
set_option linter.all false
set_option maxRecDepth 100000
set_option maxHeartbeats 4000000
namespace G
open PySem Ab
def pairD (q : Str × Str) : PyData := .tuple [.str q.1, .str q.2]
def pairsDt (qs : List (Str × Str)) : PyData := .tuple (qs.map pairD)
def kvOf (qs : List (Str × Str)) : List (L2.Key × Sl) := qs.map fun q => (Sum.inr q.1, Sl.d (.str q.2))
def ren (qs : List (Str × Str)) (n : Str) : Str := ((qs.find? fun q => decide (q.1 = n)).map (·.2)).getD n
theorem pairs_kv (qs : List (Str × Str)) : pairsD (qs.map pairD) = some (kvOf qs) := by
  induction qs with
  | nil => rfl
  | cons q qs ih => simp [pairsD, pairD, kvOf, keyD, ih]
theorem inr_dec (a b : Str) : decide ((Sum.inr a : L2.Key) = Sum.inr b) = decide (a = b) := by
  by_cases h : a = b
  · subst h; simp
  · have : ¬ (Sum.inr a : L2.Key) = Sum.inr b := fun z => h (Sum.inr.inj z)
    simp [h, this]
theorem put_new (kvs : List (L2.Key × Sl)) (k : L2.Key) (v : Sl) (h : ∀ e ∈ kvs, e.1 ≠ k) : putS kvs k v = kvs ++ [(k, v)] := by
  unfold putS
  rw [if_neg]
  simp only [List.any_eq_true, decide_eq_true_eq, not_exists, not_and]
  exact h
theorem merge_nd (qs : List (Str × Str)) : ∀ (acc : List (L2.Key × Sl)), (qs.map (·.1)).Nodup → (∀ e ∈ acc, ∀ q ∈ qs, e.1 ≠ Sum.inr q.1) → mergeS acc (kvOf qs) = acc ++ kvOf qs := by
  induction qs with
  | nil => intro acc _ _; simp [mergeS, kvOf]
  | cons q qs ih =>
    intro acc hn hd
    have h1 : kvOf (q :: qs) = (Sum.inr q.1, Sl.d (.str q.2)) :: kvOf qs := rfl
    rw [List.map_cons, List.nodup_cons] at hn
    rw [h1]
    unfold mergeS
    rw [List.foldl_cons, put_new _ _ _ fun e he => hd e he q (by simp)]
    have := ih (acc ++ [(Sum.inr q.1, Sl.d (.str q.2))]) hn.2 fun e he r hr => by
      rcases List.mem_append.mp he with z | z
      · exact hd e z r (by simp [hr])
      · rw [List.mem_singleton.mp z]
        intro w
        exact hn.1 (List.mem_map.mpr ⟨r, hr, (Sum.inr.inj w).symm⟩)
    unfold mergeS at this
    rw [this]
    simp
theorem lk_ren (qs : List (Str × Str)) (n : Str) : (lkS (kvOf qs) (.inr n)).getD (.d (.str n)) = .d (.str (ren qs n)) := by
  induction qs with
  | nil => rfl
  | cons q qs ih =>
    have h1 : kvOf (q :: qs) = (Sum.inr q.1, Sl.d (.str q.2)) :: kvOf qs := rfl
    by_cases h : q.1 = n
    · subst h
      rw [h1]
      simp [lkS, ren]
    · have h2 : ¬ (Sum.inr q.1 : L2.Key) = Sum.inr n := fun z => h (Sum.inr.inj z)
      have e1 : lkS (kvOf (q :: qs)) (.inr n) = lkS (kvOf qs) (.inr n) := by
        rw [h1]
        unfold lkS
        rw [List.find?_cons_of_neg (by simpa using h2)]
      have e2 : ren (q :: qs) n = ren qs n := by
        unfold ren
        rw [List.find?_cons_of_neg (by simpa using h)]
      rw [e1, e2, ih]
theorem kv_keys (qs : List (Str × Str)) : (kvOf qs).map (·.1) = (qs.map (·.1)).map Sum.inr := by simp [kvOf]
theorem at_end {M : ASto} {x : Cell} {m : Nat} (h : M.length = m) : (M ++ [x])[m]? = some x := by subst h; simp
theorem set_end {M : ASto} {x y : Cell} {m : Nat} (h : M.length = m) : (M ++ [x]).set m y = M ++ [y] := by subst h; simp
theorem key_items (ks : List Str) : (ks.map (Sum.inr : Str → L2.Key)).map (fun k => Sl.d (kD k)) = (strsD ks).map Sl.d := by simp [strsD, kD]
theorem for_skip {f : AEnv → ASto → Out} {M : ASto} (P : AEnv → Prop) : ∀ (xs : List Str) (ds : AEnv), P ds → (∀ x ∈ xs, ∀ ds, P ds → ∃ ds1 ds', aNm 5 (.d (.str x)) ds = some ds1 ∧ f ds1 M = .nx ds' M ∧ P ds') → ∃ ds', aForL (aNm 5) f ((strsD xs).map Sl.d) ds M = .nx ds' M ∧ P ds'
  | [], ds, h, _ => ⟨ds, rfl, h⟩
  | x :: xs, ds, h, s => by
    obtain ⟨d1, d2, e1, e2, h2⟩ := s x (by simp) ds h
    obtain ⟨d3, e3, h3⟩ := for_skip P xs d2 h2 fun y hy => s y (by simp [hy])
    refine ⟨d3, ?_, h3⟩
    have hs : (strsD (x :: xs)).map Sl.d = Sl.d (.str x) :: (strsD xs).map Sl.d := rfl
    rw [hs]
    unfold aForL
    rw [e1]
    dsimp only
    rw [e2]
    exact e3
theorem renamed_ok {w p : PyData} {es : List Str} {as : List Arc} {qs : List (Str × Str)} (L : Like w es as) {M : ASto} (cl : Cl M) (hp : frozenD p = pairsDt qs) (ho : okD 10 p) (hl : qs.length ≤ 100) (hn : (qs.map (·.1)).Nodup) (hk : ∀ q ∈ qs, q.1 ∈ as.map (·.1)) :
    m_renamed_arcs [.d w, .d p] M = .ok (.d (.tuple [.tuple (strsD es), .tuple (sortD (arcsD (as.map fun a => (ren qs a.1, a.2))))])) M := by
  have f2 : m_frozen [.d p] M = .ok (.d (.tuple (qs.map pairD))) M := by
    have := frozen_ok cl 10 p ho
    rw [hp] at this
    exact this
  have hl2 : (qs.length ≤ 100000) = True := eq_true (by omega)
  have hm : mergeS [] (kvOf qs) = kvOf qs := by
    have := merge_nd qs [] hn (fun e he => by cases he)
    simpa using this
  have clg : Cl (M ++ [Cell.gone]) := cl.app (.one rfl)
  obtain ⟨ds', e1, s5, hds⟩ := for_skip (f := aIf (aNot (aTest (aCall0 m__has_arc (aCons (aVar 3) (aCons (aVar 5) aNil))))) (aRaiseF "NoArc" "name" (aCons (aVar 5) aNil)) aNext) (M := M ++ [Cell.gone])
    (fun ds => ∃ s5, ds = [some (.d w), some (.d p), some (.d (.tuple (strsD es))), some (.d (.tuple (arcsD as))), some (.r M.length), s5, none, none]) (qs.map (·.1))
    [some (.d w), some (.d p), some (.d (.tuple (strsD es))), some (.d (.tuple (arcsD as))), some (.r M.length), none, none, none] ⟨none, rfl⟩ fun x hx ds ⟨s5, hd⟩ => by
      subst hd
      obtain ⟨q, hq, rfl⟩ := List.mem_map.mp hx
      have hin := hk q hq
      obtain ⟨a, ha, hae⟩ := List.mem_map.mp hin
      have h1 := has_arc_ok clg L.ao L.la (n := q.1) (by rw [← hae]; exact (L.ao a ha).1)
      refine ⟨_, _, rfl, ?_, some (.d (.str q.1)), rfl⟩
      simp only [aSeq_eq, oSeq_nx, oSeq_rt, oSeq_ex, ↓bind_L, bind_ok, bind_ex, ↓resO_L, resO_ok, resO_ex, aIf, aRet, aAsg, aNm, aVar, aC, aOp, aCall, aCall0, aCons, aNil, aTest, aDrop, aNext, aTup, aLst, allD, aGTup, aGCons, aGNil, noEx, fnR, aNot, aAnd, aOr, aIfE, aPar, aPar3, startA, List.replicate, aI2, aI2C, add_ii, sub_ok, lt_ok, gt_ok, le_ok, ge_ok, aInt1, aAbs, aAndV, aOrV, aNotV, aIx, aSetIx, mod_ok, Nat.reduceAdd, Nat.reduceSub, Nat.zero_add, ixN0, ixNp, Option.bind_some, List.set_cons_zero, List.set_cons_succ, decide_eq_true_eq, decide_true, if_true, if_false, reduceIte, Bool.false_eq_true, ne_eq, aPart, aNoPart, aLen, aMin2, aLstC, List.length_cons, List.length_nil, List.map_cons, List.map_nil, List.cons_append, List.nil_append, List.getElem?_cons_zero, List.getElem?_cons_succ, List.append_assoc, List.length_append, Nat.zero_le, Nat.reduceLeDiff, Nat.le_refl, vwS, vwL, Option.map_some, h1, hin, Bool.not_true]
  subst hds
  have h2 : (arcsD as).length ≤ 100000 := by rw [arcs_len]; have := L.la; omega
  have e2 := lc_arcs (G := aGTup 3 (aGCons (aNm 5) (aGCons (aNm 6) (aGCons (aNm 7) aGNil)))) (T := aYes) (A := aTup (aCons (aGet2 (aVar 4) (aVar 5) (aVar 5)) (aCons (aVar 6) (aCons (aVar 7) aNil)))) (ds := [some (.d w), some (.d p), some (.d (.tuple (strsD es))), some (.d (.tuple (arcsD as))), some (.r M.length), none, none, none]) (M := M ++ [Cell.dct (kvOf qs)]) (p := fun _ => true) (h := fun a => arcD (ren qs a.1, a.2)) as [] fun a ha =>
    ⟨_, rfl, rfl, fun _ => by simp only [aSeq_eq, oSeq_nx, oSeq_rt, oSeq_ex, ↓bind_L, bind_ok, bind_ex, ↓resO_L, resO_ok, resO_ex, aIf, aRet, aAsg, aNm, aVar, aC, aOp, aCall, aCall0, aCons, aNil, aTest, aDrop, aNext, aTup, aLst, allD, aGTup, aGCons, aGNil, noEx, fnR, aNot, aAnd, aOr, aIfE, aPar, aPar3, startA, List.replicate, aI2, aI2C, add_ii, sub_ok, lt_ok, gt_ok, le_ok, ge_ok, aInt1, aAbs, aAndV, aOrV, aNotV, aIx, aSetIx, mod_ok, Nat.reduceAdd, Nat.reduceSub, Nat.zero_add, ixN0, ixNp, Option.bind_some, List.set_cons_zero, List.set_cons_succ, decide_eq_true_eq, decide_true, if_true, if_false, reduceIte, Bool.false_eq_true, ne_eq, aPart, aNoPart, aLen, aMin2, aLstC, List.length_cons, List.length_nil, List.map_cons, List.map_nil, List.cons_append, List.nil_append, List.getElem?_cons_zero, List.getElem?_cons_succ, List.append_assoc, List.length_append, Nat.zero_le, Nat.reduceLeDiff, Nat.le_refl, vwS, vwL, Option.map_some, aGet2, isDc, dctAt, at_end rfl, keyS, keyD, lk_ren, arcD]⟩
  rw [List.nil_append, List.filter_eq_self.mpr (fun _ _ => rfl)] at e2
  have e3 : (as.map fun a => arcD (ren qs a.1, a.2)) = arcsD (as.map fun a => (ren qs a.1, a.2)) := by simp [arcsD]
  have hs := sortable_arcs (as.map fun a => (ren qs a.1, a.2)) (by simp; have := L.la; omega)
  unfold m_renamed_arcs b_renamed_arcs runD
  simp only [aSeq_eq, oSeq_nx, oSeq_rt, oSeq_ex, ↓bind_L, bind_ok, bind_ex, ↓resO_L, resO_ok, resO_ex, aIf, aRet, aAsg, aNm, aVar, aC, aOp, aCall, aCall0, aCons, aNil, aTest, aDrop, aNext, aTup, aLst, allD, aGTup, aGCons, aGNil, noEx, fnR, aNot, aAnd, aOr, aIfE, aPar, aPar3, startA, List.replicate, aI2, aI2C, add_ii, sub_ok, lt_ok, gt_ok, le_ok, ge_ok, aInt1, aAbs, aAndV, aOrV, aNotV, aIx, aSetIx, mod_ok, Nat.reduceAdd, Nat.reduceSub, Nat.zero_add, ixN0, ixNp, Option.bind_some, List.set_cons_zero, List.set_cons_succ, decide_eq_true_eq, decide_true, if_true, if_false, reduceIte, Bool.false_eq_true, ne_eq, aPart, aNoPart, aLen, aMin2, aLstC, List.length_cons, List.length_nil, List.map_cons, List.map_nil, List.cons_append, List.nil_append, List.getElem?_cons_zero, List.getElem?_cons_succ, List.append_assoc, List.length_append, Nat.zero_le, Nat.reduceLeDiff, Nat.le_refl, vwS, vwL, Option.map_some, frz_w L cl, f2, aDictT, pairs_kv, List.length_map, hl2, hm, aLock, at_end rfl, set_end rfl, kv_keys, aFor, iKeysX, key_items, e1, unlO, unlM, aLc, iSeqA, h2, wipeA, e2, e3, aSortQ, hs, aTupOf]
  exact close_app rfl cl
end G
end
section
set_option Elab.async false
set_option linter.all false
set_option maxRecDepth 100000
set_option maxHeartbeats 4000000
namespace G
open PySem Ab
/-! ### shared_names -/
theorem lk_put (kvs : List (L2.Key × Sl)) (k j : L2.Key) (v : Sl) : (lkS (putS kvs k v) j).isSome = ((lkS kvs j).isSome || decide (k = j)) := by
  unfold lkS putS
  simp only [Option.isSome_map]
  split
  · rename_i h
    simp only [List.any_eq_true, decide_eq_true_eq] at h
    rw [List.find?_map, Option.isSome_map]
    have hf : ((fun e : L2.Key × Sl => decide (e.1 = j)) ∘ fun e => if e.1 = k then (e.1, v) else e) = fun e => decide (e.1 = j) := by
      funext e
      simp only [Function.comp]
      split <;> rfl
    rw [hf]
    by_cases q : k = j
    · subst q
      obtain ⟨x, hx, hx2⟩ := h
      simp only [decide_true, Bool.or_true]
      rw [List.find?_isSome]
      exact ⟨x, hx, by simp [hx2]⟩
    · simp [q]
  · rw [List.find?_append, Option.isSome_or]
    by_cases q : k = j
    · subst q; simp
    · simp [q]
theorem put_cl {kvs : List (L2.Key × Sl)} {k : L2.Key} {x : PyData} (h : closedC 0 (.dct kvs) = true) : closedC 0 (.dct (putS kvs k (.d x))) = true := by
  unfold putS
  simp only [closedC, List.all_eq_true] at h ⊢
  split
  · intro e he
    obtain ⟨e0, h0, rfl⟩ := List.mem_map.mp he
    split
    · rfl
    · exact h e0 h0
  · intro e he
    rcases List.mem_append.mp he with z | z
    · exact h e z
    · rw [List.mem_singleton.mp z]; rfl
theorem dc_names {M : ASto} : ∀ (as : List Arc) (acc : List (L2.Key × Sl)) (ds : AEnv), ds.length = 4 → closedC 0 (.dct acc) = true → ∃ kvs, aDcL (aNm 3) aYes (aOp aIx (aVar 3) (aC (.int 0))) (aC (.bool true)) ds ((arcsD as).map Sl.d) acc M = .ok kvs M ∧ closedC 0 (.dct kvs) = true ∧ ∀ n : Str, (lkS kvs (.inr n)).isSome = ((lkS acc (.inr n)).isSome || decide (n ∈ as.map (·.1)))
  | [], acc, ds, hd, hc => ⟨acc, rfl, hc, fun n => by simp⟩
  | a :: as, acc, ds, hd, hc => by
    match ds, hd with
    | [d0, d1, d2, d3], _ =>
      obtain ⟨kvs, e, c, h⟩ := dc_names (M := M) as (putS acc (.inr a.1) (.d (.bool true))) [d0, d1, d2, d3] rfl (put_cl hc)
      refine ⟨kvs, ?_, c, fun n => ?_⟩
      · have hs : (arcsD (a :: as)).map Sl.d = Sl.d (arcD a) :: (arcsD as).map Sl.d := rfl
        have h1 : (aOp aIx (aVar 3) (aC (.int 0))) [d0, d1, d2, some (.d (arcD a))] M = .ok (.d (.str a.1)) M := rfl
        rw [hs]
        unfold aDcL
        dsimp only [aNm, List.set_cons_zero, List.set_cons_succ, aYes]
        rw [h1]
        dsimp only [aC, keyS, keyD]
        exact e
      · rw [h, lk_put, inr_dec, List.map_cons, Bool.or_assoc]
        congr 1
        by_cases q : a.1 = n
        · subst q; simp
        · have q2 : ¬ n = a.1 := fun z => q z.symm
          simp [q, q2]
abbrev Rng := Str × Int × Int
def rngD (r : Rng) : PyData := .tuple [.str r.1, .int r.2.1, .int r.2.2]
def rngsD (rs : List Rng) : List PyData := rs.map rngD
theorem rngs_len (rs : List Rng) : (rngsD rs).length = rs.length := by simp [rngsD]
theorem ix_rng0 (a : Rng) : L2.atI [PyData.str a.1, .int a.2.1, .int a.2.2] 0 = some (.str a.1) := rfl
theorem rngs_app (rs : List Rng) (n : Str) (a b : Int) : rngsD rs ++ [PyData.tuple [.str n, .int a, .int b]] = rngsD (rs ++ [(n, a, b)]) := by simp [rngsD, rngD]
theorem sortable_rngs (rs : List Rng) (h : rs.length ≤ 100000) : sortable (rngsD rs) = true := by
  unfold sortable
  simp only [Bool.and_eq_true, Bool.or_eq_true, decide_eq_true_eq]
  refine ⟨⟨⟨.inl ?_, ?_⟩, ?_⟩, by simpa [rngsD] using h⟩
  · simp [rngsD, rngD, isTupC]
  · simp [rngsD, rngD, alikeAllB, PySem.W.alike, PySem.W.alikeAll]
  · simp [rngsD, rngD, PyData.depth, PyData.depthAll]
theorem lc_rngs {G : Sl → AEnv → Option AEnv} {T : AEnv → ASto → Res Bool} {A : AEnv → ASto → Res Sl} {ds : AEnv} {M : ASto} {p : Rng → Bool} {h : Rng → PyData} :
    ∀ (xs : List Rng) (acc : List PyData), (∀ x ∈ xs, ∃ e, G (.d (rngD x)) ds = some e ∧ T e M = .ok (p x) M ∧ (p x = true → A e M = .ok (.d (h x)) M)) → aLcL G T A ds ((rngsD xs).map Sl.d) acc M = .ok (acc ++ (xs.filter p).map h) M
  | [], acc, _ => by simp [aLcL, rngsD]
  | x :: xs, acc, H => by
    obtain ⟨e, h1, h2, h3⟩ := H x (by simp)
    have hs : (rngsD (x :: xs)).map Sl.d = Sl.d (rngD x) :: (rngsD xs).map Sl.d := rfl
    rw [hs]
    unfold aLcL
    rw [h1]
    dsimp only
    rw [h2]
    cases hp : p x with
    | false =>
      dsimp only
      rw [lc_rngs xs acc fun y hy => H y (by simp [hy])]
      simp [hp]
    | true =>
      dsimp only
      rw [h3 hp]
      dsimp only
      rw [lc_rngs xs (acc ++ [h x]) fun y hy => H y (by simp [hy])]
      simp [hp]
theorem frozen_rngs (rs : List Rng) : frozenD (.tuple (rngsD rs)) = .tuple (rngsD rs) := by
  rw [frozen_tup]
  congr 1
  simp only [rngsD, List.map_map]
  refine List.map_congr_left fun r _ => ?_
  simp only [Function.comp, rngD, frozen_tup, List.map_cons, List.map_nil, frozenD]
theorem ok_rngs (rs : List Rng) (h : rs.length ≤ 100000) (hs : ∀ r ∈ rs, PyData.strOk r.1 = true) : okD 10 (.tuple (rngsD rs)) := by
  refine ⟨by rw [rngs_len]; exact h, fun y hy => ?_⟩
  simp only [rngsD, List.mem_map] at hy
  obtain ⟨r, hr, rfl⟩ := hy
  refine ⟨by simp, fun z hz => ?_⟩
  simp at hz
  rcases hz with rfl | rfl | rfl
  · exact hs r hr
  · trivial
  · trivial
end G
end
section
set_option Elab.async false
set_option linter.all false
set_option maxRecDepth 100000
set_option maxHeartbeats 4000000
namespace G
open PySem Ab
def twD (n : Str) : PyData := .list [.str "twice", .str n, .bool true]
def evD (n : Str) : PyData := .list [.str "event", .str n, .bool true]
def arD (n : Str) : PyData := .list [.str "arc", .str n, .bool true]
def rgD : PyData := .list [.str "ring", .bool true]
theorem ix1_0 {α : Type} (a : α) : L2.atI [a] 0 = some a := rfl
theorem dec_i (a b : Int) (h : (a = b) = False) : decide (a = b) = false := by simp [h]
/-- a drawn WEB's own look -/
structure Own (es : List Str) (as : List Arc) : Prop where
  ne : es ≠ []
  le : es.length ≤ 8
  la : as.length ≤ 16
  eo : EsOk es
  ao : AsOk as
  so : sortD (arcsD as) = arcsD as
theorem d10 : decide ((1 : Int) = 0) = false := by decide
theorem d20 : decide ((2 : Int) = 0) = false := by decide
theorem d21 : decide ((2 : Int) = 1) = false := by decide
theorem d30 : decide ((3 : Int) = 0) = false := by decide
theorem d31 : decide ((3 : Int) = 1) = false := by decide
theorem d32 : decide ((3 : Int) = 2) = false := by decide
theorem d40 : decide ((4 : Int) = 0) = false := by decide
theorem d41 : decide ((4 : Int) = 1) = false := by decide
theorem d42 : decide ((4 : Int) = 2) = false := by decide
theorem d43 : decide ((4 : Int) = 3) = false := by decide
theorem shaped_strs (xs : List Str) (h : ∀ x ∈ xs, PyData.strOk x = true) : SeqAt.shaped (.list (strsD xs)) = true := by
  have h1 : PyData.canLayAll0 (strsD xs) = true := by
    induction xs with
    | nil => rfl
    | cons x xs ih =>
      have : strsD (x :: xs) = .str x :: strsD xs := rfl
      rw [this]
      simp [PyData.canLayAll0, PyData.canLay0, h x (by simp), ih fun y hy => h y (by simp [hy])]
  have h2 : PyData.depthAll (strsD xs) ≤ 1 := by
    induction xs with
    | nil => simp [strsD, PyData.depthAll]
    | cons x xs ih =>
      have : strsD (x :: xs) = .str x :: strsD xs := rfl
      rw [this]
      have := ih (fun y hy => h y (by simp [hy])) (by
        have e : strsD (x :: xs) = .str x :: strsD xs := rfl
        rw [e] at h1
        simp [PyData.canLayAll0] at h1
        exact h1.2)
      simp [PyData.depthAll, PyData.depth]
      omega
  simp [SeqAt.shaped, PyData.canLay0, h1, PyData.depth]
  omega
theorem eq_nil (n : Bool) {xs : List Str} (h : ∀ x ∈ xs, PyData.strOk x = true) (M : ASto) : aEqD n (.d (.list (strsD xs))) (.d (.list [])) M = .ok (.d (.bool (if n then !xs.isEmpty else xs.isEmpty))) M := by
  unfold aEqD
  dsimp only
  rw [if_pos (by rw [shaped_strs xs h]; rfl)]
  cases xs with
  | nil => rfl
  | cons x xs => rfl
end G
end
section
set_option Elab.async false
set_option linter.all false
set_option maxRecDepth 100000
set_option maxHeartbeats 4000000
namespace G
open PySem Ab
end G
end
section
set_option Elab.async false
set_option linter.all false
set_option maxRecDepth 100000
set_option maxHeartbeats 4000000
namespace G
open PySem Ab
/-- where pairs lead, one or more of them -/
inductive Rc (ps : List (Str × Str)) (s : Str) : Str → Prop
  | one {t : Str} : (s, t) ∈ ps → Rc ps s t
  | more {u t : Str} : Rc ps s u → (u, t) ∈ ps → Rc ps s t
/-- what a dict of lists holds: the name, the cell, the names -/
structure Ent where
  h : Str
  r : Nat
  ys : List Str
def entK (es : List Ent) : List (L2.Key × Sl) := es.map fun e => (Sum.inr e.h, Sl.r e.r)
def entD (es : List Ent) : List (L2.Key × Sl) := es.map fun e => (Sum.inr e.h, Sl.d (.list (strsD e.ys)))
theorem allD_strs (ys : List Str) : allD ((strsD ys).map Sl.d) = some (strsD ys) := by
  induction ys with
  | nil => rfl
  | cons y ys ih => simp [strsD, allD] at ih ⊢; rw [ih]
theorem frz_all : ∀ (es : List Ent) (S : ASto), (∀ e ∈ es, S[e.r]? = some (.lst ((strsD e.ys).map Sl.d))) → (es.map (·.r)).Nodup →
    ∃ S', frzVL S (entK es) = some (entD es, S') ∧ S'.length = S.length ∧ ∀ n, (∀ e ∈ es, n ≠ e.r) → S'[n]? = S[n]?
  | [], S, _, _ => ⟨S, rfl, rfl, fun _ _ => rfl⟩
  | e :: es, S, h, nd => by
    rw [List.map_cons, List.nodup_cons] at nd
    have h0 := h e (by simp)
    obtain ⟨S', e1, e2, e3⟩ := frz_all es (S.set e.r .gone) (fun x hx => by
      have : e.r ≠ x.r := fun z => nd.1 (by rw [z]; exact List.mem_map_of_mem hx)
      rw [List.getElem?_set_ne this]
      exact h x (by simp [hx])) nd.2
    refine ⟨S', ?_, by rw [e2, List.length_set], fun n hn => ?_⟩
    · have hk : entK (e :: es) = (Sum.inr e.h, Sl.r e.r) :: entK es := rfl
      rw [hk]
      unfold frzVL
      dsimp only
      have : frzD S (.r e.r) = some (.list (strsD e.ys)) := by
        unfold frzD
        dsimp only
        rw [h0]
        simp only [allD_strs, Option.map_some]
      rw [this]
      dsimp only
      rw [e1]
      rfl
    · rw [e3 n fun x hx => hn x (by simp [hx])]
      exact List.getElem?_set_ne fun z => hn e (by simp) z.symm
theorem find_ent (es : List Ent) (h : Str) : (lkS (entK es) (.inr h)) = (es.find? fun e => decide (e.h = h)).map fun e => Sl.r e.r := by
  induction es with
  | nil => rfl
  | cons e es ih =>
    have hk : entK (e :: es) = (Sum.inr e.h, Sl.r e.r) :: entK es := rfl
    rw [hk]
    unfold lkS at ih ⊢
    rw [List.find?_cons, List.find?_cons]
    dsimp only
    rw [inr_dec]
    by_cases q : e.h = h
    · simp [q]
    · simp only [q, decide_false]
      exact ih
theorem find_entD (es : List Ent) (h : Str) : (lkS (entD es) (.inr h)) = (es.find? fun e => decide (e.h = h)).map fun e => Sl.d (.list (strsD e.ys)) := by
  induction es with
  | nil => rfl
  | cons e es ih =>
    have hk : entD (e :: es) = (Sum.inr e.h, Sl.d (.list (strsD e.ys))) :: entD es := rfl
    rw [hk]
    unfold lkS at ih ⊢
    rw [List.find?_cons, List.find?_cons]
    dsimp only
    rw [inr_dec]
    by_cases q : e.h = h
    · simp [q]
    · simp only [q, decide_false]
      exact ih
/-- the dict behind some pairs -/
structure Dk (m : Nat) (M S : ASto) (ps : List (Str × Str)) (es : List Ent) : Prop where
  pre : S.take m = M
  ml : M.length = m
  len : S.length = m + 1 + ps.length
  at_ : S[m]? = some (.dct (entK es))
  cell : ∀ e ∈ es, m < e.r ∧ e.r < S.length ∧ S[e.r]? = some (.lst ((strsD e.ys).map Sl.d))
  nh : (es.map (·.h)).Nodup
  nr : (es.map (·.r)).Nodup
  le : es.length ≤ ps.length
  ly : ∀ e ∈ es, e.ys.length ≤ ps.length
  mem : ∀ h t, (h, t) ∈ ps ↔ ∃ e ∈ es, e.h = h ∧ t ∈ e.ys
/-- one pair more -/
theorem dk_step {m : Nat} {M S : ASto} {ps : List (Str × Str)} {es : List Ent} (D : Dk m M S ps es) (h t : Str) (hl : ps.length < 1000) (d0 d1 d3 d4 d5 d6 : Option Sl) :
    ∃ S' es', aDrop (aMut gAppend (aSetd (aVar 2) (aVar 3) (aLstC aNil)) (aVar 4)) [d0, d1, some (.r m), some (.d (.str h)), some (.d (.str t)), d5, d6] S = .nx [d0, d1, some (.r m), some (.d (.str h)), some (.d (.str t)), d5, d6] S' ∧ Dk m M S' (ps ++ [(h, t)]) es' := by
  have hm : m < S.length := by rw [D.len]; omega
  have hda : isDc S (.r m) = true := by unfold isDc; dsimp only; rw [D.at_]
  have hat : dctAt (S ++ [Cell.lst []]) (.r m) = some (m, entK es) := by
    unfold dctAt; dsimp only; rw [List.getElem?_append_left hm, D.at_]
  have hkl : ((entK es).length < 100000) = True := eq_true (by unfold entK; rw [List.length_map]; have := D.le; omega)
  have tk : ∀ (X : ASto), (∀ n, n < m → X[n]? = S[n]?) → X.take m = M := fun X hX => by
    rw [← D.pre]
    apply List.ext_getElem?
    intro n
    rw [List.getElem?_take, List.getElem?_take]
    split
    · exact hX n (by assumption)
    · rfl
  cases q : es.find? (fun e => decide (e.h = h)) with
  | some e =>
    have hm' := List.mem_of_find?_eq_some q
    have hh : e.h = h := of_decide_eq_true (List.find?_some (p := fun e : Ent => decide (e.h = h)) q)
    obtain ⟨c1, c2, c3⟩ := D.cell e hm'
    have hlk : lkS (entK es) (.inr h) = some (.r e.r) := by rw [find_ent, q]; rfl
    have ya := D.ly e hm'
    refine ⟨(S ++ [Cell.lst []]).set e.r (.lst ((strsD (e.ys ++ [t])).map Sl.d)), es.map (fun x => if x.h = h then ⟨x.h, x.r, x.ys ++ [t]⟩ else x), ?_, ?_⟩
    · have his : isL (S ++ [Cell.lst []]) (.r e.r) = true := by unfold isL; dsimp only; rw [List.getElem?_append_left c2, c3]
      have hc : (S ++ [Cell.lst []])[e.r]? = some (.lst ((strsD e.ys).map Sl.d)) := by rw [List.getElem?_append_left c2, c3]
      have hyl : (((strsD e.ys).map Sl.d).length < 100000) = True := eq_true (by rw [List.length_map, strs_len]; omega)
      simp only [aSeq_eq, oSeq_nx, oSeq_rt, oSeq_ex, ↓bind_L, bind_ok, bind_ex, ↓resO_L, resO_ok, resO_ex, aIf, aRet, aAsg, aNm, aVar, aC, aOp, aCall, aCall0, aCons, aNil, aTest, aDrop, aNext, aTup, aLst, allD, aGTup, aGCons, aGNil, noEx, fnR, aNot, aAnd, aOr, aIfE, aPar, aPar3, startA, List.replicate, aI2, aI2C, add_ii, sub_ok, lt_ok, gt_ok, le_ok, ge_ok, aInt1, aAbs, aAndV, aOrV, aNotV, aIx, aSetIx, mod_ok, Nat.reduceAdd, Nat.reduceSub, Nat.zero_add, ixN0, ixNp, Option.bind_some, List.set_cons_zero, List.set_cons_succ, decide_eq_true_eq, decide_true, if_true, if_false, reduceIte, Bool.false_eq_true, ne_eq, aPart, aNoPart, aLen, aMin2, aLstC, List.length_cons, List.length_nil, List.map_cons, List.map_nil, List.cons_append, List.nil_append, List.getElem?_cons_zero, List.getElem?_cons_succ, List.append_assoc, List.length_append, Nat.zero_le, Nat.reduceLeDiff, Nat.le_refl, vwS, vwL, Option.map_some, aMut, aSetd, hda, hat, keyS, keyD, hkl, hlk, his, gAppend, hc, hyl]
      simp [strsD]
    · have inj : ∀ x ∈ es, x.r = e.r → x = e := fun x hx z => by
        have := D.nr
        obtain ⟨i, hi, rfl⟩ := List.mem_iff_getElem.mp hx
        obtain ⟨j, hj, rfl⟩ := List.mem_iff_getElem.mp hm'
        have e1 : (es.map (·.r))[i]'(by simpa using hi) = (es.map (·.r))[j]'(by simpa using hj) := by simpa using z
        have := (List.getElem_inj this).mp e1
        subst this
        rfl
      have injh : ∀ x ∈ es, x.h = h → x = e := fun x hx z => by
        have := D.nh
        obtain ⟨i, hi, rfl⟩ := List.mem_iff_getElem.mp hx
        obtain ⟨j, hj, rfl⟩ := List.mem_iff_getElem.mp hm'
        have e1 : (es.map (·.h))[i]'(by simpa using hi) = (es.map (·.h))[j]'(by simpa using hj) := by simpa [hh] using z
        have := (List.getElem_inj this).mp e1
        subst this
        rfl
      have fh : (es.map (fun x => if x.h = h then (⟨x.h, x.r, x.ys ++ [t]⟩ : Ent) else x)).map (·.h) = es.map (·.h) := by
        rw [List.map_map]; apply List.map_congr_left; intro x _; simp only [Function.comp]; split <;> rfl
      have fr : (es.map (fun x => if x.h = h then (⟨x.h, x.r, x.ys ++ [t]⟩ : Ent) else x)).map (·.r) = es.map (·.r) := by
        rw [List.map_map]; apply List.map_congr_left; intro x _; simp only [Function.comp]; split <;> rfl
      have fk : entK (es.map (fun x => if x.h = h then (⟨x.h, x.r, x.ys ++ [t]⟩ : Ent) else x)) = entK es := by
        unfold entK; rw [List.map_map]; apply List.map_congr_left; intro x _; simp only [Function.comp]; split <;> rfl
      refine ⟨tk _ fun n hn => ?_, D.ml, ?_, ?_, fun x hx => ?_, by rw [fh]; exact D.nh, by rw [fr]; exact D.nr, by have := D.le; simp; omega, fun x hx => ?_, fun a b => ?_⟩
      · rw [List.getElem?_set_ne (by omega), List.getElem?_append_left (by omega)]
      · rw [List.length_set, List.length_append, D.len, List.length_append]; simp; omega
      · rw [List.getElem?_set_ne (by omega), List.getElem?_append_left hm, fk]; exact D.at_
      · obtain ⟨x0, hx0, rfl⟩ := List.mem_map.mp hx
        obtain ⟨k1, k2, k3⟩ := D.cell x0 hx0
        by_cases z : x0.h = h
        · rw [if_pos z]
          have := injh x0 hx0 z
          subst this
          refine ⟨k1, by rw [List.length_set, List.length_append]; dsimp only; omega, ?_⟩
          dsimp only
          rw [List.getElem?_set_self (by rw [List.length_append]; omega)]
        · rw [if_neg z]
          refine ⟨k1, by rw [List.length_set, List.length_append]; omega, ?_⟩
          rw [List.getElem?_set_ne (fun w => z (by rw [inj x0 hx0 w.symm]; exact hh)), List.getElem?_append_left k2]
          exact k3
      · obtain ⟨x0, hx0, rfl⟩ := List.mem_map.mp hx
        have := D.ly x0 hx0
        split <;> simp <;> omega
      · constructor
        · intro hab
          rcases List.mem_append.mp hab with w | w
          · obtain ⟨x, hx, hxh, hxt⟩ := (D.mem a b).mp w
            refine ⟨_, List.mem_map_of_mem hx, ?_, ?_⟩
            · split <;> exact hxh
            · split
              · exact List.mem_append_left _ hxt
              · exact hxt
          · have w := List.mem_singleton.mp w
            obtain ⟨rfl, rfl⟩ := Prod.mk.inj w
            exact ⟨_, List.mem_map_of_mem hm', by rw [if_pos hh]; exact hh, by rw [if_pos hh]; simp⟩
        · rintro ⟨x, hx, hxh, hxt⟩
          obtain ⟨x0, hx0, rfl⟩ := List.mem_map.mp hx
          by_cases z : x0.h = h
          · rw [if_pos z] at hxh hxt
            rcases List.mem_append.mp hxt with w | w
            · exact List.mem_append_left _ ((D.mem a b).mpr ⟨x0, hx0, hxh, w⟩)
            · rw [List.mem_singleton.mp w, ← hxh]
              dsimp only
              rw [z]
              simp
          · rw [if_neg z] at hxh hxt
            exact List.mem_append_left _ ((D.mem a b).mpr ⟨x0, hx0, hxh, hxt⟩)
  | none =>
    have hno : ∀ e ∈ es, e.h ≠ h := fun e he z => by
      have := List.find?_eq_none.mp q e he
      simp [z] at this
    have hlk : lkS (entK es) (.inr h) = none := by rw [find_ent, q]; rfl
    have hput : putS (entK es) (.inr h) (.r S.length) = entK (es ++ [⟨h, S.length, [t]⟩]) := by
      rw [put_new _ _ _ (fun e he => by
        obtain ⟨x, hx, rfl⟩ := List.mem_map.mp he
        intro z
        exact hno x hx (Sum.inr.inj z))]
      unfold entK
      rw [List.map_append]
      rfl
    refine ⟨((S ++ [Cell.lst []]).set m (.dct (entK (es ++ [⟨h, S.length, [t]⟩])))).set S.length (.lst ((strsD [t]).map Sl.d)), es ++ [⟨h, S.length, [t]⟩], ?_, ?_⟩
    · have hc : ((S ++ [Cell.lst []]).set m (.dct (entK (es ++ [⟨h, S.length, [t]⟩]))))[S.length]? = some (.lst []) := by
        rw [List.getElem?_set_ne (by omega), List.getElem?_append_right (Nat.le_refl _)]
        simp
      have his : isL ((S ++ [Cell.lst []]).set m (.dct (entK (es ++ [⟨h, S.length, [t]⟩])))) (.r S.length) = true := by unfold isL; dsimp only; rw [hc]
      simp only [aSeq_eq, oSeq_nx, oSeq_rt, oSeq_ex, ↓bind_L, bind_ok, bind_ex, ↓resO_L, resO_ok, resO_ex, aIf, aRet, aAsg, aNm, aVar, aC, aOp, aCall, aCall0, aCons, aNil, aTest, aDrop, aNext, aTup, aLst, allD, aGTup, aGCons, aGNil, noEx, fnR, aNot, aAnd, aOr, aIfE, aPar, aPar3, startA, List.replicate, aI2, aI2C, add_ii, sub_ok, lt_ok, gt_ok, le_ok, ge_ok, aInt1, aAbs, aAndV, aOrV, aNotV, aIx, aSetIx, mod_ok, Nat.reduceAdd, Nat.reduceSub, Nat.zero_add, ixN0, ixNp, Option.bind_some, List.set_cons_zero, List.set_cons_succ, decide_eq_true_eq, decide_true, if_true, if_false, reduceIte, Bool.false_eq_true, ne_eq, aPart, aNoPart, aLen, aMin2, aLstC, List.length_cons, List.length_nil, List.map_cons, List.map_nil, List.cons_append, List.nil_append, List.getElem?_cons_zero, List.getElem?_cons_succ, List.append_assoc, List.length_append, Nat.zero_le, Nat.reduceLeDiff, Nat.le_refl, vwS, vwL, Option.map_some, aMut, aSetd, hda, hat, keyS, keyD, hkl, hlk, hput, his, gAppend, hc]
      rfl
    · refine ⟨tk _ fun n hn => ?_, D.ml, ?_, ?_, fun x hx => ?_, ?_, ?_, by have := D.le; simp; omega, fun x hx => ?_, fun a b => ?_⟩
      · rw [List.getElem?_set_ne (by omega), List.getElem?_set_ne (by omega), List.getElem?_append_left (by omega)]
      · rw [List.length_set, List.length_set, List.length_append, D.len, List.length_append]; simp; omega
      · rw [List.getElem?_set_ne (by omega), List.getElem?_set_self (by rw [List.length_append]; omega)]
      · rcases List.mem_append.mp hx with w | w
        · obtain ⟨k1, k2, k3⟩ := D.cell x w
          refine ⟨k1, by rw [List.length_set, List.length_set, List.length_append]; omega, ?_⟩
          rw [List.getElem?_set_ne (by omega), List.getElem?_set_ne (by omega), List.getElem?_append_left k2]
          exact k3
        · rw [List.mem_singleton.mp w]
          dsimp only
          refine ⟨hm, by rw [List.length_set, List.length_set, List.length_append]; simp, ?_⟩
          rw [List.getElem?_set_self (by rw [List.length_set, List.length_append]; simp)]
      · rw [List.map_append, List.nodup_append]
        refine ⟨D.nh, by simp, fun a ha b hb => ?_⟩
        obtain ⟨x, hx, rfl⟩ := List.mem_map.mp ha
        rw [List.map_cons, List.map_nil, List.mem_singleton] at hb
        rw [hb]
        exact hno x hx
      · rw [List.map_append, List.nodup_append]
        refine ⟨D.nr, by simp, fun a ha b hb => ?_⟩
        obtain ⟨x, hx, rfl⟩ := List.mem_map.mp ha
        rw [List.map_cons, List.map_nil, List.mem_singleton] at hb
        rw [hb]
        have := (D.cell x hx).2.1
        dsimp only
        omega
      · rcases List.mem_append.mp hx with w | w
        · have := D.ly x w
          simp; omega
        · rw [List.mem_singleton.mp w]; simp
      · constructor
        · intro hab
          rcases List.mem_append.mp hab with w | w
          · obtain ⟨x, hx, hxh, hxt⟩ := (D.mem a b).mp w
            exact ⟨x, List.mem_append_left _ hx, hxh, hxt⟩
          · have w := List.mem_singleton.mp w
            obtain ⟨rfl, rfl⟩ := Prod.mk.inj w
            exact ⟨_, List.mem_append_right _ (List.mem_singleton.mpr rfl), rfl, by simp⟩
        · rintro ⟨x, hx, hxh, hxt⟩
          rcases List.mem_append.mp hx with w | w
          · exact List.mem_append_left _ ((D.mem a b).mpr ⟨x, w, hxh, hxt⟩)
          · have w := List.mem_singleton.mp w
            subst w
            dsimp only at hxh hxt
            subst hxh
            rw [List.mem_singleton.mp hxt]
            simp
def prD (q : Str × Str) : PyData := .tuple [.str q.1, .str q.2]
theorem dk_all {m : Nat} {M : ASto} (d0 d1 d5 d6 : Option Sl) : ∀ (qs ps : List (Str × Str)) (S : ASto) (es : List Ent) (d3 d4 : Option Sl), Dk m M S ps es → ps.length + qs.length < 1000 →
    ∃ S' es' e3 e4, aForL (aGTup 2 (aGCons (aNm 3) (aGCons (aNm 4) aGNil))) (aDrop (aMut gAppend (aSetd (aVar 2) (aVar 3) (aLstC aNil)) (aVar 4))) ((qs.map prD).map Sl.d) [d0, d1, some (.r m), d3, d4, d5, d6] S = .nx [d0, d1, some (.r m), e3, e4, d5, d6] S' ∧ Dk m M S' (ps ++ qs) es'
  | [], ps, S, es, d3, d4, D, _ => ⟨S, es, d3, d4, rfl, by rwa [List.append_nil]⟩
  | q :: qs, ps, S, es, d3, d4, D, hl => by
    obtain ⟨S1, es1, e1, D1⟩ := dk_step D q.1 q.2 (by omega) d0 d1 d3 d4 d5 d6
    obtain ⟨S', es', e3, e4, e2, D2⟩ := dk_all d0 d1 d5 d6 qs (ps ++ [(q.1, q.2)]) S1 es1 (some (.d (.str q.1))) (some (.d (.str q.2))) D1 (by rw [List.length_append, List.length_cons, List.length_nil]; rw [List.length_cons] at hl; omega)
    refine ⟨S', es', e3, e4, ?_, by rw [List.append_assoc] at D2; exact D2⟩
    rw [List.map_cons, List.map_cons]
    unfold aForL
    have g : aGTup 2 (aGCons (aNm 3) (aGCons (aNm 4) aGNil)) (.d (prD q)) [d0, d1, some (.r m), d3, d4, d5, d6] = some [d0, d1, some (.r m), some (.d (.str q.1)), some (.d (.str q.2)), d5, d6] := rfl
    rw [g]
    dsimp only
    rw [e1]
    exact e2
end G
end
section
set_option Elab.async false
set_option linter.all false
set_option maxRecDepth 100000
set_option maxHeartbeats 4000000
namespace G
open PySem Ab
theorem nd_len {xs U : List Str} (nd : xs.Nodup) (h : ∀ x ∈ xs, x ∈ U) : xs.length ≤ U.length := by
  induction xs generalizing U with
  | nil => simp
  | cons x xs ih =>
    rw [List.nodup_cons] at nd
    have hx := h x (by simp)
    have := ih (U := U.erase x) nd.2 fun y hy => (List.mem_erase_of_ne (fun z => nd.1 (by rw [← z]; exact hy))).mpr (h y (by simp [hy]))
    rw [List.length_erase_of_mem hx] at this
    have := List.length_pos_of_mem hx
    rw [List.length_cons]
    omega
def wsS (ws : List Str) : Cell := .lst ((strsD ws).map Sl.d)
def xsS (xs : List Str) : Cell := .set (xs.map Sum.inr)
structure Wt (m q : Nat) (M S : ASto) (es : List Ent) (xs ws : List Str) : Prop where
  pre : S.take m = M
  ml : M.length = m
  mq : m < q
  len : S.length = q + 2
  at_ : S[m]? = some (.dct (entD es))
  aq : S[q]? = some (xsS xs)
  aw : S[q + 1]? = some (wsS ws)
theorem Wt.set {m q : Nat} {M S : ASto} {es : List Ent} {xs ws : List Str} (W : Wt m q M S es xs ws) (xs' ws' : List Str) : Wt m q M ((S.set q (xsS xs')).set (q + 1) (wsS ws')) es xs' ws' := by
  have hq := W.mq
  have hl := W.len
  refine ⟨?_, W.ml, hq, by simp [hl], ?_, ?_, ?_⟩
  · rw [← W.pre]
    apply List.ext_getElem?
    intro n
    rw [List.getElem?_take, List.getElem?_take]
    split
    · rw [List.getElem?_set_ne (by omega), List.getElem?_set_ne (by omega)]
    · rfl
  · rw [List.getElem?_set_ne (by omega), List.getElem?_set_ne (by omega)]; exact W.at_
  · rw [List.getElem?_set_ne (by omega), List.getElem?_set_self (by omega)]
  · rw [List.getElem?_set_self (by rw [List.length_set]; omega)]
theorem Wt.setw {m q : Nat} {M S : ASto} {es : List Ent} {xs ws : List Str} (W : Wt m q M S es xs ws) (ws' : List Str) : Wt m q M (S.set (q + 1) (wsS ws')) es xs ws' := by
  have hq := W.mq
  have hl := W.len
  refine ⟨?_, W.ml, hq, by simp [hl], ?_, ?_, ?_⟩
  · rw [← W.pre]
    apply List.ext_getElem?
    intro n
    rw [List.getElem?_take, List.getElem?_take]
    split
    · rw [List.getElem?_set_ne (by omega)]
    · rfl
  · rw [List.getElem?_set_ne (by omega)]; exact W.at_
  · rw [List.getElem?_set_ne (by omega)]; exact W.aq
  · rw [List.getElem?_set_self (by omega)]
/-- what the steps of one turn make of the names seen and waiting -/
structure Gr (ts xs ws xs' ws' : List Str) : Prop where
  nd : xs'.Nodup
  k : ∃ k, xs'.length = xs.length + k ∧ ws'.length = ws.length + k
  x1 : ∀ x ∈ xs, x ∈ xs'
  x2 : ∀ t ∈ ts, t ∈ xs'
  x3 : ∀ x ∈ xs', x ∈ xs ∨ x ∈ ts
  w1 : ∀ w ∈ ws, w ∈ ws'
  w3 : ∀ w ∈ ws', w ∈ ws ∨ w ∈ ts
  xw : ∀ x ∈ xs', x ∈ xs ∨ x ∈ ws'
theorem inner_ok {m q : Nat} {M : ASto} {es : List Ent} {U : List Str} (hU : U.length ≤ 100) (d0 d1 d3 : Option Sl) : ∀ (ts : List Str) (S : ASto) (xs ws : List Str) (d4 : Option Sl), Wt m q M S es xs ws → xs.Nodup → (∀ x ∈ xs, x ∈ U) → (∀ t ∈ ts, t ∈ U) → ws.length ≤ 1 + xs.length →
    ∃ S' xs' ws' e4, aForL (aNm 4) (aIf (aTest (aOp (aInS true) (aVar 4) (aVar 5))) (aSeq (aDrop (aSAdd (aVar 5) (aVar 4))) (aDrop (aMut gAppend (aVar 6) (aVar 4)))) aNext) ((strsD ts).map Sl.d) [d0, d1, some (.r m), d3, d4, some (.r q), some (.r (q + 1))] S = .nx [d0, d1, some (.r m), d3, e4, some (.r q), some (.r (q + 1))] S' ∧ Wt m q M S' es xs' ws' ∧ Gr ts xs ws xs' ws'
  | [], S, xs, ws, d4, W, nd, hx, ht, hw => ⟨S, xs, ws, d4, rfl, W, nd, ⟨0, rfl, rfl⟩, fun _ h => h, fun _ h => by simp at h, fun _ h => .inl h, fun _ h => h, fun _ h => .inl h, fun _ h => .inl h⟩
  | t :: ts, S, xs, ws, d4, W, nd, hx, ht, hw => by
    have hs : (strsD (t :: ts)).map Sl.d = Sl.d (.str t) :: (strsD ts).map Sl.d := rfl
    have hxl := nd_len nd hx
    have hk : hasK (xs.map (Sum.inr : Str → L2.Key)) (.inr t) = decide (t ∈ xs) := has_map xs t
    have hat : setAt S (.r q) = some (q, xs.map Sum.inr) := by unfold setAt; dsimp only; rw [W.aq]; rfl
    by_cases qt : t ∈ xs
    · have body : (aIf (aTest (aOp (aInS true) (aVar 4) (aVar 5))) (aSeq (aDrop (aSAdd (aVar 5) (aVar 4))) (aDrop (aMut gAppend (aVar 6) (aVar 4)))) aNext) [d0, d1, some (.r m), d3, some (.d (.str t)), some (.r q), some (.r (q + 1))] S = .nx [d0, d1, some (.r m), d3, some (.d (.str t)), some (.r q), some (.r (q + 1))] S := by
        simp only [aSeq_eq, oSeq_nx, oSeq_rt, oSeq_ex, ↓bind_L, bind_ok, bind_ex, ↓resO_L, resO_ok, resO_ex, aIf, aRet, aAsg, aNm, aVar, aC, aOp, aCall, aCall0, aCons, aNil, aTest, aDrop, aNext, aTup, aLst, allD, aGTup, aGCons, aGNil, noEx, fnR, aNot, aAnd, aOr, aIfE, aPar, aPar3, startA, List.replicate, aI2, aI2C, add_ii, sub_ok, lt_ok, gt_ok, le_ok, ge_ok, aInt1, aAbs, aAndV, aOrV, aNotV, aIx, aSetIx, mod_ok, Nat.reduceAdd, Nat.reduceSub, Nat.zero_add, ixN0, ixNp, Option.bind_some, List.set_cons_zero, List.set_cons_succ, decide_eq_true_eq, decide_true, if_true, if_false, reduceIte, Bool.false_eq_true, ne_eq, aPart, aNoPart, aLen, aMin2, aLstC, List.length_cons, List.length_nil, List.map_cons, List.map_nil, List.cons_append, List.nil_append, List.getElem?_cons_zero, List.getElem?_cons_succ, List.append_assoc, List.length_append, Nat.zero_le, Nat.reduceLeDiff, Nat.le_refl, vwS, vwL, Option.map_some, aInS, hat, keyS, keyD, hk, qt, Bool.not_true]
      obtain ⟨S', xs', ws', e4, e, W', g⟩ := inner_ok hU d0 d1 d3 ts S xs ws (some (.d (.str t))) W nd hx (fun y hy => ht y (by simp [hy])) hw
      refine ⟨S', xs', ws', e4, ?_, W', g.nd, g.k, g.x1, fun y hy => ?_, fun y hy => ?_, g.w1, fun y hy => ?_, g.xw⟩
      · rw [hs]
        unfold aForL
        dsimp only [aNm, List.set_cons_zero, List.set_cons_succ]
        rw [body]
        exact e
      · rcases List.mem_cons.mp hy with z | z
        · rw [z]; exact g.x1 _ qt
        · exact g.x2 y z
      · rcases g.x3 y hy with z | z
        · exact .inl z
        · exact .inr (by simp [z])
      · rcases g.w3 y hy with z | z
        · exact .inl z
        · exact .inr (by simp [z])
    · have hadd : addK (xs.map Sum.inr) (.inr t : L2.Key) = (xs ++ [t]).map Sum.inr := by
        unfold addK
        rw [hk]
        simp [qt]
      have hkl : ((xs.map (Sum.inr : Str → L2.Key)).length + 1 < 4000) = True := eq_true (by rw [List.length_map]; omega)
      have hl := W.len
      have haw : (S.set q (xsS (xs ++ [t])))[q + 1]? = some (wsS ws) := by rw [List.getElem?_set_ne (by omega)]; exact W.aw
      have hisl : isL (S.set q (xsS (xs ++ [t]))) (.r (q + 1)) = true := by unfold isL; dsimp only; rw [haw]; rfl
      have hwl : (((strsD ws).map Sl.d).length < 100000) = True := eq_true (by rw [List.length_map, strs_len]; omega)
      have hap : (strsD ws).map Sl.d ++ [Sl.d (.str t)] = (strsD (ws ++ [t])).map Sl.d := by simp [strsD]
      have body : (aIf (aTest (aOp (aInS true) (aVar 4) (aVar 5))) (aSeq (aDrop (aSAdd (aVar 5) (aVar 4))) (aDrop (aMut gAppend (aVar 6) (aVar 4)))) aNext) [d0, d1, some (.r m), d3, some (.d (.str t)), some (.r q), some (.r (q + 1))] S = .nx [d0, d1, some (.r m), d3, some (.d (.str t)), some (.r q), some (.r (q + 1))] ((S.set q (xsS (xs ++ [t]))).set (q + 1) (wsS (ws ++ [t]))) := by
        unfold xsS wsS at haw
        unfold xsS at hisl
        unfold xsS wsS
        simp only [aSeq_eq, oSeq_nx, oSeq_rt, oSeq_ex, ↓bind_L, bind_ok, bind_ex, ↓resO_L, resO_ok, resO_ex, aIf, aRet, aAsg, aNm, aVar, aC, aOp, aCall, aCall0, aCons, aNil, aTest, aDrop, aNext, aTup, aLst, allD, aGTup, aGCons, aGNil, noEx, fnR, aNot, aAnd, aOr, aIfE, aPar, aPar3, startA, List.replicate, aI2, aI2C, add_ii, sub_ok, lt_ok, gt_ok, le_ok, ge_ok, aInt1, aAbs, aAndV, aOrV, aNotV, aIx, aSetIx, mod_ok, Nat.reduceAdd, Nat.reduceSub, Nat.zero_add, ixN0, ixNp, Option.bind_some, List.set_cons_zero, List.set_cons_succ, decide_eq_true_eq, decide_true, if_true, if_false, reduceIte, Bool.false_eq_true, ne_eq, aPart, aNoPart, aLen, aMin2, aLstC, List.length_cons, List.length_nil, List.map_cons, List.map_nil, List.cons_append, List.nil_append, List.getElem?_cons_zero, List.getElem?_cons_succ, List.append_assoc, List.length_append, Nat.zero_le, Nat.reduceLeDiff, Nat.le_refl, vwS, vwL, Option.map_some, aInS, hat, keyS, keyD, hk, qt, decide_false, Bool.not_false, aSAdd, hkl, hadd, aMut, hisl, gAppend, haw, hwl, hap]
      obtain ⟨S', xs', ws', e4, e, W', g⟩ := inner_ok hU d0 d1 d3 ts _ (xs ++ [t]) (ws ++ [t]) (some (.d (.str t))) (W.set (xs ++ [t]) (ws ++ [t])) (by
        rw [List.nodup_append]
        refine ⟨nd, by simp, fun a ha b hb => ?_⟩
        rw [List.mem_singleton.mp hb]
        exact fun z => qt (by rw [← z]; exact ha)) (fun y hy => by
          rcases List.mem_append.mp hy with z | z
          · exact hx y z
          · rw [List.mem_singleton.mp z]; exact ht t (by simp)) (fun y hy => ht y (by simp [hy])) (by simp; omega)
      refine ⟨S', xs', ws', e4, ?_, W', g.nd, ?_, fun y hy => g.x1 y (by simp [hy]), fun y hy => ?_, fun y hy => ?_, fun y hy => g.w1 y (by simp [hy]), fun y hy => ?_, fun y hy => ?_⟩
      · rw [hs]
        unfold aForL
        dsimp only [aNm, List.set_cons_zero, List.set_cons_succ]
        rw [body]
        exact e
      · obtain ⟨k, k1, k2⟩ := g.k
        exact ⟨k + 1, by rw [k1]; simp; omega, by rw [k2]; simp; omega⟩
      · rcases List.mem_cons.mp hy with z | z
        · rw [z]; exact g.x1 _ (by simp)
        · exact g.x2 y z
      · rcases g.x3 y hy with z | z
        · rcases List.mem_append.mp z with z | z
          · exact .inl z
          · exact .inr (by rw [List.mem_singleton.mp z]; simp)
        · exact .inr (by simp [z])
      · rcases g.w3 y hy with z | z
        · rcases List.mem_append.mp z with z | z
          · exact .inl z
          · exact .inr (by rw [List.mem_singleton.mp z]; simp)
        · exact .inr (by simp [z])
      · rcases g.xw y hy with z | z
        · rcases List.mem_append.mp z with z | z
          · exact .inl z
          · exact .inr (by rw [List.mem_singleton.mp z]; exact g.w1 t (by simp))
        · exact .inr z
structure Wi (ps : List (Str × Str)) (s : Str) (U xs ws : List Str) : Prop where
  nd : xs.Nodup
  sub : ∀ x ∈ xs, x ∈ U
  snd : ∀ x ∈ xs, Rc ps s x
  ww : ∀ w ∈ ws, w = s ∨ w ∈ xs
  cls : ∀ u, (u = s ∨ u ∈ xs) → u ∉ ws → ∀ t, (u, t) ∈ ps → t ∈ xs
  wl : ws.length ≤ 1 + xs.length
theorem while_ok {m q : Nat} {M : ASto} {es : List Ent} {U : List Str} {ps : List (Str × Str)} {s : Str} (hU : U.length ≤ 100) (hp : ∀ z ∈ ps, z.2 ∈ U) (nh : (es.map (·.h)).Nodup) (mem : ∀ h t, (h, t) ∈ ps ↔ ∃ e ∈ es, e.h = h ∧ t ∈ e.ys) (d0 d1 : Option Sl) : ∀ (n : Nat) (S : ASto) (xs ws : List Str) (d3 d4 : Option Sl), Wt m q M S es xs ws → Wi ps s U xs ws → ws.length + (U.length - xs.length) < n →
    ∃ S' xs' e3 e4, aWhileN (aTru (aVar 6)) (aSeq (aAsg (aPop (aVar 6)) (aNm 3)) (aFor (iSeqA (aGet2 (aVar 2) (aVar 3) (aLst aNil))) (aNm 4) (aIf (aTest (aOp (aInS true) (aVar 4) (aVar 5))) (aSeq (aDrop (aSAdd (aVar 5) (aVar 4))) (aDrop (aMut gAppend (aVar 6) (aVar 4)))) aNext))) n [d0, d1, some (.r m), d3, d4, some (.r q), some (.r (q + 1))] S = .nx [d0, d1, some (.r m), e3, e4, some (.r q), some (.r (q + 1))] S' ∧ Wt m q M S' es xs' [] ∧ Wi ps s U xs' []
  | 0, _, _, _, _, _, _, _, h => by omega
  | n + 1, S, xs, ws, d3, d4, W, I, hn => by
    have hl := W.len
    have ht : aTru (aVar 6) [d0, d1, some (.r m), d3, d4, some (.r q), some (.r (q + 1))] S = .ok (!((strsD ws).map Sl.d).isEmpty) S := by
      unfold aTru aVar
      simp only [List.getElem?_cons_zero, List.getElem?_cons_succ, ↓bind_L, bind_ok, truA, W.aw, wsS]
    rcases List.eq_nil_or_concat ws with rfl | ⟨ws0, here, rfl⟩
    · refine ⟨S, xs, d3, d4, ?_, W, I⟩
      unfold aWhileN
      rw [ht]
      rfl
    · have hws : (strsD (ws0 ++ [here])).map Sl.d = (strsD ws0).map Sl.d ++ [Sl.d (.str here)] := by simp [strsD]
      rw [List.concat_eq_append] at W I hn ht
      have hlast : ((strsD ws0).map Sl.d ++ [Sl.d (.str here)])[((strsD ws0).map Sl.d).length + 1 - 1]? = some (.d (.str here)) := by simp
      have W0 := W.setw ws0
      -- what the dict gives
      obtain ⟨ts, hts, htm⟩ : ∃ ts : List Str, (lkS (entD es) (.inr here)).getD (.d (.list [])) = .d (.list (strsD ts)) ∧ ∀ t, t ∈ ts ↔ (here, t) ∈ ps := by
        rw [find_entD]
        cases qf : es.find? (fun e => decide (e.h = here)) with
        | none =>
          refine ⟨[], rfl, fun t => ⟨fun h => by simp at h, fun h => ?_⟩⟩
          obtain ⟨e, he, h1, h2⟩ := (mem _ _).mp h
          have := List.find?_eq_none.mp qf e he
          simp [h1] at this
        | some e =>
          have hm' := List.mem_of_find?_eq_some qf
          have hh : e.h = here := of_decide_eq_true (List.find?_some (p := fun e : Ent => decide (e.h = here)) qf)
          refine ⟨e.ys, rfl, fun t => ⟨fun h => (mem _ _).mpr ⟨e, hm', hh, h⟩, fun h => ?_⟩⟩
          obtain ⟨x, hx, h1, h2⟩ := (mem _ _).mp h
          obtain ⟨i, hi, rfl⟩ := List.mem_iff_getElem.mp hx
          obtain ⟨j, hj, rfl⟩ := List.mem_iff_getElem.mp hm'
          have e1 : (es.map (·.h))[i]'(by simpa using hi) = (es.map (·.h))[j]'(by simpa using hj) := by simpa [hh] using h1
          have := (List.getElem_inj nh).mp e1
          subst this
          exact h2
      have htU : ∀ t ∈ ts, t ∈ U := fun t h => hp _ ((htm t).mp h)
      have hwl := I.wl
      rw [List.length_append, List.length_singleton] at hwl
      obtain ⟨S', xs', ws', e4, e, W', g⟩ := inner_ok hU d0 d1 (some (.d (.str here))) ts _ xs ws0 d4 W0 I.nd I.sub htU (by omega)
      have I' : Wi ps s U xs' ws' := by
        have hr : here = s ∨ Rc ps s here := by
          rcases I.ww here (by simp) with z | z
          · exact .inl z
          · exact .inr (I.snd _ z)
        refine ⟨g.nd, fun x hx => ?_, fun x hx => ?_, fun w hw => ?_, fun u hu hnw t hut => ?_, ?_⟩
        · rcases g.x3 x hx with z | z
          · exact I.sub x z
          · exact htU x z
        · rcases g.x3 x hx with z | z
          · exact I.snd x z
          · have := (htm x).mp z
            rcases hr with r | r
            · rw [r] at this; exact .one this
            · exact .more r this
        · rcases g.w3 w hw with z | z
          · rcases I.ww w (by simp [z]) with y | y
            · exact .inl y
            · exact .inr (g.x1 w y)
          · exact .inr (g.x2 w z)
        · have hu2 : u = s ∨ u ∈ xs := by
            rcases hu with z | z
            · exact .inl z
            · rcases g.xw u z with y | y
              · exact .inr y
              · exact (hnw y).elim
          by_cases z : u = here
          · subst z
            exact g.x2 t ((htm t).mpr hut)
          · refine g.x1 t (I.cls u hu2 (fun y => ?_) t hut)
            rcases List.mem_append.mp y with y | y
            · exact hnw (g.w1 u y)
            · exact z (List.mem_singleton.mp y)
        · obtain ⟨k, k1, k2⟩ := g.k
          omega
      have hm : ws'.length + (U.length - xs'.length) < n := by
        obtain ⟨k, k1, k2⟩ := g.k
        have := nd_len I'.nd I'.sub
        rw [List.length_append, List.length_singleton] at hn
        omega
      obtain ⟨S2, xs2, e3, e42, e2, W2, I2⟩ := while_ok hU hp nh mem d0 d1 n S' xs' ws' (some (.d (.str here))) e4 W' I' hm
      refine ⟨S2, xs2, e3, e42, ?_, W2, I2⟩
      unfold aWhileN
      rw [ht]
      have hne : (!((strsD (ws0 ++ [here])).map Sl.d).isEmpty) = true := by simp [strsD]
      rw [hne]
      dsimp only
      have haw : S[q + 1]? = some (.lst ((strsD ws0).map Sl.d ++ [Sl.d (.str here)])) := by rw [W.aw, wsS, hws]
      have hat : S[m]? = some (.dct (entD es)) := W.at_
      have hmq := W.mq
      have hdc : isDc (S.set (q + 1) (wsS ws0)) (.r m) = true := by unfold isDc; dsimp only; rw [W0.at_]
      have hda : dctAt (S.set (q + 1) (wsS ws0)) (.r m) = some (m, entD es) := by unfold dctAt; dsimp only; rw [W0.at_]
      have hdl : ((strsD ws0).map Sl.d ++ [Sl.d (.str here)]).dropLast = (strsD ws0).map Sl.d := by simp
      have body : (aSeq (aAsg (aPop (aVar 6)) (aNm 3)) (aFor (iSeqA (aGet2 (aVar 2) (aVar 3) (aLst aNil))) (aNm 4) (aIf (aTest (aOp (aInS true) (aVar 4) (aVar 5))) (aSeq (aDrop (aSAdd (aVar 5) (aVar 4))) (aDrop (aMut gAppend (aVar 6) (aVar 4)))) aNext))) [d0, d1, some (.r m), d3, d4, some (.r q), some (.r (q + 1))] S = .nx [d0, d1, some (.r m), some (.d (.str here)), e4, some (.r q), some (.r (q + 1))] S' := by
        have e' := e
        unfold wsS at e' hdc hda
        simp only [aSeq_eq, aAsg, aPop, aVar, List.getElem?_cons_zero, List.getElem?_cons_succ, ↓bind_L, bind_ok, ↓resO_L, resO_ok, haw, List.length_append, List.length_cons, List.length_nil, Nat.zero_add, hlast, hdl, aNm, List.set_cons_zero, List.set_cons_succ, oSeq_nx, aFor, iSeqA, aGet2, hdc, hda, keyS, keyD, aLst, aNil, allD, Nat.zero_le, if_true, reduceIte, hts]
        exact e'
      rw [body]
      exact e2
end G
end
section
set_option Elab.async false
set_option linter.all false
set_option maxRecDepth 100000
set_option maxHeartbeats 4000000
namespace G
open PySem Ab
theorem close_pre {m : Nat} {M S : ASto} {x : PyData} (h : S.take m = M) (cl : Cl M) : closeR m (.ok (.d x) S) = .ok (.d x) M := by
  unfold closeR
  dsimp only
  rw [h]
  have : (M.all (closedC m)) = true := List.all_eq_true.mpr fun c hc => closedC_mono (cl c hc)
  rw [this]
  rfl
theorem sort_strs (xs : List Str) : ∃ ss, sortD (strsD xs) = strsD ss ∧ ss.Perm xs := by
  obtain ⟨ss, rr, h1, h2⟩ := strs_of (ls := sortD (strsD xs)) (rs := []) (ps := xs) (by rw [List.append_nil]; exact sort_p _)
  refine ⟨ss, h1, ?_⟩
  have hl := congrArg List.length h1
  have hp := (sort_p (strsD xs)).length_eq
  have h3 := h2.length_eq
  rw [strs_len] at hl
  rw [strs_len] at hp
  rw [List.length_append] at h3
  have : rr = [] := List.eq_nil_of_length_eq_zero (by omega)
  rw [this, List.append_nil] at h2
  exact h2
theorem reached_ok {M : ASto} (cl : Cl M) (s : Str) (qs : List (Str × Str)) (U : List Str) (hU : U.length ≤ 100) (hp : ∀ z ∈ qs, z.2 ∈ U) (hl : qs.length < 900) :
    ∃ ys : List Str, m_reached [.d (.str s), .d (.list (qs.map prD))] M = .ok (.d (.list (strsD ys))) M ∧ ∀ y, y ∈ ys ↔ Rc qs s y := by
  have D0 : Dk M.length M (M ++ [.dct []]) [] [] := by
    refine ⟨by simp, rfl, by simp, by simp [entK], fun e he => (nomatch he), by simp, by simp, Nat.le_refl _, fun e he => (nomatch he), fun h t => ⟨fun x => (nomatch x), ?_⟩⟩
    rintro ⟨e, he, _⟩
    cases he
  obtain ⟨S, es, e3, e4, eL, D⟩ := dk_all (some (.d (.str s))) (some (.d (.list (qs.map prD)))) none none qs [] _ [] none none D0 (by simp; omega)
  rw [List.nil_append] at D
  have hlen := D.len
  have hm : M.length < S.length := by omega
  obtain ⟨S3, f1, f2, f3⟩ := frz_all es (S ++ [xsS [], wsS [s]]) (fun e he => by
    obtain ⟨k1, k2, k3⟩ := D.cell e he
    rw [List.getElem?_append_left k2]; exact k3) D.nr
  have ent : ∀ n, n ≤ M.length → ∀ e ∈ es, n ≠ e.r := fun n hn e he z => by
    have := (D.cell e he).1; omega
  have ent2 : ∀ n, S.length ≤ n → ∀ e ∈ es, n ≠ e.r := fun n hn e he z => by
    have := (D.cell e he).2.1; omega
  have hat : (S ++ [xsS [], wsS [s]])[M.length]? = some (.dct (entK es)) := by rw [List.getElem?_append_left hm]; exact D.at_
  have W : Wt M.length S.length M (S3.set M.length (.dct (entD es))) es [] [s] := by
    refine ⟨?_, rfl, hm, by rw [List.length_set, f2, List.length_append]; rfl, ?_, ?_, ?_⟩
    · conv => rhs; rw [← D.pre]
      apply List.ext_getElem?
      intro n
      rw [List.getElem?_take, List.getElem?_take]
      split
      · rename_i hn
        rw [List.getElem?_set_ne (by omega), f3 n (ent n (by omega)), List.getElem?_append_left (by omega)]
      · rfl
    · rw [List.getElem?_set_self (by rw [f2, List.length_append]; omega)]
    · rw [List.getElem?_set_ne (by omega), f3 _ (ent2 _ (Nat.le_refl _)), List.getElem?_append_right (Nat.le_refl _)]
      simp
    · rw [List.getElem?_set_ne (by omega), f3 _ (ent2 _ (by omega)), List.getElem?_append_right (by omega)]
      simp
  have I : Wi qs s U [] [s] := by
    refine ⟨by simp, fun x hx => (nomatch hx), fun x hx => (nomatch hx), fun w hw => .inl (List.mem_singleton.mp hw), fun u hu hn => ?_, by simp⟩
    rcases hu with z | z
    · exact (hn (by simp [z])).elim
    · cases z
  obtain ⟨S', xs, g3, g4, eW, W', I'⟩ := while_ok hU hp D.nh D.mem (some (.d (.str s))) (some (.d (.list (qs.map prD)))) 100000 _ [] [s] e3 e4 W I (by simp; omega)
  obtain ⟨ys, hy, hperm⟩ := sort_strs xs
  have hxl := nd_len I'.nd I'.sub
  refine ⟨ys, ?_, fun y => ⟨fun h => I'.snd y (hperm.mem_iff.mp h), fun h => hperm.mem_iff.mpr ?_⟩⟩
  · have hkx : (xs.map (Sum.inr : Str → L2.Key)).map kD = strsD xs := by simp [strsD, kD]
    have hsx : setAt S' (.r S.length) = some (S.length, xs.map Sum.inr) := by unfold setAt; dsimp only; rw [W'.aq]; rfl
    have hso : sortable (strsD xs) = true := sortable_strs xs (by omega)
    have f1' := f1
    have hat' := hat
    have eW' := eW
    unfold xsS wsS at f1' hat'
    have c0 : ((([] : List Str).map (Sum.inr : Str → L2.Key))) = [] := rfl
    have c1 : (strsD [s]).map Sl.d = [Sl.d (.str s)] := rfl
    rw [c0, c1] at f1' hat'
    have hl1 : (1 ≤ 100000) = True := eq_true (by omega)
    unfold m_reached b_reached runD
    simp only [aSeq_eq, oSeq_nx, oSeq_rt, oSeq_ex, ↓bind_L, bind_ok, bind_ex, ↓resO_L, resO_ok, resO_ex, aIf, aRet, aAsg, aNm, aVar, aC, aOp, aCall, aCall0, aCons, aNil, aTest, aDrop, aNext, aTup, aLst, allD, aGTup, aGCons, aGNil, noEx, fnR, aNot, aAnd, aOr, aIfE, aPar, aPar3, startA, List.replicate, aI2, aI2C, add_ii, sub_ok, lt_ok, gt_ok, le_ok, ge_ok, aInt1, aAbs, aAndV, aOrV, aNotV, aIx, aSetIx, mod_ok, Nat.reduceAdd, Nat.reduceSub, Nat.zero_add, ixN0, ixNp, Option.bind_some, List.set_cons_zero, List.set_cons_succ, decide_eq_true_eq, decide_true, if_true, if_false, reduceIte, Bool.false_eq_true, ne_eq, aPart, aNoPart, aLen, aMin2, aLstC, List.length_cons, List.length_nil, List.map_cons, List.map_nil, List.cons_append, List.nil_append, List.getElem?_cons_zero, List.getElem?_cons_succ, List.append_assoc, List.length_append, Nat.zero_le, Nat.reduceLeDiff, Nat.le_refl, vwS, vwL, Option.map_some, aDNew, aFor, iSeqA, eL, aSetN, aLstC, hl1, aFrzV, hat', f1', aWhile, eW', aSortS, hsx, hkx, hso, hy]
    exact close_pre W'.pre cl
  · induction h with
    | one h => exact I'.cls s (.inl rfl) (fun z => by cases z) _ h
    | more h1 h2 ih => exact I'.cls _ (.inr ih) (fun z => by cases z) _ h2
/-- the pairs of ARCS -/
def prs (as : List Arc) : List (Str × Str) := as.map (·.2)
theorem arc_pairs_ok {M : ASto} (cl : Cl M) {es : List Str} {as : List Arc} (hl : as.length ≤ 16) : m_arc_pairs [.d (webD es as)] M = .ok (.d (.list ((prs as).map prD))) M := by
  have h2 : ((arcsD as).length ≤ 100000) = True := eq_true (by rw [arcs_len]; omega)
  have i1 : L2.atI [PyData.tuple (strsD es), .tuple (arcsD as)] 1 = some (.tuple (arcsD as)) := rfl
  have e := lc_arcs (G := aGTup 3 (aGCons (aNm 1) (aGCons (aNm 2) (aGCons (aNm 3) aGNil)))) (T := aYes) (A := aTup (aCons (aVar 2) (aCons (aVar 3) aNil))) (ds := [some (.d (webD es as)), none, none, none]) (M := M) (p := fun _ => true) (h := fun a => prD a.2) as [] fun a ha => ⟨_, rfl, rfl, fun _ => rfl⟩
  rw [List.nil_append, List.filter_eq_self.mpr (fun _ _ => rfl)] at e
  have e3 : (as.map fun a => prD a.2) = (prs as).map prD := by simp [prs]
  rw [e3, webD] at e
  unfold m_arc_pairs b_arc_pairs runD
  rw [webD]
  simp only [aSeq_eq, oSeq_nx, oSeq_rt, oSeq_ex, ↓bind_L, bind_ok, bind_ex, ↓resO_L, resO_ok, resO_ex, aIf, aRet, aAsg, aNm, aVar, aC, aOp, aCall, aCall0, aCons, aNil, aTest, aDrop, aNext, aTup, aLst, allD, aGTup, aGCons, aGNil, noEx, fnR, aNot, aAnd, aOr, aIfE, aPar, aPar3, startA, List.replicate, aI2, aI2C, add_ii, sub_ok, lt_ok, gt_ok, le_ok, ge_ok, aInt1, aAbs, aAndV, aOrV, aNotV, aIx, aSetIx, mod_ok, Nat.reduceAdd, Nat.reduceSub, Nat.zero_add, ixN0, ixNp, Option.bind_some, List.set_cons_zero, List.set_cons_succ, decide_eq_true_eq, decide_true, if_true, if_false, reduceIte, Bool.false_eq_true, ne_eq, aPart, aNoPart, aLen, aMin2, aLstC, List.length_cons, List.length_nil, List.map_cons, List.map_nil, List.cons_append, List.nil_append, List.getElem?_cons_zero, List.getElem?_cons_succ, List.append_assoc, List.length_append, Nat.zero_le, Nat.reduceLeDiff, Nat.le_refl, vwS, vwL, Option.map_some, i1, aLc, iSeqA, List.length_map, h2, wipeA, e]
  exact close_ok rfl cl
end G
end
section
set_option Elab.async false
set_option linter.all false
set_option maxRecDepth 100000
set_option maxHeartbeats 4000000
namespace G
open PySem Ab
theorem leads_ok {w : PyData} {es : List Str} {as : List Arc} (L : Like w es as) (hen : ∀ a ∈ as, a.2.1 ∈ es ∧ a.2.2 ∈ es) {M : ASto} (cl : Cl M) {e : Str} (he : e ∈ es) :
    ∃ ys : List Str, m_leads_to [.d w, .d (.str e)] M = .ok (.d (.tuple (strsD ys))) M ∧ ∀ y, y ∈ ys ↔ Rc (prs as) e y := by
  have hps : ∀ z ∈ prs as, z.2 ∈ es := fun z hz => by
    obtain ⟨a, ha, rfl⟩ := List.mem_map.mp hz
    exact (hen a ha).2
  obtain ⟨ys, e1, hy⟩ := reached_ok cl e (prs as) es (by have := L.le; omega) hps (by unfold prs; rw [List.length_map]; have := L.la; omega)
  refine ⟨ys, ?_, hy⟩
  have hn := need_ok cl (es := es) (evs := [e]) (x := .tuple (arcsD as)) (by have := L.le; omega)
  have hf : ([e].find? fun e => !decide (e ∈ es)) = none := by simp [he]
  rw [hf] at hn
  have hp := arc_pairs_ok cl (es := es) (as := as) L.la
  have c1 : (strsD [e]) = [PyData.str e] := rfl
  rw [c1] at hn
  rw [webD] at hp
  unfold m_leads_to b_leads_to runD
  simp only [aSeq_eq, oSeq_nx, oSeq_rt, oSeq_ex, ↓bind_L, bind_ok, bind_ex, ↓resO_L, resO_ok, resO_ex, aIf, aRet, aAsg, aNm, aVar, aC, aOp, aCall, aCall0, aCons, aNil, aTest, aDrop, aNext, aTup, aLst, allD, aGTup, aGCons, aGNil, noEx, fnR, aNot, aAnd, aOr, aIfE, aPar, aPar3, startA, List.replicate, aI2, aI2C, add_ii, sub_ok, lt_ok, gt_ok, le_ok, ge_ok, aInt1, aAbs, aAndV, aOrV, aNotV, aIx, aSetIx, mod_ok, Nat.reduceAdd, Nat.reduceSub, Nat.zero_add, ixN0, ixNp, Option.bind_some, List.set_cons_zero, List.set_cons_succ, decide_eq_true_eq, decide_true, if_true, if_false, reduceIte, Bool.false_eq_true, ne_eq, aPart, aNoPart, aLen, aMin2, aLstC, List.length_cons, List.length_nil, List.map_cons, List.map_nil, List.cons_append, List.nil_append, List.getElem?_cons_zero, List.getElem?_cons_succ, List.append_assoc, List.length_append, Nat.zero_le, Nat.reduceLeDiff, Nat.le_refl, vwS, vwL, Option.map_some, frz_w L cl, hn, hp, e1, aTupOf]
  exact close_ok rfl cl
open Classical in
theorem with_arc_ok {w : PyData} {es : List Str} {as : List Arc} (L : Like w es as) (W : Like (webD es as) es as) (hen : ∀ a ∈ as, a.2.1 ∈ es ∧ a.2.2 ∈ es) {M : ASto} (cl : Cl M) {n a b : Str} (hn : PyData.strOk n = true) (ha : PyData.strOk a = true) (hb : PyData.strOk b = true) :
    m_with_arc [.d w, .d (.str n), .d (.str a), .d (.str b)] M = if n ∈ as.map (·.1) then .ex (errE "Twice" "name" n) M else match [a, b].find? (fun e => !decide (e ∈ es)) with
      | some e => .ex (noEv e) M
      | none => if b = a ∨ Rc (prs as) b a then .ex ⟨"Ring", none⟩ M else .ok (.d (.tuple [.tuple (strsD es), .tuple (sortD (arcsD (as ++ [(n, a, b)])))])) M := by
  have h1 := has_arc_ok cl L.ao L.la hn
  have hz : ((arcsD (as ++ [(n, a, b)])).length ≤ 100000) = True := eq_true (by rw [arcs_len, List.length_append]; have := L.la; simp; omega)
  have hs := sortable_arcs (as ++ [(n, a, b)]) (by have := L.la; simp; omega)
  have hne := need_ok cl (es := es) (evs := [a, b]) (x := .tuple (arcsD as)) (by have := L.le; omega)
  have c1 : (strsD [a, b]) = [PyData.str a, .str b] := rfl
  rw [c1] at hne
  unfold m_with_arc b_with_arc runD
  by_cases q : n ∈ as.map (·.1)
  · rw [if_pos q]
    simp only [aSeq_eq, oSeq_nx, oSeq_rt, oSeq_ex, ↓bind_L, bind_ok, bind_ex, ↓resO_L, resO_ok, resO_ex, aIf, aRet, aAsg, aNm, aVar, aC, aOp, aCall, aCall0, aCons, aNil, aTest, aDrop, aNext, aTup, aLst, allD, aGTup, aGCons, aGNil, noEx, fnR, aNot, aAnd, aOr, aIfE, aPar, aPar3, startA, List.replicate, aI2, aI2C, add_ii, sub_ok, lt_ok, gt_ok, le_ok, ge_ok, aInt1, aAbs, aAndV, aOrV, aNotV, aIx, aSetIx, mod_ok, Nat.reduceAdd, Nat.reduceSub, Nat.zero_add, ixN0, ixNp, Option.bind_some, List.set_cons_zero, List.set_cons_succ, decide_eq_true_eq, decide_true, if_true, if_false, reduceIte, Bool.false_eq_true, ne_eq, aPart, aNoPart, aLen, aMin2, aLstC, List.length_cons, List.length_nil, List.map_cons, List.map_nil, List.cons_append, List.nil_append, List.getElem?_cons_zero, List.getElem?_cons_succ, List.append_assoc, List.length_append, Nat.zero_le, Nat.reduceLeDiff, Nat.le_refl, vwS, vwL, Option.map_some, frz_w L cl, h1, q, aRaiseF]
    exact close_ex0 cl
  · rw [if_neg q]
    cases qf : [a, b].find? (fun e => !decide (e ∈ es)) with
    | some v =>
      rw [qf] at hne
      dsimp only at hne ⊢
      simp only [aSeq_eq, oSeq_nx, oSeq_rt, oSeq_ex, ↓bind_L, bind_ok, bind_ex, ↓resO_L, resO_ok, resO_ex, aIf, aRet, aAsg, aNm, aVar, aC, aOp, aCall, aCall0, aCons, aNil, aTest, aDrop, aNext, aTup, aLst, allD, aGTup, aGCons, aGNil, noEx, fnR, aNot, aAnd, aOr, aIfE, aPar, aPar3, startA, List.replicate, aI2, aI2C, add_ii, sub_ok, lt_ok, gt_ok, le_ok, ge_ok, aInt1, aAbs, aAndV, aOrV, aNotV, aIx, aSetIx, mod_ok, Nat.reduceAdd, Nat.reduceSub, Nat.zero_add, ixN0, ixNp, Option.bind_some, List.set_cons_zero, List.set_cons_succ, decide_eq_true_eq, decide_true, if_true, if_false, reduceIte, Bool.false_eq_true, ne_eq, aPart, aNoPart, aLen, aMin2, aLstC, List.length_cons, List.length_nil, List.map_cons, List.map_nil, List.cons_append, List.nil_append, List.getElem?_cons_zero, List.getElem?_cons_succ, List.append_assoc, List.length_append, Nat.zero_le, Nat.reduceLeDiff, Nat.le_refl, vwS, vwL, Option.map_some, frz_w L cl, h1, q, decide_false, hne]
      exact close_ex0 cl
    | none =>
      rw [qf] at hne
      dsimp only at hne ⊢
      have hbe : b ∈ es := by
        have := List.find?_eq_none.mp qf b (by simp)
        simpa using this
      by_cases qr : b = a ∨ Rc (prs as) b a
      · rw [if_pos qr]
        by_cases qe : b = a
        · have qd : decide (b = a) = true := decide_eq_true qe
          simp only [aSeq_eq, oSeq_nx, oSeq_rt, oSeq_ex, ↓bind_L, bind_ok, bind_ex, ↓resO_L, resO_ok, resO_ex, aIf, aRet, aAsg, aNm, aVar, aC, aOp, aCall, aCall0, aCons, aNil, aTest, aDrop, aNext, aTup, aLst, allD, aGTup, aGCons, aGNil, noEx, fnR, aNot, aAnd, aOr, aIfE, aPar, aPar3, startA, List.replicate, aI2, aI2C, add_ii, sub_ok, lt_ok, gt_ok, le_ok, ge_ok, aInt1, aAbs, aAndV, aOrV, aNotV, aIx, aSetIx, mod_ok, Nat.reduceAdd, Nat.reduceSub, Nat.zero_add, ixN0, ixNp, Option.bind_some, List.set_cons_zero, List.set_cons_succ, decide_eq_true_eq, decide_true, if_true, if_false, reduceIte, Bool.false_eq_true, ne_eq, aPart, aNoPart, aLen, aMin2, aLstC, List.length_cons, List.length_nil, List.map_cons, List.map_nil, List.cons_append, List.nil_append, List.getElem?_cons_zero, List.getElem?_cons_succ, List.append_assoc, List.length_append, Nat.zero_le, Nat.reduceLeDiff, Nat.le_refl, vwS, vwL, Option.map_some, frz_w L cl, h1, q, decide_false, hne, eq_ss, ha, hb, qd, aRaise0]
          exact close_ex0 cl
        · obtain ⟨ys, e1, hy⟩ := leads_ok W hen cl hbe
          have hay : (a ∈ ys) = True := eq_true ((hy a).mpr (qr.resolve_left qe))
          rw [webD] at e1
          simp only [aSeq_eq, oSeq_nx, oSeq_rt, oSeq_ex, ↓bind_L, bind_ok, bind_ex, ↓resO_L, resO_ok, resO_ex, aIf, aRet, aAsg, aNm, aVar, aC, aOp, aCall, aCall0, aCons, aNil, aTest, aDrop, aNext, aTup, aLst, allD, aGTup, aGCons, aGNil, noEx, fnR, aNot, aAnd, aOr, aIfE, aPar, aPar3, startA, List.replicate, aI2, aI2C, add_ii, sub_ok, lt_ok, gt_ok, le_ok, ge_ok, aInt1, aAbs, aAndV, aOrV, aNotV, aIx, aSetIx, mod_ok, Nat.reduceAdd, Nat.reduceSub, Nat.zero_add, ixN0, ixNp, Option.bind_some, List.set_cons_zero, List.set_cons_succ, decide_eq_true_eq, decide_true, if_true, if_false, reduceIte, Bool.false_eq_true, ne_eq, aPart, aNoPart, aLen, aMin2, aLstC, List.length_cons, List.length_nil, List.map_cons, List.map_nil, List.cons_append, List.nil_append, List.getElem?_cons_zero, List.getElem?_cons_succ, List.append_assoc, List.length_append, Nat.zero_le, Nat.reduceLeDiff, Nat.le_refl, vwS, vwL, Option.map_some, frz_w L cl, h1, q, decide_false, hne, eq_ss, ha, hb, qe, e1, in_tup, hay, aRaise0]
          exact close_ex0 cl
      · rw [if_neg qr]
        have qe : ¬ b = a := fun z => qr (.inl z)
        obtain ⟨ys, e1, hy⟩ := leads_ok W hen cl hbe
        have hay : (a ∈ ys) = False := eq_false fun z => qr (.inr ((hy a).mp z))
        rw [webD] at e1
        simp only [aSeq_eq, oSeq_nx, oSeq_rt, oSeq_ex, ↓bind_L, bind_ok, bind_ex, ↓resO_L, resO_ok, resO_ex, aIf, aRet, aAsg, aNm, aVar, aC, aOp, aCall, aCall0, aCons, aNil, aTest, aDrop, aNext, aTup, aLst, allD, aGTup, aGCons, aGNil, noEx, fnR, aNot, aAnd, aOr, aIfE, aPar, aPar3, startA, List.replicate, aI2, aI2C, add_ii, sub_ok, lt_ok, gt_ok, le_ok, ge_ok, aInt1, aAbs, aAndV, aOrV, aNotV, aIx, aSetIx, mod_ok, Nat.reduceAdd, Nat.reduceSub, Nat.zero_add, ixN0, ixNp, Option.bind_some, List.set_cons_zero, List.set_cons_succ, decide_eq_true_eq, decide_true, if_true, if_false, reduceIte, Bool.false_eq_true, ne_eq, aPart, aNoPart, aLen, aMin2, aLstC, List.length_cons, List.length_nil, List.map_cons, List.map_nil, List.cons_append, List.nil_append, List.getElem?_cons_zero, List.getElem?_cons_succ, List.append_assoc, List.length_append, Nat.zero_le, Nat.reduceLeDiff, Nat.le_refl, vwS, vwL, Option.map_some, frz_w L cl, h1, q, decide_false, hne, eq_ss, ha, hb, qe, e1, in_tup, hay, aStar, allD_app, arcs_app2, hz, aSortQ, hs, aTupOf]
        exact close_ok rfl cl
end G
end
section
set_option Elab.async false
set_option linter.all false
set_option maxRecDepth 100000
set_option maxHeartbeats 4000000
namespace G
open PySem Ab
def lap (as : List Arc) (F : List Str) : List Str := F ++ (as.filter fun a => decide (a.2.1 ∈ F) && !decide (a.2.2 ∈ F)).map (·.2.2)
def laps (as : List Arc) : Nat → List Str → List Str
  | 0, F => F
  | n + 1, F => laps as n (lap as F)
theorem laps_snd {as : List Arc} {P : Str → Prop} (hs : ∀ u t, P u → (u, t) ∈ prs as → P t) : ∀ (n : Nat) (F : List Str), (∀ x ∈ F, P x) → ∀ x ∈ laps as n F, P x
  | 0, F, h => h
  | n + 1, F, h => laps_snd hs n (lap as F) fun x hx => by
    rcases List.mem_append.mp hx with z | z
    · exact h x z
    · obtain ⟨a, ha, rfl⟩ := List.mem_map.mp z
      have hf := List.mem_filter.mp ha
      have h2 := hf.2
      simp only [Bool.and_eq_true, decide_eq_true_eq] at h2
      exact hs a.2.1 a.2.2 (h _ h2.1) (List.mem_map.mpr ⟨a, hf.1, rfl⟩)
theorem laps_sub {as : List Arc} : ∀ (n : Nat) (F : List Str), ∀ x ∈ F, x ∈ laps as n F
  | 0, F => fun x h => h
  | n + 1, F => fun x h => laps_sub n (lap as F) x (List.mem_append_left _ h)
def Cld (as : List Arc) (F : List Str) : Prop := ∀ u ∈ F, ∀ t, (u, t) ∈ prs as → t ∈ F
theorem lap_cld {as : List Arc} {F : List Str} (h : Cld as F) : lap as F = F := by
  unfold lap
  have : (as.filter fun a => decide (a.2.1 ∈ F) && !decide (a.2.2 ∈ F)) = [] := by
    rw [List.filter_eq_nil_iff]
    intro a ha h2
    simp only [Bool.and_eq_true, decide_eq_true_eq, Bool.not_eq_true', decide_eq_false_iff_not] at h2
    exact h2.2 (h a.2.1 h2.1 a.2.2 (List.mem_map.mpr ⟨a, ha, rfl⟩))
  rw [this]
  simp
theorem laps_cld {as : List Arc} {F : List Str} (h : Cld as F) : ∀ n, laps as n F = F
  | 0 => rfl
  | n + 1 => by
    unfold laps
    rw [lap_cld h]
    exact laps_cld h n
theorem filt_le {α : Type} {p q : α → Bool} : ∀ (l : List α), (∀ x ∈ l, p x = true → q x = true) → (l.filter p).length ≤ (l.filter q).length
  | [], _ => Nat.le_refl _
  | x :: l, h => by
    have ih := filt_le l fun y hy => h y (by simp [hy])
    rw [List.filter_cons, List.filter_cons]
    by_cases a : p x = true
    · rw [if_pos a, if_pos (h x (by simp) a)]
      simp; omega
    · rw [if_neg a]
      split
      · simp; omega
      · exact ih
theorem filt_lt {α : Type} {p q : α → Bool} {x0 : α} : ∀ (l : List α), (∀ x ∈ l, p x = true → q x = true) → x0 ∈ l → q x0 = true → p x0 = false → (l.filter p).length < (l.filter q).length
  | [], _, h, _, _ => by cases h
  | x :: l, h, hm, hq, hp => by
    have hle := filt_le l fun y hy => h y (by simp [hy])
    rw [List.filter_cons, List.filter_cons]
    rcases List.mem_cons.mp hm with z | z
    · subst z
      rw [if_pos hq, if_neg (by simp [hp])]
      simp; omega
    · have ih := filt_lt l (fun y hy => h y (by simp [hy])) z hq hp
      by_cases a : p x = true
      · rw [if_pos a, if_pos (h x (by simp) a)]
        simp; omega
      · rw [if_neg a]
        split
        · simp; omega
        · exact ih
theorem laps_all {es : List Str} {as : List Arc} (hen : ∀ z ∈ prs as, z.2 ∈ es) : ∀ (n : Nat) (F : List Str), (es.filter fun e => !decide (e ∈ F)).length ≤ n → Cld as (laps as n F)
  | 0, F, h => fun u hu t ht => by
    have h0 := List.eq_nil_of_length_eq_zero (Nat.le_zero.mp h)
    have := List.filter_eq_nil_iff.mp h0 t (hen _ ht)
    change t ∈ F
    simpa using this
  | n + 1, F, h => by
    by_cases c : Cld as F
    · rw [laps_cld c]; exact c
    · unfold laps
      refine laps_all hen n (lap as F) ?_
      have ⟨u, hu, t, ht, hn⟩ : ∃ u, u ∈ F ∧ ∃ t, (u, t) ∈ prs as ∧ t ∉ F := by
        apply Classical.byContradiction
        intro z
        exact c fun u hu t ht => Classical.byContradiction fun w => z ⟨u, hu, t, ht, w⟩
      have hlt := filt_lt (p := fun e => !decide (e ∈ lap as F)) (q := fun e => !decide (e ∈ F)) (x0 := t) es (fun x hx h1 => by
        simp only [Bool.not_eq_true', decide_eq_false_iff_not] at h1 ⊢
        exact fun z => h1 (List.mem_append_left _ z)) (hen _ ht) (by simp [hn]) (by
        have : t ∈ lap as F := by
          obtain ⟨a, ha, e⟩ := List.mem_map.mp ht
          have e1 : a.2.1 = u := congrArg Prod.fst e
          have e2 : a.2.2 = t := congrArg Prod.snd e
          exact List.mem_append_right _ (List.mem_map.mpr ⟨a, List.mem_filter.mpr ⟨ha, by rw [e1, e2]; simp [hu, hn]⟩, e2⟩)
        simp [this])
      omega
theorem laps_iff {es : List Str} {as : List Arc} (hen : ∀ z ∈ prs as, z.2 ∈ es) (s y : Str) : y ∈ laps as es.length [s] ↔ (s = y ∨ Rc (prs as) s y) := by
  constructor
  · exact laps_snd (P := fun y => s = y ∨ Rc (prs as) s y) (fun u t hu ht => by
      rcases hu with z | z
      · rw [← z] at ht; exact .inr (.one ht)
      · exact .inr (.more z ht)) _ _ (fun x hx => .inl (List.mem_singleton.mp hx).symm) y
  · have hc := laps_all hen es.length [s] (List.length_filter_le _ _)
    rintro (z | z)
    · subst z; exact laps_sub _ _ _ (by simp)
    · induction z with
      | one h => exact hc _ (laps_sub _ _ _ (by simp)) _ h
      | more h1 h2 ih => exact hc _ ih _ h2
theorem lap_len (as : List Arc) (F : List Str) : (lap as F).length ≤ F.length + as.length := by
  unfold lap
  rw [List.length_append, List.length_map]
  have := List.length_filter_le (fun a : Arc => decide (a.2.1 ∈ F) && !decide (a.2.2 ∈ F)) as
  omega
theorem comes_loop {es : List Str} {as : List Arc} {M : ASto} (hl : as.length ≤ 16) (s1 s2 : Option Sl) : ∀ (qs : List Str) (F : List Str) (d4 : Option Sl), F.length + 16 * qs.length ≤ 1000 →
    ∃ e4, aForL (aNm 4) (aAsg (aOp aAddE (aVar 3) (aLc (iSeqA (aOp aIx (aVar 0) (aC (.int 1)))) (aNm 5) (aAnd (aTest (aOp (aInQ false) (aOp aIx (aVar 5) (aC (.int 1))) (aVar 3))) (aTest (aOp (aInQ true) (aOp aIx (aVar 5) (aC (.int 2))) (aVar 3)))) (aOp aIx (aVar 5) (aC (.int 2))) [5])) (aNm 3)) ((strsD qs).map Sl.d) [some (.d (webD es as)), s1, s2, some (.d (.list (strsD F))), d4, none] M = .nx [some (.d (webD es as)), s1, s2, some (.d (.list (strsD (laps as qs.length F)))), e4, none] M
  | [], F, d4, _ => ⟨d4, rfl⟩
  | x :: qs, F, d4, h => by
    rw [List.length_cons] at h
    have h2 : ((arcsD as).length ≤ 100000) = True := eq_true (by rw [arcs_len]; omega)
    have i1 : L2.atI [PyData.tuple (strsD es), .tuple (arcsD as)] 1 = some (.tuple (arcsD as)) := rfl
    have e := lc_arcs (G := aNm 5) (T := aAnd (aTest (aOp (aInQ false) (aOp aIx (aVar 5) (aC (.int 1))) (aVar 3))) (aTest (aOp (aInQ true) (aOp aIx (aVar 5) (aC (.int 2))) (aVar 3)))) (A := aOp aIx (aVar 5) (aC (.int 2))) (ds := [some (.d (webD es as)), s1, s2, some (.d (.list (strsD F))), some (.d (.str x)), none]) (M := M) (p := fun a => decide (a.2.1 ∈ F) && !decide (a.2.2 ∈ F)) (h := fun a => .str a.2.2) as [] fun a ha =>
      ⟨_, rfl, by
        by_cases q : a.2.1 ∈ F
        · simp only [aSeq_eq, oSeq_nx, oSeq_rt, oSeq_ex, ↓bind_L, bind_ok, bind_ex, ↓resO_L, resO_ok, resO_ex, aIf, aRet, aAsg, aNm, aVar, aC, aOp, aCall, aCall0, aCons, aNil, aTest, aDrop, aNext, aTup, aLst, allD, aGTup, aGCons, aGNil, noEx, fnR, aNot, aAnd, aOr, aIfE, aPar, aPar3, startA, List.replicate, aI2, aI2C, add_ii, sub_ok, lt_ok, gt_ok, le_ok, ge_ok, aInt1, aAbs, aAndV, aOrV, aNotV, aIx, aSetIx, mod_ok, Nat.reduceAdd, Nat.reduceSub, Nat.zero_add, ixN0, ixNp, Option.bind_some, List.set_cons_zero, List.set_cons_succ, decide_eq_true_eq, decide_true, if_true, if_false, reduceIte, Bool.false_eq_true, ne_eq, aPart, aNoPart, aLen, aMin2, aLstC, List.length_cons, List.length_nil, List.map_cons, List.map_nil, List.cons_append, List.nil_append, List.getElem?_cons_zero, List.getElem?_cons_succ, List.append_assoc, List.length_append, Nat.zero_le, Nat.reduceLeDiff, Nat.le_refl, vwS, vwL, Option.map_some, arcD, ix_arc1, ix_arc2, in_lst, q, Bool.true_and]
        · simp only [aSeq_eq, oSeq_nx, oSeq_rt, oSeq_ex, ↓bind_L, bind_ok, bind_ex, ↓resO_L, resO_ok, resO_ex, aIf, aRet, aAsg, aNm, aVar, aC, aOp, aCall, aCall0, aCons, aNil, aTest, aDrop, aNext, aTup, aLst, allD, aGTup, aGCons, aGNil, noEx, fnR, aNot, aAnd, aOr, aIfE, aPar, aPar3, startA, List.replicate, aI2, aI2C, add_ii, sub_ok, lt_ok, gt_ok, le_ok, ge_ok, aInt1, aAbs, aAndV, aOrV, aNotV, aIx, aSetIx, mod_ok, Nat.reduceAdd, Nat.reduceSub, Nat.zero_add, ixN0, ixNp, Option.bind_some, List.set_cons_zero, List.set_cons_succ, decide_eq_true_eq, decide_true, if_true, if_false, reduceIte, Bool.false_eq_true, ne_eq, aPart, aNoPart, aLen, aMin2, aLstC, List.length_cons, List.length_nil, List.map_cons, List.map_nil, List.cons_append, List.nil_append, List.getElem?_cons_zero, List.getElem?_cons_succ, List.append_assoc, List.length_append, Nat.zero_le, Nat.reduceLeDiff, Nat.le_refl, vwS, vwL, Option.map_some, arcD, ix_arc1, ix_arc2, in_lst, q, decide_false, Bool.false_and], fun _ => by simp only [aSeq_eq, oSeq_nx, oSeq_rt, oSeq_ex, ↓bind_L, bind_ok, bind_ex, ↓resO_L, resO_ok, resO_ex, aIf, aRet, aAsg, aNm, aVar, aC, aOp, aCall, aCall0, aCons, aNil, aTest, aDrop, aNext, aTup, aLst, allD, aGTup, aGCons, aGNil, noEx, fnR, aNot, aAnd, aOr, aIfE, aPar, aPar3, startA, List.replicate, aI2, aI2C, add_ii, sub_ok, lt_ok, gt_ok, le_ok, ge_ok, aInt1, aAbs, aAndV, aOrV, aNotV, aIx, aSetIx, mod_ok, Nat.reduceAdd, Nat.reduceSub, Nat.zero_add, ixN0, ixNp, Option.bind_some, List.set_cons_zero, List.set_cons_succ, decide_eq_true_eq, decide_true, if_true, if_false, reduceIte, Bool.false_eq_true, ne_eq, aPart, aNoPart, aLen, aMin2, aLstC, List.length_cons, List.length_nil, List.map_cons, List.map_nil, List.cons_append, List.nil_append, List.getElem?_cons_zero, List.getElem?_cons_succ, List.append_assoc, List.length_append, Nat.zero_le, Nat.reduceLeDiff, Nat.le_refl, vwS, vwL, Option.map_some, arcD, ix_arc2]⟩
    rw [List.nil_append] at e
    have e3 : ((as.filter fun a => decide (a.2.1 ∈ F) && !decide (a.2.2 ∈ F)).map fun a => PyData.str a.2.2) = strsD ((as.filter fun a => decide (a.2.1 ∈ F) && !decide (a.2.2 ∈ F)).map (·.2.2)) := by simp [strsD, Function.comp_def]
    rw [e3, webD] at e
    have hcat := cat_ll (xs := strsD F) (ys := strsD ((as.filter fun a => decide (a.2.1 ∈ F) && !decide (a.2.2 ∈ F)).map (·.2.2))) (by
      have := lap_len as F
      unfold lap at this
      rw [List.length_append] at this
      rw [strs_len, strs_len]
      omega)
    have e5 : strsD F ++ strsD ((as.filter fun a => decide (a.2.1 ∈ F) && !decide (a.2.2 ∈ F)).map (·.2.2)) = strsD (lap as F) := by unfold lap; simp [strsD]
    rw [e5] at hcat
    have hll := lap_len as F
    obtain ⟨e4, e6⟩ := comes_loop hl s1 s2 qs (lap as F) (some (.d (.str x))) (by omega)
    refine ⟨e4, ?_⟩
    have hs : (strsD (x :: qs)).map Sl.d = Sl.d (.str x) :: (strsD qs).map Sl.d := rfl
    rw [hs]
    unfold aForL
    dsimp only [aNm, List.set_cons_zero, List.set_cons_succ]
    have body : (aAsg (aOp aAddE (aVar 3) (aLc (iSeqA (aOp aIx (aVar 0) (aC (.int 1)))) (aNm 5) (aAnd (aTest (aOp (aInQ false) (aOp aIx (aVar 5) (aC (.int 1))) (aVar 3))) (aTest (aOp (aInQ true) (aOp aIx (aVar 5) (aC (.int 2))) (aVar 3)))) (aOp aIx (aVar 5) (aC (.int 2))) [5])) (aNm 3)) [some (.d (webD es as)), s1, s2, some (.d (.list (strsD F))), some (.d (.str x)), none] M = .nx [some (.d (webD es as)), s1, s2, some (.d (.list (strsD (lap as F)))), some (.d (.str x)), none] M := by
      rw [webD]
      simp only [aSeq_eq, oSeq_nx, oSeq_rt, oSeq_ex, ↓bind_L, bind_ok, bind_ex, ↓resO_L, resO_ok, resO_ex, aIf, aRet, aAsg, aNm, aVar, aC, aOp, aCall, aCall0, aCons, aNil, aTest, aDrop, aNext, aTup, aLst, allD, aGTup, aGCons, aGNil, noEx, fnR, aNot, aAnd, aOr, aIfE, aPar, aPar3, startA, List.replicate, aI2, aI2C, add_ii, sub_ok, lt_ok, gt_ok, le_ok, ge_ok, aInt1, aAbs, aAndV, aOrV, aNotV, aIx, aSetIx, mod_ok, Nat.reduceAdd, Nat.reduceSub, Nat.zero_add, ixN0, ixNp, Option.bind_some, List.set_cons_zero, List.set_cons_succ, decide_eq_true_eq, decide_true, if_true, if_false, reduceIte, Bool.false_eq_true, ne_eq, aPart, aNoPart, aLen, aMin2, aLstC, List.length_cons, List.length_nil, List.map_cons, List.map_nil, List.cons_append, List.nil_append, List.getElem?_cons_zero, List.getElem?_cons_succ, List.append_assoc, List.length_append, Nat.zero_le, Nat.reduceLeDiff, Nat.le_refl, vwS, vwL, Option.map_some, i1, aLc, iSeqA, List.length_map, h2, wipeA, e, hcat]
    rw [body]
    exact e6
end G
end
section
set_option Elab.async false
set_option linter.all false
set_option maxRecDepth 100000
set_option maxHeartbeats 4000000
namespace G
open PySem Ab
open Classical in
noncomputable def due2 (es : List Str) (as : List Arc) (n a b : Str) : PyData := if n ∈ as.map (·.1) then twD n else match [a, b].find? (fun e => !decide (e ∈ es)) with
  | some e => evD e
  | none => if b = a ∨ Rc (prs as) b a then rgD else .tuple [.tuple (strsD es), .tuple (sortD (arcsD (as ++ [(n, a, b)])))]
theorem c_tw : errsL.contains ("Twice" : Str) = true := by decide +kernel
theorem c_ev : errsL.contains ("NoEvent" : Str) = true := by decide +kernel
theorem c_ar : errsL.contains ("NoArc" : Str) = true := by decide +kernel
theorem c_rg : errsL.contains ("Ring" : Str) = true := by decide +kernel
theorem q_tt : (("Twice" : Str) == "Twice") = true := by decide +kernel
theorem q_et : (("NoEvent" : Str) == "Twice") = false := by decide +kernel
theorem q_ee : (("NoEvent" : Str) == "NoEvent") = true := by decide +kernel
theorem q_at : (("NoArc" : Str) == "Twice") = false := by decide +kernel
theorem q_ae : (("NoArc" : Str) == "NoEvent") = false := by decide +kernel
theorem q_aa : (("NoArc" : Str) == "NoArc") = true := by decide +kernel
theorem q_rt : (("Ring" : Str) == "Twice") = false := by decide +kernel
theorem q_re : (("Ring" : Str) == "NoEvent") = false := by decide +kernel
theorem q_ra : (("Ring" : Str) == "NoArc") = false := by decide +kernel
theorem q_rr : (("Ring" : Str) == "Ring") = true := by decide +kernel
end G
end
section
set_option Elab.async false
set_option linter.all false
set_option maxRecDepth 100000
set_option maxHeartbeats 4000000
namespace G
open PySem Ab
theorem lists_str (s : Str) : listsD (.str s) = .str s := by simp [listsD]
theorem lists_none : listsD .none = .none := by simp [listsD]
theorem lists_bool (b : Bool) : listsD (.bool b) = .bool b := by simp [listsD]
theorem lists_int (b : Int) : listsD (.int b) = .int b := by simp [listsD]
theorem okD_succ : ∀ (k : Nat) (x : PyData), okD k x → okD (k + 1) x
  | 0, x, h => h.elim
  | k + 1, x, h => by
    cases x with
    | list xs => exact ⟨h.1, fun y hy => okD_succ k y (h.2 y hy)⟩
    | tuple xs => exact ⟨h.1, fun y hy => okD_succ k y (h.2 y hy)⟩
    | dict d => exact h
    | str s => exact h
    | _ => trivial
theorem okD_le {k m : Nat} (hk : k ≤ m) {x : PyData} (h : okD k x) : okD m x := by
  induction hk with
  | refl => exact h
  | step _ ih => exact okD_succ _ _ ih
theorem ok_str {s : Str} (h : PyData.strOk s = true) : okD 1 (.str s) := h
theorem ok_strs {es : List Str} (h : EsOk es) (hl : es.length ≤ 100000) : okD 2 (.tuple (strsD es)) := by
  refine ⟨by rw [strs_len]; exact hl, fun y hy => ?_⟩
  obtain ⟨e, he, rfl⟩ := List.mem_map.mp hy
  exact h e he
theorem ok_arcs {as : List Arc} (h : AsOk as) (hl : as.length ≤ 100000) : okD 3 (.tuple (arcsD as)) := by
  refine ⟨by rw [arcs_len]; exact hl, fun y hy => ?_⟩
  obtain ⟨a, ha, rfl⟩ := List.mem_map.mp hy
  refine ⟨by simp, fun z hz => ?_⟩
  simp at hz
  rcases hz with rfl | rfl | rfl
  · exact (h a ha).1
  · exact (h a ha).2.1
  · exact (h a ha).2.2
theorem ok_pair {x y : PyData} {k : Nat} (hx : okD k x) (hy : okD k y) : okD (k + 1) (.tuple [x, y]) := ⟨by simp, fun z hz => by
  simp at hz
  rcases hz with rfl | rfl
  · exact hx
  · exact hy⟩
theorem ok_sort {k : Nat} {l : List PyData} (h : okD k (.tuple l)) : okD k (.tuple (sortD l)) := by
  cases k with
  | zero => exact h.elim
  | succ k => exact ⟨by rw [(sort_p l).length_eq]; exact h.1, fun y hy => h.2 y ((sort_p l).mem_iff.mp hy)⟩
theorem ok_lists : ∀ (k : Nat) (x : PyData), okD k x → okD k (listsD x)
  | 0, x, h => h.elim
  | k + 1, x, h => by
    cases x with
    | list xs =>
      rw [lists_list]
      refine ⟨by rw [List.length_map]; exact h.1, fun y hy => ?_⟩
      obtain ⟨z, hz, rfl⟩ := List.mem_map.mp hy
      exact ok_lists k z (h.2 z hz)
    | tuple xs =>
      rw [lists_tup]
      refine ⟨by rw [List.length_map]; exact h.1, fun y hy => ?_⟩
      obtain ⟨z, hz, rfl⟩ := List.mem_map.mp hy
      exact ok_lists k z (h.2 z hz)
    | dict d => exact h.elim
    | str s => rw [lists_str]; exact h
    | none => rw [lists_none]; trivial
    | bool b => rw [lists_bool]; trivial
    | int b => rw [lists_int]; trivial
theorem frz_lists : ∀ (k : Nat) (x : PyData), okD k x → frozenD (listsD x) = frozenD x
  | 0, x, h => h.elim
  | k + 1, x, h => by
    cases x with
    | list xs =>
      rw [lists_list, frozen_list, frozen_list, List.map_map]
      congr 1
      exact List.map_congr_left fun y hy => frz_lists k y (h.2 y hy)
    | tuple xs =>
      rw [lists_tup, frozen_list, frozen_tup, List.map_map]
      congr 1
      exact List.map_congr_left fun y hy => frz_lists k y (h.2 y hy)
    | dict d => exact h.elim
    | str s => rw [lists_str]
    | none => rw [lists_none]
    | bool b => rw [lists_bool]
    | int b => rw [lists_int]
theorem frz_strs (es : List Str) : frozenD (.tuple (strsD es)) = .tuple (strsD es) := by
  rw [frozen_tup]
  congr 1
  simp only [strsD, List.map_map]
  refine List.map_congr_left fun r _ => ?_
  simp only [Function.comp, frozenD]
theorem frz_arcs (as : List Arc) : frozenD (.tuple (arcsD as)) = .tuple (arcsD as) := by
  rw [frozen_tup]
  congr 1
  simp only [arcsD, List.map_map]
  refine List.map_congr_left fun r _ => ?_
  simp only [Function.comp, arcD, frozen_tup, List.map_cons, List.map_nil, frozenD]
theorem frz_web (es : List Str) (as : List Arc) : frozenD (webD es as) = webD es as := by
  rw [webD, frozen_tup, List.map_cons, List.map_cons, List.map_nil, frz_strs, frz_arcs]
theorem frz_pairs (qs : List (Str × Str)) : frozenD (pairsDt qs) = pairsDt qs := by
  rw [pairsDt, frozen_tup]
  congr 1
  rw [List.map_map]
  refine List.map_congr_left fun r _ => ?_
  simp only [Function.comp, pairD, frozen_tup, List.map_cons, List.map_nil, frozenD]
theorem ok_pairs {qs : List (Str × Str)} (h : ∀ q ∈ qs, PyData.strOk q.1 = true ∧ PyData.strOk q.2 = true) (hl : qs.length ≤ 100000) : okD 3 (pairsDt qs) := by
  refine ⟨by rw [List.length_map]; exact hl, fun y hy => ?_⟩
  obtain ⟨q, hq, rfl⟩ := List.mem_map.mp hy
  exact ok_pair (k := 1) (h q hq).1 (h q hq).2
theorem ok_web {es : List Str} {as : List Arc} (he : EsOk es) (ha : AsOk as) (h1 : es.length ≤ 100000) (h2 : as.length ≤ 100000) : okD 4 (webD es as) := ok_pair (okD_succ _ _ (ok_strs he h1)) (ok_arcs ha h2)
theorem own_like {es : List Str} {as : List Arc} (L : Own es as) : Like (webD es as) es as := ⟨frz_web es as, okD_le (by omega) (ok_web L.eo L.ao (by have := L.le; omega) (by have := L.la; omega)), L.le, L.la, L.eo, L.ao⟩
theorem like_lists {w : PyData} {es : List Str} {as : List Arc} (L : Like w es as) : Like (listsD w) es as := ⟨by rw [frz_lists 10 w L.ok]; exact L.fz, ok_lists 10 w L.ok, L.le, L.la, L.eo, L.ao⟩
inductive Ask
  | e0 (e : Str)
  | e1 (e : Str)
  | a2 (n a b : Str)
  | a3 (n : Str)
  | a4 (qs : List (Str × Str))
def doorN : Ask → Int
  | .e0 _ => 0
  | .e1 _ => 1
  | .a2 _ _ _ => 2
  | .a3 _ => 3
  | .a4 _ => 4
def bitsD : Ask → List PyData
  | .e0 e => [.str e]
  | .e1 e => [.str e]
  | .a2 n a b => [.str n, .str a, .str b]
  | .a3 n => [.str n]
  | .a4 qs => [pairsDt qs]
noncomputable def dueD (es : List Str) (as : List Arc) : Ask → PyData
  | .e0 e => if e ∈ es then twD e else .tuple [.tuple (sortD (strsD (es ++ [e]))), .tuple (arcsD as)]
  | .e1 e => if e ∈ es then .tuple [.tuple (strsD (es.filter fun x => !decide (x = e))), .tuple (arcsD (as.filter fun a => !decide (e ∈ [a.2.1, a.2.2])))] else evD e
  | .a2 n a b => due2 es as n a b
  | .a3 n => if n ∈ as.map (·.1) then .tuple [.tuple (strsD es), .tuple (arcsD (as.filter fun a => !decide (a.1 = n)))] else arD n
  | .a4 qs => .tuple [.tuple (strsD es), .tuple (sortD (arcsD (as.map fun a => (ren qs a.1, a.2))))]
def AskOk (as : List Arc) : Ask → Prop
  | .e0 e => PyData.strOk e = true
  | .e1 e => PyData.strOk e = true
  | .a2 n a b => PyData.strOk n = true ∧ PyData.strOk a = true ∧ PyData.strOk b = true
  | .a3 n => PyData.strOk n = true
  | .a4 qs => qs.length ≤ 100 ∧ (qs.map (·.1)).Nodup ∧ (∀ q ∈ qs, q.1 ∈ as.map (·.1)) ∧ ∀ q ∈ qs, PyData.strOk q.1 = true ∧ PyData.strOk q.2 = true
theorem said_fin {M : ASto} (cl : Cl M) {x : PyData} : closeR M.length (.ok (.d x) M) = .ok (.d x) M := close_ok rfl cl
end G
end
section
set_option Elab.async false
set_option linter.all false
set_option maxRecDepth 100000
set_option maxHeartbeats 4000000
namespace G
open PySem Ab
/-! ### the order of names -/
theorem str_cps {a b : Str} (h : a.cps.toList = b.cps.toList) : a = b := by
  cases a with
  | mk x => cases b with
    | mk y => exact congrArg Str.mk (Array.toList_inj.mp h)
theorem leD_def (a b : PyData) : leD a b = !PyProof.Rows.lexLt PyProof.Rows.itemOrd (PySem.W.keyToks b) (PySem.W.keyToks a) := rfl
theorem toks_arc (a : Arc) : PySem.W.keyToks (arcD a) = [Sum.inl 1] ++ (Sum.inr a.1.cps.toList :: PySem.W.keyToksAll [.str a.2.1, .str a.2.2]) := by
  simp only [arcD, PySem.W.keyToks, PySem.W.keyToksAll]
  rfl
theorem leD_arc {a b : Arc} (h : a.1 ≠ b.1) : leD (arcD a) (arcD b) = leD (.str a.1) (.str b.1) := by
  rw [leD_def, leD_def, toks_arc, toks_arc, PySem.W.lex_pre, PySem.W.lex_atom (fun z => h (str_cps (Sum.inr.inj z)).symm)]
  rfl
theorem leD_anti {a b : Str} (h1 : leD (.str a) (.str b) = true) (h2 : leD (.str b) (.str a) = true) : a = b := by
  rw [leD_def, Bool.not_eq_true'] at h1 h2
  have := PyProof.Rows.lex_total (O := PyProof.Rows.itemOrd) (PySem.W.keyToks (.str a)) (PySem.W.keyToks (.str b)) h2 h1
  have e : [(Sum.inr a.cps.toList : Int ⊕ List Nat)] = [Sum.inr b.cps.toList] := this
  exact str_cps (Sum.inr.inj (List.cons.inj e).1)
theorem names_pw {as : List Arc} (so : sortD (arcsD as) = arcsD as) (nd : (as.map (·.1)).Nodup) : (as.map (·.1)).Pairwise fun a b => leD (.str a) (.str b) = true := by
  have h1 : (arcsD as).Pairwise fun a b => leD a b = true := so ▸ sort_pw _
  rw [arcsD, List.pairwise_map] at h1
  rw [List.pairwise_map]
  have h2 : as.Pairwise fun a b => a.1 ≠ b.1 := List.pairwise_map.mp nd
  exact (h1.and h2).imp fun ⟨x, y⟩ => by rw [← leD_arc y]; exact x
theorem strs_eq {l1 l2 : List Str} (p1 : l1.Pairwise fun a b => leD (.str a) (.str b) = true) (p2 : l2.Pairwise fun a b => leD (.str a) (.str b) = true) (n1 : l1.Nodup) (n2 : l2.Nodup) (h : ∀ x, x ∈ l1 ↔ x ∈ l2) : l1 = l2 :=
  List.Perm.eq_of_pairwise (fun a b _ _ x y => leD_anti x y) p1 p2 ((List.perm_ext_iff_of_nodup n1 n2).mpr h)
/-! ### one of them drawn -/
theorem of_s {M : ASto} {n : Nat} {k : Int} {ss : List Str} (T : Tn n k M) (hk : k < 2 ^ 40) (h0 : 0 < ss.length) (h1 : ss.length < 1000) :
    ∃ s, s ∈ ss ∧ ∃ M', m__law_of [.r n, .d (.list (strsD ss))] M = .ok (.d (.str s)) M' ∧ Tn n (k + 1) M' ∧ Set1 n M M' := by
  obtain ⟨v, M', e, v0, v1, T', S'⟩ := take_s (t := (ss.length : Int)) T hk (by omega) (by omega)
  have hv : v.toNat < ss.length := by omega
  refine ⟨ss[v.toNat], List.getElem_mem _, M', ?_, T', S'⟩
  have e1 := ix_str v0 hv
  unfold m__law_of b__law_of runD
  simp only [aSeq_eq, oSeq_nx, oSeq_rt, oSeq_ex, ↓bind_L, bind_ok, bind_ex, ↓resO_L, resO_ok, resO_ex, aIf, aRet, aAsg, aNm, aVar, aC, aOp, aCall, aCall0, aCons, aNil, aTest, aDrop, aNext, aTup, aLst, allD, aGTup, aGCons, aGNil, noEx, fnR, aNot, aAnd, aOr, aIfE, aPar, aPar3, startA, List.replicate, aI2, aI2C, aAddE, aCat0, aAddQ, sub_ok, lt_ok, gt_ok, le_ok, ge_ok, orF, aInt1, aAbs, aAndV, aOrV, aNotV, aIx, aSetIx, mod_ok, Nat.reduceAdd, Nat.reduceSub, Nat.zero_add, ixN0, ixNp, Option.bind_some, List.set_cons_zero, List.set_cons_succ, decide_eq_true_eq, decide_true, if_true, if_false, reduceIte, Bool.false_eq_true, ne_eq, aPart, aNoPart, aLen, aMin2, aLstC, List.length_cons, List.length_nil, List.map_cons, List.map_nil, List.cons_append, List.nil_append, List.getElem?_cons_zero, List.getElem?_cons_succ, List.append_assoc, List.length_append, Nat.zero_le, Nat.reduceLeDiff, Nat.le_refl, vwS, vwL, Option.map_some, strs_len, e, e1]
  exact close_ok S'.len T'.cl
/-! ### another WEB of the same EVENTS -/
theorem mate_in {n m : Nat} {tags names : List Str} {w d3 d9 : Option Sl} {most : Int} {k : Int} {i : Nat} {M0 M1 : ASto} {as : List Arc} (s : Option Sl) (hn : n < m) (hm : M0.length = m) (hl2 : names.length < 1000) (ht : tags.length < 900)
    (T : Tn n k M1) (S : Set1 n M0 M1) (hk : k < 2 ^ 40) (h0 : 0 < i) (h1 : i < tags.length) (F : Fnd tags names names.length as) :
    ∃ M2 as', (aIf (aTest (aOp aLt (aCall aLen (aCons (aVar 6) aNil)) (aCall aLen (aCons (aVar 5) aNil)))) (aDrop (aMut gAppend (aVar 6) (aTup (aCons (aOp aIx (aVar 5) (aCall aLen (aCons (aVar 6) aNil))) (aCons (aOp aIx (aVar 4) (aCall0 m__law_take (aCons (aVar 0) (aCons (aVar 7) aNil)))) (aCons (aOp aIx (aVar 4) (aVar 7)) aNil)))))) aNext)
      [some (.r n), w, some (.d (.int most)), d3, some (.d (.list (strsD tags))), some (.d (.list (strsD names))), some (.r m), some (.d (.int i)), s, d9]
      (M1 ++ [.lst ((arcsD as).map Sl.d)]) = .nx [some (.r n), w, some (.d (.int most)), d3, some (.d (.list (strsD tags))), some (.d (.list (strsD names))), some (.r m), some (.d (.int i)), s, d9] (M2 ++ [.lst ((arcsD as').map Sl.d)]) ∧ Fnd tags names names.length as' ∧ Tn n (k + 1) M2 ∧ Set1 n M0 M2 := by
  have hm1 : M1.length = m := S.len.trans hm
  by_cases hc : as.length < names.length
  · obtain ⟨v, M2, e, v0, v1, T2, S2⟩ := take_a (J := [.lst ((arcsD as).map Sl.d)]) (t := (i : Int)) T (.one (cl_data _)) hk (by omega) (by omega)
    have hm2 : M2.length = m := S2.len.trans hm1
    have hv : v.toNat < tags.length := by omega
    have e1 := ix_str (ss := names) (i := (as.length : Int)) (by omega) (by simp; omega)
    have e2 := ix_str (ss := tags) v0 hv
    have e3 := ix_str (ss := tags) (i := (i : Int)) (by omega) (by simpa using h1)
    have hc2 : ((as.length : Int) < (names.length : Int)) = True := eq_true (by omega)
    have b2 : (as.length < 100000) = True := eq_true (by omega)
    have al : (arcsD as).length = as.length := by simp [arcsD]
    refine ⟨M2, as ++ [(names[as.length]'(by omega), tags[v.toNat], tags[i])], ?_, ⟨by simp; omega, ?_, fun a ha => ?_⟩, T2, S.trans S2⟩
    · simp only [aSeq_eq, oSeq_nx, oSeq_rt, oSeq_ex, ↓bind_L, bind_ok, bind_ex, ↓resO_L, resO_ok, resO_ex, aIf, aRet, aAsg, aNm, aVar, aC, aOp, aCall, aCall0, aCons, aNil, aTest, aDrop, aNext, aTup, aLst, allD, aGTup, aGCons, aGNil, noEx, fnR, aNot, aAnd, aOr, aIfE, aPar, aPar3, startA, List.replicate, aI2, aI2C, aAddE, aCat0, aAddQ, sub_ok, lt_ok, gt_ok, le_ok, ge_ok, orF, aInt1, aAbs, aAndV, aOrV, aNotV, aIx, aSetIx, mod_ok, Nat.reduceAdd, Nat.reduceSub, Nat.zero_add, ixN0, ixNp, Option.bind_some, List.set_cons_zero, List.set_cons_succ, decide_eq_true_eq, decide_true, if_true, if_false, reduceIte, Bool.false_eq_true, ne_eq, aPart, aNoPart, aLen, aMin2, aLstC, List.length_cons, List.length_nil, List.map_cons, List.map_nil, List.cons_append, List.nil_append, List.getElem?_cons_zero, List.getElem?_cons_succ, List.append_assoc, List.length_append, Nat.zero_le, Nat.reduceLeDiff, Nat.le_refl, vwS, vwL, Option.map_some, aMut, isL, at0 hm1, at0 hm2, List.length_map, al, e, gAppend, b2, strs_len, hc2, e1, e2, e3, set0 hm2, List.map_append, Int.toNat_natCast, arcs_app, arcD]
    · rw [List.map_append, F.nm, List.length_append]
      simp
    · rcases List.mem_append.mp ha with q | q
      · exact F.en a q
      · rw [List.mem_singleton.mp q]
        exact ⟨List.getElem_mem _, List.getElem_mem _⟩
  · have hc2 : ((as.length : Int) < (names.length : Int)) = False := eq_false (by omega)
    have al : (arcsD as).length = as.length := by simp [arcsD]
    refine ⟨M1, as, ?_, F, T.mono (by omega), S⟩
    simp only [aSeq_eq, oSeq_nx, oSeq_rt, oSeq_ex, ↓bind_L, bind_ok, bind_ex, ↓resO_L, resO_ok, resO_ex, aIf, aRet, aAsg, aNm, aVar, aC, aOp, aCall, aCall0, aCons, aNil, aTest, aDrop, aNext, aTup, aLst, allD, aGTup, aGCons, aGNil, noEx, fnR, aNot, aAnd, aOr, aIfE, aPar, aPar3, startA, List.replicate, aI2, aI2C, aAddE, aCat0, aAddQ, sub_ok, lt_ok, gt_ok, le_ok, ge_ok, orF, aInt1, aAbs, aAndV, aOrV, aNotV, aIx, aSetIx, mod_ok, Nat.reduceAdd, Nat.reduceSub, Nat.zero_add, ixN0, ixNp, Option.bind_some, List.set_cons_zero, List.set_cons_succ, decide_eq_true_eq, decide_true, if_true, if_false, reduceIte, Bool.false_eq_true, ne_eq, aPart, aNoPart, aLen, aMin2, aLstC, List.length_cons, List.length_nil, List.map_cons, List.map_nil, List.cons_append, List.nil_append, List.getElem?_cons_zero, List.getElem?_cons_succ, List.append_assoc, List.length_append, Nat.zero_le, Nat.reduceLeDiff, Nat.le_refl, vwS, vwL, Option.map_some, at0 hm1, List.length_map, al, strs_len, hc2, decide_false]
abbrev matB : AEnv → ASto → Out := aIf (aTest (aOp aLt (aCall aLen (aCons (aVar 6) aNil)) (aCall aLen (aCons (aVar 5) aNil)))) (aDrop (aMut gAppend (aVar 6) (aTup (aCons (aOp aIx (aVar 5) (aCall aLen (aCons (aVar 6) aNil))) (aCons (aOp aIx (aVar 4) (aCall0 m__law_take (aCons (aVar 0) (aCons (aVar 7) aNil)))) (aCons (aOp aIx (aVar 4) (aVar 7)) aNil)))))) aNext
abbrev matO : AEnv → ASto → Out := aFor (iRng1A (aCons (aCall0 m__law_take (aCons (aVar 0) (aCons (aC (.int 3)) aNil))) aNil)) (aNm 8) matB
theorem mate_out {n m : Nat} {tags names : List Str} {w d3 d9 : Option Sl} {most : Int} {k : Int} {i : Nat} {M0 M1 : ASto} {as : List Arc} (s : Option Sl) (hn : n < m) (hm : M0.length = m) (hl2 : names.length < 1000) (ht : tags.length < 900)
    (T : Tn n k M1) (S : Set1 n M0 M1) (hk : k + 10 < 2 ^ 40) (h0 : 0 < i) (h1 : i < tags.length) (F : Fnd tags names names.length as) :
    ∃ M2 as' s', matO [some (.r n), w, some (.d (.int most)), d3, some (.d (.list (strsD tags))), some (.d (.list (strsD names))), some (.r m), some (.d (.int i)), s, d9]
      (M1 ++ [.lst ((arcsD as).map Sl.d)]) = .nx [some (.r n), w, some (.d (.int most)), d3, some (.d (.list (strsD tags))), some (.d (.list (strsD names))), some (.r m), some (.d (.int i)), s', d9] (M2 ++ [.lst ((arcsD as').map Sl.d)]) ∧ Fnd tags names names.length as' ∧ Tn n (k + 5) M2 ∧ Set1 n M0 M2 := by
  have hm1 : M1.length = m := S.len.trans hm
  obtain ⟨v, M2, e, v0, v1, T2, S2⟩ := take_a (J := [.lst ((arcsD as).map Sl.d)]) (t := 3) T (.one (cl_data _)) (by omega) (by omega) (by omega)
  have hrng : (-100000 ≤ v ∧ v ≤ 100000) = True := eq_true (by omega)
  obtain ⟨ds', M', e', s', as', M3, rfl, rfl, F3, T3, S3⟩ := for_inv (G := aNm 8) (f := matB)
    (fun j ds Mx => ∃ (s : Option Sl) (as' : List Arc) (M3 : ASto), ds = [some (.r n), w, some (.d (.int most)), d3, some (.d (.list (strsD tags))), some (.d (.list (strsD names))), some (.r m), some (.d (.int i)), s, d9] ∧ Mx = M3 ++ [.lst ((arcsD as').map Sl.d)] ∧ Fnd tags names names.length as' ∧ Tn n (k + 1 + j) M3 ∧ Set1 n M0 M3)
    (rangeL 0 v.toNat) 0 [some (.r n), w, some (.d (.int most)), d3, some (.d (.list (strsD tags))), some (.d (.list (strsD names))), some (.r m), some (.d (.int i)), s, d9] (M2 ++ [.lst ((arcsD as).map Sl.d)])
    (fun j x ds Mx hx ⟨s, as', M3, e1, e2, F3, T3, S3⟩ => by
      subst e1 e2
      have hj := (List.getElem?_eq_some_iff.mp hx).1
      rw [range_len] at hj
      obtain ⟨M4, as4, e4, F4, T4, S4⟩ := mate_in (w := w) (d3 := d3) (d9 := d9) (most := most) (some x) hn hm hl2 ht T3 S3 (by omega) h0 h1 F3
      exact ⟨_, _, _, rfl, e4, some x, as4, M4, rfl, rfl, F4, T4.mono (by omega), S4⟩)
    ⟨s, as, M2, rfl, rfl, F, T2.mono (by omega), S.trans S2⟩
  refine ⟨M3, as', s', ?_, F3, T3.mono (by rw [range_len]; omega), S3⟩
  simp only [aSeq_eq, oSeq_nx, oSeq_rt, oSeq_ex, ↓bind_L, bind_ok, bind_ex, ↓resO_L, resO_ok, resO_ex, aIf, aRet, aAsg, aNm, aVar, aC, aOp, aCall, aCall0, aCons, aNil, aTest, aDrop, aNext, aTup, aLst, allD, aGTup, aGCons, aGNil, noEx, fnR, aNot, aAnd, aOr, aIfE, aPar, aPar3, startA, List.replicate, aI2, aI2C, aAddE, aCat0, aAddQ, sub_ok, lt_ok, gt_ok, le_ok, ge_ok, orF, aInt1, aAbs, aAndV, aOrV, aNotV, aIx, aSetIx, mod_ok, Nat.reduceAdd, Nat.reduceSub, Nat.zero_add, ixN0, ixNp, Option.bind_some, List.set_cons_zero, List.set_cons_succ, decide_eq_true_eq, decide_true, if_true, if_false, reduceIte, Bool.false_eq_true, ne_eq, aPart, aNoPart, aLen, aMin2, aLstC, List.length_cons, List.length_nil, List.map_cons, List.map_nil, List.cons_append, List.nil_append, List.getElem?_cons_zero, List.getElem?_cons_succ, List.append_assoc, List.length_append, Nat.zero_le, Nat.reduceLeDiff, Nat.le_refl, vwS, vwL, Option.map_some, aFor, iRng1A, e, hrng, e']
end G
end
section
set_option Elab.async false
set_option linter.all false
set_option maxRecDepth 100000
set_option maxHeartbeats 4000000
namespace G
open PySem Ab
def three : List Str := ["sa", "sb", "sc"]
theorem three_no : ∀ x ∈ three, x ∉ pool16 := by decide +kernel
theorem three_nd : three.Nodup := by decide +kernel
theorem ok16 : ∀ x ∈ pool16, PyData.strOk x = true := by decide +kernel
theorem ok8 : ∀ x ∈ pool8, PyData.strOk x = true := by decide +kernel
theorem ok3 : ∀ x ∈ three, PyData.strOk x = true := by decide +kernel
structure Mate (es : List Str) (as : List Arc) : Prop where
  la : as.length ≤ 16
  nd : (as.map (·.1)).Nodup
  ok : ∀ a ∈ as, PyData.strOk a.1 = true
  en : ∀ a ∈ as, a.2.1 ∈ es ∧ a.2.2 ∈ es
  so : sortD (arcsD as) = arcsD as
end G
end
section
set_option Elab.async false
set_option linter.all false
set_option maxRecDepth 100000
set_option maxHeartbeats 4000000
namespace G
open PySem Ab
theorem of_names : ∀ (l acc : List Str), ∃ ss : List Str, (l.map (Sum.inr : Str → L2.Key)).foldl addK (acc.map Sum.inr) = ss.map Sum.inr ∧ ss.length ≤ acc.length + l.length ∧ ∀ s ∈ ss, s ∈ acc ∨ s ∈ l
  | [], acc => ⟨acc, rfl, by simp, fun s h => .inl h⟩
  | x :: l, acc => by
    rw [List.map_cons, List.foldl_cons]
    by_cases q : hasK (acc.map (Sum.inr : Str → L2.Key)) (.inr x) = true
    · have e : addK (acc.map (Sum.inr : Str → L2.Key)) (.inr x) = acc.map Sum.inr := by unfold addK; rw [if_pos q]
      rw [e]
      obtain ⟨ss, e1, e2, e3⟩ := of_names l acc
      exact ⟨ss, e1, by simp; omega, fun s h => (e3 s h).imp id fun z => by simp [z]⟩
    · have e : addK (acc.map (Sum.inr : Str → L2.Key)) (.inr x) = (acc ++ [x]).map Sum.inr := by unfold addK; rw [if_neg q]; simp
      rw [e]
      obtain ⟨ss, e1, e2, e3⟩ := of_names l (acc ++ [x])
      refine ⟨ss, e1, by simp at e2 ⊢; omega, fun s h => ?_⟩
      rcases e3 s h with z | z
      · rcases List.mem_append.mp z with z | z
        · exact .inl z
        · exact .inr (by rw [List.mem_singleton.mp z]; simp)
      · exact .inr (by simp [z])
abbrev bndB : AEnv → ASto → Out := aSeq (aAsg (aCall0 m__law_take (aCons (aVar 0) (aCons (aC (.int 4)) aNil))) (aNm 7)) (aDrop (aMut gAppend (aVar 5) (aTup (aCons (aVar 6) (aCons (aVar 7) (aCons (aOp aAddE (aVar 7) (aCall0 m__law_take (aCons (aVar 0) (aCons (aOp aAddE (aVar 2) (aC (.int 1))) aNil)))) aNil))))))
end G
end
section
set_option Elab.async false
set_option linter.all false
set_option maxRecDepth 100000
set_option maxHeartbeats 4000000
namespace G
open PySem Ab
def intsD (cs : List Int) : List PyData := cs.map PyData.int
theorem ints_len (cs : List Int) : (intsD cs).length = cs.length := by simp [intsD]
theorem mul_01 (i : Int) (p : Prop) [Decidable p] (M : ASto) : aMul (.d (.int i)) (.d (.int (if p then 1 else 0))) M = .ok (.d (.int (i * (if p then 1 else 0)))) M := mul_ok (.inr (by split <;> omega))
theorem mul_c (j : Int) (M : ASto) : aMul (.d (.int 39373)) (.d (.int j)) M = .ok (.d (.int (39373 * j))) M := mul_ok (.inl (by omega))
theorem pow_18 (M : ASto) : aPow (.d (.int 10)) (.d (.int 18)) M = .ok (.d (.int 1000000000000000000)) M := by
  unfold aPow aI2C
  dsimp only
  rw [if_pos (by decide)]
  rfl
theorem box_ok {M : ASto} (cs : List Int) (k : Nat) (hk : k < cs.length) (hl : cs.length ≤ 3) :
    ∃ a b, m__law_box [.d (.list (intsD cs)), .d (.int k)] M = .ok (.r M.length) (M ++ [tinC a b 0]) ∧ b.natAbs < 2 ^ 62 := by
  have hk2 : ((k : Int) < (cs.length : Int)) = True := eq_true (by omega)
  have ix : L2.atI (intsD cs) (k : Int) = some (.int cs[k]) := by
    unfold L2.atI
    rw [ints_len, ixNp _ _ hk]
    simp [intsD, hk]
  have hmod : ∀ (M : ASto), aMod (.d (.int cs[k])) (.d (.int 2305843009213693951)) M = .ok (.d (.int (cs[k].fmod 2305843009213693951))) M := fun M => mod_ok (by omega)
  obtain ⟨b0, b1⟩ := fmod_b cs[k] 2305843009213693951 (by omega)
  refine ⟨(if cs[k] < 0 then -cs[k] else cs[k]) * (if 1000000000000000000 ≤ (if cs[k] < 0 then -cs[k] else cs[k]) then 1 else 0), cs[k].fmod 2305843009213693951 + 39373 * (k : Int) + 1338, ?_, by omega⟩
  unfold m__law_box b__law_box runO
  simp only [aSeq_eq, oSeq_nx, oSeq_rt, oSeq_ex, ↓bind_L, bind_ok, bind_ex, ↓resO_L, resO_ok, resO_ex, aIf, aRet, aAsg, aNm, aVar, aC, aOp, aCall, aCall0, aCons, aNil, aTest, aDrop, aNext, aTup, aLst, allD, aGTup, aGCons, aGNil, noEx, fnR, aNot, aAnd, aOr, aIfE, aPar, aPar3, startA, List.replicate, aI2, aI2C, add_ii, sub_ok, lt_ok, gt_ok, le_ok, ge_ok, aInt1, aAbs, aAndV, aOrV, aNotV, aIx, aSetIx, mod_ok, Nat.reduceAdd, Nat.reduceSub, Nat.zero_add, ixN0, ixNp, Option.bind_some, List.set_cons_zero, List.set_cons_succ, decide_eq_true_eq, decide_true, if_true, if_false, reduceIte, Bool.false_eq_true, ne_eq, aPart, aNoPart, aLen, aMin2, aLstC, List.length_cons, List.length_nil, List.map_cons, List.map_nil, List.cons_append, List.nil_append, List.getElem?_cons_zero, List.getElem?_cons_succ, List.append_assoc, List.length_append, Nat.zero_le, Nat.reduceLeDiff, Nat.le_refl, vwS, vwL, Option.map_some, ints_len, hk2, ix, pow_18, mul_01, mul_c, hmod, tinC]
/-! ### the numbers of the script -/
theorem enum_at : ∀ (xs : List PyData) (k i : Nat) (s : Sl), (enumL k xs)[i]? = some s → ∃ x, x ∈ xs ∧ s = .d (.tuple [.int ((k + i : Nat) : Int), x])
  | [], k, i, s, h => by simp [enumL] at h
  | x :: xs, k, 0, s, h => by
    simp [enumL] at h
    exact ⟨x, by simp, by rw [← h]; simp⟩
  | x :: xs, k, i + 1, s, h => by
    have h' : (enumL (k + 1) xs)[i]? = some s := by simpa [enumL] using h
    obtain ⟨y, hy, e⟩ := enum_at xs (k + 1) i s h'
    exact ⟨y, by simp [hy], by rw [e, show k + 1 + i = k + (i + 1) by omega]⟩
theorem allD_ints (cs : List Int) : allD ((intsD cs).map Sl.d) = some (intsD cs) := by
  induction cs with
  | nil => rfl
  | cons c cs ih => simp [intsD, allD] at ih ⊢; rw [ih]
theorem cut_map (ns : List Int) (lo hi : Option Int) : ∃ ts : List Int, cutD (ns.map PyData.int) lo hi = intsD ts ∧ ts = (ns.drop (HT.sIx ns.length 0 lo)).take (HT.sIx ns.length ns.length hi - HT.sIx ns.length 0 lo) := ⟨_, by unfold cutD intsD; rw [List.length_map, ← List.map_drop, ← List.map_take], rfl⟩
abbrev celB : AEnv → ASto → Out := aSeq (aAsg (aOp aMod (aCall aInt1 (aCons (aVar 3) aNil)) (aVar 1)) (aNm 5)) (aSetIx (aOp aAddE (aOp aIx (aVar 2) (aVar 5)) (aOp aMul (aVar 4) (aOp aAddE (aVar 3) (aC (.int 2))))) (aVar 2) (aVar 5))
theorem cel_in {m : Nat} {M : ASto} {d0 d3 d4 d5 : Option Sl} {is : List Int} (hm : M.length = m) (hl : is.length = 3) (j : Nat) (hj : j < 1000) (t : Int) :
    ∃ is' : List Int, is'.length = 3 ∧ ∃ s5, celB [d0, some (.d (.int 3)), some (.r m), some (.d (.int (j : Int))), some (.d (.int t)), d5] (M ++ [.lst ((intsD is).map Sl.d)]) = .nx [d0, some (.d (.int 3)), some (.r m), some (.d (.int (j : Int))), some (.d (.int t)), s5] (M ++ [.lst ((intsD is').map Sl.d)]) := by
  obtain ⟨p, hp, hp2⟩ : ∃ p : Nat, (j : Int).fmod 3 = (p : Int) ∧ p < 3 := ⟨j % 3, by rw [Int.fmod_eq_emod_of_nonneg _ (by omega)]; omega, by omega⟩
  have hmod : ∀ (M : ASto), aMod (.d (.int (j : Int))) (.d (.int 3)) M = .ok (.d (.int (p : Int))) M := fun M => by rw [mod_ok (by omega), hp]
  have ix : L2.atI ((intsD is).map Sl.d) (p : Int) = some (.d (.int (is[p]'(by omega)))) := by
    unfold L2.atI
    rw [List.length_map, ints_len, ixNp _ _ (by omega)]
    simp [intsD, hl, hp2]
  have hmul : ∀ (M : ASto), aMul (.d (.int t)) (.d (.int ((j : Int) + 2))) M = .ok (.d (.int (t * ((j : Int) + 2)))) M := fun M => mul_ok (.inr (by omega))
  have ixn : L2.ixN is.length (p : Int) = some p := ixNp _ _ (by omega)
  refine ⟨is.set p (is[p]'(by omega) + t * ((j : Int) + 2)), by rw [List.length_set]; exact hl, some (.d (.int (p : Int))), ?_⟩
  have hs : ((intsD is).map Sl.d).set p (.d (.int (is[p]'(by omega) + t * ((j : Int) + 2)))) = (intsD (is.set p (is[p]'(by omega) + t * ((j : Int) + 2)))).map Sl.d := by simp [intsD, List.map_set]
  simp only [aSeq_eq, oSeq_nx, oSeq_rt, oSeq_ex, ↓bind_L, bind_ok, bind_ex, ↓resO_L, resO_ok, resO_ex, aIf, aRet, aAsg, aNm, aVar, aC, aOp, aCall, aCall0, aCons, aNil, aTest, aDrop, aNext, aTup, aLst, allD, aGTup, aGCons, aGNil, noEx, fnR, aNot, aAnd, aOr, aIfE, aPar, aPar3, startA, List.replicate, aI2, aI2C, add_ii, sub_ok, lt_ok, gt_ok, le_ok, ge_ok, aInt1, aAbs, aAndV, aOrV, aNotV, aIx, aSetIx, mod_ok, Nat.reduceAdd, Nat.reduceSub, Nat.zero_add, ixN0, ixNp, Option.bind_some, List.set_cons_zero, List.set_cons_succ, decide_eq_true_eq, decide_true, if_true, if_false, reduceIte, Bool.false_eq_true, ne_eq, aPart, aNoPart, aLen, aMin2, aLstC, List.length_cons, List.length_nil, List.map_cons, List.map_nil, List.cons_append, List.nil_append, List.getElem?_cons_zero, List.getElem?_cons_succ, List.append_assoc, List.length_append, Nat.zero_le, Nat.reduceLeDiff, Nat.le_refl, vwS, vwL, Option.map_some, hmod, at0 hm, allD_ints, ix, hmul, List.length_map, ints_len, ixn, set0 hm, hs]
theorem cells_ok {M : ASto} (cl : Cl M) (ns : List Int) (h : ns.length ≤ 63) : ∃ cs : List Int, m__law_cells [.s ns, .d (.int 3)] M = .ok (.d (.list (intsD cs))) M ∧ 0 < cs.length ∧ cs.length ≤ 3 := by
  obtain ⟨t1, c1, ht1⟩ := cut_map ns none (some 3)
  obtain ⟨t2, c2, ht2⟩ := cut_map ns (some 3) (some 63)
  rw [HT.sIx_none, show (3 : Int) = ((3 : Nat) : Int) from rfl, HT.sIx_nat, List.drop_zero] at ht1
  rw [show (3 : Int) = ((3 : Nat) : Int) from rfl, show (63 : Int) = ((63 : Nat) : Int) from rfl, HT.sIx_nat, HT.sIx_nat] at ht2
  have l1 : t1.length = min 3 ns.length := by rw [ht1, List.length_take]; omega
  have l2 : t2.length ≤ 63 := by rw [ht2, List.length_take]; omega
  have l3 : t2 ≠ [] → 3 < ns.length := fun z => by
    have := List.length_pos_iff.mpr z
    rw [ht2, List.length_take, List.length_drop] at this
    omega
  by_cases q : ns.length = 0
  · have e1 : t1 = [] := List.eq_nil_of_length_eq_zero (by omega)
    have e2 : t2 = [] := Classical.byContradiction fun z => by have := l3 z; omega
    subst e1 e2
    refine ⟨[0], ?_, by simp, by simp⟩
    have f0 : intsD [] = [] := rfl
    rw [f0] at c1 c2
    have a0 : ((1 : Nat) ≤ 100000) = True := eq_true (by omega)
    have fz : frzD (M ++ [Cell.lst [], Cell.lst [Sl.d (.int 0)]]) (.r (M.length + 1)) = some (.list [.int 0]) := by
      unfold frzD; dsimp only; rw [at1 rfl]; rfl
    unfold m__law_cells b__law_cells runD
    simp only [aSeq_eq, oSeq_nx, oSeq_rt, oSeq_ex, ↓bind_L, bind_ok, bind_ex, ↓resO_L, resO_ok, resO_ex, aIf, aRet, aAsg, aNm, aVar, aC, aOp, aCall, aCall0, aCons, aNil, aTest, aDrop, aNext, aTup, aLst, allD, aGTup, aGCons, aGNil, noEx, fnR, aNot, aAnd, aOr, aIfE, aPar, aPar3, startA, List.replicate, aI2, aI2C, add_ii, sub_ok, lt_ok, gt_ok, le_ok, ge_ok, aInt1, aAbs, aAndV, aOrV, aNotV, aIx, aSetIx, mod_ok, Nat.reduceAdd, Nat.reduceSub, Nat.zero_add, ixN0, ixNp, Option.bind_some, List.set_cons_zero, List.set_cons_succ, decide_eq_true_eq, decide_true, if_true, if_false, reduceIte, Bool.false_eq_true, ne_eq, aPart, aNoPart, aLen, aMin2, aLstC, List.length_cons, List.length_nil, List.map_cons, List.map_nil, List.cons_append, List.nil_append, List.getElem?_cons_zero, List.getElem?_cons_succ, List.append_assoc, List.length_append, Nat.zero_le, Nat.reduceLeDiff, Nat.le_refl, vwS, vwL, Option.map_some, aSlS, c1, aListOfC, aOrT, truA, at_end rfl, List.isEmpty_nil, Bool.not_true, a0, c2, aFor, iEnumA, enumL, aForL, aRetF, fz, set1 rfl]
    exact close_app rfl cl
  · obtain ⟨ds', M', e', is, d3, d4, d5, rfl, rfl, hl⟩ := for_inv (G := aGTup 2 (aGCons (aNm 3) (aGCons (aNm 4) aGNil))) (f := celB)
      (fun j ds Mx => ∃ (is : List Int) (d3 d4 d5 : Option Sl), ds = [some (.s ns), some (.d (.int 3)), some (.r M.length), d3, d4, d5] ∧ Mx = M ++ [.lst ((intsD is).map Sl.d)] ∧ is.length = t1.length)
      (enumL 0 (intsD t2)) 0 [some (.s ns), some (.d (.int 3)), some (.r M.length), none, none, none] (M ++ [.lst ((intsD t1).map Sl.d)])
      (fun j x ds Mx hx ⟨is, d3, d4, d5, e1, e2, hl⟩ => by
        subst e1 e2
        obtain ⟨y, hy, rfl⟩ := enum_at _ _ _ _ hx
        obtain ⟨t, ht, rfl⟩ := List.mem_map.mp hy
        have hne : t2 ≠ [] := fun z => by rw [z] at ht; cases ht
        have := l3 hne
        have hj : j < 1000 := by
          have h1 := (List.getElem?_eq_some_iff.mp hx).1
          have h2 : ∀ (xs : List PyData) (k : Nat), (enumL k xs).length = xs.length := fun xs => by
            induction xs with
            | nil => intro k; rfl
            | cons a xs ih => intro k; simp [enumL, ih]
          rw [h2, ints_len] at h1
          omega
        obtain ⟨is', hl', s5, e⟩ := cel_in (M := M) (d0 := some (.s ns)) (d3 := d3) (d4 := d4) (d5 := d5) (is := is) rfl (by omega) (0 + j) (by omega) t
        exact ⟨_, _, _, rfl, e, is', _, _, s5, rfl, rfl, by omega⟩)
      ⟨t1, none, none, none, rfl, rfl, rfl⟩
    refine ⟨is, ?_, by omega, by omega⟩
    have hne : ((intsD t1).map Sl.d).isEmpty = false := by
      cases t1 with
      | nil => simp at l1; omega
      | cons a r => rfl
    have fz : frzD (M ++ [Cell.lst ((intsD is).map Sl.d)]) (.r M.length) = some (.list (intsD is)) := by
      unfold frzD; dsimp only; rw [at_end rfl]; dsimp only; rw [allD_ints]; rfl
    unfold m__law_cells b__law_cells runD
    simp only [aSeq_eq, oSeq_nx, oSeq_rt, oSeq_ex, ↓bind_L, bind_ok, bind_ex, ↓resO_L, resO_ok, resO_ex, aIf, aRet, aAsg, aNm, aVar, aC, aOp, aCall, aCall0, aCons, aNil, aTest, aDrop, aNext, aTup, aLst, allD, aGTup, aGCons, aGNil, noEx, fnR, aNot, aAnd, aOr, aIfE, aPar, aPar3, startA, List.replicate, aI2, aI2C, add_ii, sub_ok, lt_ok, gt_ok, le_ok, ge_ok, aInt1, aAbs, aAndV, aOrV, aNotV, aIx, aSetIx, mod_ok, Nat.reduceAdd, Nat.reduceSub, Nat.zero_add, ixN0, ixNp, Option.bind_some, List.set_cons_zero, List.set_cons_succ, decide_eq_true_eq, decide_true, if_true, if_false, reduceIte, Bool.false_eq_true, ne_eq, aPart, aNoPart, aLen, aMin2, aLstC, List.length_cons, List.length_nil, List.map_cons, List.map_nil, List.cons_append, List.nil_append, List.getElem?_cons_zero, List.getElem?_cons_succ, List.append_assoc, List.length_append, Nat.zero_le, Nat.reduceLeDiff, Nat.le_refl, vwS, vwL, Option.map_some, aSlS, c1, aListOfC, aOrT, truA, at_end rfl, hne, Bool.not_false, c2, aFor, iEnumA, e', aRetF, fz, set_end rfl]
    exact close_app rfl cl
end G
end
section
set_option Elab.async false
set_option linter.all false
set_option maxRecDepth 1000000
set_option maxHeartbeats 40000000
namespace G
open PySem Ab
def insI (a : PyData) : List PyData → List PyData
  | [] => [a]
  | b :: l => if leD a b = true then a :: b :: l else b :: insI a l
def sortI : List PyData → List PyData
  | [] => []
  | a :: l => insI a (sortI l)
theorem insI_eq (a : PyData) : ∀ (l1 l2 : List PyData), (∀ b ∈ l1, (!leD a b) = true) → (∀ b ∈ l2, leD a b = true) → insI a (l1 ++ l2) = l1 ++ a :: l2
  | [], [], _, _ => rfl
  | [], b :: l2, _, h => by
    have := h b (by simp)
    simp [insI, this]
  | b :: l1, l2, h, h2 => by
    have hb := h b (by simp)
    rw [Bool.not_eq_true'] at hb
    have ih := insI_eq a l1 l2 (fun c hc => h c (by simp [hc])) h2
    simp [insI, hb, ih]
theorem sortI_eq : ∀ l : List PyData, sortD l = sortI l
  | [] => by unfold sortD sortI; exact List.mergeSort_nil
  | a :: l => by
    have ht : ∀ a b c : PyData, leD a b = true → leD b c = true → leD a c = true := fun a b c h1 h2 => leD_tot.trans a b c h1 h2
    have hto : ∀ a b : PyData, (leD a b || leD b a) = true := fun a b => by
      have h : leD a b = true ∨ leD b a = true := leD_tot.total a b
      rcases h with h | h
      · rw [h]; rfl
      · rw [h, Bool.or_true]
    obtain ⟨l1, l2, e1, e2, e3⟩ := List.mergeSort_cons ht hto a l
    have hp := sort_pw (a :: l)
    unfold sortD at hp ⊢
    rw [e1] at hp ⊢
    have h2 : ∀ b ∈ l2, leD a b = true := (List.pairwise_cons.mp (List.pairwise_append.mp hp).2.1).1
    have ih := sortI_eq l
    unfold sortD at ih
    rw [e2] at ih
    unfold sortI
    rw [← ih]
    exact (insI_eq a l1 l2 e3 h2).symm
end G
end
section
set_option Elab.async false
set_option linter.all false
set_option maxRecDepth 100000
set_option maxHeartbeats 4000000
namespace G
open PySem Ab
/-- an EDIT -/
inductive Ed where
  | put (n a b : Str)
  | out (n : Str)
  | move (n a b : Str)
  | call (n m : Str)
def edD : Ed → PyData
  | .put n a b => .tuple [.str "put", .str n, .str a, .str b]
  | .out n => .tuple [.str "out", .str n]
  | .move n a b => .tuple [.str "move", .str n, .str a, .str b]
  | .call n m => .tuple [.str "call", .str n, .str m]
/-- what it raises -/
inductive Bad where
  | twice (n : Str)
  | arc (n : Str)
  | event (n : Str)
  | ring
def badE : Bad → AErr
  | .twice n => errE "Twice" "name" n
  | .arc n => errE "NoArc" "name" n
  | .event n => noEv n
  | .ring => ⟨"Ring", none⟩
def badD : Bad → PyData
  | .twice n => .list [.str "twice", .str n]
  | .arc n => .list [.str "arc", .str n]
  | .event n => .list [.str "event", .str n]
  | .ring => .list [.str "ring", .none]
def EdOk : Ed → Prop
  | .put n a b => PyData.strOk n = true ∧ PyData.strOk a = true ∧ PyData.strOk b = true
  | .out n => PyData.strOk n = true
  | .move n a b => PyData.strOk n = true ∧ PyData.strOk a = true ∧ PyData.strOk b = true
  | .call n m => PyData.strOk n = true ∧ PyData.strOk m = true
theorem srt_ex (as : List Arc) : ∃ bs : List Arc, sortD (arcsD as) = arcsD bs ∧ bs.Perm as := arcs_of (sort_p _)
noncomputable def srt (as : List Arc) : List Arc := Classical.choose (srt_ex as)
theorem srt_eq (as : List Arc) : sortD (arcsD as) = arcsD (srt as) := (Classical.choose_spec (srt_ex as)).1
theorem srt_perm (as : List Arc) : (srt as).Perm as := (Classical.choose_spec (srt_ex as)).2
open Classical in
noncomputable def putS (es : List Str) (as : List Arc) (n a b : Str) : Bad ⊕ List Arc := match [a, b].find? (fun e => !decide (e ∈ es)) with
  | some e => .inl (.event e)
  | none => if b = a ∨ Rc (prs as) b a then .inl .ring else .inr (srt (as ++ [(n, a, b)]))
def less (as : List Arc) (n : Str) : List Arc := as.filter fun x => !decide (x.1 = n)
noncomputable def stepS (es : List Str) (as : List Arc) : Ed → Bad ⊕ List Arc
  | .put n a b => if n ∈ as.map (·.1) then .inl (.twice n) else putS es as n a b
  | .out n => if n ∈ as.map (·.1) then .inr (less as n) else .inl (.arc n)
  | .move n a b => if n ∈ as.map (·.1) then putS es (less as n) n a b else .inl (.arc n)
  | .call n m => if n ∈ as.map (·.1) then if m ∈ as.map (·.1) then .inl (.twice m) else .inr (srt (less as n ++ ((as.filter fun x => decide (x.1 = n)).map fun x => (m, x.2)))) else .inl (.arc n)
structure Wb (es : List Str) (as : List Arc) (k : Nat) : Prop where
  le : es.length ≤ 8
  la : as.length ≤ k
  eo : EsOk es
  ao : AsOk as
  nd : (as.map (·.1)).Nodup
  en : ∀ a ∈ as, a.2.1 ∈ es ∧ a.2.2 ∈ es
theorem Wb.mono {es : List Str} {as : List Arc} {k m : Nat} (W : Wb es as k) (h : k ≤ m) : Wb es as m := ⟨W.le, Nat.le_trans W.la h, W.eo, W.ao, W.nd, W.en⟩
theorem Wb.like {es : List Str} {as : List Arc} {k : Nat} (W : Wb es as k) (h : k ≤ 16) : Like (webD es as) es as :=
  ⟨frz_web es as, okD_le (by omega) (ok_web W.eo W.ao (by have := W.le; omega) (by have := W.la; omega)), W.le, Nat.le_trans W.la h, W.eo, W.ao⟩
theorem Wb.sub {es : List Str} {as : List Arc} {k : Nat} (W : Wb es as k) (p : Arc → Bool) : Wb es (as.filter p) k :=
  ⟨W.le, Nat.le_trans (List.length_filter_le _ _) W.la, W.eo, fun a ha => W.ao a (List.mem_filter.mp ha).1, W.nd.sublist (List.Sublist.map _ List.filter_sublist), fun a ha => W.en a (List.mem_filter.mp ha).1⟩
theorem Wb.perm {es : List Str} {as bs : List Arc} {k : Nat} (W : Wb es as k) (h : bs.Perm as) : Wb es bs k :=
  ⟨W.le, by rw [h.length_eq]; exact W.la, W.eo, fun a ha => W.ao a (h.mem_iff.mp ha), (h.map _).nodup_iff.mpr W.nd, fun a ha => W.en a (h.mem_iff.mp ha)⟩
theorem less_no {as : List Arc} {n : Str} : n ∉ (less as n).map (·.1) := fun h => by
  obtain ⟨a, ha, e⟩ := List.mem_map.mp h
  have := (List.mem_filter.mp ha).2
  simp [e] at this
theorem find2 {es : List Str} {a b : Str} (h : [a, b].find? (fun e => !decide (e ∈ es)) = none) : a ∈ es ∧ b ∈ es := by
  have := List.find?_eq_none.mp h
  exact ⟨by simpa using this a (by simp), by simpa using this b (by simp)⟩
theorem putS_wb {es : List Str} {as : List Arc} {k : Nat} {n a b : Str} (W : Wb es as k) (hn : n ∉ as.map (·.1)) (h1 : PyData.strOk n = true) (h2 : PyData.strOk a = true) (h3 : PyData.strOk b = true) {bs : List Arc} (h : putS es as n a b = .inr bs) : Wb es bs (k + 1) := by
  unfold putS at h
  split at h
  · cases h
  · rename_i hf
    obtain ⟨ea, eb⟩ := find2 hf
    split at h
    · cases h
    · cases h
      have hW : Wb es (as ++ [(n, a, b)]) (k + 1) := by
        refine ⟨W.le, by simp; exact W.la, W.eo, fun x hx => ?_, ?_, fun x hx => ?_⟩
        · rcases List.mem_append.mp hx with q | q
          · exact W.ao x q
          · rw [List.mem_singleton.mp q]; exact ⟨h1, h2, h3⟩
        · rw [List.map_append, List.nodup_append]
          exact ⟨W.nd, by simp, fun x hx y hy => by
            rw [List.mem_singleton.mp hy]
            exact fun z => hn (by have z' : x = n := z; rw [← z']; exact hx)⟩
        · rcases List.mem_append.mp hx with q | q
          · exact W.en x q
          · rw [List.mem_singleton.mp q]; exact ⟨ea, eb⟩
      exact hW.perm (srt_perm _)
theorem one_arc {as : List Arc} (nd : (as.map (·.1)).Nodup) {a : Arc} (ha : a ∈ as) : as.filter (fun x => decide (x.1 = a.1)) = [a] := by
  induction as with
  | nil => cases ha
  | cons x as ih =>
    rw [List.map_cons, List.nodup_cons] at nd
    rcases List.mem_cons.mp ha with q | q
    · subst q
      rw [List.filter_cons_of_pos (by simp)]
      have : as.filter (fun x => decide (x.1 = a.1)) = [] := by
        rw [List.filter_eq_nil_iff]
        intro y hy
        simp only [decide_eq_true_eq]
        exact fun z => nd.1 (List.mem_map.mpr ⟨y, hy, z⟩)
      rw [this]
    · have hne : ¬ x.1 = a.1 := fun z => nd.1 (List.mem_map.mpr ⟨a, q, z.symm⟩)
      rw [List.filter_cons_of_neg (by simpa using hne)]
      exact ih nd.2 q
theorem stepS_wb {es : List Str} {as : List Arc} {k : Nat} (W : Wb es as k) (e : Ed) (he : EdOk e) {bs : List Arc} (h : stepS es as e = .inr bs) : Wb es bs (k + 1) := by
  cases e with
  | put n a b =>
    simp only [stepS] at h
    split at h
    · cases h
    · rename_i hn
      exact putS_wb W hn he.1 he.2.1 he.2.2 h
  | out n =>
    simp only [stepS] at h
    split at h
    · cases h
      exact (W.sub _).mono (by omega)
    · cases h
  | move n a b =>
    simp only [stepS] at h
    split at h
    · exact putS_wb (W.sub _) less_no he.1 he.2.1 he.2.2 h
    · cases h
  | call n m =>
    simp only [stepS] at h
    split at h
    · rename_i hn
      split at h
      · cases h
      · rename_i hm
        cases h
        obtain ⟨a, ha, rfl⟩ := List.mem_map.mp hn
        have h1 := one_arc W.nd ha
        rw [h1]
        have hW : Wb es (less as a.1 ++ [(m, a.2)]) (k + 1) := by
          have L := W.sub (fun x => !decide (x.1 = a.1))
          refine ⟨W.le, by have := L.la; unfold less; simp; omega, W.eo, fun x hx => ?_, ?_, fun x hx => ?_⟩
          · rcases List.mem_append.mp hx with q | q
            · exact L.ao x q
            · rw [List.mem_singleton.mp q]; exact ⟨he.2, (W.ao a ha).2⟩
          · rw [List.map_append, List.nodup_append]
            refine ⟨L.nd, by simp, fun x hx y hy => ?_⟩
            rw [List.mem_singleton.mp hy]
            intro z
            obtain ⟨c, hc, rfl⟩ := List.mem_map.mp hx
            have z' : c.1 = m := z
            exact hm (List.mem_map.mpr ⟨c, (List.mem_filter.mp hc).1, z'⟩)
          · rcases List.mem_append.mp hx with q | q
            · exact L.en x q
            · rw [List.mem_singleton.mp q]; exact W.en a ha
        exact hW.perm (srt_perm _)
    · cases h
end G
end
section
set_option Elab.async false
set_option linter.all false
set_option maxRecDepth 100000
set_option maxHeartbeats 4000000
namespace G
open PySem Ab
theorem sort_arcs_eq {as bs : List Arc} (nd : (as.map (·.1)).Nodup) (h : as.Perm bs) : sortD (arcsD as) = sortD (arcsD bs) := by
  have hp : (arcsD as).Perm (arcsD bs) := h.map _
  refine List.Perm.eq_of_pairwise (le := fun a b => leD a b = true) (fun x y hx hy h1 h2 => ?_) (sort_pw _) (sort_pw _) ((sort_p _).trans (hp.trans (sort_p _).symm))
  have hx' := (sort_p _).mem_iff.mp hx
  have hy' := hp.mem_iff.mpr ((sort_p _).mem_iff.mp hy)
  obtain ⟨a, ha, rfl⟩ := List.mem_map.mp hx'
  obtain ⟨b, hb, rfl⟩ := List.mem_map.mp hy'
  by_cases e : a.1 = b.1
  · have h1 := one_arc nd ha
    have h2 : b ∈ as.filter (fun x => decide (x.1 = a.1)) := List.mem_filter.mpr ⟨hb, by simp [e]⟩
    rw [h1] at h2
    rw [List.mem_singleton.mp h2]
  · rw [leD_arc e] at h1
    rw [leD_arc (fun z => e z.symm)] at h2
    exact absurd (leD_anti h1 h2) e
theorem ren_one (n m x : Str) : ren [(n, m)] x = if x = n then m else x := by
  unfold ren
  by_cases h : n = x
  · subst h; simp
  · have : ¬ x = n := fun z => h z.symm
    simp [h, this]
theorem ren_perm (as : List Arc) (n m : Str) : (less as n ++ ((as.filter fun x => decide (x.1 = n)).map fun x => (m, x.2))).Perm (as.map fun a => (ren [(n, m)] a.1, a.2)) := by
  have h1 := (List.filter_append_perm (fun x : Arc => decide (x.1 = n)) as).map (fun a : Arc => (ren [(n, m)] a.1, a.2))
  rw [List.map_append] at h1
  have e1 : (as.filter fun x => decide (x.1 = n)).map (fun a : Arc => (ren [(n, m)] a.1, a.2)) = (as.filter fun x => decide (x.1 = n)).map fun x => (m, x.2) := List.map_congr_left fun x hx => by
    have := (List.mem_filter.mp hx).2
    rw [ren_one, if_pos (by simpa using this)]
  have e2 : (as.filter fun x => !decide (x.1 = n)).map (fun a : Arc => (ren [(n, m)] a.1, a.2)) = less as n := by
    have : (less as n).map (fun a : Arc => (ren [(n, m)] a.1, a.2)) = (less as n).map id := List.map_congr_left fun x hx => by
      have := (List.mem_filter.mp hx).2
      rw [ren_one, if_neg (by simpa using this)]
      rfl
    rw [List.map_id] at this
    exact this
  rw [e1, e2] at h1
  exact List.perm_append_comm.trans h1
theorem srt_call {es : List Str} {as : List Arc} {k : Nat} (W : Wb es as k) {n m : Str} (hn : n ∈ as.map (·.1)) (hm : m ∉ as.map (·.1)) : sortD (arcsD (as.map fun a => (ren [(n, m)] a.1, a.2))) = arcsD (srt (less as n ++ ((as.filter fun x => decide (x.1 = n)).map fun x => (m, x.2)))) := by
  rw [← srt_eq]
  refine (sort_arcs_eq ?_ (ren_perm as n m)).symm
  obtain ⟨a, ha, rfl⟩ := List.mem_map.mp hn
  rw [one_arc W.nd ha]
  have L := W.sub (fun x => !decide (x.1 = a.1))
  rw [List.map_append, List.nodup_append]
  refine ⟨L.nd, by simp, fun x hx y hy => ?_⟩
  rw [List.mem_singleton.mp hy]
  intro z
  obtain ⟨c, hc, rfl⟩ := List.mem_map.mp hx
  have z' : c.1 = m := z
  exact hm (List.mem_map.mpr ⟨c, (List.mem_filter.mp hc).1, z'⟩)
theorem dc_ends {M : ASto} : ∀ (as : List Arc) (acc : List (L2.Key × Sl)) (ds : AEnv), ds.length = 4 → closedC 0 (.dct acc) = true → ∃ kvs, aDcL (aGTup 3 (aGCons (aNm 1) (aGCons (aNm 2) (aGCons (aNm 3) aGNil)))) aYes (aVar 1) (aTup (aCons (aVar 2) (aCons (aVar 3) aNil))) ds ((arcsD as).map Sl.d) acc M = .ok kvs M ∧ closedC 0 (.dct kvs) = true ∧ ∀ n : Str, (lkS kvs (.inr n)).isSome = ((lkS acc (.inr n)).isSome || decide (n ∈ as.map (·.1)))
  | [], acc, ds, hd, hc => ⟨acc, rfl, hc, fun n => by simp⟩
  | a :: as, acc, ds, hd, hc => by
    match ds, hd with
    | [d0, d1, d2, d3], _ =>
      obtain ⟨kvs, e, c, h⟩ := dc_ends (M := M) as (Ab.putS acc (.inr a.1) (.d (.tuple [.str a.2.1, .str a.2.2]))) [d0, d1, d2, d3] rfl (put_cl hc)
      refine ⟨kvs, ?_, c, fun n => ?_⟩
      · have hs : (arcsD (a :: as)).map Sl.d = Sl.d (arcD a) :: (arcsD as).map Sl.d := rfl
        have g : aGTup 3 (aGCons (aNm 1) (aGCons (aNm 2) (aGCons (aNm 3) aGNil))) (.d (arcD a)) [d0, d1, d2, d3] = some [d0, some (.d (.str a.1)), some (.d (.str a.2.1)), some (.d (.str a.2.2))] := rfl
        have h1 : (aVar 1) [d0, some (.d (.str a.1)), some (.d (.str a.2.1)), some (.d (.str a.2.2))] M = .ok (.d (.str a.1)) M := rfl
        have h2 : (aTup (aCons (aVar 2) (aCons (aVar 3) aNil))) [d0, some (.d (.str a.1)), some (.d (.str a.2.1)), some (.d (.str a.2.2))] M = .ok (.d (.tuple [.str a.2.1, .str a.2.2])) M := rfl
        rw [hs]
        unfold aDcL
        rw [g]
        dsimp only [aYes]
        rw [h1]
        dsimp only
        rw [h2]
        dsimp only [keyS, keyD]
        exact e
      · rw [h, lk_put, inr_dec, List.map_cons, Bool.or_assoc]
        congr 1
        by_cases q : a.1 = n
        · subst q; simp
        · have q2 : ¬ n = a.1 := fun z => q z.symm
          simp [q, q2]
theorem ends_ok {es : List Str} {as : List Arc} (hl : as.length ≤ 16) (M : ASto) : ∃ kvs, m_ends_of [.d (webD es as)] M = .ok (.r M.length) (M ++ [.dct kvs]) ∧ closedC 0 (.dct kvs) = true ∧ ∀ n : Str, (lkS kvs (.inr n)).isSome = decide (n ∈ as.map (·.1)) := by
  obtain ⟨kvs, e, c, h⟩ := dc_ends (M := M) as [] [some (.d (webD es as)), none, none, none] rfl rfl
  refine ⟨kvs, ?_, c, fun n => by rw [h]; simp [lkS]⟩
  have h2 : (arcsD as).length ≤ 100000 := by rw [arcs_len]; omega
  have i1 : L2.atI [PyData.tuple (strsD es), .tuple (arcsD as)] 1 = some (.tuple (arcsD as)) := rfl
  rw [webD] at e
  unfold m_ends_of b_ends_of runO
  rw [webD]
  simp only [aSeq_eq, oSeq_nx, oSeq_rt, oSeq_ex, ↓bind_L, bind_ok, bind_ex, ↓resO_L, resO_ok, resO_ex, aIf, aRet, aAsg, aNm, aVar, aC, aOp, aCall, aCall0, aCons, aNil, aTest, aDrop, aNext, aTup, aLst, allD, aGTup, aGCons, aGNil, noEx, fnR, aNot, aAnd, aOr, aIfE, aPar, aPar3, startA, List.replicate, aI2, aI2C, add_ii, sub_ok, lt_ok, gt_ok, le_ok, ge_ok, aInt1, aAbs, aAndV, aOrV, aNotV, aIx, aSetIx, mod_ok, Nat.reduceAdd, Nat.reduceSub, Nat.zero_add, ixN0, ixNp, Option.bind_some, List.set_cons_zero, List.set_cons_succ, decide_eq_true_eq, decide_true, if_true, if_false, reduceIte, Bool.false_eq_true, ne_eq, aPart, aNoPart, aLen, aMin2, aLstC, List.length_cons, List.length_nil, List.map_cons, List.map_nil, List.cons_append, List.nil_append, List.getElem?_cons_zero, List.getElem?_cons_succ, List.append_assoc, List.length_append, Nat.zero_le, Nat.reduceLeDiff, Nat.le_refl, vwS, vwL, Option.map_some, i1, aDc, iSeqA, List.length_map, h2, wipeA, e]
end G
end
section
set_option Elab.async false
set_option linter.all false
set_option maxRecDepth 100000
set_option maxHeartbeats 4000000
namespace G
open PySem Ab
theorem k_put : PyData.strOk "put" = true := by decide +kernel
theorem k_out : PyData.strOk "out" = true := by decide +kernel
theorem k_move : PyData.strOk "move" = true := by decide +kernel
theorem k_call : PyData.strOk "call" = true := by decide +kernel
theorem e_pp : decide (("put" : Str) = "put") = true := by decide +kernel
theorem e_oo : decide (("out" : Str) = "out") = true := by decide +kernel
theorem e_mm : decide (("move" : Str) = "move") = true := by decide +kernel
theorem e_op : decide (("out" : Str) = "put") = false := by decide +kernel
theorem e_mp : decide (("move" : Str) = "put") = false := by decide +kernel
theorem e_mo : decide (("move" : Str) = "out") = false := by decide +kernel
theorem e_cp : decide (("call" : Str) = "put") = false := by decide +kernel
theorem e_co : decide (("call" : Str) = "out") = false := by decide +kernel
theorem e_cm : decide (("call" : Str) = "move") = false := by decide +kernel
/-- what the program's own step gives -/
def resE (es : List Str) (r : Bad ⊕ List Arc) (M : ASto) : Res Sl := match r with
  | .inr bs => .ok (.d (webD es bs)) M
  | .inl b => .ex (badE b) M
theorem with_put {es : List Str} {as : List Arc} {k : Nat} (W : Wb es as k) (hk : k ≤ 15) {M : ASto} (cl : Cl M) {n a b : Str} (hn : PyData.strOk n = true) (ha : PyData.strOk a = true) (hb : PyData.strOk b = true) (hno : n ∉ as.map (·.1)) :
    m_with_arc [.d (webD es as), .d (.str n), .d (.str a), .d (.str b)] M = resE es (putS es as n a b) M := by
  have L := W.like (by omega : k ≤ 16)
  rw [with_arc_ok L L W.en cl hn ha hb, if_neg hno]
  unfold putS resE
  cases qf : [a, b].find? (fun e => !decide (e ∈ es)) with
  | some e => rfl
  | none =>
    dsimp only
    by_cases qr : b = a ∨ Rc (prs as) b a
    · rw [if_pos qr, if_pos qr]; rfl
    · rw [if_neg qr, if_neg qr, srt_eq]; rfl
theorem close_res {es : List Str} {r : Bad ⊕ List Arc} {M : ASto} (cl : Cl M) : closeR M.length (resE es r M) = resE es r M := by
  unfold resE
  cases r with
  | inr bs => exact close_ok rfl cl
  | inl b => exact close_ex0 cl
theorem rt_res {es : List Str} {r : Bad ⊕ List Arc} {M : ASto} : fnR (resO (resE es r M) fun s M1 => .rt s M1) = resE es r M := by
  unfold resE
  cases r <;> rfl
theorem behind_ok {es : List Str} {as : List Arc} {k : Nat} (W : Wb es as k) (hk : k ≤ 15) {M : ASto} (cl : Cl M) (e : Ed) (he : EdOk e) :
    m__behind_edit [.d (webD es as), .d (edD e)] M = resE es (stepS es as e) M := by
  have L := W.like (by omega : k ≤ 16)
  cases e with
  | put n a b =>
    obtain ⟨hn, ha, hb⟩ := he
    have i0 : L2.atI [PyData.str "put", .str n, .str a, .str b] 0 = some (.str "put") := rfl
    have i1 : L2.atI [PyData.str "put", .str n, .str a, .str b] 1 = some (.str n) := rfl
    have i2 : L2.atI [PyData.str "put", .str n, .str a, .str b] 2 = some (.str a) := rfl
    have i3 : L2.atI [PyData.str "put", .str n, .str a, .str b] 3 = some (.str b) := rfl
    have hw : m_with_arc [.d (webD es as), .d (.str n), .d (.str a), .d (.str b)] M = resE es (stepS es as (.put n a b)) M := by
      simp only [stepS]
      by_cases q : n ∈ as.map (·.1)
      · rw [if_pos q, with_arc_ok L L W.en cl hn ha hb, if_pos q]; rfl
      · rw [if_neg q]; exact with_put W hk cl hn ha hb q
    unfold m__behind_edit b__behind_edit runD
    rw [← close_res cl]
    congr 1
    cases hr : resE es (stepS es as (.put n a b)) M with
    | ok s M1 =>
      rw [hr] at hw
      simp only [aSeq_eq, oSeq_nx, oSeq_rt, oSeq_ex, ↓bind_L, bind_ok, bind_ex, ↓resO_L, resO_ok, resO_ex, aIf, aRet, aAsg, aNm, aVar, aC, aOp, aCall, aCall0, aCons, aNil, aTest, aDrop, aNext, aTup, aLst, allD, aGTup, aGCons, aGNil, noEx, fnR, aNot, aAnd, aOr, aIfE, aPar, aPar3, startA, List.replicate, aI2, aI2C, add_ii, sub_ok, lt_ok, gt_ok, le_ok, ge_ok, aInt1, aAbs, aAndV, aOrV, aNotV, aIx, aSetIx, mod_ok, Nat.reduceAdd, Nat.reduceSub, Nat.zero_add, ixN0, ixNp, Option.bind_some, List.set_cons_zero, List.set_cons_succ, decide_eq_true_eq, decide_true, if_true, if_false, reduceIte, Bool.false_eq_true, ne_eq, aPart, aNoPart, aLen, aMin2, aLstC, List.length_cons, List.length_nil, List.map_cons, List.map_nil, List.cons_append, List.nil_append, List.getElem?_cons_zero, List.getElem?_cons_succ, List.append_assoc, List.length_append, Nat.zero_le, Nat.reduceLeDiff, Nat.le_refl, vwS, vwL, Option.map_some, edD, i0, i1, i2, i3, eq_ss, k_put, e_pp, hw]
    | ex s M1 =>
      rw [hr] at hw
      simp only [aSeq_eq, oSeq_nx, oSeq_rt, oSeq_ex, ↓bind_L, bind_ok, bind_ex, ↓resO_L, resO_ok, resO_ex, aIf, aRet, aAsg, aNm, aVar, aC, aOp, aCall, aCall0, aCons, aNil, aTest, aDrop, aNext, aTup, aLst, allD, aGTup, aGCons, aGNil, noEx, fnR, aNot, aAnd, aOr, aIfE, aPar, aPar3, startA, List.replicate, aI2, aI2C, add_ii, sub_ok, lt_ok, gt_ok, le_ok, ge_ok, aInt1, aAbs, aAndV, aOrV, aNotV, aIx, aSetIx, mod_ok, Nat.reduceAdd, Nat.reduceSub, Nat.zero_add, ixN0, ixNp, Option.bind_some, List.set_cons_zero, List.set_cons_succ, decide_eq_true_eq, decide_true, if_true, if_false, reduceIte, Bool.false_eq_true, ne_eq, aPart, aNoPart, aLen, aMin2, aLstC, List.length_cons, List.length_nil, List.map_cons, List.map_nil, List.cons_append, List.nil_append, List.getElem?_cons_zero, List.getElem?_cons_succ, List.append_assoc, List.length_append, Nat.zero_le, Nat.reduceLeDiff, Nat.le_refl, vwS, vwL, Option.map_some, edD, i0, i1, i2, i3, eq_ss, k_put, e_pp, hw]
    | no => unfold resE at hr; split at hr <;> cases hr
  | out n =>
    have hn : PyData.strOk n = true := he
    have i0 : L2.atI [PyData.str "out", .str n] 0 = some (.str "out") := rfl
    have i1 : L2.atI [PyData.str "out", .str n] 1 = some (.str n) := rfl
    have hw : m_without_arc [.d (webD es as), .d (.str n)] M = resE es (stepS es as (.out n)) M := by
      simp only [stepS]
      rw [without_arc_ok L cl hn]
      by_cases q : n ∈ as.map (·.1)
      · rw [if_pos q, if_pos q]; rfl
      · rw [if_neg q, if_neg q]; rfl
    unfold m__behind_edit b__behind_edit runD
    rw [← close_res cl]
    congr 1
    cases hr : resE es (stepS es as (.out n)) M with
    | ok s M1 =>
      rw [hr] at hw
      simp only [aSeq_eq, oSeq_nx, oSeq_rt, oSeq_ex, ↓bind_L, bind_ok, bind_ex, ↓resO_L, resO_ok, resO_ex, aIf, aRet, aAsg, aNm, aVar, aC, aOp, aCall, aCall0, aCons, aNil, aTest, aDrop, aNext, aTup, aLst, allD, aGTup, aGCons, aGNil, noEx, fnR, aNot, aAnd, aOr, aIfE, aPar, aPar3, startA, List.replicate, aI2, aI2C, add_ii, sub_ok, lt_ok, gt_ok, le_ok, ge_ok, aInt1, aAbs, aAndV, aOrV, aNotV, aIx, aSetIx, mod_ok, Nat.reduceAdd, Nat.reduceSub, Nat.zero_add, ixN0, ixNp, Option.bind_some, List.set_cons_zero, List.set_cons_succ, decide_eq_true_eq, decide_true, if_true, if_false, reduceIte, Bool.false_eq_true, ne_eq, aPart, aNoPart, aLen, aMin2, aLstC, List.length_cons, List.length_nil, List.map_cons, List.map_nil, List.cons_append, List.nil_append, List.getElem?_cons_zero, List.getElem?_cons_succ, List.append_assoc, List.length_append, Nat.zero_le, Nat.reduceLeDiff, Nat.le_refl, vwS, vwL, Option.map_some, edD, i0, i1, eq_ss, k_put, k_out, e_op, e_oo, hw]
    | ex s M1 =>
      rw [hr] at hw
      simp only [aSeq_eq, oSeq_nx, oSeq_rt, oSeq_ex, ↓bind_L, bind_ok, bind_ex, ↓resO_L, resO_ok, resO_ex, aIf, aRet, aAsg, aNm, aVar, aC, aOp, aCall, aCall0, aCons, aNil, aTest, aDrop, aNext, aTup, aLst, allD, aGTup, aGCons, aGNil, noEx, fnR, aNot, aAnd, aOr, aIfE, aPar, aPar3, startA, List.replicate, aI2, aI2C, add_ii, sub_ok, lt_ok, gt_ok, le_ok, ge_ok, aInt1, aAbs, aAndV, aOrV, aNotV, aIx, aSetIx, mod_ok, Nat.reduceAdd, Nat.reduceSub, Nat.zero_add, ixN0, ixNp, Option.bind_some, List.set_cons_zero, List.set_cons_succ, decide_eq_true_eq, decide_true, if_true, if_false, reduceIte, Bool.false_eq_true, ne_eq, aPart, aNoPart, aLen, aMin2, aLstC, List.length_cons, List.length_nil, List.map_cons, List.map_nil, List.cons_append, List.nil_append, List.getElem?_cons_zero, List.getElem?_cons_succ, List.append_assoc, List.length_append, Nat.zero_le, Nat.reduceLeDiff, Nat.le_refl, vwS, vwL, Option.map_some, edD, i0, i1, eq_ss, k_put, k_out, e_op, e_oo, hw]
    | no => unfold resE at hr; split at hr <;> cases hr
  | move n a b =>
    obtain ⟨hn, ha, hb⟩ := he
    have i0 : L2.atI [PyData.str "move", .str n, .str a, .str b] 0 = some (.str "move") := rfl
    have i1 : L2.atI [PyData.str "move", .str n, .str a, .str b] 1 = some (.str n) := rfl
    have i2 : L2.atI [PyData.str "move", .str n, .str a, .str b] 2 = some (.str a) := rfl
    have i3 : L2.atI [PyData.str "move", .str n, .str a, .str b] 3 = some (.str b) := rfl
    have h1 := without_arc_ok L cl hn
    by_cases q : n ∈ as.map (·.1)
    · rw [if_pos q] at h1
      have hw := with_put (W.sub fun x => !decide (x.1 = n)) hk cl hn ha hb less_no
      have hs : stepS es as (.move n a b) = putS es (less as n) n a b := by simp only [stepS]; rw [if_pos q]
      rw [hs]
      unfold m__behind_edit b__behind_edit runD
      rw [← close_res cl]
      congr 1
      have hw' : m_with_arc [.d (.tuple [.tuple (strsD es), .tuple (arcsD (as.filter fun x => !decide (x.1 = n)))]), .d (.str n), .d (.str a), .d (.str b)] M = resE es (putS es (less as n) n a b) M := hw
      cases hr : resE es (putS es (less as n) n a b) M with
      | ok s M1 =>
        rw [hr] at hw'
        simp only [aSeq_eq, oSeq_nx, oSeq_rt, oSeq_ex, ↓bind_L, bind_ok, bind_ex, ↓resO_L, resO_ok, resO_ex, aIf, aRet, aAsg, aNm, aVar, aC, aOp, aCall, aCall0, aCons, aNil, aTest, aDrop, aNext, aTup, aLst, allD, aGTup, aGCons, aGNil, noEx, fnR, aNot, aAnd, aOr, aIfE, aPar, aPar3, startA, List.replicate, aI2, aI2C, add_ii, sub_ok, lt_ok, gt_ok, le_ok, ge_ok, aInt1, aAbs, aAndV, aOrV, aNotV, aIx, aSetIx, mod_ok, Nat.reduceAdd, Nat.reduceSub, Nat.zero_add, ixN0, ixNp, Option.bind_some, List.set_cons_zero, List.set_cons_succ, decide_eq_true_eq, decide_true, if_true, if_false, reduceIte, Bool.false_eq_true, ne_eq, aPart, aNoPart, aLen, aMin2, aLstC, List.length_cons, List.length_nil, List.map_cons, List.map_nil, List.cons_append, List.nil_append, List.getElem?_cons_zero, List.getElem?_cons_succ, List.append_assoc, List.length_append, Nat.zero_le, Nat.reduceLeDiff, Nat.le_refl, vwS, vwL, Option.map_some, edD, i0, i1, i2, i3, eq_ss, k_put, k_out, k_move, e_mp, e_mo, e_mm, h1, hw']
      | ex s M1 =>
        rw [hr] at hw'
        simp only [aSeq_eq, oSeq_nx, oSeq_rt, oSeq_ex, ↓bind_L, bind_ok, bind_ex, ↓resO_L, resO_ok, resO_ex, aIf, aRet, aAsg, aNm, aVar, aC, aOp, aCall, aCall0, aCons, aNil, aTest, aDrop, aNext, aTup, aLst, allD, aGTup, aGCons, aGNil, noEx, fnR, aNot, aAnd, aOr, aIfE, aPar, aPar3, startA, List.replicate, aI2, aI2C, add_ii, sub_ok, lt_ok, gt_ok, le_ok, ge_ok, aInt1, aAbs, aAndV, aOrV, aNotV, aIx, aSetIx, mod_ok, Nat.reduceAdd, Nat.reduceSub, Nat.zero_add, ixN0, ixNp, Option.bind_some, List.set_cons_zero, List.set_cons_succ, decide_eq_true_eq, decide_true, if_true, if_false, reduceIte, Bool.false_eq_true, ne_eq, aPart, aNoPart, aLen, aMin2, aLstC, List.length_cons, List.length_nil, List.map_cons, List.map_nil, List.cons_append, List.nil_append, List.getElem?_cons_zero, List.getElem?_cons_succ, List.append_assoc, List.length_append, Nat.zero_le, Nat.reduceLeDiff, Nat.le_refl, vwS, vwL, Option.map_some, edD, i0, i1, i2, i3, eq_ss, k_put, k_out, k_move, e_mp, e_mo, e_mm, h1, hw']
      | no => unfold resE at hr; split at hr <;> cases hr
    · rw [if_neg q] at h1
      have hs : stepS es as (.move n a b) = .inl (.arc n) := by simp only [stepS]; rw [if_neg q]
      rw [hs]
      unfold m__behind_edit b__behind_edit runD
      simp only [aSeq_eq, oSeq_nx, oSeq_rt, oSeq_ex, ↓bind_L, bind_ok, bind_ex, ↓resO_L, resO_ok, resO_ex, aIf, aRet, aAsg, aNm, aVar, aC, aOp, aCall, aCall0, aCons, aNil, aTest, aDrop, aNext, aTup, aLst, allD, aGTup, aGCons, aGNil, noEx, fnR, aNot, aAnd, aOr, aIfE, aPar, aPar3, startA, List.replicate, aI2, aI2C, add_ii, sub_ok, lt_ok, gt_ok, le_ok, ge_ok, aInt1, aAbs, aAndV, aOrV, aNotV, aIx, aSetIx, mod_ok, Nat.reduceAdd, Nat.reduceSub, Nat.zero_add, ixN0, ixNp, Option.bind_some, List.set_cons_zero, List.set_cons_succ, decide_eq_true_eq, decide_true, if_true, if_false, reduceIte, Bool.false_eq_true, ne_eq, aPart, aNoPart, aLen, aMin2, aLstC, List.length_cons, List.length_nil, List.map_cons, List.map_nil, List.cons_append, List.nil_append, List.getElem?_cons_zero, List.getElem?_cons_succ, List.append_assoc, List.length_append, Nat.zero_le, Nat.reduceLeDiff, Nat.le_refl, vwS, vwL, Option.map_some, edD, i0, i1, i2, i3, eq_ss, k_put, k_out, k_move, e_mp, e_mo, e_mm, h1]
      exact close_ex0 cl
  | call n m =>
    obtain ⟨hn, hm⟩ := he
    have i0 : L2.atI [PyData.str "call", .str n, .str m] 0 = some (.str "call") := rfl
    have i1 : L2.atI [PyData.str "call", .str n, .str m] 1 = some (.str n) := rfl
    have i2 : L2.atI [PyData.str "call", .str n, .str m] 2 = some (.str m) := rfl
    obtain ⟨kvs, h1, hc, hl⟩ := ends_ok (es := es) (as := as) (by have := W.la; omega) M
    have clk : Cl (M ++ [.dct kvs]) := cl.app (.one hc)
    have hat : (M ++ [Cell.dct kvs])[M.length]? = some (.dct kvs) := at_end rfl
    unfold m__behind_edit b__behind_edit runD
    by_cases q : n ∈ as.map (·.1)
    · by_cases q2 : m ∈ as.map (·.1)
      · have hs : stepS es as (.call n m) = .inl (.twice m) := by simp only [stepS]; rw [if_pos q, if_pos q2]
        rw [hs]
        simp only [aSeq_eq, oSeq_nx, oSeq_rt, oSeq_ex, ↓bind_L, bind_ok, bind_ex, ↓resO_L, resO_ok, resO_ex, aIf, aRet, aAsg, aNm, aVar, aC, aOp, aCall, aCall0, aCons, aNil, aTest, aDrop, aNext, aTup, aLst, allD, aGTup, aGCons, aGNil, noEx, fnR, aNot, aAnd, aOr, aIfE, aPar, aPar3, startA, List.replicate, aI2, aI2C, add_ii, sub_ok, lt_ok, gt_ok, le_ok, ge_ok, aInt1, aAbs, aAndV, aOrV, aNotV, aIx, aSetIx, mod_ok, Nat.reduceAdd, Nat.reduceSub, Nat.zero_add, ixN0, ixNp, Option.bind_some, List.set_cons_zero, List.set_cons_succ, decide_eq_true_eq, decide_true, if_true, if_false, reduceIte, Bool.false_eq_true, ne_eq, aPart, aNoPart, aLen, aMin2, aLstC, List.length_cons, List.length_nil, List.map_cons, List.map_nil, List.cons_append, List.nil_append, List.getElem?_cons_zero, List.getElem?_cons_succ, List.append_assoc, List.length_append, Nat.zero_le, Nat.reduceLeDiff, Nat.le_refl, vwS, vwL, Option.map_some, edD, i0, i1, i2, eq_ss, k_put, k_out, k_move, k_call, e_cp, e_co, e_cm, h1, aInK, dctAt, hat, keyS, keyD, hl, q, q2, Bool.not_true, aRaiseF]
        exact close_ex rfl cl
      · have hs : stepS es as (.call n m) = .inr (srt (less as n ++ ((as.filter fun x => decide (x.1 = n)).map fun x => (m, x.2)))) := by simp only [stepS]; rw [if_pos q, if_neg q2]
        rw [hs]
        have hr := renamed_ok (p := pairsDt [(n, m)]) (qs := [(n, m)]) L clk (frz_pairs _) (okD_le (by omega) (ok_pairs (by simpa using ⟨hn, hm⟩) (by simp))) (by simp) (by simp) (by simpa using q)
        rw [srt_call W q q2] at hr
        have hp : pairsDt [(n, m)] = .tuple [.tuple [.str n, .str m]] := rfl
        rw [hp] at hr
        have sl : ∀ d0 d2 M, aSl (aVar 1) (aPart (aC (.int 1))) aNoPart [d0, some (.d (.tuple [.str "call", .str n, .str m])), d2] M = .ok (.d (.tuple [.str n, .str m])) M := fun _ _ _ => rfl
        simp only [aSeq_eq, oSeq_nx, oSeq_rt, oSeq_ex, ↓bind_L, bind_ok, bind_ex, ↓resO_L, resO_ok, resO_ex, aIf, aRet, aAsg, aNm, aVar, aC, aOp, aCall, aCall0, aCons, aNil, aTest, aDrop, aNext, aTup, aLst, allD, aGTup, aGCons, aGNil, noEx, fnR, aNot, aAnd, aOr, aIfE, aPar, aPar3, startA, List.replicate, aI2, aI2C, add_ii, sub_ok, lt_ok, gt_ok, le_ok, ge_ok, aInt1, aAbs, aAndV, aOrV, aNotV, aIx, aSetIx, mod_ok, Nat.reduceAdd, Nat.reduceSub, Nat.zero_add, ixN0, ixNp, Option.bind_some, List.set_cons_zero, List.set_cons_succ, decide_eq_true_eq, decide_true, if_true, if_false, reduceIte, Bool.false_eq_true, ne_eq, aPart, aNoPart, aLen, aMin2, aLstC, List.length_cons, List.length_nil, List.map_cons, List.map_nil, List.cons_append, List.nil_append, List.getElem?_cons_zero, List.getElem?_cons_succ, List.append_assoc, List.length_append, Nat.zero_le, Nat.reduceLeDiff, Nat.le_refl, vwS, vwL, Option.map_some, edD, i0, i1, i2, eq_ss, k_put, k_out, k_move, k_call, e_cp, e_co, e_cm, h1, aInK, dctAt, hat, keyS, keyD, hl, q, q2, Bool.not_true, decide_false, sl, hr]
        exact close_app rfl cl
    · have hs : stepS es as (.call n m) = .inl (.arc n) := by simp only [stepS]; rw [if_neg q]
      rw [hs]
      simp only [aSeq_eq, oSeq_nx, oSeq_rt, oSeq_ex, ↓bind_L, bind_ok, bind_ex, ↓resO_L, resO_ok, resO_ex, aIf, aRet, aAsg, aNm, aVar, aC, aOp, aCall, aCall0, aCons, aNil, aTest, aDrop, aNext, aTup, aLst, allD, aGTup, aGCons, aGNil, noEx, fnR, aNot, aAnd, aOr, aIfE, aPar, aPar3, startA, List.replicate, aI2, aI2C, add_ii, sub_ok, lt_ok, gt_ok, le_ok, ge_ok, aInt1, aAbs, aAndV, aOrV, aNotV, aIx, aSetIx, mod_ok, Nat.reduceAdd, Nat.reduceSub, Nat.zero_add, ixN0, ixNp, Option.bind_some, List.set_cons_zero, List.set_cons_succ, decide_eq_true_eq, decide_true, if_true, if_false, reduceIte, Bool.false_eq_true, ne_eq, aPart, aNoPart, aLen, aMin2, aLstC, List.length_cons, List.length_nil, List.map_cons, List.map_nil, List.cons_append, List.nil_append, List.getElem?_cons_zero, List.getElem?_cons_succ, List.append_assoc, List.length_append, Nat.zero_le, Nat.reduceLeDiff, Nat.le_refl, vwS, vwL, Option.map_some, edD, i0, i1, i2, eq_ss, k_put, k_out, k_move, k_call, e_cp, e_co, e_cm, h1, aInK, dctAt, hat, keyS, keyD, hl, q, decide_false, Bool.not_false, aRaiseF]
      exact close_ex rfl cl
end G
end
section
set_option Elab.async false
set_option linter.all false
set_option maxRecDepth 100000
set_option maxHeartbeats 4000000
namespace G
open PySem Ab
noncomputable def allS (es : List Str) : List Arc → List Ed → Nat → (Nat × Bad) ⊕ List Arc
  | as, [], _ => .inr as
  | as, e :: r, i => match stepS es as e with
    | .inl b => .inl (i, b)
    | .inr bs => allS es bs r (i + 1)
theorem all_wb {es : List Str} : ∀ (eds : List Ed) (as : List Arc) (k i : Nat), Wb es as k → (∀ e ∈ eds, EdOk e) → ∀ bs, allS es as eds i = .inr bs → Wb es bs (k + eds.length)
  | [], as, k, i, W, _, bs, h => by
    simp only [allS] at h
    cases h
    exact W
  | e :: r, as, k, i, W, he, bs, h => by
    simp only [allS] at h
    split at h
    · cases h
    · rename_i cs hs
      have := all_wb r cs (k + 1) (i + 1) (stepS_wb W e (he e (by simp)) hs) (fun x hx => he x (by simp [hx])) bs h
      exact this.mono (by simp; omega)
def edsD (eds : List Ed) : PyData := .tuple (eds.map edD)
abbrev edB : AEnv → ASto → Out := aAsg (aCall m__behind_edit (aCons (aVar 2) (aCons (aVar 3) aNil))) (aNm 2)
theorem ed_loop {es : List Str} {w v : Sl} {M : ASto} (cl : Cl M) : ∀ (eds : List Ed) (as : List Arc) (k i : Nat) (s3 : Option Sl), Wb es as k → k + eds.length ≤ 16 → (∀ e ∈ eds, EdOk e) →
    (match allS es as eds i with
      | .inr bs => ∃ s3', aForL (aNm 3) edB ((eds.map edD).map Sl.d) [some w, some v, some (.d (webD es as)), s3] M = .nx [some w, some v, some (.d (webD es bs)), s3'] M
      | .inl (_, b) => aForL (aNm 3) edB ((eds.map edD).map Sl.d) [some w, some v, some (.d (webD es as)), s3] M = .ex (badE b) M)
  | [], as, k, i, s3, W, hk, he => ⟨s3, rfl⟩
  | e :: r, as, k, i, s3, W, hk, he => by
    have hb := behind_ok W (by simp at hk; omega) cl e (he e (by simp))
    have hs : ((e :: r).map edD).map Sl.d = Sl.d (edD e) :: (r.map edD).map Sl.d := rfl
    have body : edB [some w, some v, some (.d (webD es as)), some (.d (edD e))] M = resO (resE es (stepS es as e) M) fun s M1 => .nx [some w, some v, some s, some (.d (edD e))] M1 := by
      rw [← hb]
      unfold edB
      cases hq : m__behind_edit [.d (webD es as), .d (edD e)] M <;> simp only [aSeq_eq, oSeq_nx, oSeq_rt, oSeq_ex, ↓bind_L, bind_ok, bind_ex, ↓resO_L, resO_ok, resO_ex, aIf, aRet, aAsg, aNm, aVar, aC, aOp, aCall, aCall0, aCons, aNil, aTest, aDrop, aNext, aTup, aLst, allD, aGTup, aGCons, aGNil, noEx, fnR, aNot, aAnd, aOr, aIfE, aPar, aPar3, startA, List.replicate, aI2, aI2C, add_ii, sub_ok, lt_ok, gt_ok, le_ok, ge_ok, aInt1, aAbs, aAndV, aOrV, aNotV, aIx, aSetIx, mod_ok, Nat.reduceAdd, Nat.reduceSub, Nat.zero_add, ixN0, ixNp, Option.bind_some, List.set_cons_zero, List.set_cons_succ, decide_eq_true_eq, decide_true, if_true, if_false, reduceIte, Bool.false_eq_true, ne_eq, aPart, aNoPart, aLen, aMin2, aLstC, List.length_cons, List.length_nil, List.map_cons, List.map_nil, List.cons_append, List.nil_append, List.getElem?_cons_zero, List.getElem?_cons_succ, List.append_assoc, List.length_append, Nat.zero_le, Nat.reduceLeDiff, Nat.le_refl, vwS, vwL, Option.map_some, hq] <;> rfl
    rw [hs]
    unfold aForL
    dsimp only [aNm, List.set_cons_zero, List.set_cons_succ]
    rw [body]
    simp only [allS]
    cases hst : stepS es as e with
    | inl b => rfl
    | inr bs =>
      have ih := ed_loop (w := w) (v := v) cl r bs (k + 1) (i + 1) (some (.d (edD e))) (stepS_wb W e (he e (by simp)) hst) (by simp at hk; omega) fun x hx => he x (by simp [hx])
      exact ih
/-- what is handed in as EDITS -/
structure Elike (v : PyData) (eds : List Ed) : Prop where
  fz : frozenD v = edsD eds
  ok : okD 10 v
  eo : ∀ e ∈ eds, EdOk e
theorem frz_e {v : PyData} {eds : List Ed} (L : Elike v eds) {M : ASto} (cl : Cl M) : m_frozen [.d v] M = .ok (.d (.tuple (eds.map edD))) M := by
  have := frozen_ok cl 10 v L.ok
  rw [L.fz] at this
  exact this
theorem edited_ok {w v : PyData} {es : List Str} {as : List Arc} {k : Nat} {eds : List Ed} (L : Like w es as) (W : Wb es as k) (E : Elike v eds) (hk : k + eds.length ≤ 16) {M : ASto} (cl : Cl M) :
    m_edited [.d w, .d v] M = match allS es as eds 0 with
      | .inr bs => .ok (.d (webD es bs)) M
      | .inl (_, b) => .ex (badE b) M := by
  have hl := ed_loop (w := .d w) (v := .d v) cl eds as k 0 none W hk E.eo
  have h2 : ((eds.map edD).length ≤ 100000) = True := eq_true (by rw [List.length_map]; omega)
  have fz := frz_w L cl
  have fe := frz_e E cl
  unfold m_edited b_edited runD
  cases hq : allS es as eds 0 with
  | inr bs =>
    rw [hq] at hl
    obtain ⟨s3', e⟩ := hl
    rw [webD] at e
    simp only [aSeq_eq, oSeq_nx, oSeq_rt, oSeq_ex, ↓bind_L, bind_ok, bind_ex, ↓resO_L, resO_ok, resO_ex, aIf, aRet, aAsg, aNm, aVar, aC, aOp, aCall, aCall0, aCons, aNil, aTest, aDrop, aNext, aTup, aLst, allD, aGTup, aGCons, aGNil, noEx, fnR, aNot, aAnd, aOr, aIfE, aPar, aPar3, startA, List.replicate, aI2, aI2C, add_ii, sub_ok, lt_ok, gt_ok, le_ok, ge_ok, aInt1, aAbs, aAndV, aOrV, aNotV, aIx, aSetIx, mod_ok, Nat.reduceAdd, Nat.reduceSub, Nat.zero_add, ixN0, ixNp, Option.bind_some, List.set_cons_zero, List.set_cons_succ, decide_eq_true_eq, decide_true, if_true, if_false, reduceIte, Bool.false_eq_true, ne_eq, aPart, aNoPart, aLen, aMin2, aLstC, List.length_cons, List.length_nil, List.map_cons, List.map_nil, List.cons_append, List.nil_append, List.getElem?_cons_zero, List.getElem?_cons_succ, List.append_assoc, List.length_append, Nat.zero_le, Nat.reduceLeDiff, Nat.le_refl, vwS, vwL, Option.map_some, fz, fe, aFor, iSeqA, h2, e]
    exact close_ok rfl cl
  | inl p =>
    obtain ⟨j, b⟩ := p
    rw [hq] at hl
    dsimp only at hl
    rw [webD] at hl
    simp only [aSeq_eq, oSeq_nx, oSeq_rt, oSeq_ex, ↓bind_L, bind_ok, bind_ex, ↓resO_L, resO_ok, resO_ex, aIf, aRet, aAsg, aNm, aVar, aC, aOp, aCall, aCall0, aCons, aNil, aTest, aDrop, aNext, aTup, aLst, allD, aGTup, aGCons, aGNil, noEx, fnR, aNot, aAnd, aOr, aIfE, aPar, aPar3, startA, List.replicate, aI2, aI2C, add_ii, sub_ok, lt_ok, gt_ok, le_ok, ge_ok, aInt1, aAbs, aAndV, aOrV, aNotV, aIx, aSetIx, mod_ok, Nat.reduceAdd, Nat.reduceSub, Nat.zero_add, ixN0, ixNp, Option.bind_some, List.set_cons_zero, List.set_cons_succ, decide_eq_true_eq, decide_true, if_true, if_false, reduceIte, Bool.false_eq_true, ne_eq, aPart, aNoPart, aLen, aMin2, aLstC, List.length_cons, List.length_nil, List.map_cons, List.map_nil, List.cons_append, List.nil_append, List.getElem?_cons_zero, List.getElem?_cons_succ, List.append_assoc, List.length_append, Nat.zero_le, Nat.reduceLeDiff, Nat.le_refl, vwS, vwL, Option.map_some, fz, fe, aFor, iSeqA, h2, hl]
    exact close_ex0 cl
theorem c_all (b : Bad) : (errsL.contains (badE b).nm = true ∧ (["Twice", "NoArc", "NoEvent", "Ring"] : List Str).contains (badE b).nm = true) = True := by
  refine eq_true ?_
  cases b with
  | twice n => exact (by decide +kernel : errsL.contains ("Twice" : Str) = true ∧ (["Twice", "NoArc", "NoEvent", "Ring"] : List Str).contains ("Twice" : Str) = true)
  | arc n => exact (by decide +kernel : errsL.contains ("NoArc" : Str) = true ∧ (["Twice", "NoArc", "NoEvent", "Ring"] : List Str).contains ("NoArc" : Str) = true)
  | event n => exact (by decide +kernel : errsL.contains ("NoEvent" : Str) = true ∧ (["Twice", "NoArc", "NoEvent", "Ring"] : List Str).contains ("NoEvent" : Str) = true)
  | ring => exact (by decide +kernel : errsL.contains ("Ring" : Str) = true ∧ (["Twice", "NoArc", "NoEvent", "Ring"] : List Str).contains ("Ring" : Str) = true)
abbrev rfB : AEnv → ASto → Out := aTryT errsL ["Twice", "NoArc", "NoEvent", "Ring"] m__behind_edit (aCons (aVar 2) (aCons (aVar 4) aNil)) 2 (aRet (aVar 3))
theorem rf_loop {es : List Str} {w v : Sl} {M : ASto} (cl : Cl M) : ∀ (eds : List Ed) (as : List Arc) (k i : Nat) (s3 s4 : Option Sl), Wb es as k → k + eds.length ≤ 16 → (∀ e ∈ eds, EdOk e) →
    (match allS es as eds i with
      | .inr bs => ∃ s3' s4', aForL (aGTup 2 (aGCons (aNm 3) (aGCons (aNm 4) aGNil))) rfB (enumL i (eds.map edD)) [some w, some v, some (.d (webD es as)), s3, s4] M = .nx [some w, some v, some (.d (webD es bs)), s3', s4'] M
      | .inl (j, b) => aForL (aGTup 2 (aGCons (aNm 3) (aGCons (aNm 4) aGNil))) rfB (enumL i (eds.map edD)) [some w, some v, some (.d (webD es as)), s3, s4] M = .rt (.d (.int j)) M)
  | [], as, k, i, s3, s4, W, hk, he => ⟨s3, s4, rfl⟩
  | e :: r, as, k, i, s3, s4, W, hk, he => by
    have hb := behind_ok W (by simp at hk; omega) cl e (he e (by simp))
    have hs : enumL i ((e :: r).map edD) = Sl.d (.tuple [.int i, edD e]) :: enumL (i + 1) (r.map edD) := rfl
    have hg : aGTup 2 (aGCons (aNm 3) (aGCons (aNm 4) aGNil)) (.d (.tuple [.int i, edD e])) [some w, some v, some (.d (webD es as)), s3, s4] = some [some w, some v, some (.d (webD es as)), some (.d (.int i)), some (.d (edD e))] := rfl
    have hargs : (aCons (aVar 2) (aCons (aVar 4) aNil)) [some w, some v, some (.d (webD es as)), some (.d (.int i)), some (.d (edD e))] M = .ok [.d (webD es as), .d (edD e)] M := rfl
    rw [hs]
    unfold aForL
    rw [hg]
    dsimp only
    unfold rfB aTryT
    rw [hargs]
    dsimp only
    rw [hb]
    simp only [allS]
    cases hst : stepS es as e with
    | inl b =>
      unfold resE
      dsimp only
      simp only [c_all b, if_true]
      rfl
    | inr bs =>
      have ih := rf_loop (w := w) (v := v) cl r bs (k + 1) (i + 1) (some (.d (.int i))) (some (.d (edD e))) (stepS_wb W e (he e (by simp)) hst) (by simp at hk; omega) fun x hx => he x (by simp [hx])
      exact ih
theorem refused_ok {w v : PyData} {es : List Str} {as : List Arc} {k : Nat} {eds : List Ed} (L : Like w es as) (W : Wb es as k) (E : Elike v eds) (hk : k + eds.length ≤ 16) {M : ASto} (cl : Cl M) :
    m_first_refused [.d w, .d v] M = .ok (.d (match allS es as eds 0 with
      | .inr _ => .none
      | .inl (j, _) => .int j)) M := by
  have hl := rf_loop (w := .d w) (v := .d v) cl eds as k 0 none none W hk E.eo
  have fz := frz_w L cl
  have fe := frz_e E cl
  unfold m_first_refused b_first_refused runD
  cases hq : allS es as eds 0 with
  | inr bs =>
    rw [hq] at hl
    obtain ⟨s3', s4', e⟩ := hl
    rw [webD] at e
    simp only [aSeq_eq, oSeq_nx, oSeq_rt, oSeq_ex, ↓bind_L, bind_ok, bind_ex, ↓resO_L, resO_ok, resO_ex, aIf, aRet, aAsg, aNm, aVar, aC, aOp, aCall, aCall0, aCons, aNil, aTest, aDrop, aNext, aTup, aLst, allD, aGTup, aGCons, aGNil, noEx, fnR, aNot, aAnd, aOr, aIfE, aPar, aPar3, startA, List.replicate, aI2, aI2C, add_ii, sub_ok, lt_ok, gt_ok, le_ok, ge_ok, aInt1, aAbs, aAndV, aOrV, aNotV, aIx, aSetIx, mod_ok, Nat.reduceAdd, Nat.reduceSub, Nat.zero_add, ixN0, ixNp, Option.bind_some, List.set_cons_zero, List.set_cons_succ, decide_eq_true_eq, decide_true, if_true, if_false, reduceIte, Bool.false_eq_true, ne_eq, aPart, aNoPart, aLen, aMin2, aLstC, List.length_cons, List.length_nil, List.map_cons, List.map_nil, List.cons_append, List.nil_append, List.getElem?_cons_zero, List.getElem?_cons_succ, List.append_assoc, List.length_append, Nat.zero_le, Nat.reduceLeDiff, Nat.le_refl, vwS, vwL, Option.map_some, fz, fe, aFor, iEnumQA, e]
    exact close_ok rfl cl
  | inl p =>
    obtain ⟨j, b⟩ := p
    rw [hq] at hl
    dsimp only at hl
    rw [webD] at hl
    simp only [aSeq_eq, oSeq_nx, oSeq_rt, oSeq_ex, ↓bind_L, bind_ok, bind_ex, ↓resO_L, resO_ok, resO_ex, aIf, aRet, aAsg, aNm, aVar, aC, aOp, aCall, aCall0, aCons, aNil, aTest, aDrop, aNext, aTup, aLst, allD, aGTup, aGCons, aGNil, noEx, fnR, aNot, aAnd, aOr, aIfE, aPar, aPar3, startA, List.replicate, aI2, aI2C, add_ii, sub_ok, lt_ok, gt_ok, le_ok, ge_ok, aInt1, aAbs, aAndV, aOrV, aNotV, aIx, aSetIx, mod_ok, Nat.reduceAdd, Nat.reduceSub, Nat.zero_add, ixN0, ixNp, Option.bind_some, List.set_cons_zero, List.set_cons_succ, decide_eq_true_eq, decide_true, if_true, if_false, reduceIte, Bool.false_eq_true, ne_eq, aPart, aNoPart, aLen, aMin2, aLstC, List.length_cons, List.length_nil, List.map_cons, List.map_nil, List.cons_append, List.nil_append, List.getElem?_cons_zero, List.getElem?_cons_succ, List.append_assoc, List.length_append, Nat.zero_le, Nat.reduceLeDiff, Nat.le_refl, vwS, vwL, Option.map_some, fz, fe, aFor, iEnumQA, hl]
    exact close_ok rfl cl
end G
end
section
set_option Elab.async false
set_option linter.all false
set_option maxRecDepth 100000
set_option maxHeartbeats 4000000
namespace G
open PySem Ab
/-! ### the law's own look at ARCS -/
theorem arc_of_ok {es : List Str} {as : List Arc} {k : Nat} (W : Wb es as k) (hk : k ≤ 16) {M : ASto} (cl : Cl M) {n : Str} (hn : PyData.strOk n = true) :
    ∃ x, m__law_arc_of [.d (webD es as), .d (.str n)] M = .ok (.d x) M ∧ ((n ∉ as.map (·.1) ∧ x = .none) ∨ ∃ a ∈ as, a.1 = n ∧ x = arcD a) := by
  have la : as.length ≤ 16 := Nat.le_trans W.la hk
  have h2 : ((arcsD as).length ≤ 100000) = True := eq_true (by rw [arcs_len]; omega)
  have i1 : L2.atI [PyData.tuple (strsD es), .tuple (arcsD as)] 1 = some (.tuple (arcsD as)) := rfl
  have e := lc_arcs (G := aNm 2) (T := aTest (aOp (aEqD false) (aOp aIx (aVar 2) (aC (.int 0))) (aVar 1))) (A := aVar 2) (ds := [some (.d (.tuple [.tuple (strsD es), .tuple (arcsD as)])), some (.d (.str n)), none]) (M := M) (p := fun a => decide (a.1 = n)) (h := arcD) as [] fun a ha =>
    ⟨_, rfl, by simp only [aSeq_eq, oSeq_nx, oSeq_rt, oSeq_ex, ↓bind_L, bind_ok, bind_ex, ↓resO_L, resO_ok, resO_ex, aIf, aRet, aAsg, aNm, aVar, aC, aOp, aCall, aCall0, aCons, aNil, aTest, aDrop, aNext, aTup, aLst, allD, aGTup, aGCons, aGNil, noEx, fnR, aNot, aAnd, aOr, aIfE, aPar, aPar3, startA, List.replicate, aI2, aI2C, add_ii, sub_ok, lt_ok, gt_ok, le_ok, ge_ok, aInt1, aAbs, aAndV, aOrV, aNotV, aIx, aSetIx, mod_ok, Nat.reduceAdd, Nat.reduceSub, Nat.zero_add, ixN0, ixNp, Option.bind_some, List.set_cons_zero, List.set_cons_succ, decide_eq_true_eq, decide_true, if_true, if_false, reduceIte, Bool.false_eq_true, ne_eq, aPart, aNoPart, aLen, aMin2, aLstC, List.length_cons, List.length_nil, List.map_cons, List.map_nil, List.cons_append, List.nil_append, List.getElem?_cons_zero, List.getElem?_cons_succ, List.append_assoc, List.length_append, Nat.zero_le, Nat.reduceLeDiff, Nat.le_refl, vwS, vwL, Option.map_some, arcD, ix_arc0, eq_ss, (W.ao a ha).1, hn], fun _ => by simp only [aSeq_eq, oSeq_nx, oSeq_rt, oSeq_ex, ↓bind_L, bind_ok, bind_ex, ↓resO_L, resO_ok, resO_ex, aIf, aRet, aAsg, aNm, aVar, aC, aOp, aCall, aCall0, aCons, aNil, aTest, aDrop, aNext, aTup, aLst, allD, aGTup, aGCons, aGNil, noEx, fnR, aNot, aAnd, aOr, aIfE, aPar, aPar3, startA, List.replicate, aI2, aI2C, add_ii, sub_ok, lt_ok, gt_ok, le_ok, ge_ok, aInt1, aAbs, aAndV, aOrV, aNotV, aIx, aSetIx, mod_ok, Nat.reduceAdd, Nat.reduceSub, Nat.zero_add, ixN0, ixNp, Option.bind_some, List.set_cons_zero, List.set_cons_succ, decide_eq_true_eq, decide_true, if_true, if_false, reduceIte, Bool.false_eq_true, ne_eq, aPart, aNoPart, aLen, aMin2, aLstC, List.length_cons, List.length_nil, List.map_cons, List.map_nil, List.cons_append, List.nil_append, List.getElem?_cons_zero, List.getElem?_cons_succ, List.append_assoc, List.length_append, Nat.zero_le, Nat.reduceLeDiff, Nat.le_refl, vwS, vwL, Option.map_some]⟩
  rw [List.nil_append, filt_arcs] at e
  have hl := List.length_filter_le (fun a : Arc => decide (a.1 = n)) as
  have hc := cat_ll (xs := arcsD (as.filter fun a => decide (a.1 = n))) (ys := [.none]) (by rw [arcs_len]; simp; omega) M
  by_cases q : n ∈ as.map (·.1)
  · obtain ⟨a, ha, rfl⟩ := List.mem_map.mp q
    refine ⟨arcD a, ?_, .inr ⟨a, ha, rfl, rfl⟩⟩
    have h1 := one_arc W.nd ha
    rw [h1] at e hc
    have hc' : aAddE (.d (.list (arcsD [a]))) (.d (.list [.none])) M = .ok (.d (.list [arcD a, .none])) M := hc
    have i0 : L2.atI [arcD a, PyData.none] 0 = some (arcD a) := rfl
    unfold m__law_arc_of b__law_arc_of runD
    rw [webD]
    simp only [aSeq_eq, oSeq_nx, oSeq_rt, oSeq_ex, ↓bind_L, bind_ok, bind_ex, ↓resO_L, resO_ok, resO_ex, aIf, aRet, aAsg, aNm, aVar, aC, aOp, aCall, aCall0, aCons, aNil, aTest, aDrop, aNext, aTup, aLst, allD, aGTup, aGCons, aGNil, noEx, fnR, aNot, aAnd, aOr, aIfE, aPar, aPar3, startA, List.replicate, aI2, aI2C, add_ii, sub_ok, lt_ok, gt_ok, le_ok, ge_ok, aInt1, aAbs, aAndV, aOrV, aNotV, aIx, aSetIx, mod_ok, Nat.reduceAdd, Nat.reduceSub, Nat.zero_add, ixN0, ixNp, Option.bind_some, List.set_cons_zero, List.set_cons_succ, decide_eq_true_eq, decide_true, if_true, if_false, reduceIte, Bool.false_eq_true, ne_eq, aPart, aNoPart, aLen, aMin2, aLstC, List.length_cons, List.length_nil, List.map_cons, List.map_nil, List.cons_append, List.nil_append, List.getElem?_cons_zero, List.getElem?_cons_succ, List.append_assoc, List.length_append, Nat.zero_le, Nat.reduceLeDiff, Nat.le_refl, vwS, vwL, Option.map_some, i1, aLc, iSeqA, List.length_map, h2, wipeA, e, hc', i0]
    exact close_ok rfl cl
  · refine ⟨.none, ?_, .inl ⟨q, rfl⟩⟩
    have h1 : as.filter (fun a => decide (a.1 = n)) = [] := by
      rw [List.filter_eq_nil_iff]
      intro a ha
      simp only [decide_eq_true_eq]
      exact fun z => q (List.mem_map.mpr ⟨a, ha, z⟩)
    rw [h1] at e hc
    have hc' : aAddE (.d (.list (arcsD []))) (.d (.list [.none])) M = .ok (.d (.list [.none])) M := hc
    have i0 : L2.atI [PyData.none] 0 = some PyData.none := rfl
    unfold m__law_arc_of b__law_arc_of runD
    rw [webD]
    simp only [aSeq_eq, oSeq_nx, oSeq_rt, oSeq_ex, ↓bind_L, bind_ok, bind_ex, ↓resO_L, resO_ok, resO_ex, aIf, aRet, aAsg, aNm, aVar, aC, aOp, aCall, aCall0, aCons, aNil, aTest, aDrop, aNext, aTup, aLst, allD, aGTup, aGCons, aGNil, noEx, fnR, aNot, aAnd, aOr, aIfE, aPar, aPar3, startA, List.replicate, aI2, aI2C, add_ii, sub_ok, lt_ok, gt_ok, le_ok, ge_ok, aInt1, aAbs, aAndV, aOrV, aNotV, aIx, aSetIx, mod_ok, Nat.reduceAdd, Nat.reduceSub, Nat.zero_add, ixN0, ixNp, Option.bind_some, List.set_cons_zero, List.set_cons_succ, decide_eq_true_eq, decide_true, if_true, if_false, reduceIte, Bool.false_eq_true, ne_eq, aPart, aNoPart, aLen, aMin2, aLstC, List.length_cons, List.length_nil, List.map_cons, List.map_nil, List.cons_append, List.nil_append, List.getElem?_cons_zero, List.getElem?_cons_succ, List.append_assoc, List.length_append, Nat.zero_le, Nat.reduceLeDiff, Nat.le_refl, vwS, vwL, Option.map_some, i1, aLc, iSeqA, List.length_map, h2, wipeA, e, hc', i0]
    exact close_ok rfl cl
/-! ### what is reached, by the law's own steps -/
def stC (xs : List Str) : Cell := .lst ((strsD xs).map Sl.d)
def inn (h : Str) : List Arc → List Str → List Str → List Str × List Str
  | [], xs, ws => (xs, ws)
  | a :: r, xs, ws => if a.2.1 = h ∧ a.2.2 ∉ xs then inn h r (xs ++ [a.2.2]) (ws ++ [a.2.2]) else inn h r xs ws
structure InnOk (h : Str) (as : List Arc) (xs ws xs' ws' : List Str) : Prop where
  ex : ∃ new, xs' = xs ++ new ∧ ws' = ws ++ new ∧ ∀ t ∈ new, (h, t) ∈ prs as
  nd : xs'.Nodup
  all : ∀ t, (h, t) ∈ prs as → t ∈ xs'
theorem inn_ok (h : Str) : ∀ (as : List Arc) (xs ws : List Str), xs.Nodup → InnOk h as xs ws (inn h as xs ws).1 (inn h as xs ws).2
  | [], xs, ws, nd => ⟨⟨[], by simp [inn], by simp [inn], fun t ht => by cases ht⟩, nd, fun t ht => by cases ht⟩
  | a :: r, xs, ws, nd => by
    unfold inn
    split
    · rename_i q
      have nd2 : (xs ++ [a.2.2]).Nodup := by
        rw [List.nodup_append]
        exact ⟨nd, by simp, fun x hx y hy => by
          rw [List.mem_singleton.mp hy]
          exact fun z => q.2 (z ▸ hx)⟩
      obtain ⟨⟨new, e1, e2, e3⟩, n2, al⟩ := inn_ok h r (xs ++ [a.2.2]) (ws ++ [a.2.2]) nd2
      refine ⟨⟨a.2.2 :: new, by rw [e1]; simp, by rw [e2]; simp, fun t ht => ?_⟩, n2, fun t ht => ?_⟩
      · rcases List.mem_cons.mp ht with z | z
        · rw [z, ← q.1]; exact List.mem_cons_self
        · exact List.mem_cons_of_mem _ (e3 t z)
      · rcases List.mem_cons.mp ht with z | z
        · rw [e1]
          have : t = a.2.2 := congrArg Prod.snd z
          rw [this]; simp
        · exact al t z
    · rename_i q
      obtain ⟨⟨new, e1, e2, e3⟩, n2, al⟩ := inn_ok h r xs ws nd
      refine ⟨⟨new, e1, e2, fun t ht => List.mem_cons_of_mem _ (e3 t ht)⟩, n2, fun t ht => ?_⟩
      rcases List.mem_cons.mp ht with z | z
      · have h1 : h = a.2.1 := congrArg Prod.fst z
        have h2 : t = a.2.2 := congrArg Prod.snd z
        by_cases w : a.2.2 ∈ xs
        · rw [e1, h2]; exact List.mem_append_left _ w
        · exact absurd ⟨h1.symm, w⟩ q
      · exact al t z
abbrev ldB : AEnv → ASto → Out := aIf (aAnd (aTest (aOp (aEqD false) (aOp aIx (aVar 6) (aC (.int 1))) (aVar 5))) (aTest (aOp (aInQ true) (aOp aIx (aVar 6) (aC (.int 2))) (aVar 3)))) (aSeq (aDrop (aMut gAppend (aVar 3) (aOp aIx (aVar 6) (aC (.int 2))))) (aDrop (aMut gAppend (aVar 4) (aOp aIx (aVar 6) (aC (.int 2)))))) aNext
theorem in_cell (neg : Bool) (e : Str) (xs : List Str) {M : ASto} {n : Nat} (h : M[n]? = some (stC xs)) : aInQ neg (.d (.str e)) (.r n) M = .ok (.d (.bool (if neg then !decide (e ∈ xs) else decide (e ∈ xs)))) M := by
  have hv : vwS M (.r n) = some (strsD xs) := by
    unfold vwS vwL
    dsimp only
    rw [h]
    unfold stC
    dsimp only
    exact allD_strs xs
  unfold aInQ aInF
  simp only [hv]
  rw [if_pos (flat_strs xs), any_strs]
  rfl
theorem ld_inner {m : Nat} {M : ASto} (hm : M.length = m) (d0 d1 d2 : Option Sl) {h : Str} (hh : PyData.strOk h = true) : ∀ (as : List Arc) (xs ws : List Str) (s6 : Option Sl), AsOk as → xs.length + as.length ≤ 1000 → ws.length + as.length ≤ 1000 →
    ∃ s6', aForL (aNm 6) ldB ((arcsD as).map Sl.d) [d0, d1, d2, some (.r m), some (.r (m + 1)), some (.d (.str h)), s6] (M ++ [stC xs, stC ws]) = .nx [d0, d1, d2, some (.r m), some (.r (m + 1)), some (.d (.str h)), s6'] (M ++ [stC (inn h as xs ws).1, stC (inn h as xs ws).2])
  | [], xs, ws, s6, _, _, _ => ⟨s6, rfl⟩
  | a :: r, xs, ws, s6, ao, h1, h2 => by
    have hs : (arcsD (a :: r)).map Sl.d = Sl.d (arcD a) :: (arcsD r).map Sl.d := rfl
    have oa := ao a (by simp)
    rw [List.length_cons] at h1 h2
    have c1 : (M ++ [stC xs, stC ws])[m]? = some (stC xs) := at0 hm
    have hin := in_cell true a.2.2 xs c1
    unfold inn
    rw [hs]
    unfold aForL
    dsimp only [aNm, List.set_cons_zero, List.set_cons_succ]
    by_cases q1 : a.2.1 = h
    · have q1d : decide (a.2.1 = h) = true := decide_eq_true q1
      by_cases q2 : a.2.2 ∈ xs
      · rw [if_neg (fun z => z.2 q2)]
        have body : ldB [d0, d1, d2, some (.r m), some (.r (m + 1)), some (.d (.str h)), some (.d (arcD a))] (M ++ [stC xs, stC ws]) = .nx [d0, d1, d2, some (.r m), some (.r (m + 1)), some (.d (.str h)), some (.d (arcD a))] (M ++ [stC xs, stC ws]) := by
          simp only [aSeq_eq, oSeq_nx, oSeq_rt, oSeq_ex, ↓bind_L, bind_ok, bind_ex, ↓resO_L, resO_ok, resO_ex, aIf, aRet, aAsg, aNm, aVar, aC, aOp, aCall, aCall0, aCons, aNil, aTest, aDrop, aNext, aTup, aLst, allD, aGTup, aGCons, aGNil, noEx, fnR, aNot, aAnd, aOr, aIfE, aPar, aPar3, startA, List.replicate, aI2, aI2C, add_ii, sub_ok, lt_ok, gt_ok, le_ok, ge_ok, aInt1, aAbs, aAndV, aOrV, aNotV, aIx, aSetIx, mod_ok, Nat.reduceAdd, Nat.reduceSub, Nat.zero_add, ixN0, ixNp, Option.bind_some, List.set_cons_zero, List.set_cons_succ, decide_eq_true_eq, decide_true, if_true, if_false, reduceIte, Bool.false_eq_true, ne_eq, aPart, aNoPart, aLen, aMin2, aLstC, List.length_cons, List.length_nil, List.map_cons, List.map_nil, List.cons_append, List.nil_append, List.getElem?_cons_zero, List.getElem?_cons_succ, List.append_assoc, List.length_append, Nat.zero_le, Nat.reduceLeDiff, Nat.le_refl, vwS, vwL, Option.map_some, arcD, ix_arc1, ix_arc2, eq_ss, oa.2.1, hh, q1d, hin, q2, Bool.not_true]
        rw [body]
        exact ld_inner hm d0 d1 d2 hh r xs ws (some (.d (arcD a))) (fun x hx => ao x (by simp [hx])) (by omega) (by omega)
      · rw [if_pos ⟨q1, q2⟩]
        have l1 : ((strsD xs).map Sl.d).length = xs.length := by rw [List.length_map, strs_len]
        have l2 : ((strsD ws).map Sl.d).length = ws.length := by rw [List.length_map, strs_len]
        have b1 : (xs.length < 100000) = True := eq_true (by omega)
        have b2 : (ws.length < 100000) = True := eq_true (by omega)
        have a1 : (strsD xs).map Sl.d ++ [Sl.d (.str a.2.2)] = (strsD (xs ++ [a.2.2])).map Sl.d := by simp [strsD]
        have a2 : (strsD ws).map Sl.d ++ [Sl.d (.str a.2.2)] = (strsD (ws ++ [a.2.2])).map Sl.d := by simp [strsD]
        have g1 : gAppend (.r m) (.d (.str a.2.2)) (M ++ [stC xs, stC ws]) = .ok (.d .none) (M ++ [stC (xs ++ [a.2.2]), stC ws]) := by
          unfold gAppend
          dsimp only
          rw [c1]
          unfold stC
          dsimp only
          rw [l1, if_pos (by omega), a1, set0 hm]
        have g2 : gAppend (.r (m + 1)) (.d (.str a.2.2)) (M ++ [stC (xs ++ [a.2.2]), stC ws]) = .ok (.d .none) (M ++ [stC (xs ++ [a.2.2]), stC (ws ++ [a.2.2])]) := by
          unfold gAppend
          dsimp only
          rw [at1 hm]
          unfold stC
          dsimp only
          rw [l2, if_pos (by omega), a2, set1 hm]
        have i1 : isL (M ++ [stC xs, stC ws]) (.r m) = true := by unfold isL; dsimp only; rw [c1]; rfl
        have i2 : isL (M ++ [stC (xs ++ [a.2.2]), stC ws]) (.r (m + 1)) = true := by unfold isL; dsimp only; rw [at1 hm]; rfl
        have body : ldB [d0, d1, d2, some (.r m), some (.r (m + 1)), some (.d (.str h)), some (.d (arcD a))] (M ++ [stC xs, stC ws]) = .nx [d0, d1, d2, some (.r m), some (.r (m + 1)), some (.d (.str h)), some (.d (arcD a))] (M ++ [stC (xs ++ [a.2.2]), stC (ws ++ [a.2.2])]) := by
          simp only [aSeq_eq, oSeq_nx, oSeq_rt, oSeq_ex, ↓bind_L, bind_ok, bind_ex, ↓resO_L, resO_ok, resO_ex, aIf, aRet, aAsg, aNm, aVar, aC, aOp, aCall, aCall0, aCons, aNil, aTest, aDrop, aNext, aTup, aLst, allD, aGTup, aGCons, aGNil, noEx, fnR, aNot, aAnd, aOr, aIfE, aPar, aPar3, startA, List.replicate, aI2, aI2C, add_ii, sub_ok, lt_ok, gt_ok, le_ok, ge_ok, aInt1, aAbs, aAndV, aOrV, aNotV, aIx, aSetIx, mod_ok, Nat.reduceAdd, Nat.reduceSub, Nat.zero_add, ixN0, ixNp, Option.bind_some, List.set_cons_zero, List.set_cons_succ, decide_eq_true_eq, decide_true, if_true, if_false, reduceIte, Bool.false_eq_true, ne_eq, aPart, aNoPart, aLen, aMin2, aLstC, List.length_cons, List.length_nil, List.map_cons, List.map_nil, List.cons_append, List.nil_append, List.getElem?_cons_zero, List.getElem?_cons_succ, List.append_assoc, List.length_append, Nat.zero_le, Nat.reduceLeDiff, Nat.le_refl, vwS, vwL, Option.map_some, arcD, ix_arc1, ix_arc2, eq_ss, oa.2.1, hh, q1d, hin, q2, decide_false, Bool.not_false, aMut, i1, g1, i2, g2]
        rw [body]
        exact ld_inner hm d0 d1 d2 hh r (xs ++ [a.2.2]) (ws ++ [a.2.2]) (some (.d (arcD a))) (fun x hx => ao x (by simp [hx])) (by simp; omega) (by simp; omega)
    · rw [if_neg (fun z => q1 z.1)]
      have body : ldB [d0, d1, d2, some (.r m), some (.r (m + 1)), some (.d (.str h)), some (.d (arcD a))] (M ++ [stC xs, stC ws]) = .nx [d0, d1, d2, some (.r m), some (.r (m + 1)), some (.d (.str h)), some (.d (arcD a))] (M ++ [stC xs, stC ws]) := by
        simp only [aSeq_eq, oSeq_nx, oSeq_rt, oSeq_ex, ↓bind_L, bind_ok, bind_ex, ↓resO_L, resO_ok, resO_ex, aIf, aRet, aAsg, aNm, aVar, aC, aOp, aCall, aCall0, aCons, aNil, aTest, aDrop, aNext, aTup, aLst, allD, aGTup, aGCons, aGNil, noEx, fnR, aNot, aAnd, aOr, aIfE, aPar, aPar3, startA, List.replicate, aI2, aI2C, add_ii, sub_ok, lt_ok, gt_ok, le_ok, ge_ok, aInt1, aAbs, aAndV, aOrV, aNotV, aIx, aSetIx, mod_ok, Nat.reduceAdd, Nat.reduceSub, Nat.zero_add, ixN0, ixNp, Option.bind_some, List.set_cons_zero, List.set_cons_succ, decide_eq_true_eq, decide_true, if_true, if_false, reduceIte, Bool.false_eq_true, ne_eq, aPart, aNoPart, aLen, aMin2, aLstC, List.length_cons, List.length_nil, List.map_cons, List.map_nil, List.cons_append, List.nil_append, List.getElem?_cons_zero, List.getElem?_cons_succ, List.append_assoc, List.length_append, Nat.zero_le, Nat.reduceLeDiff, Nat.le_refl, vwS, vwL, Option.map_some, arcD, ix_arc1, ix_arc2, eq_ss, oa.2.1, hh, q1, decide_false]
      rw [body]
      exact ld_inner hm d0 d1 d2 hh r xs ws (some (.d (arcD a))) (fun x hx => ao x (by simp [hx])) (by omega) (by omega)
def vwS' : PyData → Option (List PyData)
  | .list xs => some xs
  | .tuple xs => some xs
  | _ => none
structure Li (as : List Arc) (s : Str) (U xs ws : List Str) : Prop where
  nd : xs.Nodup
  sub : ∀ x ∈ xs, x ∈ U
  st : s ∈ xs
  ww : ∀ w ∈ ws, w ∈ xs
  snd : ∀ x ∈ xs, x = s ∨ Rc (prs as) s x
  cls : ∀ u ∈ xs, u ∉ ws → ∀ t, (u, t) ∈ prs as → t ∈ xs
  wl : ws.length ≤ xs.length
theorem ld_while {m : Nat} {M : ASto} (hm : M.length = m) {X : PyData} {as : List Arc} {s : Str} {U : List Str} (hX : vwS' X = some (arcsD as)) (d1 d2 : Option Sl) (ao : AsOk as) (hal : as.length ≤ 16) (hU : U.length ≤ 100) (uo : ∀ u ∈ U, PyData.strOk u = true) (hp : ∀ z ∈ prs as, z.2 ∈ U) : ∀ (n : Nat) (xs ws : List Str) (s5 s6 : Option Sl), Li as s U xs ws → ws.length + (U.length - xs.length) < n →
    ∃ xs' e5 e6, aWhileN (aTest (aOp (aEqV true) (aVar 4) (aLst aNil))) (aSeq (aAsg (aPop (aVar 4)) (aNm 5)) (aFor (iSeqA (aVar 0)) (aNm 6) ldB)) n [some (.d X), d1, d2, some (.r m), some (.r (m + 1)), s5, s6] (M ++ [stC xs, stC ws]) = .nx [some (.d X), d1, d2, some (.r m), some (.r (m + 1)), e5, e6] (M ++ [stC xs', stC []]) ∧ Li as s U xs' []
  | 0, _, _, _, _, _, h => by omega
  | n + 1, xs, ws, s5, s6, I, hn => by
    have wok : ∀ w ∈ ws, PyData.strOk w = true := fun w hw => uo w (I.sub w (I.ww w hw))
    have c2 : (M ++ [stC xs, stC ws])[m + 1]? = some (stC ws) := at1 hm
    have ht : aTest (aOp (aEqV true) (aVar 4) (aLst aNil)) [some (.d X), d1, d2, some (.r m), some (.r (m + 1)), s5, s6] (M ++ [stC xs, stC ws]) = .ok (!ws.isEmpty) (M ++ [stC xs, stC ws]) := by
      have hv : vwD (M ++ [stC xs, stC ws]) (.r (m + 1)) = some (.list (strsD ws)) := by
        unfold vwD
        dsimp only
        rw [c2]
        unfold stC
        dsimp only
        rw [allD_strs]
        rfl
      have he := eq_nil true wok (M ++ [stC xs, stC ws])
      have he' : aEqV true (.r (m + 1)) (.d (.list [])) (M ++ [stC xs, stC ws]) = .ok (.d (.bool (!ws.isEmpty))) (M ++ [stC xs, stC ws]) := by
        unfold aEqV
        rw [hv]
        exact he
      simp only [aSeq_eq, oSeq_nx, oSeq_rt, oSeq_ex, ↓bind_L, bind_ok, bind_ex, ↓resO_L, resO_ok, resO_ex, aIf, aRet, aAsg, aNm, aVar, aC, aOp, aCall, aCall0, aCons, aNil, aTest, aDrop, aNext, aTup, aLst, allD, aGTup, aGCons, aGNil, noEx, fnR, aNot, aAnd, aOr, aIfE, aPar, aPar3, startA, List.replicate, aI2, aI2C, add_ii, sub_ok, lt_ok, gt_ok, le_ok, ge_ok, aInt1, aAbs, aAndV, aOrV, aNotV, aIx, aSetIx, mod_ok, Nat.reduceAdd, Nat.reduceSub, Nat.zero_add, ixN0, ixNp, Option.bind_some, List.set_cons_zero, List.set_cons_succ, decide_eq_true_eq, decide_true, if_true, if_false, reduceIte, Bool.false_eq_true, ne_eq, aPart, aNoPart, aLen, aMin2, aLstC, List.length_cons, List.length_nil, List.map_cons, List.map_nil, List.cons_append, List.nil_append, List.getElem?_cons_zero, List.getElem?_cons_succ, List.append_assoc, List.length_append, Nat.zero_le, Nat.reduceLeDiff, Nat.le_refl, vwS, vwL, Option.map_some, he']
    rcases List.eq_nil_or_concat ws with rfl | ⟨ws0, here, rfl⟩
    · refine ⟨xs, s5, s6, ?_, I⟩
      unfold aWhileN
      rw [ht]
      rfl
    · rw [List.concat_eq_append] at *
      have hho := wok here (by simp)
      have hxl := nd_len I.nd I.sub
      have hwl := I.wl
      rw [List.length_append, List.length_singleton] at hwl hn
      have inv := inn_ok here as xs ws0 I.nd
      obtain ⟨e6, hin⟩ := ld_inner hm (some (.d X)) d1 d2 hho as xs ws0 s6 ao (by omega) (by omega)
      generalize inn here as xs ws0 = p at inv hin
      obtain ⟨xs', ws'⟩ := p
      obtain ⟨⟨new, e1, e2, e3⟩, n2, al⟩ := inv
      dsimp only at e1 e2 n2 al hin
      have hr : here = s ∨ Rc (prs as) s here := I.snd here (I.ww here (by simp))
      have I' : Li as s U xs' ws' := by
        refine ⟨n2, fun x hx => ?_, by rw [e1]; exact List.mem_append_left _ I.st, fun w hw => ?_, fun x hx => ?_, fun u hu hnw t hut => ?_, ?_⟩
        · rw [e1] at hx
          rcases List.mem_append.mp hx with z | z
          · exact I.sub x z
          · exact hp _ (e3 x z)
        · rw [e2] at hw
          rw [e1]
          rcases List.mem_append.mp hw with z | z
          · exact List.mem_append_left _ (I.ww w (by simp [z]))
          · exact List.mem_append_right _ z
        · rw [e1] at hx
          rcases List.mem_append.mp hx with z | z
          · exact I.snd x z
          · right
            rcases hr with r | r
            · rw [← r]; exact .one (e3 x z)
            · exact .more r (e3 x z)
        · by_cases z : u = here
          · subst z; exact al t hut
          · rw [e1] at hu ⊢
            rw [e2] at hnw
            rcases List.mem_append.mp hu with y | y
            · refine List.mem_append_left _ (I.cls u y (fun v => ?_) t hut)
              rcases List.mem_append.mp v with v | v
              · exact hnw (List.mem_append_left _ v)
              · exact z (List.mem_singleton.mp v)
            · exact absurd (List.mem_append_right _ y) hnw
        · rw [e1, e2, List.length_append, List.length_append]; omega
      have hxl' := nd_len I'.nd I'.sub
      have l1 : xs'.length = xs.length + new.length := by rw [e1, List.length_append]
      have l2 : ws'.length = ws0.length + new.length := by rw [e2, List.length_append]
      obtain ⟨xs2, f5, f6, g, I2⟩ := ld_while hm hX d1 d2 ao hal hU uo hp n xs' ws' (some (.d (.str here))) e6 I' (by omega)
      refine ⟨xs2, f5, f6, ?_, I2⟩
      unfold aWhileN
      rw [ht]
      have hne : (!(ws0 ++ [here]).isEmpty) = true := by simp
      rw [hne]
      dsimp only
      have hws : (strsD (ws0 ++ [here])).map Sl.d = (strsD ws0).map Sl.d ++ [Sl.d (.str here)] := by simp [strsD]
      have c3 : (M ++ [stC xs, stC (ws0 ++ [here])])[m + 1]? = some (.lst ((strsD ws0).map Sl.d ++ [Sl.d (.str here)])) := by rw [c2, stC, hws]
      have hlast : ((strsD ws0).map Sl.d ++ [Sl.d (.str here)])[((strsD ws0).map Sl.d).length + 1 - 1]? = some (.d (.str here)) := by simp
      have hdl : ((strsD ws0).map Sl.d ++ [Sl.d (.str here)]).dropLast = (strsD ws0).map Sl.d := by simp
      have hset : (M ++ [stC xs, stC (ws0 ++ [here])]).set (m + 1) (.lst ((strsD ws0).map Sl.d)) = M ++ [stC xs, stC ws0] := set1 hm
      have hz : ((arcsD as).length ≤ 100000) = True := eq_true (by rw [arcs_len]; omega)
      have hit : ∀ ds2 M2, (iSeqA (aVar 0)) (some (.d X) :: ds2) M2 = .ok ((arcsD as).map Sl.d) M2 := fun ds2 M2 => by
        cases X with
        | list ys => cases hX; rfl
        | tuple ys => cases hX; rfl
        | _ => cases hX
      have body : (aSeq (aAsg (aPop (aVar 4)) (aNm 5)) (aFor (iSeqA (aVar 0)) (aNm 6) ldB)) [some (.d X), d1, d2, some (.r m), some (.r (m + 1)), s5, s6] (M ++ [stC xs, stC (ws0 ++ [here])]) = .nx [some (.d X), d1, d2, some (.r m), some (.r (m + 1)), some (.d (.str here)), e6] (M ++ [stC xs', stC ws']) := by
        simp only [aSeq_eq, aAsg, aPop, aVar, List.getElem?_cons_zero, List.getElem?_cons_succ, ↓bind_L, bind_ok, ↓resO_L, resO_ok, c3, List.length_append, List.length_cons, List.length_nil, Nat.zero_add, hlast, hdl, hset, aNm, List.set_cons_zero, List.set_cons_succ, oSeq_nx, aFor]
        have hi2 := hit [d1, d2, some (.r m), some (.r (m + 1)), some (.d (.str here)), s6] (M ++ [stC xs, stC ws0])
        rw [hi2]
        exact hin
      rw [body]
      exact g
end G
end
section
set_option Elab.async false
set_option linter.all false
set_option maxRecDepth 100000
set_option maxHeartbeats 4000000
namespace G
open PySem Ab
theorem close_pre2 {M J : ASto} {x : PyData} (cl : Cl M) : closeR M.length (.ok (.d x) (M ++ J)) = .ok (.d x) M := close_app rfl cl
theorem leads_law {X : PyData} {es : List Str} {as : List Arc} (hX : vwS' X = some (arcsD as)) (ao : AsOk as) (eo : EsOk es) (hal : as.length ≤ 16) (hle : es.length ≤ 8) (hp : ∀ a ∈ as, a.2.1 ∈ es ∧ a.2.2 ∈ es) {s y : Str} (hs : PyData.strOk s = true) {M : ASto} (cl : Cl M) :
    ∃ b : Bool, m__law_leads [.d X, .d (.str s), .d (.str y)] M = .ok (.d (.bool b)) M ∧ (b = true ↔ (y = s ∨ Rc (prs as) s y)) := by
  have I0 : Li as s (s :: es) [s] [s] := by
    refine ⟨by simp, by simp, by simp, by simp, fun x hx => .inl (by simpa using hx), fun u hu hnu => absurd hu hnu, by simp⟩
  obtain ⟨xs, e5, e6, e, I⟩ := ld_while (M := M) rfl hX (some (.d (.str s))) (some (.d (.str y))) ao hal (U := s :: es) (by simp; omega) (fun u hu => by
    rcases List.mem_cons.mp hu with z | z
    · rw [z]; exact hs
    · exact eo u z) (fun z hz => by
      obtain ⟨a, ha, rfl⟩ := List.mem_map.mp hz
      exact List.mem_cons_of_mem _ (hp a ha).2) 100000 [s] [s] none none I0 (by simp; omega)
  refine ⟨decide (y ∈ xs), ?_, ?_⟩
  · have hin := in_cell false y xs (M := M ++ [stC xs, stC []]) (n := M.length) (at0 rfl)
    have c1 : (1 ≤ 100000) = True := eq_true (by omega)
    have hst : Cell.lst [Sl.d (.str s)] = stC [s] := rfl
    have hst2 : (M ++ ([Cell.lst [Sl.d (.str s)]] ++ [Cell.lst [Sl.d (.str s)]])) = M ++ [stC [s], stC [s]] := rfl
    unfold m__law_leads b__law_leads runD
    have e' := e
    unfold ldB at e'
    simp only [aSeq_eq, oSeq_nx, oSeq_rt, oSeq_ex, ↓bind_L, bind_ok, bind_ex, ↓resO_L, resO_ok, resO_ex, aIf, aRet, aAsg, aNm, aVar, aC, aOp, aCall, aCall0, aCons, aNil, aTest, aDrop, aNext, aTup, aLst, allD, aGTup, aGCons, aGNil, noEx, fnR, aNot, aAnd, aOr, aIfE, aPar, aPar3, startA, List.replicate, aI2, aI2C, add_ii, sub_ok, lt_ok, gt_ok, le_ok, ge_ok, aInt1, aAbs, aAndV, aOrV, aNotV, aIx, aSetIx, mod_ok, Nat.reduceAdd, Nat.reduceSub, Nat.zero_add, ixN0, ixNp, Option.bind_some, List.set_cons_zero, List.set_cons_succ, decide_eq_true_eq, decide_true, if_true, if_false, reduceIte, Bool.false_eq_true, ne_eq, aPart, aNoPart, aLen, aMin2, aLstC, List.length_cons, List.length_nil, List.map_cons, List.map_nil, List.cons_append, List.nil_append, List.getElem?_cons_zero, List.getElem?_cons_succ, List.append_assoc, List.length_append, Nat.zero_le, Nat.reduceLeDiff, Nat.le_refl, vwS, vwL, Option.map_some, c1, aWhile, hst, e', hin]
    exact close_app rfl cl
  · rw [decide_eq_true_eq]
    constructor
    · exact I.snd y
    · rintro (rfl | h)
      · exact I.st
      · clear e
        induction h with
        | one h => exact I.cls s I.st (by simp) _ h
        | more h1 h2 ih => exact I.cls _ ih (by simp) _ h2
def resD (es : List Str) : Bad ⊕ List Arc → PyData
  | .inr bs => webD es bs
  | .inl b => badD b
theorem list_of_X {X : PyData} {xs : List PyData} (h : vwS' X = some xs) (M : ASto) : aListOf [.d X] M = .ok (.d (.list xs)) M := by
  cases X with
  | list ys => cases h; rfl
  | tuple ys => cases h; rfl
  | _ => cases h
abbrev ptB : AEnv → ASto → Out := aIf (aTest (aOp (aInQ true) (aVar 3) (aOp aIx (aVar 0) (aC (.int 0))))) (aRet (aLst (aCons (aC (.str "event")) (aCons (aVar 3) aNil)))) aNext
theorem put_loop {es : List Str} {x : PyData} {d1 d2 : Option Sl} {M : ASto} : ∀ (evs : List Str) (s : Option Sl),
    (match evs.find? (fun e => !decide (e ∈ es)) with
      | none => ∃ s', aForL (aNm 3) ptB ((strsD evs).map Sl.d) [some (.d (.tuple [.tuple (strsD es), x])), d1, d2, s] M = .nx [some (.d (.tuple [.tuple (strsD es), x])), d1, d2, s'] M
      | some e => aForL (aNm 3) ptB ((strsD evs).map Sl.d) [some (.d (.tuple [.tuple (strsD es), x])), d1, d2, s] M = .rt (.d (badD (.event e))) M)
  | [], s => ⟨s, rfl⟩
  | e :: evs, s => by
    have i0 : L2.atI [PyData.tuple (strsD es), x] 0 = some (.tuple (strsD es)) := rfl
    have body : ptB [some (.d (.tuple [.tuple (strsD es), x])), d1, d2, some (.d (.str e))] M = if e ∈ es then .nx [some (.d (.tuple [.tuple (strsD es), x])), d1, d2, some (.d (.str e))] M else .rt (.d (badD (.event e))) M := by
      by_cases q : e ∈ es
      · simp only [aSeq_eq, oSeq_nx, oSeq_rt, oSeq_ex, ↓bind_L, bind_ok, bind_ex, ↓resO_L, resO_ok, resO_ex, aIf, aRet, aAsg, aNm, aVar, aC, aOp, aCall, aCall0, aCons, aNil, aTest, aDrop, aNext, aTup, aLst, allD, aGTup, aGCons, aGNil, noEx, fnR, aNot, aAnd, aOr, aIfE, aPar, aPar3, startA, List.replicate, aI2, aI2C, add_ii, sub_ok, lt_ok, gt_ok, le_ok, ge_ok, aInt1, aAbs, aAndV, aOrV, aNotV, aIx, aSetIx, mod_ok, Nat.reduceAdd, Nat.reduceSub, Nat.zero_add, ixN0, ixNp, Option.bind_some, List.set_cons_zero, List.set_cons_succ, decide_eq_true_eq, decide_true, if_true, if_false, reduceIte, Bool.false_eq_true, ne_eq, aPart, aNoPart, aLen, aMin2, aLstC, List.length_cons, List.length_nil, List.map_cons, List.map_nil, List.cons_append, List.nil_append, List.getElem?_cons_zero, List.getElem?_cons_succ, List.append_assoc, List.length_append, Nat.zero_le, Nat.reduceLeDiff, Nat.le_refl, vwS, vwL, Option.map_some, i0, in_tup, q, Bool.not_true]
      · simp only [aSeq_eq, oSeq_nx, oSeq_rt, oSeq_ex, ↓bind_L, bind_ok, bind_ex, ↓resO_L, resO_ok, resO_ex, aIf, aRet, aAsg, aNm, aVar, aC, aOp, aCall, aCall0, aCons, aNil, aTest, aDrop, aNext, aTup, aLst, allD, aGTup, aGCons, aGNil, noEx, fnR, aNot, aAnd, aOr, aIfE, aPar, aPar3, startA, List.replicate, aI2, aI2C, add_ii, sub_ok, lt_ok, gt_ok, le_ok, ge_ok, aInt1, aAbs, aAndV, aOrV, aNotV, aIx, aSetIx, mod_ok, Nat.reduceAdd, Nat.reduceSub, Nat.zero_add, ixN0, ixNp, Option.bind_some, List.set_cons_zero, List.set_cons_succ, decide_eq_true_eq, decide_true, if_true, if_false, reduceIte, Bool.false_eq_true, ne_eq, aPart, aNoPart, aLen, aMin2, aLstC, List.length_cons, List.length_nil, List.map_cons, List.map_nil, List.cons_append, List.nil_append, List.getElem?_cons_zero, List.getElem?_cons_succ, List.append_assoc, List.length_append, Nat.zero_le, Nat.reduceLeDiff, Nat.le_refl, vwS, vwL, Option.map_some, i0, in_tup, q, decide_false, Bool.not_false, badD]
    have hs : (strsD (e :: evs)).map Sl.d = Sl.d (.str e) :: (strsD evs).map Sl.d := rfl
    by_cases q : e ∈ es
    · rw [if_pos q] at body
      rw [List.find?_cons_of_neg (by simp [q])]
      have ih := put_loop (es := es) (x := x) (d1 := d1) (d2 := d2) (M := M) evs (some (.d (.str e)))
      rw [hs]
      unfold aForL
      dsimp only [aNm, List.set_cons_zero, List.set_cons_succ]
      rw [body]
      exact ih
    · rw [if_neg q] at body
      rw [List.find?_cons_of_pos (by simp [q]), hs]
      dsimp only
      unfold aForL
      dsimp only [aNm, List.set_cons_zero, List.set_cons_succ]
      rw [body]
theorem put_law {X x : PyData} {es : List Str} {as : List Arc} {k : Nat} (W : Wb es as k) (hk : k ≤ 15) (hX : vwS' X = some (arcsD as)) {n a b : Str} (ha : PyData.strOk a = true) (hb : PyData.strOk b = true) {M : ASto} (cl : Cl M) :
    m__law_put [.d (.tuple [.tuple (strsD es), x]), .d X, .d (.tuple [.str n, .str a, .str b])] M = .ok (.d (resD es (putS es as n a b))) M := by
  have la : as.length ≤ 15 := Nat.le_trans W.la hk
  have i0 : L2.atI [PyData.tuple (strsD es), x] 0 = some (.tuple (strsD es)) := rfl
  have i1 : L2.atI [PyData.str n, .str a, .str b] 1 = some (.str a) := rfl
  have i2 : L2.atI [PyData.str n, .str a, .str b] 2 = some (.str b) := rfl
  have sl : ∀ d0 d1 d3 M, aSl (aVar 2) (aPart (aC (.int 1))) aNoPart [d0, d1, some (.d (.tuple [.str n, .str a, .str b])), d3] M = .ok (.d (.tuple (strsD [a, b]))) M := fun _ _ _ _ => rfl
  have hl := put_loop (es := es) (x := x) (d1 := some (.d X)) (d2 := some (.d (.tuple [.str n, .str a, .str b]))) (M := M) [a, b] none
  have l2 : ((strsD [a, b]).length ≤ 100000) = True := eq_true (by rw [strs_len]; simp)
  unfold m__law_put b__law_put runD putS
  cases qf : [a, b].find? (fun e => !decide (e ∈ es)) with
  | some e =>
    rw [qf] at hl
    dsimp only at hl
    simp only [aSeq_eq, oSeq_nx, oSeq_rt, oSeq_ex, ↓bind_L, bind_ok, bind_ex, ↓resO_L, resO_ok, resO_ex, aIf, aRet, aAsg, aNm, aVar, aC, aOp, aCall, aCall0, aCons, aNil, aTest, aDrop, aNext, aTup, aLst, allD, aGTup, aGCons, aGNil, noEx, fnR, aNot, aAnd, aOr, aIfE, aPar, aPar3, startA, List.replicate, aI2, aI2C, add_ii, sub_ok, lt_ok, gt_ok, le_ok, ge_ok, aInt1, aAbs, aAndV, aOrV, aNotV, aIx, aSetIx, mod_ok, Nat.reduceAdd, Nat.reduceSub, Nat.zero_add, ixN0, ixNp, Option.bind_some, List.set_cons_zero, List.set_cons_succ, decide_eq_true_eq, decide_true, if_true, if_false, reduceIte, Bool.false_eq_true, ne_eq, aPart, aNoPart, aLen, aMin2, aLstC, List.length_cons, List.length_nil, List.map_cons, List.map_nil, List.cons_append, List.nil_append, List.getElem?_cons_zero, List.getElem?_cons_succ, List.append_assoc, List.length_append, Nat.zero_le, Nat.reduceLeDiff, Nat.le_refl, vwS, vwL, Option.map_some, aFor, iSeqA, sl, l2, hl, resD]
    exact close_ok rfl cl
  | none =>
    rw [qf] at hl
    obtain ⟨s', e⟩ := hl
    obtain ⟨t, e2, ht⟩ := leads_law (y := a) hX W.ao W.eo (by omega) W.le W.en hb cl
    have hc := cat_ll (xs := arcsD as) (ys := [.tuple [.str n, .str a, .str b]]) (by rw [arcs_len]; simp; omega) M
    rw [arcs_app2] at hc
    have hso := sortable_arcs (as ++ [(n, a, b)]) (by simp; omega)
    have hlst := list_of_X hX M
    dsimp only
    by_cases q : b = a ∨ Rc (prs as) b a
    · rw [if_pos q]
      have tt : t = true := ht.mpr (q.imp (fun z => z.symm) id)
      subst tt
      simp only [aSeq_eq, oSeq_nx, oSeq_rt, oSeq_ex, ↓bind_L, bind_ok, bind_ex, ↓resO_L, resO_ok, resO_ex, aIf, aRet, aAsg, aNm, aVar, aC, aOp, aCall, aCall0, aCons, aNil, aTest, aDrop, aNext, aTup, aLst, allD, aGTup, aGCons, aGNil, noEx, fnR, aNot, aAnd, aOr, aIfE, aPar, aPar3, startA, List.replicate, aI2, aI2C, add_ii, sub_ok, lt_ok, gt_ok, le_ok, ge_ok, aInt1, aAbs, aAndV, aOrV, aNotV, aIx, aSetIx, mod_ok, Nat.reduceAdd, Nat.reduceSub, Nat.zero_add, ixN0, ixNp, Option.bind_some, List.set_cons_zero, List.set_cons_succ, decide_eq_true_eq, decide_true, if_true, if_false, reduceIte, Bool.false_eq_true, ne_eq, aPart, aNoPart, aLen, aMin2, aLstC, List.length_cons, List.length_nil, List.map_cons, List.map_nil, List.cons_append, List.nil_append, List.getElem?_cons_zero, List.getElem?_cons_succ, List.append_assoc, List.length_append, Nat.zero_le, Nat.reduceLeDiff, Nat.le_refl, vwS, vwL, Option.map_some, aFor, iSeqA, sl, l2, e, i0, i1, i2, e2, resD, badD]
      exact close_ok rfl cl
    · rw [if_neg q]
      have tt : t = false := by
        cases t with
        | false => rfl
        | true => exact absurd ((ht.mp rfl).imp (fun z => z.symm) id) q
      subst tt
      simp only [aSeq_eq, oSeq_nx, oSeq_rt, oSeq_ex, ↓bind_L, bind_ok, bind_ex, ↓resO_L, resO_ok, resO_ex, aIf, aRet, aAsg, aNm, aVar, aC, aOp, aCall, aCall0, aCons, aNil, aTest, aDrop, aNext, aTup, aLst, allD, aGTup, aGCons, aGNil, noEx, fnR, aNot, aAnd, aOr, aIfE, aPar, aPar3, startA, List.replicate, aI2, aI2C, add_ii, sub_ok, lt_ok, gt_ok, le_ok, ge_ok, aInt1, aAbs, aAndV, aOrV, aNotV, aIx, aSetIx, mod_ok, Nat.reduceAdd, Nat.reduceSub, Nat.zero_add, ixN0, ixNp, Option.bind_some, List.set_cons_zero, List.set_cons_succ, decide_eq_true_eq, decide_true, if_true, if_false, reduceIte, Bool.false_eq_true, ne_eq, aPart, aNoPart, aLen, aMin2, aLstC, List.length_cons, List.length_nil, List.map_cons, List.map_nil, List.cons_append, List.nil_append, List.getElem?_cons_zero, List.getElem?_cons_succ, List.append_assoc, List.length_append, Nat.zero_le, Nat.reduceLeDiff, Nat.le_refl, vwS, vwL, Option.map_some, aFor, iSeqA, sl, l2, e, i0, i1, i2, e2, hlst, hc, aSortQ, hso, aTupOf, srt_eq, resD, webD]
      exact close_ok rfl cl
theorem shaped_arc {a : Arc} (h : PyData.strOk a.1 = true ∧ PyData.strOk a.2.1 = true ∧ PyData.strOk a.2.2 = true) : SeqAt.shaped (arcD a) = true := by
  simp [SeqAt.shaped, arcD, PyData.canLay0, PyData.canLayAll0, h.1, h.2.1, h.2.2, PyData.depth, PyData.depthAll]
theorem eq_arcs (n : Bool) {a b : Arc} (ha : PyData.strOk a.1 = true ∧ PyData.strOk a.2.1 = true ∧ PyData.strOk a.2.2 = true) (hb : PyData.strOk b.1 = true ∧ PyData.strOk b.2.1 = true ∧ PyData.strOk b.2.2 = true) (M : ASto) :
    aEqD n (.d (arcD a)) (.d (arcD b)) M = .ok (.d (.bool (if n then !decide (a = b) else decide (a = b)))) M := by
  have h : PyData.eqv (arcD a) (arcD b) = decide (a = b) := by
    obtain ⟨a1, a2, a3⟩ := a
    obtain ⟨b1, b2, b3⟩ := b
    rw [Bool.eq_iff_iff]
    simp [arcD, PyData.eqv, PyData.eqvAll]
  unfold aEqD
  dsimp only
  rw [if_pos (by rw [shaped_arc ha, shaped_arc hb]; rfl), h]
theorem rest_eq {as : List Arc} (nd : (as.map (·.1)).Nodup) {a : Arc} (ha : a ∈ as) : as.filter (fun x => !decide (x = a)) = less as a.1 := by
  refine List.filter_congr fun x hx => ?_
  have : (x = a) ↔ (x.1 = a.1) := ⟨fun z => by rw [z], fun z => by
    have h1 := one_arc nd ha
    have h2 : x ∈ as.filter (fun x => decide (x.1 = a.1)) := List.mem_filter.mpr ⟨hx, by simp [z]⟩
    rw [h1] at h2
    exact List.mem_singleton.mp h2⟩
  simp [this]
theorem done_law {es : List Str} {as : List Arc} {k : Nat} (W : Wb es as k) (hk : k ≤ 15) {M : ASto} (cl : Cl M) (e : Ed) (he : EdOk e) :
    m__law_done [.d (webD es as), .d (edD e)] M = .ok (.d (resD es (stepS es as e))) M := by
  have la : as.length ≤ 15 := Nat.le_trans W.la hk
  have w0 : L2.atI [PyData.tuple (strsD es), .tuple (arcsD as)] 0 = some (.tuple (strsD es)) := rfl
  have w1 : L2.atI [PyData.tuple (strsD es), .tuple (arcsD as)] 1 = some (.tuple (arcsD as)) := rfl
  have h2 : ((arcsD as).length ≤ 100000) = True := eq_true (by rw [arcs_len]; omega)
  have rest : ∀ (a : Arc) (d3 d4 : Option Sl) (eD : PyData), a ∈ as → aLcL (aNm 4) (aTest (aOp (aEqD true) (aVar 4) (aVar 2))) (aVar 4) [some (.d (.tuple [.tuple (strsD es), .tuple (arcsD as)])), some (.d eD), some (.d (arcD a)), d3, d4] ((arcsD as).map Sl.d) [] M = .ok (arcsD (less as a.1)) M := fun a d3 d4 eD ha => by
    have e := lc_arcs (G := aNm 4) (T := aTest (aOp (aEqD true) (aVar 4) (aVar 2))) (A := aVar 4) (ds := [some (.d (.tuple [.tuple (strsD es), .tuple (arcsD as)])), some (.d eD), some (.d (arcD a)), d3, d4]) (M := M) (p := fun x => !decide (x = a)) (h := arcD) as [] fun x hx =>
      ⟨_, rfl, by
        have q := eq_arcs true (W.ao x hx) (W.ao a ha) M
        simp only [aSeq_eq, oSeq_nx, oSeq_rt, oSeq_ex, ↓bind_L, bind_ok, bind_ex, ↓resO_L, resO_ok, resO_ex, aIf, aRet, aAsg, aNm, aVar, aC, aOp, aCall, aCall0, aCons, aNil, aTest, aDrop, aNext, aTup, aLst, allD, aGTup, aGCons, aGNil, noEx, fnR, aNot, aAnd, aOr, aIfE, aPar, aPar3, startA, List.replicate, aI2, aI2C, add_ii, sub_ok, lt_ok, gt_ok, le_ok, ge_ok, aInt1, aAbs, aAndV, aOrV, aNotV, aIx, aSetIx, mod_ok, Nat.reduceAdd, Nat.reduceSub, Nat.zero_add, ixN0, ixNp, Option.bind_some, List.set_cons_zero, List.set_cons_succ, decide_eq_true_eq, decide_true, if_true, if_false, reduceIte, Bool.false_eq_true, ne_eq, aPart, aNoPart, aLen, aMin2, aLstC, List.length_cons, List.length_nil, List.map_cons, List.map_nil, List.cons_append, List.nil_append, List.getElem?_cons_zero, List.getElem?_cons_succ, List.append_assoc, List.length_append, Nat.zero_le, Nat.reduceLeDiff, Nat.le_refl, vwS, vwL, Option.map_some, q], fun _ => by simp only [aSeq_eq, oSeq_nx, oSeq_rt, oSeq_ex, ↓bind_L, bind_ok, bind_ex, ↓resO_L, resO_ok, resO_ex, aIf, aRet, aAsg, aNm, aVar, aC, aOp, aCall, aCall0, aCons, aNil, aTest, aDrop, aNext, aTup, aLst, allD, aGTup, aGCons, aGNil, noEx, fnR, aNot, aAnd, aOr, aIfE, aPar, aPar3, startA, List.replicate, aI2, aI2C, add_ii, sub_ok, lt_ok, gt_ok, le_ok, ge_ok, aInt1, aAbs, aAndV, aOrV, aNotV, aIx, aSetIx, mod_ok, Nat.reduceAdd, Nat.reduceSub, Nat.zero_add, ixN0, ixNp, Option.bind_some, List.set_cons_zero, List.set_cons_succ, decide_eq_true_eq, decide_true, if_true, if_false, reduceIte, Bool.false_eq_true, ne_eq, aPart, aNoPart, aLen, aMin2, aLstC, List.length_cons, List.length_nil, List.map_cons, List.map_nil, List.cons_append, List.nil_append, List.getElem?_cons_zero, List.getElem?_cons_succ, List.append_assoc, List.length_append, Nat.zero_le, Nat.reduceLeDiff, Nat.le_refl, vwS, vwL, Option.map_some]⟩
    rw [List.nil_append, filt_arcs, rest_eq W.nd ha] at e
    exact e
  have hlen := fun n : Str => List.length_filter_le (fun x : Arc => !decide (x.1 = n)) as
  cases e with
  | put n a b =>
    obtain ⟨hn, ha, hb⟩ := he
    have i0 : L2.atI [PyData.str "put", .str n, .str a, .str b] 0 = some (.str "put") := rfl
    have i1 : L2.atI [PyData.str "put", .str n, .str a, .str b] 1 = some (.str n) := rfl
    have sl : ∀ d0 d2 d3 d4 M, aSl (aVar 1) (aPart (aC (.int 1))) aNoPart [d0, some (.d (.tuple [.str "put", .str n, .str a, .str b])), d2, d3, d4] M = .ok (.d (.tuple [.str n, .str a, .str b])) M := fun _ _ _ _ _ => rfl
    obtain ⟨x, e1, hx⟩ := arc_of_ok W (by omega) cl hn
    rw [webD] at e1
    unfold m__law_done b__law_done runD
    rw [webD]
    rcases hx with ⟨q, rfl⟩ | ⟨c, hc, q, rfl⟩
    · have hp := put_law (X := .tuple (arcsD as)) (x := .tuple (arcsD as)) (n := n) W hk rfl ha hb cl
      have hs : stepS es as (.put n a b) = putS es as n a b := by simp only [stepS]; rw [if_neg q]
      rw [hs]
      simp only [aSeq_eq, oSeq_nx, oSeq_rt, oSeq_ex, ↓bind_L, bind_ok, bind_ex, ↓resO_L, resO_ok, resO_ex, aIf, aRet, aAsg, aNm, aVar, aC, aOp, aCall, aCall0, aCons, aNil, aTest, aDrop, aNext, aTup, aLst, allD, aGTup, aGCons, aGNil, noEx, fnR, aNot, aAnd, aOr, aIfE, aPar, aPar3, startA, List.replicate, aI2, aI2C, add_ii, sub_ok, lt_ok, gt_ok, le_ok, ge_ok, aInt1, aAbs, aAndV, aOrV, aNotV, aIx, aSetIx, mod_ok, Nat.reduceAdd, Nat.reduceSub, Nat.zero_add, ixN0, ixNp, Option.bind_some, List.set_cons_zero, List.set_cons_succ, decide_eq_true_eq, decide_true, if_true, if_false, reduceIte, Bool.false_eq_true, ne_eq, aPart, aNoPart, aLen, aMin2, aLstC, List.length_cons, List.length_nil, List.map_cons, List.map_nil, List.cons_append, List.nil_append, List.getElem?_cons_zero, List.getElem?_cons_succ, List.append_assoc, List.length_append, Nat.zero_le, Nat.reduceLeDiff, Nat.le_refl, vwS, vwL, Option.map_some, edD, i0, i1, e1, eq_ss, k_put, e_pp, is_nn, Bool.not_true, w1, sl, hp]
      exact close_ok rfl cl
    · have hin : n ∈ as.map (·.1) := List.mem_map.mpr ⟨c, hc, q⟩
      have hs : stepS es as (.put n a b) = .inl (.twice n) := by simp only [stepS]; rw [if_pos hin]
      rw [hs]
      have hnn : aIsN true (.d (arcD c)) (.d .none) M = .ok (.d (.bool true)) M := rfl
      simp only [aSeq_eq, oSeq_nx, oSeq_rt, oSeq_ex, ↓bind_L, bind_ok, bind_ex, ↓resO_L, resO_ok, resO_ex, aIf, aRet, aAsg, aNm, aVar, aC, aOp, aCall, aCall0, aCons, aNil, aTest, aDrop, aNext, aTup, aLst, allD, aGTup, aGCons, aGNil, noEx, fnR, aNot, aAnd, aOr, aIfE, aPar, aPar3, startA, List.replicate, aI2, aI2C, add_ii, sub_ok, lt_ok, gt_ok, le_ok, ge_ok, aInt1, aAbs, aAndV, aOrV, aNotV, aIx, aSetIx, mod_ok, Nat.reduceAdd, Nat.reduceSub, Nat.zero_add, ixN0, ixNp, Option.bind_some, List.set_cons_zero, List.set_cons_succ, decide_eq_true_eq, decide_true, if_true, if_false, reduceIte, Bool.false_eq_true, ne_eq, aPart, aNoPart, aLen, aMin2, aLstC, List.length_cons, List.length_nil, List.map_cons, List.map_nil, List.cons_append, List.nil_append, List.getElem?_cons_zero, List.getElem?_cons_succ, List.append_assoc, List.length_append, Nat.zero_le, Nat.reduceLeDiff, Nat.le_refl, vwS, vwL, Option.map_some, edD, i0, i1, e1, eq_ss, k_put, e_pp, hnn, resD, badD]
      exact close_ok rfl cl
  | out n =>
    have hn : PyData.strOk n = true := he
    have i0 : L2.atI [PyData.str "out", .str n] 0 = some (.str "out") := rfl
    have i1 : L2.atI [PyData.str "out", .str n] 1 = some (.str n) := rfl
    obtain ⟨x, e1, hx⟩ := arc_of_ok W (by omega) cl hn
    rw [webD] at e1
    unfold m__law_done b__law_done runD
    rw [webD]
    rcases hx with ⟨q, rfl⟩ | ⟨c, hc, q, rfl⟩
    · have hs : stepS es as (.out n) = .inl (.arc n) := by simp only [stepS]; rw [if_neg q]
      rw [hs]
      simp only [aSeq_eq, oSeq_nx, oSeq_rt, oSeq_ex, ↓bind_L, bind_ok, bind_ex, ↓resO_L, resO_ok, resO_ex, aIf, aRet, aAsg, aNm, aVar, aC, aOp, aCall, aCall0, aCons, aNil, aTest, aDrop, aNext, aTup, aLst, allD, aGTup, aGCons, aGNil, noEx, fnR, aNot, aAnd, aOr, aIfE, aPar, aPar3, startA, List.replicate, aI2, aI2C, add_ii, sub_ok, lt_ok, gt_ok, le_ok, ge_ok, aInt1, aAbs, aAndV, aOrV, aNotV, aIx, aSetIx, mod_ok, Nat.reduceAdd, Nat.reduceSub, Nat.zero_add, ixN0, ixNp, Option.bind_some, List.set_cons_zero, List.set_cons_succ, decide_eq_true_eq, decide_true, if_true, if_false, reduceIte, Bool.false_eq_true, ne_eq, aPart, aNoPart, aLen, aMin2, aLstC, List.length_cons, List.length_nil, List.map_cons, List.map_nil, List.cons_append, List.nil_append, List.getElem?_cons_zero, List.getElem?_cons_succ, List.append_assoc, List.length_append, Nat.zero_le, Nat.reduceLeDiff, Nat.le_refl, vwS, vwL, Option.map_some, edD, i0, i1, e1, eq_ss, k_put, k_out, e_op, is_nn, Bool.not_true, Bool.not_false, resD, badD]
      exact close_ok rfl cl
    · have hin : n ∈ as.map (·.1) := List.mem_map.mpr ⟨c, hc, q⟩
      have hs : stepS es as (.out n) = .inr (less as n) := by simp only [stepS]; rw [if_pos hin]
      rw [hs]
      have hnn : aIsN false (.d (arcD c)) (.d .none) M = .ok (.d (.bool false)) M := rfl
      have r1 := rest c none none (.tuple [.str "out", .str n]) hc
      rw [q] at r1
      simp only [aSeq_eq, oSeq_nx, oSeq_rt, oSeq_ex, ↓bind_L, bind_ok, bind_ex, ↓resO_L, resO_ok, resO_ex, aIf, aRet, aAsg, aNm, aVar, aC, aOp, aCall, aCall0, aCons, aNil, aTest, aDrop, aNext, aTup, aLst, allD, aGTup, aGCons, aGNil, noEx, fnR, aNot, aAnd, aOr, aIfE, aPar, aPar3, startA, List.replicate, aI2, aI2C, add_ii, sub_ok, lt_ok, gt_ok, le_ok, ge_ok, aInt1, aAbs, aAndV, aOrV, aNotV, aIx, aSetIx, mod_ok, Nat.reduceAdd, Nat.reduceSub, Nat.zero_add, ixN0, ixNp, Option.bind_some, List.set_cons_zero, List.set_cons_succ, decide_eq_true_eq, decide_true, if_true, if_false, reduceIte, Bool.false_eq_true, ne_eq, aPart, aNoPart, aLen, aMin2, aLstC, List.length_cons, List.length_nil, List.map_cons, List.map_nil, List.cons_append, List.nil_append, List.getElem?_cons_zero, List.getElem?_cons_succ, List.append_assoc, List.length_append, Nat.zero_le, Nat.reduceLeDiff, Nat.le_refl, vwS, vwL, Option.map_some, edD, i0, i1, e1, eq_ss, k_put, k_out, e_op, e_oo, hnn, w0, w1, aLc, iSeqA, List.length_map, h2, wipeA, r1, aTupOf, resD, webD]
      exact close_ok rfl cl
  | move n a b =>
    obtain ⟨hn, ha, hb⟩ := he
    have i0 : L2.atI [PyData.str "move", .str n, .str a, .str b] 0 = some (.str "move") := rfl
    have i1 : L2.atI [PyData.str "move", .str n, .str a, .str b] 1 = some (.str n) := rfl
    have sl : ∀ d0 d2 d3 d4 M, aSl (aVar 1) (aPart (aC (.int 1))) aNoPart [d0, some (.d (.tuple [.str "move", .str n, .str a, .str b])), d2, d3, d4] M = .ok (.d (.tuple [.str n, .str a, .str b])) M := fun _ _ _ _ _ => rfl
    obtain ⟨x, e1, hx⟩ := arc_of_ok W (by omega) cl hn
    rw [webD] at e1
    unfold m__law_done b__law_done runD
    rw [webD]
    rcases hx with ⟨q, rfl⟩ | ⟨c, hc, q, rfl⟩
    · have hs : stepS es as (.move n a b) = .inl (.arc n) := by simp only [stepS]; rw [if_neg q]
      rw [hs]
      simp only [aSeq_eq, oSeq_nx, oSeq_rt, oSeq_ex, ↓bind_L, bind_ok, bind_ex, ↓resO_L, resO_ok, resO_ex, aIf, aRet, aAsg, aNm, aVar, aC, aOp, aCall, aCall0, aCons, aNil, aTest, aDrop, aNext, aTup, aLst, allD, aGTup, aGCons, aGNil, noEx, fnR, aNot, aAnd, aOr, aIfE, aPar, aPar3, startA, List.replicate, aI2, aI2C, add_ii, sub_ok, lt_ok, gt_ok, le_ok, ge_ok, aInt1, aAbs, aAndV, aOrV, aNotV, aIx, aSetIx, mod_ok, Nat.reduceAdd, Nat.reduceSub, Nat.zero_add, ixN0, ixNp, Option.bind_some, List.set_cons_zero, List.set_cons_succ, decide_eq_true_eq, decide_true, if_true, if_false, reduceIte, Bool.false_eq_true, ne_eq, aPart, aNoPart, aLen, aMin2, aLstC, List.length_cons, List.length_nil, List.map_cons, List.map_nil, List.cons_append, List.nil_append, List.getElem?_cons_zero, List.getElem?_cons_succ, List.append_assoc, List.length_append, Nat.zero_le, Nat.reduceLeDiff, Nat.le_refl, vwS, vwL, Option.map_some, edD, i0, i1, e1, eq_ss, k_put, k_move, e_mp, is_nn, Bool.not_true, Bool.not_false, resD, badD]
      exact close_ok rfl cl
    · have hin : n ∈ as.map (·.1) := List.mem_map.mpr ⟨c, hc, q⟩
      have hs : stepS es as (.move n a b) = putS es (less as n) n a b := by simp only [stepS]; rw [if_pos hin]
      rw [hs]
      have hnn : aIsN false (.d (arcD c)) (.d .none) M = .ok (.d (.bool false)) M := rfl
      have r1 := rest c none none (.tuple [.str "move", .str n, .str a, .str b]) hc
      rw [q] at r1
      have hp := put_law (X := .list (arcsD (less as n))) (x := .tuple (arcsD as)) (n := n) (W.sub fun x => !decide (x.1 = n)) hk rfl ha hb cl
      simp only [aSeq_eq, oSeq_nx, oSeq_rt, oSeq_ex, ↓bind_L, bind_ok, bind_ex, ↓resO_L, resO_ok, resO_ex, aIf, aRet, aAsg, aNm, aVar, aC, aOp, aCall, aCall0, aCons, aNil, aTest, aDrop, aNext, aTup, aLst, allD, aGTup, aGCons, aGNil, noEx, fnR, aNot, aAnd, aOr, aIfE, aPar, aPar3, startA, List.replicate, aI2, aI2C, add_ii, sub_ok, lt_ok, gt_ok, le_ok, ge_ok, aInt1, aAbs, aAndV, aOrV, aNotV, aIx, aSetIx, mod_ok, Nat.reduceAdd, Nat.reduceSub, Nat.zero_add, ixN0, ixNp, Option.bind_some, List.set_cons_zero, List.set_cons_succ, decide_eq_true_eq, decide_true, if_true, if_false, reduceIte, Bool.false_eq_true, ne_eq, aPart, aNoPart, aLen, aMin2, aLstC, List.length_cons, List.length_nil, List.map_cons, List.map_nil, List.cons_append, List.nil_append, List.getElem?_cons_zero, List.getElem?_cons_succ, List.append_assoc, List.length_append, Nat.zero_le, Nat.reduceLeDiff, Nat.le_refl, vwS, vwL, Option.map_some, edD, i0, i1, e1, eq_ss, k_put, k_out, k_move, e_mp, e_mo, e_mm, hnn, w0, w1, aLc, iSeqA, List.length_map, h2, wipeA, r1, sl, hp]
      exact close_ok rfl cl
  | call n m =>
    obtain ⟨hn, hm⟩ := he
    have i0 : L2.atI [PyData.str "call", .str n, .str m] 0 = some (.str "call") := rfl
    have i1 : L2.atI [PyData.str "call", .str n, .str m] 1 = some (.str n) := rfl
    have i2 : L2.atI [PyData.str "call", .str n, .str m] 2 = some (.str m) := rfl
    obtain ⟨x, e1, hx⟩ := arc_of_ok W (by omega) cl hn
    obtain ⟨y, e2, hy⟩ := arc_of_ok W (by omega) cl hm
    rw [webD] at e1 e2
    unfold m__law_done b__law_done runD
    rw [webD]
    rcases hx with ⟨q, rfl⟩ | ⟨c, hc, q, rfl⟩
    · have hs : stepS es as (.call n m) = .inl (.arc n) := by simp only [stepS]; rw [if_neg q]
      rw [hs]
      simp only [aSeq_eq, oSeq_nx, oSeq_rt, oSeq_ex, ↓bind_L, bind_ok, bind_ex, ↓resO_L, resO_ok, resO_ex, aIf, aRet, aAsg, aNm, aVar, aC, aOp, aCall, aCall0, aCons, aNil, aTest, aDrop, aNext, aTup, aLst, allD, aGTup, aGCons, aGNil, noEx, fnR, aNot, aAnd, aOr, aIfE, aPar, aPar3, startA, List.replicate, aI2, aI2C, add_ii, sub_ok, lt_ok, gt_ok, le_ok, ge_ok, aInt1, aAbs, aAndV, aOrV, aNotV, aIx, aSetIx, mod_ok, Nat.reduceAdd, Nat.reduceSub, Nat.zero_add, ixN0, ixNp, Option.bind_some, List.set_cons_zero, List.set_cons_succ, decide_eq_true_eq, decide_true, if_true, if_false, reduceIte, Bool.false_eq_true, ne_eq, aPart, aNoPart, aLen, aMin2, aLstC, List.length_cons, List.length_nil, List.map_cons, List.map_nil, List.cons_append, List.nil_append, List.getElem?_cons_zero, List.getElem?_cons_succ, List.append_assoc, List.length_append, Nat.zero_le, Nat.reduceLeDiff, Nat.le_refl, vwS, vwL, Option.map_some, edD, i0, i1, e1, eq_ss, k_put, k_call, e_cp, is_nn, Bool.not_true, Bool.not_false, resD, badD]
      exact close_ok rfl cl
    · have hin : n ∈ as.map (·.1) := List.mem_map.mpr ⟨c, hc, q⟩
      have hnn : aIsN false (.d (arcD c)) (.d .none) M = .ok (.d (.bool false)) M := rfl
      have r1 := rest c none none (.tuple [.str "call", .str n, .str m]) hc
      rw [q] at r1
      rcases hy with ⟨q2, rfl⟩ | ⟨c2, hc2, q2, rfl⟩
      · have hs : stepS es as (.call n m) = .inr (srt (less as n ++ [(m, c.2)])) := by
          simp only [stepS]
          rw [if_pos hin, if_neg q2]
          subst q
          rw [one_arc W.nd hc]
          rfl
        rw [hs]
        have sl : ∀ d0 d1 d3 d4 M, aSl (aVar 2) (aPart (aC (.int 1))) aNoPart [d0, d1, some (.d (arcD c)), d3, d4] M = .ok (.d (.tuple [.str c.2.1, .str c.2.2])) M := fun _ _ _ _ _ => rfl
        have ct := cat_tt (xs := [PyData.str m]) (ys := [.str c.2.1, .str c.2.2]) (by simp) M
        have ct' : aAddE (.d (.tuple [.str m])) (.d (.tuple [.str c.2.1, .str c.2.2])) M = .ok (.d (.tuple [.str m, .str c.2.1, .str c.2.2])) M := ct
        have hl := hlen n
        have hc3 := cat_ll (xs := arcsD (less as n)) (ys := [.tuple [.str m, .str c.2.1, .str c.2.2]]) (by rw [arcs_len]; unfold less; simp; omega) M
        rw [arcs_app2] at hc3
        have hso := sortable_arcs (less as n ++ [(m, c.2.1, c.2.2)]) (by unfold less; simp; omega)
        simp only [aSeq_eq, oSeq_nx, oSeq_rt, oSeq_ex, ↓bind_L, bind_ok, bind_ex, ↓resO_L, resO_ok, resO_ex, aIf, aRet, aAsg, aNm, aVar, aC, aOp, aCall, aCall0, aCons, aNil, aTest, aDrop, aNext, aTup, aLst, allD, aGTup, aGCons, aGNil, noEx, fnR, aNot, aAnd, aOr, aIfE, aPar, aPar3, startA, List.replicate, aI2, aI2C, add_ii, sub_ok, lt_ok, gt_ok, le_ok, ge_ok, aInt1, aAbs, aAndV, aOrV, aNotV, aIx, aSetIx, mod_ok, Nat.reduceAdd, Nat.reduceSub, Nat.zero_add, ixN0, ixNp, Option.bind_some, List.set_cons_zero, List.set_cons_succ, decide_eq_true_eq, decide_true, if_true, if_false, reduceIte, Bool.false_eq_true, ne_eq, aPart, aNoPart, aLen, aMin2, aLstC, List.length_cons, List.length_nil, List.map_cons, List.map_nil, List.cons_append, List.nil_append, List.getElem?_cons_zero, List.getElem?_cons_succ, List.append_assoc, List.length_append, Nat.zero_le, Nat.reduceLeDiff, Nat.le_refl, vwS, vwL, Option.map_some, edD, i0, i1, i2, e1, e2, eq_ss, k_put, k_out, k_move, k_call, e_cp, e_co, e_cm, hnn, is_nn, Bool.not_true, w0, w1, aLc, iSeqA, List.length_map, h2, wipeA, r1, sl, ct', hc3, aSortQ, hso, srt_eq, aTupOf, resD, webD]
        exact close_ok rfl cl
      · have hin2 : m ∈ as.map (·.1) := List.mem_map.mpr ⟨c2, hc2, q2⟩
        have hs : stepS es as (.call n m) = .inl (.twice m) := by simp only [stepS]; rw [if_pos hin, if_pos hin2]
        rw [hs]
        have hn2 : aIsN true (.d (arcD c2)) (.d .none) M = .ok (.d (.bool true)) M := rfl
        simp only [aSeq_eq, oSeq_nx, oSeq_rt, oSeq_ex, ↓bind_L, bind_ok, bind_ex, ↓resO_L, resO_ok, resO_ex, aIf, aRet, aAsg, aNm, aVar, aC, aOp, aCall, aCall0, aCons, aNil, aTest, aDrop, aNext, aTup, aLst, allD, aGTup, aGCons, aGNil, noEx, fnR, aNot, aAnd, aOr, aIfE, aPar, aPar3, startA, List.replicate, aI2, aI2C, add_ii, sub_ok, lt_ok, gt_ok, le_ok, ge_ok, aInt1, aAbs, aAndV, aOrV, aNotV, aIx, aSetIx, mod_ok, Nat.reduceAdd, Nat.reduceSub, Nat.zero_add, ixN0, ixNp, Option.bind_some, List.set_cons_zero, List.set_cons_succ, decide_eq_true_eq, decide_true, if_true, if_false, reduceIte, Bool.false_eq_true, ne_eq, aPart, aNoPart, aLen, aMin2, aLstC, List.length_cons, List.length_nil, List.map_cons, List.map_nil, List.cons_append, List.nil_append, List.getElem?_cons_zero, List.getElem?_cons_succ, List.append_assoc, List.length_append, Nat.zero_le, Nat.reduceLeDiff, Nat.le_refl, vwS, vwL, Option.map_some, edD, i0, i1, i2, e1, e2, eq_ss, k_put, k_out, k_move, k_call, e_cp, e_co, e_cm, hnn, hn2, w0, w1, aLc, iSeqA, List.length_map, h2, wipeA, r1, resD, badD]
        exact close_ok rfl cl
end G
end
section
set_option Elab.async false
set_option linter.all false
set_option maxRecDepth 100000
set_option maxHeartbeats 4000000
namespace G
open PySem Ab
abbrev adB : AEnv → ASto → Out := aSeq (aAsg (aCall0 m__law_done (aCons (aVar 2) (aCons (aVar 4) aNil))) (aNm 2)) (aIf (aTest (aIsI ["list"] (aVar 2))) (aRet (aLst (aCons (aVar 3) (aCons (aVar 2) aNil)))) aNext)
theorem isl_web (es : List Str) (as : List Arc) (ds : AEnv) (M : ASto) (h : ds[2]? = some (some (.d (webD es as)))) : aIsI ["list"] (aVar 2) ds M = .ok (.d (.bool false)) M := by
  unfold aIsI aVar
  rw [h, webD]
  simp only [↓bind_L, bind_ok, tagS, tagD, ia_list_tuple, iy_list_tuple__NoneType, iy_list_tuple__bool, iy_list_tuple__int, iy_list_tuple__str, iy_list_tuple__list, iy_list_tuple__tuple, ia_list, iy_list__NoneType, iy_list__bool, iy_list__int, iy_list__str, iy_list__list, iy_list__tuple, ia_tuple, iy_tuple__NoneType, iy_tuple__bool, iy_tuple__int, iy_tuple__str, iy_tuple__list, iy_tuple__tuple, ia_dict, iy_dict__NoneType, iy_dict__bool, iy_dict__int, iy_dict__str, iy_dict__list, iy_dict__tuple, ia_bool_str, iy_bool_str__NoneType, iy_bool_str__bool, iy_bool_str__int, iy_bool_str__str, iy_bool_str__list, iy_bool_str__tuple, ia_int, iy_int__NoneType, iy_int__bool, iy_int__int, iy_int__str, iy_int__list, iy_int__tuple, ia_bool, iy_bool__NoneType, iy_bool__bool, iy_bool__int, iy_bool__str, iy_bool__list, iy_bool__tuple, ia_str, iy_str__NoneType, iy_str__bool, iy_str__int, iy_str__str, iy_str__list, iy_str__tuple]
  rfl
theorem isl_bad (b : Bad) (ds : AEnv) (M : ASto) (h : ds[2]? = some (some (.d (badD b)))) : aIsI ["list"] (aVar 2) ds M = .ok (.d (.bool true)) M := by
  unfold aIsI aVar
  rw [h]
  cases b <;> (unfold badD; simp only [↓bind_L, bind_ok, tagS, tagD, ia_list_tuple, iy_list_tuple__NoneType, iy_list_tuple__bool, iy_list_tuple__int, iy_list_tuple__str, iy_list_tuple__list, iy_list_tuple__tuple, ia_list, iy_list__NoneType, iy_list__bool, iy_list__int, iy_list__str, iy_list__list, iy_list__tuple, ia_tuple, iy_tuple__NoneType, iy_tuple__bool, iy_tuple__int, iy_tuple__str, iy_tuple__list, iy_tuple__tuple, ia_dict, iy_dict__NoneType, iy_dict__bool, iy_dict__int, iy_dict__str, iy_dict__list, iy_dict__tuple, ia_bool_str, iy_bool_str__NoneType, iy_bool_str__bool, iy_bool_str__int, iy_bool_str__str, iy_bool_str__list, iy_bool_str__tuple, ia_int, iy_int__NoneType, iy_int__bool, iy_int__int, iy_int__str, iy_int__list, iy_int__tuple, ia_bool, iy_bool__NoneType, iy_bool__bool, iy_bool__int, iy_bool__str, iy_bool__list, iy_bool__tuple, ia_str, iy_str__NoneType, iy_str__bool, iy_str__int, iy_str__str, iy_str__list, iy_str__tuple]; rfl)
theorem ad_loop {es : List Str} {d0 d1 : Option Sl} {M : ASto} (cl : Cl M) : ∀ (eds : List Ed) (as : List Arc) (k i : Nat) (s3 s4 : Option Sl), Wb es as k → k + eds.length ≤ 16 → (∀ e ∈ eds, EdOk e) →
    (match allS es as eds i with
      | .inr bs => ∃ s3' s4', aForL (aGTup 2 (aGCons (aNm 3) (aGCons (aNm 4) aGNil))) adB (enumL i (eds.map edD)) [d0, d1, some (.d (webD es as)), s3, s4] M = .nx [d0, d1, some (.d (webD es bs)), s3', s4'] M
      | .inl (j, b) => aForL (aGTup 2 (aGCons (aNm 3) (aGCons (aNm 4) aGNil))) adB (enumL i (eds.map edD)) [d0, d1, some (.d (webD es as)), s3, s4] M = .rt (.d (.list [.int j, badD b])) M)
  | [], as, k, i, s3, s4, W, hk, he => ⟨s3, s4, rfl⟩
  | e :: r, as, k, i, s3, s4, W, hk, he => by
    have hb := done_law W (by simp at hk; omega) cl e (he e (by simp))
    have hs : enumL i ((e :: r).map edD) = Sl.d (.tuple [.int i, edD e]) :: enumL (i + 1) (r.map edD) := rfl
    have hg : aGTup 2 (aGCons (aNm 3) (aGCons (aNm 4) aGNil)) (.d (.tuple [.int i, edD e])) [d0, d1, some (.d (webD es as)), s3, s4] = some [d0, d1, some (.d (webD es as)), some (.d (.int i)), some (.d (edD e))] := rfl
    rw [hs]
    unfold aForL
    rw [hg]
    dsimp only
    simp only [allS]
    cases hst : stepS es as e with
    | inl b =>
      rw [hst] at hb
      have hi := isl_bad b [d0, d1, some (.d (badD b)), some (.d (.int i)), some (.d (edD e))] M rfl
      have body : adB [d0, d1, some (.d (webD es as)), some (.d (.int i)), some (.d (edD e))] M = .rt (.d (.list [.int i, badD b])) M := by
        simp only [aSeq_eq, oSeq_nx, oSeq_rt, oSeq_ex, ↓bind_L, bind_ok, bind_ex, ↓resO_L, resO_ok, resO_ex, aIf, aRet, aAsg, aNm, aVar, aC, aOp, aCall, aCall0, aCons, aNil, aTest, aDrop, aNext, aTup, aLst, allD, aGTup, aGCons, aGNil, noEx, fnR, aNot, aAnd, aOr, aIfE, aPar, aPar3, startA, List.replicate, aI2, aI2C, add_ii, sub_ok, lt_ok, gt_ok, le_ok, ge_ok, aInt1, aAbs, aAndV, aOrV, aNotV, aIx, aSetIx, mod_ok, Nat.reduceAdd, Nat.reduceSub, Nat.zero_add, ixN0, ixNp, Option.bind_some, List.set_cons_zero, List.set_cons_succ, decide_eq_true_eq, decide_true, if_true, if_false, reduceIte, Bool.false_eq_true, ne_eq, aPart, aNoPart, aLen, aMin2, aLstC, List.length_cons, List.length_nil, List.map_cons, List.map_nil, List.cons_append, List.nil_append, List.getElem?_cons_zero, List.getElem?_cons_succ, List.append_assoc, List.length_append, Nat.zero_le, Nat.reduceLeDiff, Nat.le_refl, vwS, vwL, Option.map_some, hb, resD, hi]
      rw [body]
    | inr bs =>
      rw [hst] at hb
      have hi := isl_web es bs [d0, d1, some (.d (webD es bs)), some (.d (.int i)), some (.d (edD e))] M rfl
      have body : adB [d0, d1, some (.d (webD es as)), some (.d (.int i)), some (.d (edD e))] M = .nx [d0, d1, some (.d (webD es bs)), some (.d (.int i)), some (.d (edD e))] M := by
        simp only [aSeq_eq, oSeq_nx, oSeq_rt, oSeq_ex, ↓bind_L, bind_ok, bind_ex, ↓resO_L, resO_ok, resO_ex, aIf, aRet, aAsg, aNm, aVar, aC, aOp, aCall, aCall0, aCons, aNil, aTest, aDrop, aNext, aTup, aLst, allD, aGTup, aGCons, aGNil, noEx, fnR, aNot, aAnd, aOr, aIfE, aPar, aPar3, startA, List.replicate, aI2, aI2C, add_ii, sub_ok, lt_ok, gt_ok, le_ok, ge_ok, aInt1, aAbs, aAndV, aOrV, aNotV, aIx, aSetIx, mod_ok, Nat.reduceAdd, Nat.reduceSub, Nat.zero_add, ixN0, ixNp, Option.bind_some, List.set_cons_zero, List.set_cons_succ, decide_eq_true_eq, decide_true, if_true, if_false, reduceIte, Bool.false_eq_true, ne_eq, aPart, aNoPart, aLen, aMin2, aLstC, List.length_cons, List.length_nil, List.map_cons, List.map_nil, List.cons_append, List.nil_append, List.getElem?_cons_zero, List.getElem?_cons_succ, List.append_assoc, List.length_append, Nat.zero_le, Nat.reduceLeDiff, Nat.le_refl, vwS, vwL, Option.map_some, hb, resD, hi]
      rw [body]
      exact ad_loop cl r bs (k + 1) (i + 1) (some (.d (.int i))) (some (.d (edD e))) (stepS_wb W e (he e (by simp)) hst) (by simp at hk; omega) fun x hx => he x (by simp [hx])
def allD' (es : List Str) : (Nat × Bad) ⊕ List Arc → PyData
  | .inr bs => webD es bs
  | .inl (j, b) => .list [.int j, badD b]
theorem all_law {es : List Str} {as : List Arc} {k : Nat} {eds : List Ed} (W : Wb es as k) (eo : ∀ e ∈ eds, EdOk e) (hk : k + eds.length ≤ 16) {M : ASto} (cl : Cl M) :
    m__law_all_done [.d (webD es as), .d (edsD eds)] M = .ok (.d (allD' es (allS es as eds 0))) M := by
  have hl := ad_loop (d0 := some (.d (webD es as))) (d1 := some (.d (edsD eds))) cl eds as k 0 none none W hk eo
  unfold m__law_all_done b__law_all_done runD
  rw [edsD] at hl ⊢
  cases hq : allS es as eds 0 with
  | inr bs =>
    rw [hq] at hl
    obtain ⟨s3', s4', e⟩ := hl
    simp only [aSeq_eq, oSeq_nx, oSeq_rt, oSeq_ex, ↓bind_L, bind_ok, bind_ex, ↓resO_L, resO_ok, resO_ex, aIf, aRet, aAsg, aNm, aVar, aC, aOp, aCall, aCall0, aCons, aNil, aTest, aDrop, aNext, aTup, aLst, allD, aGTup, aGCons, aGNil, noEx, fnR, aNot, aAnd, aOr, aIfE, aPar, aPar3, startA, List.replicate, aI2, aI2C, add_ii, sub_ok, lt_ok, gt_ok, le_ok, ge_ok, aInt1, aAbs, aAndV, aOrV, aNotV, aIx, aSetIx, mod_ok, Nat.reduceAdd, Nat.reduceSub, Nat.zero_add, ixN0, ixNp, Option.bind_some, List.set_cons_zero, List.set_cons_succ, decide_eq_true_eq, decide_true, if_true, if_false, reduceIte, Bool.false_eq_true, ne_eq, aPart, aNoPart, aLen, aMin2, aLstC, List.length_cons, List.length_nil, List.map_cons, List.map_nil, List.cons_append, List.nil_append, List.getElem?_cons_zero, List.getElem?_cons_succ, List.append_assoc, List.length_append, Nat.zero_le, Nat.reduceLeDiff, Nat.le_refl, vwS, vwL, Option.map_some, aFor, iEnumQA, e, allD']
    exact close_ok rfl cl
  | inl p =>
    obtain ⟨j, b⟩ := p
    rw [hq] at hl
    dsimp only at hl
    simp only [aSeq_eq, oSeq_nx, oSeq_rt, oSeq_ex, ↓bind_L, bind_ok, bind_ex, ↓resO_L, resO_ok, resO_ex, aIf, aRet, aAsg, aNm, aVar, aC, aOp, aCall, aCall0, aCons, aNil, aTest, aDrop, aNext, aTup, aLst, allD, aGTup, aGCons, aGNil, noEx, fnR, aNot, aAnd, aOr, aIfE, aPar, aPar3, startA, List.replicate, aI2, aI2C, add_ii, sub_ok, lt_ok, gt_ok, le_ok, ge_ok, aInt1, aAbs, aAndV, aOrV, aNotV, aIx, aSetIx, mod_ok, Nat.reduceAdd, Nat.reduceSub, Nat.zero_add, ixN0, ixNp, Option.bind_some, List.set_cons_zero, List.set_cons_succ, decide_eq_true_eq, decide_true, if_true, if_false, reduceIte, Bool.false_eq_true, ne_eq, aPart, aNoPart, aLen, aMin2, aLstC, List.length_cons, List.length_nil, List.map_cons, List.map_nil, List.cons_append, List.nil_append, List.getElem?_cons_zero, List.getElem?_cons_succ, List.append_assoc, List.length_append, Nat.zero_le, Nat.reduceLeDiff, Nat.le_refl, vwS, vwL, Option.map_some, aFor, iEnumQA, hl, allD']
    exact close_ok rfl cl
/-! ### what is heard -/
def badH : Bad → PyData
  | .twice n => .list [.str "twice", .str n, .bool true]
  | .arc n => .list [.str "arc", .str n, .bool true]
  | .event n => .list [.str "event", .str n, .bool true]
  | .ring => .list [.str "ring", .none, .bool true]
def hrdD (es : List Str) : (Nat × Bad) ⊕ List Arc → PyData
  | .inr bs => webD es bs
  | .inl (_, b) => badH b
theorem z_ta : (("Twice" : Str) == "Twice") = true := by decide +kernel
theorem z_at : (("NoArc" : Str) == "Twice") = false := by decide +kernel
theorem z_aa : (("NoArc" : Str) == "NoArc") = true := by decide +kernel
theorem z_et : (("NoEvent" : Str) == "Twice") = false := by decide +kernel
theorem z_ea : (("NoEvent" : Str) == "NoArc") = false := by decide +kernel
theorem z_ee : (("NoEvent" : Str) == "NoEvent") = true := by decide +kernel
theorem z_rt : (("Ring" : Str) == "Twice") = false := by decide +kernel
theorem z_ra : (("Ring" : Str) == "NoArc") = false := by decide +kernel
theorem z_re : (("Ring" : Str) == "NoEvent") = false := by decide +kernel
theorem z_rr : (("Ring" : Str) == "Ring") = true := by decide +kernel
theorem heard17 {w v : PyData} {es : List Str} {as : List Arc} {k : Nat} {eds : List Ed} (L : Like w es as) (W : Wb es as k) (E : Elike v eds) (hk : k + eds.length ≤ 16) {M : ASto} (cl : Cl M) :
    m__law_heard [.d w, .d v] M = .ok (.d (hrdD es (allS es as eds 0))) M := by
  have he := edited_ok L W E hk cl
  unfold m__law_heard b__law_heard runD
  cases hq : allS es as eds 0 with
  | inr bs =>
    rw [hq] at he
    dsimp only at he
    simp only [aSeq_eq, oSeq_nx, oSeq_rt, oSeq_ex, ↓bind_L, bind_ok, bind_ex, ↓resO_L, resO_ok, resO_ex, aIf, aRet, aAsg, aNm, aVar, aC, aOp, aCall, aCall0, aCons, aNil, aTest, aDrop, aNext, aTup, aLst, allD, aGTup, aGCons, aGNil, noEx, fnR, aNot, aAnd, aOr, aIfE, aPar, aPar3, startA, List.replicate, aI2, aI2C, add_ii, sub_ok, lt_ok, gt_ok, le_ok, ge_ok, aInt1, aAbs, aAndV, aOrV, aNotV, aIx, aSetIx, mod_ok, Nat.reduceAdd, Nat.reduceSub, Nat.zero_add, ixN0, ixNp, Option.bind_some, List.set_cons_zero, List.set_cons_succ, decide_eq_true_eq, decide_true, if_true, if_false, reduceIte, Bool.false_eq_true, ne_eq, aPart, aNoPart, aLen, aMin2, aLstC, List.length_cons, List.length_nil, List.map_cons, List.map_nil, List.cons_append, List.nil_append, List.getElem?_cons_zero, List.getElem?_cons_succ, List.append_assoc, List.length_append, Nat.zero_le, Nat.reduceLeDiff, Nat.le_refl, vwS, vwL, Option.map_some, aTry, he, is_nn, Bool.not_false, hrdD]
    exact close_ok rfl cl
  | inl p =>
    obtain ⟨j, b⟩ := p
    rw [hq] at he
    dsimp only at he
    cases b with
    | twice n =>
      have c1 : aSui 2 (xCons (xC (.str "twice")) (xCons (xFld "name") (xCons (xC (.bool true)) xNil))) (some [("name", .str n)]) ([some (.d w), some (.d v), some (.d .none), some (.d .none), none]) M = .nx [some (.d w), some (.d v), some (.d (badH (.twice n))), some (.d .none), none] M := rfl
      simp only [badE, errE] at he
      simp only [aSeq_eq, oSeq_nx, oSeq_rt, oSeq_ex, ↓bind_L, bind_ok, bind_ex, ↓resO_L, resO_ok, resO_ex, aIf, aRet, aAsg, aNm, aVar, aC, aOp, aCall, aCall0, aCons, aNil, aTest, aDrop, aNext, aTup, aLst, allD, aGTup, aGCons, aGNil, noEx, fnR, aNot, aAnd, aOr, aIfE, aPar, aPar3, startA, List.replicate, aI2, aI2C, add_ii, sub_ok, lt_ok, gt_ok, le_ok, ge_ok, aInt1, aAbs, aAndV, aOrV, aNotV, aIx, aSetIx, mod_ok, Nat.reduceAdd, Nat.reduceSub, Nat.zero_add, ixN0, ixNp, Option.bind_some, List.set_cons_zero, List.set_cons_succ, decide_eq_true_eq, decide_true, if_true, if_false, reduceIte, Bool.false_eq_true, ne_eq, aPart, aNoPart, aLen, aMin2, aLstC, List.length_cons, List.length_nil, List.map_cons, List.map_nil, List.cons_append, List.nil_append, List.getElem?_cons_zero, List.getElem?_cons_succ, List.append_assoc, List.length_append, Nat.zero_le, Nat.reduceLeDiff, Nat.le_refl, vwS, vwL, Option.map_some, aTry, he, aCls, c_tw, z_ta, c1, cleanO, hrdD, badH, is_ln, Nat.reduceLT]
      exact close_ok rfl cl
    | arc n =>
      have c1 : aSui 2 (xCons (xC (.str "arc")) (xCons (xFld "name") (xCons (xC (.bool true)) xNil))) (some [("name", .str n)]) ([some (.d w), some (.d v), some (.d .none), some (.d .none), none]) M = .nx [some (.d w), some (.d v), some (.d (badH (.arc n))), some (.d .none), none] M := rfl
      simp only [badE, errE] at he
      simp only [aSeq_eq, oSeq_nx, oSeq_rt, oSeq_ex, ↓bind_L, bind_ok, bind_ex, ↓resO_L, resO_ok, resO_ex, aIf, aRet, aAsg, aNm, aVar, aC, aOp, aCall, aCall0, aCons, aNil, aTest, aDrop, aNext, aTup, aLst, allD, aGTup, aGCons, aGNil, noEx, fnR, aNot, aAnd, aOr, aIfE, aPar, aPar3, startA, List.replicate, aI2, aI2C, add_ii, sub_ok, lt_ok, gt_ok, le_ok, ge_ok, aInt1, aAbs, aAndV, aOrV, aNotV, aIx, aSetIx, mod_ok, Nat.reduceAdd, Nat.reduceSub, Nat.zero_add, ixN0, ixNp, Option.bind_some, List.set_cons_zero, List.set_cons_succ, decide_eq_true_eq, decide_true, if_true, if_false, reduceIte, Bool.false_eq_true, ne_eq, aPart, aNoPart, aLen, aMin2, aLstC, List.length_cons, List.length_nil, List.map_cons, List.map_nil, List.cons_append, List.nil_append, List.getElem?_cons_zero, List.getElem?_cons_succ, List.append_assoc, List.length_append, Nat.zero_le, Nat.reduceLeDiff, Nat.le_refl, vwS, vwL, Option.map_some, aTry, he, aCls, c_ar, z_at, z_aa, c1, cleanO, hrdD, badH, is_ln, Nat.reduceLT]
      exact close_ok rfl cl
    | event n =>
      have c1 : aSui 2 (xCons (xC (.str "event")) (xCons (xFld "event") (xCons (xC (.bool true)) xNil))) (some [("event", .str n)]) ([some (.d w), some (.d v), some (.d .none), some (.d .none), none]) M = .nx [some (.d w), some (.d v), some (.d (badH (.event n))), some (.d .none), none] M := rfl
      simp only [badE, noEv] at he
      simp only [aSeq_eq, oSeq_nx, oSeq_rt, oSeq_ex, ↓bind_L, bind_ok, bind_ex, ↓resO_L, resO_ok, resO_ex, aIf, aRet, aAsg, aNm, aVar, aC, aOp, aCall, aCall0, aCons, aNil, aTest, aDrop, aNext, aTup, aLst, allD, aGTup, aGCons, aGNil, noEx, fnR, aNot, aAnd, aOr, aIfE, aPar, aPar3, startA, List.replicate, aI2, aI2C, add_ii, sub_ok, lt_ok, gt_ok, le_ok, ge_ok, aInt1, aAbs, aAndV, aOrV, aNotV, aIx, aSetIx, mod_ok, Nat.reduceAdd, Nat.reduceSub, Nat.zero_add, ixN0, ixNp, Option.bind_some, List.set_cons_zero, List.set_cons_succ, decide_eq_true_eq, decide_true, if_true, if_false, reduceIte, Bool.false_eq_true, ne_eq, aPart, aNoPart, aLen, aMin2, aLstC, List.length_cons, List.length_nil, List.map_cons, List.map_nil, List.cons_append, List.nil_append, List.getElem?_cons_zero, List.getElem?_cons_succ, List.append_assoc, List.length_append, Nat.zero_le, Nat.reduceLeDiff, Nat.le_refl, vwS, vwL, Option.map_some, aTry, he, aCls, c_ev, z_et, z_ea, z_ee, c1, cleanO, hrdD, badH, is_ln, Nat.reduceLT]
      exact close_ok rfl cl
    | ring =>
      have c1 : aSui 2 (xCons (xC (.str "ring")) (xCons (xC .none) (xCons (xC (.bool true)) xNil))) none ([some (.d w), some (.d v), some (.d .none), some (.d .none), none]) M = .nx [some (.d w), some (.d v), some (.d (badH .ring)), some (.d .none), none] M := rfl
      simp only [badE] at he
      simp only [aSeq_eq, oSeq_nx, oSeq_rt, oSeq_ex, ↓bind_L, bind_ok, bind_ex, ↓resO_L, resO_ok, resO_ex, aIf, aRet, aAsg, aNm, aVar, aC, aOp, aCall, aCall0, aCons, aNil, aTest, aDrop, aNext, aTup, aLst, allD, aGTup, aGCons, aGNil, noEx, fnR, aNot, aAnd, aOr, aIfE, aPar, aPar3, startA, List.replicate, aI2, aI2C, add_ii, sub_ok, lt_ok, gt_ok, le_ok, ge_ok, aInt1, aAbs, aAndV, aOrV, aNotV, aIx, aSetIx, mod_ok, Nat.reduceAdd, Nat.reduceSub, Nat.zero_add, ixN0, ixNp, Option.bind_some, List.set_cons_zero, List.set_cons_succ, decide_eq_true_eq, decide_true, if_true, if_false, reduceIte, Bool.false_eq_true, ne_eq, aPart, aNoPart, aLen, aMin2, aLstC, List.length_cons, List.length_nil, List.map_cons, List.map_nil, List.cons_append, List.nil_append, List.getElem?_cons_zero, List.getElem?_cons_succ, List.append_assoc, List.length_append, Nat.zero_le, Nat.reduceLeDiff, Nat.le_refl, vwS, vwL, Option.map_some, aTry, he, aCls, c_rg, z_rt, z_ra, z_re, z_rr, c1, cleanO, hrdD, badH, is_ln, Nat.reduceLT]
      exact close_ok rfl cl
/-! ### one case -/
theorem ok_ed {e : Ed} (h : EdOk e) : okD 2 (edD e) := by
  cases e with
  | put n a b => exact ⟨by simp, fun y hy => by
      simp at hy
      rcases hy with rfl | rfl | rfl | rfl
      · exact k_put
      · exact h.1
      · exact h.2.1
      · exact h.2.2⟩
  | out n => exact ⟨by simp, fun y hy => by
      simp at hy
      rcases hy with rfl | rfl
      · exact k_out
      · exact h⟩
  | move n a b => exact ⟨by simp, fun y hy => by
      simp at hy
      rcases hy with rfl | rfl | rfl | rfl
      · exact k_move
      · exact h.1
      · exact h.2.1
      · exact h.2.2⟩
  | call n m => exact ⟨by simp, fun y hy => by
      simp at hy
      rcases hy with rfl | rfl | rfl
      · exact k_call
      · exact h.1
      · exact h.2⟩
theorem ok_eds {eds : List Ed} (h : ∀ e ∈ eds, EdOk e) (hl : eds.length ≤ 100000) : okD 3 (edsD eds) := ⟨by rw [List.length_map]; exact hl, fun y hy => by
  obtain ⟨e, he, rfl⟩ := List.mem_map.mp hy
  exact ok_ed (h e he)⟩
theorem frz_ed (e : Ed) : frozenD (edD e) = edD e := by
  cases e <;> simp [edD, frozen_tup, frozenD]
theorem frz_eds (eds : List Ed) : frozenD (edsD eds) = edsD eds := by
  rw [edsD, frozen_tup]
  congr 1
  rw [List.map_map]
  exact List.map_congr_left fun e _ => frz_ed e
theorem own_e {eds : List Ed} (h : ∀ e ∈ eds, EdOk e) (hl : eds.length ≤ 100000) : Elike (edsD eds) eds := ⟨frz_eds eds, okD_le (by decide) (ok_eds h hl), h⟩
theorem Elike.lists {v : PyData} {eds : List Ed} (E : Elike v eds) : Elike (listsD v) eds := ⟨by rw [frz_lists 10 v E.ok]; exact E.fz, ok_lists 10 v E.ok, E.eo⟩
theorem k_ev : PyData.strOk "event" = true := by decide +kernel
theorem k_tw : PyData.strOk "twice" = true := by decide +kernel
theorem k_ar : PyData.strOk "arc" = true := by decide +kernel
theorem k_rg : PyData.strOk "ring" = true := by decide +kernel
def BadOk : Bad → Prop
  | .twice n => PyData.strOk n = true
  | .arc n => PyData.strOk n = true
  | .event n => PyData.strOk n = true
  | .ring => True
theorem putS_bad {es : List Str} {as : List Arc} {n a b : Str} (ha : PyData.strOk a = true) (hb : PyData.strOk b = true) {x : Bad} (h : putS es as n a b = .inl x) : BadOk x := by
  unfold putS at h
  split at h
  · rename_i e hf
    cases h
    have := List.mem_of_find?_eq_some hf
    rcases List.mem_cons.mp this with z | z
    · rw [z]; exact ha
    · rw [List.mem_singleton.mp z]; exact hb
  · split at h
    · cases h; trivial
    · cases h
theorem stepS_bad {es : List Str} {as : List Arc} {e : Ed} (he : EdOk e) {x : Bad} (h : stepS es as e = .inl x) : BadOk x := by
  cases e with
  | put n a b =>
    simp only [stepS] at h
    split at h
    · cases h; exact he.1
    · exact putS_bad he.2.1 he.2.2 h
  | out n =>
    simp only [stepS] at h
    split at h
    · cases h
    · cases h; exact he
  | move n a b =>
    simp only [stepS] at h
    split at h
    · exact putS_bad he.2.1 he.2.2 h
    · cases h; exact he.1
  | call n m =>
    simp only [stepS] at h
    split at h
    · split at h
      · cases h; exact he.2
      · cases h
    · cases h; exact he.1
theorem allS_bad {es : List Str} : ∀ (eds : List Ed) (as : List Arc) (i : Nat), (∀ e ∈ eds, EdOk e) → ∀ j x, allS es as eds i = .inl (j, x) → BadOk x
  | [], as, i, _, j, x, h => by simp only [allS] at h; cases h
  | e :: r, as, i, he, j, x, h => by
    simp only [allS] at h
    split at h
    · rename_i b hb
      cases h
      exact stepS_bad (he e (by simp)) hb
    · exact allS_bad r _ (i + 1) (fun y hy => he y (by simp [hy])) j x h
theorem ok_badH {b : Bad} (h : BadOk b) : okD 2 (badH b) := by
  cases b with
  | twice n => exact ⟨by simp, fun y hy => by
      simp at hy
      rcases hy with rfl | rfl | rfl
      · exact k_tw
      · exact h
      · trivial⟩
  | arc n => exact ⟨by simp, fun y hy => by
      simp at hy
      rcases hy with rfl | rfl | rfl
      · exact k_ar
      · exact h
      · trivial⟩
  | event n => exact ⟨by simp, fun y hy => by
      simp at hy
      rcases hy with rfl | rfl | rfl
      · exact k_ev
      · exact h
      · trivial⟩
  | ring => exact ⟨by simp, fun y hy => by
      simp at hy
      rcases hy with rfl | rfl | rfl
      · exact k_rg
      · trivial
      · trivial⟩
def refD : (Nat × Bad) ⊕ List Arc → PyData
  | .inr _ => .none
  | .inl (j, _) => .int j
theorem case_ok {es : List Str} {as : List Arc} {k : Nat} {eds : List Ed} (W : Wb es as k) (eo : ∀ e ∈ eds, EdOk e) (hk : k + eds.length ≤ 16) {M : ASto} (cl : Cl M) :
    m__law_case_right [.d (webD es as), .d (edsD eds)] M = .ok (.d (.bool true)) M := by
  have L := W.like (by omega : k ≤ 16)
  have E := own_e eo (by omega : eds.length ≤ 100000)
  have h1 := all_law W eo hk cl
  have h2 := heard17 L W E hk cl
  have h3 := heard17 (like_lists L) W E.lists hk cl
  have h4 := refused_ok L W E hk cl
  have h5 := refused_ok (like_lists L) W E.lists hk cl
  have hpair : okD 10 (.list [webD es as, edsD eds]) := ⟨by simp, fun y hy => by
    simp at hy
    rcases hy with rfl | rfl
    · exact okD_le (by decide) (ok_web W.eo W.ao (by have := W.le; omega) (by have := W.la; omega))
    · exact okD_le (by decide) (ok_eds eo (by omega))⟩
  have h6 := lists_ok cl 10 _ hpair
  rw [lists_list] at h6
  have h6' : m__law_lists [.d (.list [webD es as, edsD eds])] M = .ok (.d (.list [listsD (webD es as), listsD (edsD eds)])) M := h6
  have i0 : L2.atI [listsD (webD es as), listsD (edsD eds)] 0 = some (listsD (webD es as)) := rfl
  have i1 : L2.atI [listsD (webD es as), listsD (edsD eds)] 1 = some (listsD (edsD eds)) := rfl
  have hsoft : okD 5 (.list [listsD (webD es as), listsD (edsD eds)]) := ⟨by simp, fun y hy => by
    simp at hy
    rcases hy with rfl | rfl
    · exact ok_lists 4 _ (ok_web W.eo W.ao (by have := W.le; omega) (by have := W.la; omega))
    · exact ok_lists 4 _ (okD_le (by decide) (ok_eds eo (by omega)))⟩
  have hsame : ∀ d r : PyData, okD 5 d → okD 5 r → m__law_same [.d (.list [d, d, r, r, .list [listsD (webD es as), listsD (edsD eds)]]), .d (.list [d, d, r, r, .list [listsD (webD es as), listsD (edsD eds)]])] M = .ok (.d (.bool true)) M := fun d r hd hr =>
    same_ok cl 10 _ ⟨by simp, fun y hy => by
      simp at hy
      rcases hy with rfl | rfl | rfl
      · exact okD_le (by decide) hd
      · exact okD_le (by decide) hr
      · exact okD_le (by decide) hsoft⟩
  unfold m__law_case_right b__law_case_right runD
  cases hq : allS es as eds 0 with
  | inr bs =>
    rw [hq] at h1 h2 h3 h4 h5
    have W2 := all_wb eds as k 0 W eo bs hq
    have hs := hsame (webD es bs) .none (okD_le (by decide) (ok_web W2.eo W2.ao (by have := W2.le; omega) (by have := W2.la; omega))) trivial
    simp only [allD', hrdD] at h1 h2 h3
    have hi := isl_web es bs [some (.d (webD es as)), some (.d (edsD eds)), some (.d (webD es bs)), some (.d .none), none, none] M rfl
    have hc := cat_ll (xs := [webD es bs, webD es bs, PyData.none]) (ys := [.none, .list [listsD (webD es as), listsD (edsD eds)]]) (by simp) M
    rw [List.cons_append, List.cons_append, List.cons_append, List.nil_append] at hc
    simp only [aSeq_eq, oSeq_nx, oSeq_rt, oSeq_ex, ↓bind_L, bind_ok, bind_ex, ↓resO_L, resO_ok, resO_ex, aIf, aRet, aAsg, aNm, aVar, aC, aOp, aCall, aCall0, aCons, aNil, aTest, aDrop, aNext, aTup, aLst, allD, aGTup, aGCons, aGNil, noEx, fnR, aNot, aAnd, aOr, aIfE, aPar, aPar3, startA, List.replicate, aI2, aI2C, add_ii, sub_ok, lt_ok, gt_ok, le_ok, ge_ok, aInt1, aAbs, aAndV, aOrV, aNotV, aIx, aSetIx, mod_ok, Nat.reduceAdd, Nat.reduceSub, Nat.zero_add, ixN0, ixNp, Option.bind_some, List.set_cons_zero, List.set_cons_succ, decide_eq_true_eq, decide_true, if_true, if_false, reduceIte, Bool.false_eq_true, ne_eq, aPart, aNoPart, aLen, aMin2, aLstC, List.length_cons, List.length_nil, List.map_cons, List.map_nil, List.cons_append, List.nil_append, List.getElem?_cons_zero, List.getElem?_cons_succ, List.append_assoc, List.length_append, Nat.zero_le, Nat.reduceLeDiff, Nat.le_refl, vwS, vwL, Option.map_some, h1, hi, h6', i0, i1, h2, h3, h4, h5, hc, hs]
    exact close_ok rfl cl
  | inl p =>
    obtain ⟨j, b⟩ := p
    rw [hq] at h1 h2 h3 h4 h5
    have hb := allS_bad eds as 0 eo j b hq
    have hs := hsame (badH b) (.int j) (okD_le (by decide) (ok_badH hb)) trivial
    simp only [allD', hrdD] at h1 h2 h3
    have hi : aIsI ["list"] (aVar 2) [some (.d (webD es as)), some (.d (edsD eds)), some (.d (.list [.int j, badD b])), some (.d .none), none, none] M = .ok (.d (.bool true)) M := by
      simp only [aIsI, aVar, List.getElem?_cons_zero, List.getElem?_cons_succ, ↓bind_L, bind_ok, tagS, tagD, ia_list_tuple, iy_list_tuple__NoneType, iy_list_tuple__bool, iy_list_tuple__int, iy_list_tuple__str, iy_list_tuple__list, iy_list_tuple__tuple, ia_list, iy_list__NoneType, iy_list__bool, iy_list__int, iy_list__str, iy_list__list, iy_list__tuple, ia_tuple, iy_tuple__NoneType, iy_tuple__bool, iy_tuple__int, iy_tuple__str, iy_tuple__list, iy_tuple__tuple, ia_dict, iy_dict__NoneType, iy_dict__bool, iy_dict__int, iy_dict__str, iy_dict__list, iy_dict__tuple, ia_bool_str, iy_bool_str__NoneType, iy_bool_str__bool, iy_bool_str__int, iy_bool_str__str, iy_bool_str__list, iy_bool_str__tuple, ia_int, iy_int__NoneType, iy_int__bool, iy_int__int, iy_int__str, iy_int__list, iy_int__tuple, ia_bool, iy_bool__NoneType, iy_bool__bool, iy_bool__int, iy_bool__str, iy_bool__list, iy_bool__tuple, ia_str, iy_str__NoneType, iy_str__bool, iy_str__int, iy_str__str, iy_str__list, iy_str__tuple, reduceIte]
    have j0 : L2.atI [PyData.int j, badD b] 0 = some (.int j) := rfl
    have j1 : L2.atI [PyData.int j, badD b] 1 = some (badD b) := rfl
    have hbb : aAddE (.d (badD b)) (.d (.list [.bool true])) M = .ok (.d (badH b)) M := by
      cases b with
      | twice n => exact cat_ll (xs := [PyData.str "twice", .str n]) (ys := [.bool true]) (by simp) M
      | arc n => exact cat_ll (xs := [PyData.str "arc", .str n]) (ys := [.bool true]) (by simp) M
      | event n => exact cat_ll (xs := [PyData.str "event", .str n]) (ys := [.bool true]) (by simp) M
      | ring => exact cat_ll (xs := [PyData.str "ring", .none]) (ys := [.bool true]) (by simp) M
    have hc := cat_ll (xs := [badH b, badH b, PyData.int j]) (ys := [.int j, .list [listsD (webD es as), listsD (edsD eds)]]) (by simp) M
    rw [List.cons_append, List.cons_append, List.cons_append, List.nil_append] at hc
    simp only [aSeq_eq, oSeq_nx, oSeq_rt, oSeq_ex, ↓bind_L, bind_ok, bind_ex, ↓resO_L, resO_ok, resO_ex, aIf, aRet, aAsg, aNm, aVar, aC, aOp, aCall, aCall0, aCons, aNil, aTest, aDrop, aNext, aTup, aLst, allD, aGTup, aGCons, aGNil, noEx, fnR, aNot, aAnd, aOr, aIfE, aPar, aPar3, startA, List.replicate, aI2, aI2C, add_ii, sub_ok, lt_ok, gt_ok, le_ok, ge_ok, aInt1, aAbs, aAndV, aOrV, aNotV, aIx, aSetIx, mod_ok, Nat.reduceAdd, Nat.reduceSub, Nat.zero_add, ixN0, ixNp, Option.bind_some, List.set_cons_zero, List.set_cons_succ, decide_eq_true_eq, decide_true, if_true, if_false, reduceIte, Bool.false_eq_true, ne_eq, aPart, aNoPart, aLen, aMin2, aLstC, List.length_cons, List.length_nil, List.map_cons, List.map_nil, List.cons_append, List.nil_append, List.getElem?_cons_zero, List.getElem?_cons_succ, List.append_assoc, List.length_append, Nat.zero_le, Nat.reduceLeDiff, Nat.le_refl, vwS, vwL, Option.map_some, h1, hi, j0, j1, hbb, h6', i0, i1, h2, h3, h4, h5, hc, hs]
    exact close_ok rfl cl
end G
end
section
set_option Elab.async false
set_option linter.all false
set_option maxRecDepth 100000
set_option maxHeartbeats 4000000
namespace G
open PySem Ab
/-! ### draws of EDITS -/
theorem of_d {M : ASto} {n : Nat} {k : Int} {xs : List PyData} (T : Tn n k M) (hk : k < 2 ^ 40) (h0 : 0 < xs.length) (h1 : xs.length < 1000) :
    ∃ x, x ∈ xs ∧ ∃ M', m__law_of [.r n, .d (.list xs)] M = .ok (.d x) M' ∧ Tn n (k + 1) M' ∧ Set1 n M M' := by
  obtain ⟨v, M', e, v0, v1, T', S'⟩ := take_s (t := (xs.length : Int)) T hk (by omega) (by omega)
  have hv : v.toNat < xs.length := by omega
  refine ⟨xs[v.toNat], List.getElem_mem _, M', ?_, T', S'⟩
  have e1 : L2.atI xs v = some xs[v.toNat] := by
    obtain ⟨j, rfl⟩ := Int.eq_ofNat_of_zero_le v0
    unfold L2.atI
    rw [ixNp _ _ (by omega)]
    simp at hv ⊢
  unfold m__law_of b__law_of runD
  simp only [aSeq_eq, oSeq_nx, oSeq_rt, oSeq_ex, ↓bind_L, bind_ok, bind_ex, ↓resO_L, resO_ok, resO_ex, aIf, aRet, aAsg, aNm, aVar, aC, aOp, aCall, aCall0, aCons, aNil, aTest, aDrop, aNext, aTup, aLst, allD, aGTup, aGCons, aGNil, noEx, fnR, aNot, aAnd, aOr, aIfE, aPar, aPar3, startA, List.replicate, aI2, aI2C, add_ii, sub_ok, lt_ok, gt_ok, le_ok, ge_ok, aInt1, aAbs, aAndV, aOrV, aNotV, aIx, aSetIx, mod_ok, Nat.reduceAdd, Nat.reduceSub, Nat.zero_add, ixN0, ixNp, Option.bind_some, List.set_cons_zero, List.set_cons_succ, decide_eq_true_eq, decide_true, if_true, if_false, reduceIte, Bool.false_eq_true, ne_eq, aPart, aNoPart, aLen, aMin2, aLstC, List.length_cons, List.length_nil, List.map_cons, List.map_nil, List.cons_append, List.nil_append, List.getElem?_cons_zero, List.getElem?_cons_succ, List.append_assoc, List.length_append, Nat.zero_le, Nat.reduceLeDiff, Nat.le_refl, vwS, vwL, Option.map_some, e, e1]
  exact close_ok S'.len T'.cl
def zzL : List Str := ["zz"]
def saL : List Str := ["sa", "sb"]
def sab (t : Str) : List Str := ["sa", "sb", t]
theorem k_sa : PyData.strOk "sa" = true := by decide +kernel
theorem k_sb : PyData.strOk "sb" = true := by decide +kernel
theorem k_zz : PyData.strOk "zz" = true := by decide +kernel
theorem deed_s {M : ASto} {n : Nat} {k : Int} {es : List Str} {as : List Arc} {q : Nat} (W : Wb es as q) (hq : q ≤ 16) (T : Tn n k M) (hk : k + 10 < 2 ^ 40) :
    ∃ e M', m__law_deed [.r n, .d (webD es as)] M = .ok (.d (edD e)) M' ∧ EdOk e ∧ Tn n (k + 6) M' ∧ Set1 n M M' := by
  have la : as.length ≤ 16 := Nat.le_trans W.la hq
  have le := W.le
  have w0 : L2.atI [PyData.tuple (strsD es), .tuple (arcsD as)] 0 = some (.tuple (strsD es)) := rfl
  have w1 : L2.atI [PyData.tuple (strsD es), .tuple (arcsD as)] 1 = some (.tuple (arcsD as)) := rfl
  have h2 : ((arcsD as).length ≤ 100000) = True := eq_true (by rw [arcs_len]; omega)
  have tags : ∀ M, aAddE (.d (.list (strsD es))) (.d (.list [.str "zz"])) M = .ok (.d (.list (strsD (es ++ zzL)))) M := fun M => by
    have := cat_ll (xs := strsD es) (ys := [.str "zz"]) (by rw [strs_len]; simp; omega) M
    rw [strs_app] at this
    exact this
  have e1 := lc_arcs (G := aNm 7) (T := aYes) (A := aOp aIx (aVar 7) (aC (.int 0))) (ds := [some (.r n), some (.d (.tuple [.tuple (strsD es), .tuple (arcsD as)])), none, none, none, none, none, none]) (M := M) (p := fun _ => true) (h := fun a => .str a.1) as [] fun a ha => ⟨_, rfl, rfl, fun _ => by simp only [aSeq_eq, oSeq_nx, oSeq_rt, oSeq_ex, ↓bind_L, bind_ok, bind_ex, ↓resO_L, resO_ok, resO_ex, aIf, aRet, aAsg, aNm, aVar, aC, aOp, aCall, aCall0, aCons, aNil, aTest, aDrop, aNext, aTup, aLst, allD, aGTup, aGCons, aGNil, noEx, fnR, aNot, aAnd, aOr, aIfE, aPar, aPar3, startA, List.replicate, aI2, aI2C, add_ii, sub_ok, lt_ok, gt_ok, le_ok, ge_ok, aInt1, aAbs, aAndV, aOrV, aNotV, aIx, aSetIx, mod_ok, Nat.reduceAdd, Nat.reduceSub, Nat.zero_add, ixN0, ixNp, Option.bind_some, List.set_cons_zero, List.set_cons_succ, decide_eq_true_eq, decide_true, if_true, if_false, reduceIte, Bool.false_eq_true, ne_eq, aPart, aNoPart, aLen, aMin2, aLstC, List.length_cons, List.length_nil, List.map_cons, List.map_nil, List.cons_append, List.nil_append, List.getElem?_cons_zero, List.getElem?_cons_succ, List.append_assoc, List.length_append, Nat.zero_le, Nat.reduceLeDiff, Nat.le_refl, vwS, vwL, Option.map_some, arcD, ix_arc0]⟩
  rw [List.nil_append, List.filter_eq_self.mpr (fun _ _ => rfl)] at e1
  have e3 : (as.map fun a => PyData.str a.1) = strsD (as.map (·.1)) := by simp [strsD, Function.comp_def]
  rw [e3] at e1
  have names : ∀ M, aAddE (.d (.list (strsD (as.map (·.1))))) (.d (.list [.str "sa", .str "sb"])) M = .ok (.d (.list (strsD (as.map (·.1) ++ saL)))) M := fun M => by
    have h := cat_ll (xs := strsD (as.map (·.1))) (ys := [.str "sa", .str "sb"]) (by rw [strs_len]; simp; omega) M
    have : strsD (as.map (·.1)) ++ [PyData.str "sa", .str "sb"] = strsD (as.map (·.1) ++ saL) := by simp [strsD, saL]
    rw [this] at h
    exact h
  obtain ⟨t, ht, M1, g1, T1, S1⟩ := of_s (ss := as.map (·.1) ++ saL) T (by omega) (by simp [saL]) (by simp [saL]; omega)
  obtain ⟨a, ha, M2, g2, T2, S2⟩ := of_s (ss := es ++ zzL) T1 (by omega) (by simp [zzL]) (by simp [zzL]; omega)
  obtain ⟨b, hb, M3, g3, T3, S3⟩ := of_s (ss := es ++ zzL) T2 (by omega) (by simp [zzL]) (by simp [zzL]; omega)
  obtain ⟨x, hx, M4, g4, T4, S4⟩ := of_s (ss := sab t) T3 (by omega) (by simp [sab]) (by simp [sab])
  obtain ⟨y, hy, M5, g5, T5, S5⟩ := of_s (ss := sab t) T4 (by omega) (by simp [sab]) (by simp [sab])
  obtain ⟨d, hd, M6, g6, T6, S6⟩ := of_d (xs := [edD (.put x a b), edD (.out t), edD (.move t a b), edD (.call t y)]) T5 (by omega) (by simp) (by simp)
  have ot : PyData.strOk t = true := by
    rcases List.mem_append.mp ht with z | z
    · obtain ⟨c, hc, rfl⟩ := List.mem_map.mp z
      exact (W.ao c hc).1
    · simp [saL] at z
      rcases z with rfl | rfl
      · exact k_sa
      · exact k_sb
  have oev : ∀ z, z ∈ es ++ zzL → PyData.strOk z = true := fun z hz => by
    rcases List.mem_append.mp hz with w | w
    · exact W.eo z w
    · rw [List.mem_singleton.mp w]; exact k_zz
  have osab : ∀ z, z ∈ sab t → PyData.strOk z = true := fun z hz => by
    simp [sab] at hz
    rcases hz with rfl | rfl | rfl
    · exact k_sa
    · exact k_sb
    · exact ot
  obtain ⟨e, he, ho⟩ : ∃ e, d = edD e ∧ EdOk e := by
    simp at hd
    rcases hd with rfl | rfl | rfl | rfl
    · exact ⟨_, rfl, osab x hx, oev a ha, oev b hb⟩
    · exact ⟨.out t, rfl, ot⟩
    · exact ⟨.move t a b, rfl, ot, oev a ha, oev b hb⟩
    · exact ⟨.call t y, rfl, ot, osab y hy⟩
  subst he
  refine ⟨e, M6, ?_, ho, T6.mono (by omega), ((((S1.trans S2).trans S3).trans S4).trans S5).trans S6⟩
  have hsab : strsD (sab t) = [.str "sa", .str "sb", .str t] := rfl
  rw [hsab] at g4 g5
  simp only [edD] at g6
  have lst : ∀ M, aListOf [.d (.tuple (strsD es))] M = .ok (.d (.list (strsD es))) M := fun _ => rfl
  unfold m__law_deed b__law_deed runD
  rw [webD]
  simp only [aSeq_eq, oSeq_nx, oSeq_rt, oSeq_ex, ↓bind_L, bind_ok, bind_ex, ↓resO_L, resO_ok, resO_ex, aIf, aRet, aAsg, aNm, aVar, aC, aOp, aCall, aCall0, aCons, aNil, aTest, aDrop, aNext, aTup, aLst, allD, aGTup, aGCons, aGNil, noEx, fnR, aNot, aAnd, aOr, aIfE, aPar, aPar3, startA, List.replicate, aI2, aI2C, add_ii, sub_ok, lt_ok, gt_ok, le_ok, ge_ok, aInt1, aAbs, aAndV, aOrV, aNotV, aIx, aSetIx, mod_ok, Nat.reduceAdd, Nat.reduceSub, Nat.zero_add, ixN0, ixNp, Option.bind_some, List.set_cons_zero, List.set_cons_succ, decide_eq_true_eq, decide_true, if_true, if_false, reduceIte, Bool.false_eq_true, ne_eq, aPart, aNoPart, aLen, aMin2, aLstC, List.length_cons, List.length_nil, List.map_cons, List.map_nil, List.cons_append, List.nil_append, List.getElem?_cons_zero, List.getElem?_cons_succ, List.append_assoc, List.length_append, Nat.zero_le, Nat.reduceLeDiff, Nat.le_refl, vwS, vwL, Option.map_some, w0, w1, lst, tags, aLc, iSeqA, List.length_map, h2, wipeA, e1, names, g1, g2, g3, g4, g5, g6]
  exact close_ok (((((S6.len.trans S5.len).trans S4.len).trans S3.len).trans S2.len).trans S1.len) T6.cl
abbrev dsB : AEnv → ASto → Out := aSeq (aAsg (aCall0 m__law_deed (aCons (aVar 0) (aCons (aVar 3) aNil))) (aNm 6)) (aSeq (aAsg (aCall0 m__law_done (aCons (aVar 3) (aCons (aVar 6) aNil))) (aNm 7)) (aIf (aAnd (aNot (aTest (aIsI ["list"] (aVar 7)))) (aTest (aOp aLt (aCall aLen (aCons (aVar 4) aNil)) (aVar 2)))) (aPar 3 4 (aCons (aVar 7) (aCons (aOp aAddE (aVar 4) (aLst (aCons (aVar 6) aNil))) aNil))) aNext))
theorem eds_app (eds : List Ed) (e : Ed) : eds.map edD ++ [edD e] = (eds ++ [e]).map edD := by simp
theorem deeds_in {M0 M : ASto} {n : Nat} {k : Int} {es : List Str} {as : List Arc} {eds : List Ed} (d1 d5 d6 d7 : Option Sl) (W : Wb es as (5 + eds.length)) (hl : eds.length ≤ 4) (eo : ∀ e ∈ eds, EdOk e) (T : Tn n k M) (S : Set1 n M0 M) (hk : k + 10 < 2 ^ 40) :
    ∃ (as' : List Arc) (eds' : List Ed) (e6 e7 : Option Sl) (M' : ASto), dsB [some (.r n), d1, some (.d (.int 4)), some (.d (webD es as)), some (.d (.list (eds.map edD))), d5, d6, d7] M = .nx [some (.r n), d1, some (.d (.int 4)), some (.d (webD es as')), some (.d (.list (eds'.map edD))), d5, e6, e7] M' ∧ Wb es as' (5 + eds'.length) ∧ eds'.length ≤ 4 ∧ (∀ e ∈ eds', EdOk e) ∧ Tn n (k + 6) M' ∧ Set1 n M0 M' := by
  obtain ⟨e, M1, g, ho, T1, S1⟩ := deed_s W (by omega) T hk
  have hd := done_law W (by omega) T1.cl e ho
  cases hst : stepS es as e with
  | inl b =>
    rw [hst] at hd
    refine ⟨as, eds, some (.d (edD e)), some (.d (badD b)), M1, ?_, W, hl, eo, T1, S.trans S1⟩
    have hi : aIsI ["list"] (aVar 7) [some (.r n), d1, some (.d (.int 4)), some (.d (webD es as)), some (.d (.list (eds.map edD))), d5, some (.d (edD e)), some (.d (badD b))] M1 = .ok (.d (.bool true)) M1 := by
      cases b <;> simp only [badD, aIsI, aVar, List.getElem?_cons_zero, List.getElem?_cons_succ, ↓bind_L, bind_ok, tagS, tagD, ia_list_tuple, iy_list_tuple__NoneType, iy_list_tuple__bool, iy_list_tuple__int, iy_list_tuple__str, iy_list_tuple__list, iy_list_tuple__tuple, ia_list, iy_list__NoneType, iy_list__bool, iy_list__int, iy_list__str, iy_list__list, iy_list__tuple, ia_tuple, iy_tuple__NoneType, iy_tuple__bool, iy_tuple__int, iy_tuple__str, iy_tuple__list, iy_tuple__tuple, ia_dict, iy_dict__NoneType, iy_dict__bool, iy_dict__int, iy_dict__str, iy_dict__list, iy_dict__tuple, ia_bool_str, iy_bool_str__NoneType, iy_bool_str__bool, iy_bool_str__int, iy_bool_str__str, iy_bool_str__list, iy_bool_str__tuple, ia_int, iy_int__NoneType, iy_int__bool, iy_int__int, iy_int__str, iy_int__list, iy_int__tuple, ia_bool, iy_bool__NoneType, iy_bool__bool, iy_bool__int, iy_bool__str, iy_bool__list, iy_bool__tuple, ia_str, iy_str__NoneType, iy_str__bool, iy_str__int, iy_str__str, iy_str__list, iy_str__tuple, reduceIte]
    simp only [aSeq_eq, oSeq_nx, oSeq_rt, oSeq_ex, ↓bind_L, bind_ok, bind_ex, ↓resO_L, resO_ok, resO_ex, aIf, aRet, aAsg, aNm, aVar, aC, aOp, aCall, aCall0, aCons, aNil, aTest, aDrop, aNext, aTup, aLst, allD, aGTup, aGCons, aGNil, noEx, fnR, aNot, aAnd, aOr, aIfE, aPar, aPar3, startA, List.replicate, aI2, aI2C, add_ii, sub_ok, lt_ok, gt_ok, le_ok, ge_ok, aInt1, aAbs, aAndV, aOrV, aNotV, aIx, aSetIx, mod_ok, Nat.reduceAdd, Nat.reduceSub, Nat.zero_add, ixN0, ixNp, Option.bind_some, List.set_cons_zero, List.set_cons_succ, decide_eq_true_eq, decide_true, if_true, if_false, reduceIte, Bool.false_eq_true, ne_eq, aPart, aNoPart, aLen, aMin2, aLstC, List.length_cons, List.length_nil, List.map_cons, List.map_nil, List.cons_append, List.nil_append, List.getElem?_cons_zero, List.getElem?_cons_succ, List.append_assoc, List.length_append, Nat.zero_le, Nat.reduceLeDiff, Nat.le_refl, vwS, vwL, Option.map_some, g, hd, resD, hi, Bool.not_true]
  | inr bs =>
    rw [hst] at hd
    have hi : aIsI ["list"] (aVar 7) [some (.r n), d1, some (.d (.int 4)), some (.d (webD es as)), some (.d (.list (eds.map edD))), d5, some (.d (edD e)), some (.d (webD es bs))] M1 = .ok (.d (.bool false)) M1 := by
      simp only [webD, aIsI, aVar, List.getElem?_cons_zero, List.getElem?_cons_succ, ↓bind_L, bind_ok, tagS, tagD, ia_list_tuple, iy_list_tuple__NoneType, iy_list_tuple__bool, iy_list_tuple__int, iy_list_tuple__str, iy_list_tuple__list, iy_list_tuple__tuple, ia_list, iy_list__NoneType, iy_list__bool, iy_list__int, iy_list__str, iy_list__list, iy_list__tuple, ia_tuple, iy_tuple__NoneType, iy_tuple__bool, iy_tuple__int, iy_tuple__str, iy_tuple__list, iy_tuple__tuple, ia_dict, iy_dict__NoneType, iy_dict__bool, iy_dict__int, iy_dict__str, iy_dict__list, iy_dict__tuple, ia_bool_str, iy_bool_str__NoneType, iy_bool_str__bool, iy_bool_str__int, iy_bool_str__str, iy_bool_str__list, iy_bool_str__tuple, ia_int, iy_int__NoneType, iy_int__bool, iy_int__int, iy_int__str, iy_int__list, iy_int__tuple, ia_bool, iy_bool__NoneType, iy_bool__bool, iy_bool__int, iy_bool__str, iy_bool__list, iy_bool__tuple, ia_str, iy_str__NoneType, iy_str__bool, iy_str__int, iy_str__str, iy_str__list, iy_str__tuple, reduceIte]
    by_cases q : eds.length < 4
    · have hlt : ((eds.length : Int) < 4) = True := eq_true (by omega)
      have hc := cat_ll (xs := eds.map edD) (ys := [edD e]) (by rw [List.length_map]; simp; omega) M1
      rw [eds_app] at hc
      refine ⟨bs, eds ++ [e], some (.d (edD e)), some (.d (webD es bs)), M1, ?_, ?_, by simp; omega, fun x hx => ?_, T1, S.trans S1⟩
      · simp only [aSeq_eq, oSeq_nx, oSeq_rt, oSeq_ex, ↓bind_L, bind_ok, bind_ex, ↓resO_L, resO_ok, resO_ex, aIf, aRet, aAsg, aNm, aVar, aC, aOp, aCall, aCall0, aCons, aNil, aTest, aDrop, aNext, aTup, aLst, allD, aGTup, aGCons, aGNil, noEx, fnR, aNot, aAnd, aOr, aIfE, aPar, aPar3, startA, List.replicate, aI2, aI2C, add_ii, sub_ok, lt_ok, gt_ok, le_ok, ge_ok, aInt1, aAbs, aAndV, aOrV, aNotV, aIx, aSetIx, mod_ok, Nat.reduceAdd, Nat.reduceSub, Nat.zero_add, ixN0, ixNp, Option.bind_some, List.set_cons_zero, List.set_cons_succ, decide_eq_true_eq, decide_true, if_true, if_false, reduceIte, Bool.false_eq_true, ne_eq, aPart, aNoPart, aLen, aMin2, aLstC, List.length_cons, List.length_nil, List.map_cons, List.map_nil, List.cons_append, List.nil_append, List.getElem?_cons_zero, List.getElem?_cons_succ, List.append_assoc, List.length_append, Nat.zero_le, Nat.reduceLeDiff, Nat.le_refl, vwS, vwL, Option.map_some, g, hd, resD, hi, Bool.not_false, List.length_map, hlt, hc]
      · have := stepS_wb W e ho hst
        exact this.mono (by simp; omega)
      · rcases List.mem_append.mp hx with z | z
        · exact eo x z
        · rw [List.mem_singleton.mp z]; exact ho
    · have hlt : ((eds.length : Int) < 4) = False := eq_false (by omega)
      refine ⟨as, eds, some (.d (edD e)), some (.d (webD es bs)), M1, ?_, W, hl, eo, T1, S.trans S1⟩
      simp only [aSeq_eq, oSeq_nx, oSeq_rt, oSeq_ex, ↓bind_L, bind_ok, bind_ex, ↓resO_L, resO_ok, resO_ex, aIf, aRet, aAsg, aNm, aVar, aC, aOp, aCall, aCall0, aCons, aNil, aTest, aDrop, aNext, aTup, aLst, allD, aGTup, aGCons, aGNil, noEx, fnR, aNot, aAnd, aOr, aIfE, aPar, aPar3, startA, List.replicate, aI2, aI2C, add_ii, sub_ok, lt_ok, gt_ok, le_ok, ge_ok, aInt1, aAbs, aAndV, aOrV, aNotV, aIx, aSetIx, mod_ok, Nat.reduceAdd, Nat.reduceSub, Nat.zero_add, ixN0, ixNp, Option.bind_some, List.set_cons_zero, List.set_cons_succ, decide_eq_true_eq, decide_true, if_true, if_false, reduceIte, Bool.false_eq_true, ne_eq, aPart, aNoPart, aLen, aMin2, aLstC, List.length_cons, List.length_nil, List.map_cons, List.map_nil, List.cons_append, List.nil_append, List.getElem?_cons_zero, List.getElem?_cons_succ, List.append_assoc, List.length_append, Nat.zero_le, Nat.reduceLeDiff, Nat.le_refl, vwS, vwL, Option.map_some, g, hd, resD, hi, Bool.not_false, List.length_map, hlt, decide_false]
theorem deeds_s {M : ASto} {n : Nat} {k : Int} {es : List Str} {as : List Arc} (W : Wb es as 5) (T : Tn n k M) (hk : k + 200 < 2 ^ 40) :
    ∃ (eds : List Ed) (M' : ASto), m__law_deeds [.r n, .d (webD es as), .d (.int 4)] M = .ok (.d (edsD eds)) M' ∧ eds.length ≤ 4 ∧ (∀ e ∈ eds, EdOk e) ∧ Tn n (k + 100) M' ∧ Set1 n M M' := by
  obtain ⟨v, M1, g, v0, v1, T1, S1⟩ := take_s (t := 8 + 1) T (by omega) (by omega) (by omega)
  have hmul : ∀ M, aMul (.d (.int 2)) (.d (.int 4)) M = .ok (.d (.int 8)) M := fun _ => mul_ok (.inl (by omega))
  have hrng : (-100000 ≤ v ∧ v ≤ 100000) = True := eq_true (by omega)
  obtain ⟨ds', M', e', as', eds, s5, s6, s7, M2, rfl, rfl, W2, hl, eo, T2, S2⟩ := for_inv (G := aNm 5) (f := dsB)
    (fun i ds Mx => ∃ (as' : List Arc) (eds : List Ed) (s5 s6 s7 : Option Sl) (M2 : ASto), ds = [some (.r n), some (.d (webD es as)), some (.d (.int 4)), some (.d (webD es as')), some (.d (.list (eds.map edD))), s5, s6, s7] ∧ Mx = M2 ∧ Wb es as' (5 + eds.length) ∧ eds.length ≤ 4 ∧ (∀ e ∈ eds, EdOk e) ∧ Tn n (k + 1 + 6 * i) M2 ∧ Set1 n M M2)
    (rangeL 0 v.toNat) 0 [some (.r n), some (.d (webD es as)), some (.d (.int 4)), some (.d (webD es as)), some (.d (.list [])), none, none, none] M1
    (fun j x ds Mx hx ⟨as', eds, s5, s6, s7, M2, e1, e2, W2, hl, eo, T2, S2⟩ => by
      subst e1 e2
      have hj := (List.getElem?_eq_some_iff.mp hx).1
      rw [range_len] at hj
      obtain ⟨as3, eds3, e6, e7, M3, g3, W3, hl3, eo3, T3, S3⟩ := deeds_in (some (.d (webD es as))) (some x) s6 s7 W2 hl eo T2 S2 (by omega)
      exact ⟨_, _, _, rfl, g3, as3, eds3, some x, e6, e7, M3, rfl, rfl, W3, hl3, eo3, T3.mono (by omega), S3⟩)
    ⟨as, [], none, none, none, M1, rfl, rfl, W, by simp, (fun e he => (nomatch he)), T1.mono (by omega), S1⟩
  refine ⟨eds, M', ?_, hl, eo, T2.mono (by rw [range_len]; omega), S2⟩
  have n0 : (([] : List PyData).length ≤ 100000) = True := eq_true (by simp)
  unfold m__law_deeds b__law_deeds runD
  simp only [aSeq_eq, oSeq_nx, oSeq_rt, oSeq_ex, ↓bind_L, bind_ok, bind_ex, ↓resO_L, resO_ok, resO_ex, aIf, aRet, aAsg, aNm, aVar, aC, aOp, aCall, aCall0, aCons, aNil, aTest, aDrop, aNext, aTup, aLst, allD, aGTup, aGCons, aGNil, noEx, fnR, aNot, aAnd, aOr, aIfE, aPar, aPar3, startA, List.replicate, aI2, aI2C, add_ii, sub_ok, lt_ok, gt_ok, le_ok, ge_ok, aInt1, aAbs, aAndV, aOrV, aNotV, aIx, aSetIx, mod_ok, Nat.reduceAdd, Nat.reduceSub, Nat.zero_add, ixN0, ixNp, Option.bind_some, List.set_cons_zero, List.set_cons_succ, decide_eq_true_eq, decide_true, if_true, if_false, reduceIte, Bool.false_eq_true, ne_eq, aPart, aNoPart, aLen, aMin2, aLstC, List.length_cons, List.length_nil, List.map_cons, List.map_nil, List.cons_append, List.nil_append, List.getElem?_cons_zero, List.getElem?_cons_succ, List.append_assoc, List.length_append, Nat.zero_le, Nat.reduceLeDiff, Nat.le_refl, vwS, vwL, Option.map_some, hmul, g, aFor, iRng1A, hrng, e', aTupOf, edsD]
  exact close_ok S2.len T2.cl
/-! ### a turn -/
theorem lc_deeds {n : Nat} {es : List Str} {as : List Arc} (W : Wb es as 5) (d1 d3 : Option Sl) : ∀ (items : List Sl) (acc : List Ed) (k : Int) (M0 M : ASto) (d4 : Option Sl), Tn n k M → Set1 n M0 M → k + 6 * items.length + 10 < 2 ^ 40 → (∀ e ∈ acc, EdOk e) →
    ∃ (eds : List Ed) (M' : ASto), aLcL (aNm 4) aYes (aCall0 m__law_deed (aCons (aVar 0) (aCons (aVar 2) aNil))) [some (.r n), d1, some (.d (webD es as)), d3, d4] items (acc.map edD) M = .ok (eds.map edD) M' ∧ eds.length = acc.length + items.length ∧ (∀ e ∈ eds, EdOk e) ∧ Tn n (k + 6 * items.length) M' ∧ Set1 n M0 M'
  | [], acc, k, M0, M, d4, T, S, hk, ha => ⟨acc, M, by simp [aLcL], by simp, ha, by simpa using T, S⟩
  | x :: items, acc, k, M0, M, d4, T, S, hk, ha => by
    rw [List.length_cons] at hk
    obtain ⟨e, M1, g, ho, T1, S1⟩ := deed_s W (by omega) T (by omega)
    obtain ⟨eds, M', g2, hl, eo, T2, S2⟩ := lc_deeds W d1 d3 items (acc ++ [e]) (k + 6) M0 M1 d4 T1 (S.trans S1) (by omega) fun y hy => by
      rcases List.mem_append.mp hy with z | z
      · exact ha y z
      · rw [List.mem_singleton.mp z]; exact ho
    refine ⟨eds, M', ?_, by rw [hl]; simp; omega, eo, T2.mono (by rw [List.length_cons]; omega), S2⟩
    unfold aLcL
    dsimp only [aNm, List.set_cons_zero, List.set_cons_succ, aYes]
    have ev : (aCall0 m__law_deed (aCons (aVar 0) (aCons (aVar 2) aNil))) [some (.r n), d1, some (.d (webD es as)), d3, some x] M = .ok (.d (edD e)) M1 := by
      simp only [aSeq_eq, oSeq_nx, oSeq_rt, oSeq_ex, ↓bind_L, bind_ok, bind_ex, ↓resO_L, resO_ok, resO_ex, aIf, aRet, aAsg, aNm, aVar, aC, aOp, aCall, aCall0, aCons, aNil, aTest, aDrop, aNext, aTup, aLst, allD, aGTup, aGCons, aGNil, noEx, fnR, aNot, aAnd, aOr, aIfE, aPar, aPar3, startA, List.replicate, aI2, aI2C, add_ii, sub_ok, lt_ok, gt_ok, le_ok, ge_ok, aInt1, aAbs, aAndV, aOrV, aNotV, aIx, aSetIx, mod_ok, Nat.reduceAdd, Nat.reduceSub, Nat.zero_add, ixN0, ixNp, Option.bind_some, List.set_cons_zero, List.set_cons_succ, decide_eq_true_eq, decide_true, if_true, if_false, reduceIte, Bool.false_eq_true, ne_eq, aPart, aNoPart, aLen, aMin2, aLstC, List.length_cons, List.length_nil, List.map_cons, List.map_nil, List.cons_append, List.nil_append, List.getElem?_cons_zero, List.getElem?_cons_succ, List.append_assoc, List.length_append, Nat.zero_le, Nat.reduceLeDiff, Nat.le_refl, vwS, vwL, Option.map_some, g]
    rw [ev]
    dsimp only
    rw [eds_app]
    exact g2
theorem web_wb {es : List Str} {as : List Arc} (W : Web es as) (h : as.length ≤ 5) : Wb es as 5 := ⟨W.le, h, fun e he => ok8 e (W.el e he), fun a ha => ⟨ok16 _ (W.pl a ha), ok8 _ (W.el _ (W.en a ha).1), ok8 _ (W.el _ (W.en a ha).2)⟩, W.nd, W.en⟩
abbrev bdy17 : AEnv → ASto → Out := aSeq (aAsg (aCall0 m__law_net (aCons (aVar 0) (aCons (aC (.int 5)) (aCons (aC (.int 5)) aNil)))) (aNm 2)) (aSeq (aAsg (aCall0 m__law_deeds (aCons (aVar 0) (aCons (aVar 2) (aCons (aC (.int 4)) aNil)))) (aNm 3)) (aSeq (aIf (aNot (aTest (aCall0 m__law_case_right (aCons (aVar 2) (aCons (aVar 3) aNil))))) (aRet (aC (.bool false))) aNext) (aIf (aNot (aTest (aCall0 m__law_case_right (aCons (aVar 2) (aCons (aCall aTupOf (aCons (aLc (iRng1A (aCons (aOp aAddE (aC (.int 1)) (aCall0 m__law_take (aCons (aVar 0) (aCons (aC (.int 4)) aNil)))) aNil)) (aNm 4) aYes (aCall0 m__law_deed (aCons (aVar 0) (aCons (aVar 2) aNil))) [4]) aNil)) aNil))))) (aRet (aC (.bool false))) aNext)))
theorem turn17 {M0 M : ASto} {n : Nat} {k : Int} (T : Tn n k M) (S : Set1 n M0 M) (hk : k + 1000 < 2 ^ 40) (d1 d2 d3 d4 : Option Sl) :
    ∃ e2 e3 M', bdy17 [some (.r n), d1, d2, d3, d4] M = .nx [some (.r n), d1, e2, e3, d4] M' ∧ Tn n (k + 400) M' ∧ Set1 n M0 M' := by
  obtain ⟨es, as, M1, g1, W, hl, T1, S1⟩ := net_s2 (most := 5) (links := 5) T (by omega) (by omega) (by omega) (by omega)
  have Wb5 := web_wb W hl
  obtain ⟨eds, M2, g2, hl2, eo2, T2, S2⟩ := deeds_s Wb5 T1 (by omega)
  have c1 := case_ok Wb5 eo2 (by omega) T2.cl
  obtain ⟨v, M3, g3, v0, v1, T3, S3⟩ := take_s (t := 4) T2 (by omega) (by omega) (by omega)
  obtain ⟨eds4, M4, g4, hl4, eo4, T4, S4⟩ := lc_deeds Wb5 d1 (some (.d (edsD eds))) (rangeL 0 (1 + v).toNat) [] (k + 200 + 100 + 1) M3 M3 none T3 T3.refl (by rw [range_len]; omega) (fun e he => nomatch he)
  rw [range_len] at hl4 T4
  have c2 := case_ok Wb5 eo4 (by simp at hl4; omega) T4.cl
  have hrng : (-100000 ≤ 1 + v ∧ 1 + v ≤ 100000) = True := eq_true (by omega)
  have hrl : ((1 + v).toNat ≤ 100000) = True := eq_true (by omega)
  refine ⟨some (.d (webD es as)), some (.d (edsD eds)), M4, ?_, T4.mono (by omega), (((S.trans S1).trans S2).trans S3).trans S4⟩
  have g1' : m__law_net [.r n, .d (.int 5), .d (.int 5)] M = .ok (.d (webD es as)) M1 := g1
  have g4' : aLcL (aNm 4) aYes (aCall0 m__law_deed (aCons (aVar 0) (aCons (aVar 2) aNil))) [some (.r n), d1, some (.d (webD es as)), some (.d (edsD eds)), none] (rangeL 0 (1 + v).toNat) [] M3 = .ok (eds4.map edD) M4 := g4
  have hed : ∀ x, edsD x = .tuple (x.map edD) := fun _ => rfl
  rw [hed] at c2
  simp only [aSeq_eq, oSeq_nx, oSeq_rt, oSeq_ex, ↓bind_L, bind_ok, bind_ex, ↓resO_L, resO_ok, resO_ex, aIf, aRet, aAsg, aNm, aVar, aC, aOp, aCall, aCall0, aCons, aNil, aTest, aDrop, aNext, aTup, aLst, allD, aGTup, aGCons, aGNil, noEx, fnR, aNot, aAnd, aOr, aIfE, aPar, aPar3, startA, List.replicate, aI2, aI2C, add_ii, sub_ok, lt_ok, gt_ok, le_ok, ge_ok, aInt1, aAbs, aAndV, aOrV, aNotV, aIx, aSetIx, mod_ok, Nat.reduceAdd, Nat.reduceSub, Nat.zero_add, ixN0, ixNp, Option.bind_some, List.set_cons_zero, List.set_cons_succ, decide_eq_true_eq, decide_true, if_true, if_false, reduceIte, Bool.false_eq_true, ne_eq, aPart, aNoPart, aLen, aMin2, aLstC, List.length_cons, List.length_nil, List.map_cons, List.map_nil, List.cons_append, List.nil_append, List.getElem?_cons_zero, List.getElem?_cons_succ, List.append_assoc, List.length_append, Nat.zero_le, Nat.reduceLeDiff, Nat.le_refl, vwS, vwL, Option.map_some, g1', g2, c1, Bool.not_true, g3, aLc, iRng1A, hrng, range_len, hrl, wipeA, g4', aTupOf, c2]
theorem right_def17 : b__law_right = aSeq (aFor (iRng1A (aCons (aC (.int 3)) aNil)) (aNm 1) bdy17) (aRet (aC (.bool true))) := rfl
theorem close_take {m : Nat} {S : ASto} {x : PyData} (cl : Cl S) : closeR m (.ok (.d x) S) = .ok (.d x) (S.take m) := by
  unfold closeR
  dsimp only
  have : ((S.take m).all (closedC m)) = true := List.all_eq_true.mpr fun c hc => closedC_mono (cl c (List.mem_of_mem_take hc))
  rw [this]
  rfl
theorem right17 {M : ASto} {n : Nat} {k : Int} (T : Tn n k M) (hk : k + 20000 < 2 ^ 40) : ∃ M', m__law_right [.r n] M = .ok (.d (.bool true)) M' ∧ Cl M' ∧ M'.length = M.length := by
  obtain ⟨ds', M', e', s1, s2, s3, s4, M2, rfl, rfl, T2, S2⟩ := for_inv (G := aNm 1) (f := bdy17)
    (fun i ds Mx => ∃ (s1 s2 s3 s4 : Option Sl) (M2 : ASto), ds = [some (.r n), s1, s2, s3, s4] ∧ Mx = M2 ∧ Tn n (k + 400 * i) M2 ∧ Set1 n M M2)
    (rangeL 0 3) 0 [some (.r n), none, none, none, none] M
    (fun j x ds Mx hx ⟨s1, s2, s3, s4, M2, e1, e2, T2, S2⟩ => by
      subst e1 e2
      have hj := (List.getElem?_eq_some_iff.mp hx).1
      rw [range_len] at hj
      obtain ⟨e2, e3, M3, g, T3, S3⟩ := turn17 T2 S2 (by omega) (some x) s2 s3 s4
      exact ⟨_, _, _, rfl, g, some x, e2, e3, s4, M3, rfl, rfl, T3.mono (by omega), S3⟩)
    ⟨none, none, none, none, M, rfl, rfl, by simpa using T, T.refl⟩
  refine ⟨M', ?_, T2.cl, S2.len⟩
  have hrng : (-100000 ≤ (3 : Int) ∧ (3 : Int) ≤ 100000) = True := eq_true (by omega)
  have t3 : (3 : Int).toNat = 3 := rfl
  unfold m__law_right runD
  rw [right_def17]
  simp only [aSeq_eq, aFor, iRng1A, aCons, aC, aNil, ↓bind_L, bind_ok, hrng, t3, if_true, reduceIte, startA, List.map_cons, List.map_nil, List.length_cons, List.length_nil, List.replicate, List.cons_append, List.nil_append, Nat.reduceAdd, Nat.reduceSub, ↓resO_L, resO_ok, e', oSeq_nx, aRet, fnR]
  exact close_ok S2.len T2.cl
end G
end
section
set_option Elab.async false
set_option linter.all false
set_option maxRecDepth 1000000
set_option maxHeartbeats 40000000
namespace G
open PySem Ab
def aSortQI : List Sl → ASto → Res Sl := fun ss M => match ss with
  | [s] => match vwS M s with
    | some xs => if sortable xs = true then .ok (.d (.list (sortI xs))) M else .no
    | none => .no
  | _ => .no
def aSortSI : List Sl → ASto → Res Sl := fun ss M => match ss with
  | [s] => match setAt M s with
    | some (_, ks) => if sortable (ks.map kD) = true then .ok (.d (.list (sortI (ks.map kD)))) M else .no
    | none => .no
  | _ => .no
theorem sortQ_eq : aSortQ = aSortQI := by
  funext ss M
  unfold aSortQI
  match ss with
  | [] => rfl
  | [s] => simp only [aSortQ, sortI_eq] <;> rfl
  | _ :: _ :: _ => rfl
theorem sortS_eq : aSortS = aSortSI := by
  funext ss M
  unfold aSortS aSortSI
  simp only [sortI_eq] <;> rfl
def isT (r : Res Sl) : Bool := match r with
  | .ok (.d (.bool true)) [] => true
  | _ => false
theorem by_hand0 : isT (m__law_by_hand_right [] []) = true := by
  simp only [m__law_by_hand_right, b__law_by_hand_right, m__law_things_right, b__law_things_right, m__law_case_right, b__law_case_right, m__law_heard, b__law_heard, m_edited, b_edited, m_first_refused, b_first_refused, m__behind_edit, b__behind_edit, m_with_arc, b_with_arc, m_leads_to, b_leads_to, m_reached, b_reached, m_renamed_arcs, b_renamed_arcs, m__law_all_done, b__law_all_done, m__law_done, b__law_done, m__law_put, b__law_put, sortQ_eq, sortS_eq]
  decide +kernel
theorem by_hand : m__law_by_hand_right [] [] = .ok (.d (.bool true)) [] := by
  have h := by_hand0
  unfold isT at h
  split at h
  · assumption
  · cases h
theorem lc_law {cs : List Int} (hl : cs.length ≤ 3) (d0 d2 : Option Sl) : ∀ (items : List Sl) (acc : List PyData) (M : ASto), (∀ x ∈ items, ∃ i : Nat, i < cs.length ∧ x = .d (.int i)) → Cl M →
    ∃ M', aLcL (aNm 2) aYes (aCall0 m__law_right (aCons (aCall0 m__law_box (aCons (aVar 1) (aCons (aVar 2) aNil))) aNil)) [d0, some (.d (.list (intsD cs))), d2] items acc M = .ok (acc ++ items.map fun _ => PyData.bool true) M' ∧ Cl M'
  | [], acc, M, _, cl => ⟨M, by simp [aLcL], cl⟩
  | x :: items, acc, M, h, cl => by
    obtain ⟨i, hi, rfl⟩ := h x (by simp)
    obtain ⟨a, b, e1, hb⟩ := box_ok (M := M) cs i hi hl
    have T : Tn M.length 0 (M ++ [tinC a b 0]) := ⟨cl.app (.one rfl), a, b, 0, at_end rfl, hb, Int.le_refl 0, Int.le_refl 0⟩
    obtain ⟨M1, e2, cl1, hl1⟩ := right17 T (by omega)
    obtain ⟨M', e3, cl'⟩ := lc_law hl d0 d2 items (acc ++ [.bool true]) M1 (fun y hy => h y (by simp [hy])) cl1
    refine ⟨M', ?_, cl'⟩
    unfold aLcL
    dsimp only [aNm, List.set_cons_zero, List.set_cons_succ, aYes]
    have ev : aCall0 m__law_right (aCons (aCall0 m__law_box (aCons (aVar 1) (aCons (aVar 2) aNil))) aNil) [d0, some (.d (.list (intsD cs))), some (.d (.int i))] M = .ok (.d (.bool true)) M1 := by
      simp only [aSeq_eq, oSeq_nx, oSeq_rt, oSeq_ex, ↓bind_L, bind_ok, bind_ex, ↓resO_L, resO_ok, resO_ex, aIf, aRet, aAsg, aNm, aVar, aC, aOp, aCall, aCall0, aCons, aNil, aTest, aDrop, aNext, aTup, aLst, allD, aGTup, aGCons, aGNil, noEx, fnR, aNot, aAnd, aOr, aIfE, aPar, aPar3, startA, List.replicate, aI2, aI2C, add_ii, sub_ok, lt_ok, gt_ok, le_ok, ge_ok, aInt1, aAbs, aAndV, aOrV, aNotV, aIx, aSetIx, mod_ok, Nat.reduceAdd, Nat.reduceSub, Nat.zero_add, ixN0, ixNp, Option.bind_some, List.set_cons_zero, List.set_cons_succ, decide_eq_true_eq, decide_true, if_true, if_false, reduceIte, Bool.false_eq_true, ne_eq, aPart, aNoPart, aLen, aMin2, aLstC, List.length_cons, List.length_nil, List.map_cons, List.map_nil, List.cons_append, List.nil_append, List.getElem?_cons_zero, List.getElem?_cons_succ, List.append_assoc, List.length_append, Nat.zero_le, Nat.reduceLeDiff, Nat.le_refl, vwS, vwL, Option.map_some, e1, e2]
    rw [ev]
    dsimp only
    rw [e3]
    simp
theorem law_true (ns : List Int) (h : ns.length ≤ 63) : ∃ M, m_law [.s ns] [] = .ok (.d (.bool true)) M := by
  have cl : Cl [] := fun c hc => nomatch hc
  obtain ⟨cs, e1, hl0, hl⟩ := cells_ok cl ns h
  obtain ⟨M', e2, cl'⟩ := lc_law hl (some (.s ns)) none (rangeL 0 cs.length) [] [] (fun x hx => by
    obtain ⟨i, hi, rfl⟩ := List.mem_iff_getElem.mp hx
    have := range_at (n := cs.length) (i := i) 0 (List.getElem?_eq_getElem hi)
    rw [range_len] at hi
    exact ⟨i, hi, by rw [this]; simp⟩) cl
  rw [List.nil_append] at e2
  have hb := by_hand
  refine ⟨[], ?_⟩
  have hrng : (-100000 ≤ (cs.length : Int) ∧ (cs.length : Int) ≤ 100000) = True := eq_true (by omega)
  have hrl : (cs.length ≤ 100000) = True := eq_true (by omega)
  have hbo : bools ((rangeL 0 cs.length).map fun _ => PyData.bool true) = some ((rangeL 0 cs.length).map fun _ => true) := bools_map (fun _ => true) _
  have hall : ((rangeL 0 cs.length).map fun _ => true).all id = true := by simp
  have tn : ((cs.length : Int)).toNat = cs.length := by omega
  unfold m_law b_law runD
  simp only [aSeq_eq, oSeq_nx, oSeq_rt, oSeq_ex, ↓bind_L, bind_ok, bind_ex, ↓resO_L, resO_ok, resO_ex, aIf, aRet, aAsg, aNm, aVar, aC, aOp, aCall, aCall0, aCons, aNil, aTest, aDrop, aNext, aTup, aLst, allD, aGTup, aGCons, aGNil, noEx, fnR, aNot, aAnd, aOr, aIfE, aPar, aPar3, startA, List.replicate, aI2, aI2C, add_ii, sub_ok, lt_ok, gt_ok, le_ok, ge_ok, aInt1, aAbs, aAndV, aOrV, aNotV, aIx, aSetIx, mod_ok, Nat.reduceAdd, Nat.reduceSub, Nat.zero_add, ixN0, ixNp, Option.bind_some, List.set_cons_zero, List.set_cons_succ, decide_eq_true_eq, decide_true, if_true, if_false, reduceIte, Bool.false_eq_true, ne_eq, aPart, aNoPart, aLen, aMin2, aLstC, List.length_cons, List.length_nil, List.map_cons, List.map_nil, List.cons_append, List.nil_append, List.getElem?_cons_zero, List.getElem?_cons_succ, List.append_assoc, List.length_append, Nat.zero_le, Nat.reduceLeDiff, Nat.le_refl, vwS, vwL, Option.map_some, hb, Bool.not_true, e1, ints_len, aLc, iRng1A, hrng, tn, range_len, hrl, wipeA, e2, aAll, hbo, hall]
  rfl
end G
end
section
set_option Elab.async false
set_option linter.all false
set_option maxRecDepth 100000
set_option maxHeartbeats 4000000
namespace G
open PySem PySem.Spec PyProof.Rows L2 Ab
def spLaw (K : PySem.W.Frag) : Sp := fun vs H Q _ => ∃ (a : Addr) (ns : List Int), vs = [.ref a] ∧ SqL K H a (ns.map V.int) ∧ ns.length ≤ 63 ∧ ∀ H', Q (.bl true) H'
theorem law_sp {P : Program} {w : World} {K : PySem.W.Frag} {mg : Str → Option Value} (vs : List V) (H : Hp) (Q : VK) (E : XK) (h : spLaw K vs H Q E) : spF P w K mg m_law vs H Q E := by
  obtain ⟨a, ns, rfl, hq, hl, q⟩ := h
  obtain ⟨M, hM⟩ := law_true ns hl
  refine ⟨H, [], [], [.s ns], ⟨fun _ _ e => e, rfl, .nil, fun n a c h => by simp at h⟩, .cons ⟨a, rfl, hq⟩ .nil, ?_⟩
  rw [hM]
  intro v W' as' H' g r
  cases r
  exact q H'
theorem all_mk {P : Program} {w : World} {K : PySem.W.Frag} {h : Heap} {mg : Str → Option Value} {fa : Addr} (X : K.In h) (G : h.Ns mainGlobals mg) (hfa : mg "law" = some (.ref fa))
    {f0 : Addr} {od0 an0 : Option Addr} {sl0 : Array (Option Value)} {oc0 kV0 dc0 pm0 cd0 ct0 : Value}
    (a0 : PySem.W.nsIn K mainGlobals "frozen" = some (some (.ref f0)))
    (l0 : K.lookup f0 = some ⟨oc0, od0, .func (PySem.W.fnOf "frozen" "frozen" (defArgs (topS 6)) (defBody (topS 6)) (defScope (topS 6)) .none kV0 dc0 pm0 an0 cd0 ct0), sl0⟩)
    (c0 : PySem.W.codeIn K cd0 "frozen" = true)
    (k0 : PySem.W.keepIn K (.ref f0) = true)
    {f1 : Addr} {od1 an1 : Option Addr} {sl1 : Array (Option Value)} {oc1 kV1 dc1 pm1 cd1 ct1 : Value}
    (a1 : PySem.W.nsIn K mainGlobals "is_name" = some (some (.ref f1)))
    (l1 : K.lookup f1 = some ⟨oc1, od1, .func (PySem.W.fnOf "is_name" "is_name" (defArgs (topS 7)) (defBody (topS 7)) (defScope (topS 7)) .none kV1 dc1 pm1 an1 cd1 ct1), sl1⟩)
    (c1 : PySem.W.codeIn K cd1 "is_name" = true)
    (k1 : PySem.W.keepIn K (.ref f1) = true)
    {f2 : Addr} {od2 an2 : Option Addr} {sl2 : Array (Option Value)} {oc2 kV2 dc2 pm2 cd2 ct2 : Value}
    (a2 : PySem.W.nsIn K mainGlobals "is_name_row" = some (some (.ref f2)))
    (l2 : K.lookup f2 = some ⟨oc2, od2, .func (PySem.W.fnOf "is_name_row" "is_name_row" (defArgs (topS 8)) (defBody (topS 8)) (defScope (topS 8)) .none kV2 dc2 pm2 an2 cd2 ct2), sl2⟩)
    (c2 : PySem.W.codeIn K cd2 "is_name_row" = true)
    (k2 : PySem.W.keepIn K (.ref f2) = true)
    {f3 : Addr} {od3 an3 : Option Addr} {sl3 : Array (Option Value)} {oc3 kV3 dc3 pm3 cd3 ct3 : Value}
    (a3 : PySem.W.nsIn K mainGlobals "need_events" = some (some (.ref f3)))
    (l3 : K.lookup f3 = some ⟨oc3, od3, .func (PySem.W.fnOf "need_events" "need_events" (defArgs (topS 9)) (defBody (topS 9)) (defScope (topS 9)) .none kV3 dc3 pm3 an3 cd3 ct3), sl3⟩)
    (c3 : PySem.W.codeIn K cd3 "need_events" = true)
    (k3 : PySem.W.keepIn K (.ref f3) = true)
    {f4 : Addr} {od4 an4 : Option Addr} {sl4 : Array (Option Value)} {oc4 kV4 dc4 pm4 cd4 ct4 : Value}
    (a4 : PySem.W.nsIn K mainGlobals "arc_pairs" = some (some (.ref f4)))
    (l4 : K.lookup f4 = some ⟨oc4, od4, .func (PySem.W.fnOf "arc_pairs" "arc_pairs" (defArgs (topS 10)) (defBody (topS 10)) (defScope (topS 10)) .none kV4 dc4 pm4 an4 cd4 ct4), sl4⟩)
    (c4 : PySem.W.codeIn K cd4 "arc_pairs" = true)
    (k4 : PySem.W.keepIn K (.ref f4) = true)
    {f5 : Addr} {od5 an5 : Option Addr} {sl5 : Array (Option Value)} {oc5 kV5 dc5 pm5 cd5 ct5 : Value}
    (a5 : PySem.W.nsIn K mainGlobals "ends_of" = some (some (.ref f5)))
    (l5 : K.lookup f5 = some ⟨oc5, od5, .func (PySem.W.fnOf "ends_of" "ends_of" (defArgs (topS 11)) (defBody (topS 11)) (defScope (topS 11)) .none kV5 dc5 pm5 an5 cd5 ct5), sl5⟩)
    (c5 : PySem.W.codeIn K cd5 "ends_of" = true)
    (k5 : PySem.W.keepIn K (.ref f5) = true)
    {f6 : Addr} {od6 an6 : Option Addr} {sl6 : Array (Option Value)} {oc6 kV6 dc6 pm6 cd6 ct6 : Value}
    (a6 : PySem.W.nsIn K mainGlobals "reached" = some (some (.ref f6)))
    (l6 : K.lookup f6 = some ⟨oc6, od6, .func (PySem.W.fnOf "reached" "reached" (defArgs (topS 12)) (defBody (topS 12)) (defScope (topS 12)) .none kV6 dc6 pm6 an6 cd6 ct6), sl6⟩)
    (c6 : PySem.W.codeIn K cd6 "reached" = true)
    (k6 : PySem.W.keepIn K (.ref f6) = true)
    {f7 : Addr} {od7 an7 : Option Addr} {sl7 : Array (Option Value)} {oc7 kV7 dc7 pm7 cd7 ct7 : Value}
    (a7 : PySem.W.nsIn K mainGlobals "leads_to" = some (some (.ref f7)))
    (l7 : K.lookup f7 = some ⟨oc7, od7, .func (PySem.W.fnOf "leads_to" "leads_to" (defArgs (topS 14)) (defBody (topS 14)) (defScope (topS 14)) .none kV7 dc7 pm7 an7 cd7 ct7), sl7⟩)
    (c7 : PySem.W.codeIn K cd7 "leads_to" = true)
    (k7 : PySem.W.keepIn K (.ref f7) = true)
    {f8 : Addr} {od8 an8 : Option Addr} {sl8 : Array (Option Value)} {oc8 kV8 dc8 pm8 cd8 ct8 : Value}
    (a8 : PySem.W.nsIn K mainGlobals "with_arc" = some (some (.ref f8)))
    (l8 : K.lookup f8 = some ⟨oc8, od8, .func (PySem.W.fnOf "with_arc" "with_arc" (defArgs (topS 15)) (defBody (topS 15)) (defScope (topS 15)) .none kV8 dc8 pm8 an8 cd8 ct8), sl8⟩)
    (c8 : PySem.W.codeIn K cd8 "with_arc" = true)
    (k8 : PySem.W.keepIn K (.ref f8) = true)
    {f9 : Addr} {od9 an9 : Option Addr} {sl9 : Array (Option Value)} {oc9 kV9 dc9 pm9 cd9 ct9 : Value}
    (a9 : PySem.W.nsIn K mainGlobals "without_arc" = some (some (.ref f9)))
    (l9 : K.lookup f9 = some ⟨oc9, od9, .func (PySem.W.fnOf "without_arc" "without_arc" (defArgs (topS 16)) (defBody (topS 16)) (defScope (topS 16)) .none kV9 dc9 pm9 an9 cd9 ct9), sl9⟩)
    (c9 : PySem.W.codeIn K cd9 "without_arc" = true)
    (k9 : PySem.W.keepIn K (.ref f9) = true)
    {f10 : Addr} {od10 an10 : Option Addr} {sl10 : Array (Option Value)} {oc10 kV10 dc10 pm10 cd10 ct10 : Value}
    (a10 : PySem.W.nsIn K mainGlobals "_has_arc" = some (some (.ref f10)))
    (l10 : K.lookup f10 = some ⟨oc10, od10, .func (PySem.W.fnOf "_has_arc" "_has_arc" (defArgs (topS 17)) (defBody (topS 17)) (defScope (topS 17)) .none kV10 dc10 pm10 an10 cd10 ct10), sl10⟩)
    (c10 : PySem.W.codeIn K cd10 "_has_arc" = true)
    (k10 : PySem.W.keepIn K (.ref f10) = true)
    {f11 : Addr} {od11 an11 : Option Addr} {sl11 : Array (Option Value)} {oc11 kV11 dc11 pm11 cd11 ct11 : Value}
    (a11 : PySem.W.nsIn K mainGlobals "renamed_arcs" = some (some (.ref f11)))
    (l11 : K.lookup f11 = some ⟨oc11, od11, .func (PySem.W.fnOf "renamed_arcs" "renamed_arcs" (defArgs (topS 18)) (defBody (topS 18)) (defScope (topS 18)) .none kV11 dc11 pm11 an11 cd11 ct11), sl11⟩)
    (c11 : PySem.W.codeIn K cd11 "renamed_arcs" = true)
    (k11 : PySem.W.keepIn K (.ref f11) = true)
    {f12 : Addr} {od12 an12 : Option Addr} {sl12 : Array (Option Value)} {oc12 kV12 dc12 pm12 cd12 ct12 : Value}
    (a12 : PySem.W.nsIn K mainGlobals "is_edit" = some (some (.ref f12)))
    (l12 : K.lookup f12 = some ⟨oc12, od12, .func (PySem.W.fnOf "is_edit" "is_edit" (defArgs (topS 21)) (defBody (topS 21)) (defScope (topS 21)) .none kV12 dc12 pm12 an12 cd12 ct12), sl12⟩)
    (c12 : PySem.W.codeIn K cd12 "is_edit" = true)
    (k12 : PySem.W.keepIn K (.ref f12) = true)
    {f13 : Addr} {od13 an13 : Option Addr} {sl13 : Array (Option Value)} {oc13 kV13 dc13 pm13 cd13 ct13 : Value}
    (a13 : PySem.W.nsIn K mainGlobals "edited" = some (some (.ref f13)))
    (l13 : K.lookup f13 = some ⟨oc13, od13, .func (PySem.W.fnOf "edited" "edited" (defArgs (topS 22)) (defBody (topS 22)) (defScope (topS 22)) .none kV13 dc13 pm13 an13 cd13 ct13), sl13⟩)
    (c13 : PySem.W.codeIn K cd13 "edited" = true)
    (k13 : PySem.W.keepIn K (.ref f13) = true)
    {f14 : Addr} {od14 an14 : Option Addr} {sl14 : Array (Option Value)} {oc14 kV14 dc14 pm14 cd14 ct14 : Value}
    (a14 : PySem.W.nsIn K mainGlobals "_behind_edit" = some (some (.ref f14)))
    (l14 : K.lookup f14 = some ⟨oc14, od14, .func (PySem.W.fnOf "_behind_edit" "_behind_edit" (defArgs (topS 23)) (defBody (topS 23)) (defScope (topS 23)) .none kV14 dc14 pm14 an14 cd14 ct14), sl14⟩)
    (c14 : PySem.W.codeIn K cd14 "_behind_edit" = true)
    (k14 : PySem.W.keepIn K (.ref f14) = true)
    {f15 : Addr} {od15 an15 : Option Addr} {sl15 : Array (Option Value)} {oc15 kV15 dc15 pm15 cd15 ct15 : Value}
    (a15 : PySem.W.nsIn K mainGlobals "first_refused" = some (some (.ref f15)))
    (l15 : K.lookup f15 = some ⟨oc15, od15, .func (PySem.W.fnOf "first_refused" "first_refused" (defArgs (topS 24)) (defBody (topS 24)) (defScope (topS 24)) .none kV15 dc15 pm15 an15 cd15 ct15), sl15⟩)
    (c15 : PySem.W.codeIn K cd15 "first_refused" = true)
    (k15 : PySem.W.keepIn K (.ref f15) = true)
    {f16 : Addr} {od16 an16 : Option Addr} {sl16 : Array (Option Value)} {oc16 kV16 dc16 pm16 cd16 ct16 : Value}
    (a16 : PySem.W.nsIn K mainGlobals "_law_box" = some (some (.ref f16)))
    (l16 : K.lookup f16 = some ⟨oc16, od16, .func (PySem.W.fnOf "_law_box" "_law_box" (defArgs (topS 26)) (defBody (topS 26)) (defScope (topS 26)) .none kV16 dc16 pm16 an16 cd16 ct16), sl16⟩)
    (c16 : PySem.W.codeIn K cd16 "_law_box" = true)
    (k16 : PySem.W.keepIn K (.ref f16) = true)
    {f17 : Addr} {od17 an17 : Option Addr} {sl17 : Array (Option Value)} {oc17 kV17 dc17 pm17 cd17 ct17 : Value}
    (a17 : PySem.W.nsIn K mainGlobals "_law_take" = some (some (.ref f17)))
    (l17 : K.lookup f17 = some ⟨oc17, od17, .func (PySem.W.fnOf "_law_take" "_law_take" (defArgs (topS 27)) (defBody (topS 27)) (defScope (topS 27)) .none kV17 dc17 pm17 an17 cd17 ct17), sl17⟩)
    (c17 : PySem.W.codeIn K cd17 "_law_take" = true)
    (k17 : PySem.W.keepIn K (.ref f17) = true)
    {f18 : Addr} {od18 an18 : Option Addr} {sl18 : Array (Option Value)} {oc18 kV18 dc18 pm18 cd18 ct18 : Value}
    (a18 : PySem.W.nsIn K mainGlobals "_law_cells" = some (some (.ref f18)))
    (l18 : K.lookup f18 = some ⟨oc18, od18, .func (PySem.W.fnOf "_law_cells" "_law_cells" (defArgs (topS 28)) (defBody (topS 28)) (defScope (topS 28)) .none kV18 dc18 pm18 an18 cd18 ct18), sl18⟩)
    (c18 : PySem.W.codeIn K cd18 "_law_cells" = true)
    (k18 : PySem.W.keepIn K (.ref f18) = true)
    {f19 : Addr} {od19 an19 : Option Addr} {sl19 : Array (Option Value)} {oc19 kV19 dc19 pm19 cd19 ct19 : Value}
    (a19 : PySem.W.nsIn K mainGlobals "_law_of" = some (some (.ref f19)))
    (l19 : K.lookup f19 = some ⟨oc19, od19, .func (PySem.W.fnOf "_law_of" "_law_of" (defArgs (topS 29)) (defBody (topS 29)) (defScope (topS 29)) .none kV19 dc19 pm19 an19 cd19 ct19), sl19⟩)
    (c19 : PySem.W.codeIn K cd19 "_law_of" = true)
    (k19 : PySem.W.keepIn K (.ref f19) = true)
    {f20 : Addr} {od20 an20 : Option Addr} {sl20 : Array (Option Value)} {oc20 kV20 dc20 pm20 cd20 ct20 : Value}
    (a20 : PySem.W.nsIn K mainGlobals "_law_pick" = some (some (.ref f20)))
    (l20 : K.lookup f20 = some ⟨oc20, od20, .func (PySem.W.fnOf "_law_pick" "_law_pick" (defArgs (topS 30)) (defBody (topS 30)) (defScope (topS 30)) .none kV20 dc20 pm20 an20 cd20 ct20), sl20⟩)
    (c20 : PySem.W.codeIn K cd20 "_law_pick" = true)
    (k20 : PySem.W.keepIn K (.ref f20) = true)
    {f21 : Addr} {od21 an21 : Option Addr} {sl21 : Array (Option Value)} {oc21 kV21 dc21 pm21 cd21 ct21 : Value}
    (a21 : PySem.W.nsIn K mainGlobals "_law_lists" = some (some (.ref f21)))
    (l21 : K.lookup f21 = some ⟨oc21, od21, .func (PySem.W.fnOf "_law_lists" "_law_lists" (defArgs (topS 31)) (defBody (topS 31)) (defScope (topS 31)) .none kV21 dc21 pm21 an21 cd21 ct21), sl21⟩)
    (c21 : PySem.W.codeIn K cd21 "_law_lists" = true)
    (k21 : PySem.W.keepIn K (.ref f21) = true)
    {f22 : Addr} {od22 an22 : Option Addr} {sl22 : Array (Option Value)} {oc22 kV22 dc22 pm22 cd22 ct22 : Value}
    (a22 : PySem.W.nsIn K mainGlobals "_law_same" = some (some (.ref f22)))
    (l22 : K.lookup f22 = some ⟨oc22, od22, .func (PySem.W.fnOf "_law_same" "_law_same" (defArgs (topS 32)) (defBody (topS 32)) (defScope (topS 32)) .none kV22 dc22 pm22 an22 cd22 ct22), sl22⟩)
    (c22 : PySem.W.codeIn K cd22 "_law_same" = true)
    (k22 : PySem.W.keepIn K (.ref f22) = true)
    {f23 : Addr} {od23 an23 : Option Addr} {sl23 : Array (Option Value)} {oc23 kV23 dc23 pm23 cd23 ct23 : Value}
    (a23 : PySem.W.nsIn K mainGlobals "_law_net" = some (some (.ref f23)))
    (l23 : K.lookup f23 = some ⟨oc23, od23, .func (PySem.W.fnOf "_law_net" "_law_net" (defArgs (topS 33)) (defBody (topS 33)) (defScope (topS 33)) .none kV23 dc23 pm23 an23 cd23 ct23), sl23⟩)
    (c23 : PySem.W.codeIn K cd23 "_law_net" = true)
    (k23 : PySem.W.keepIn K (.ref f23) = true)
    {f24 : Addr} {od24 an24 : Option Addr} {sl24 : Array (Option Value)} {oc24 kV24 dc24 pm24 cd24 ct24 : Value}
    (a24 : PySem.W.nsIn K mainGlobals "_law_port" = some (some (.ref f24)))
    (l24 : K.lookup f24 = some ⟨oc24, od24, .func (PySem.W.fnOf "_law_port" "_law_port" (defArgs (topS 34)) (defBody (topS 34)) (defScope (topS 34)) .none kV24 dc24 pm24 an24 cd24 ct24), sl24⟩)
    (c24 : PySem.W.codeIn K cd24 "_law_port" = true)
    (k24 : PySem.W.keepIn K (.ref f24) = true)
    {f25 : Addr} {od25 an25 : Option Addr} {sl25 : Array (Option Value)} {oc25 kV25 dc25 pm25 cd25 ct25 : Value}
    (a25 : PySem.W.nsIn K mainGlobals "_law_arc_of" = some (some (.ref f25)))
    (l25 : K.lookup f25 = some ⟨oc25, od25, .func (PySem.W.fnOf "_law_arc_of" "_law_arc_of" (defArgs (topS 35)) (defBody (topS 35)) (defScope (topS 35)) .none kV25 dc25 pm25 an25 cd25 ct25), sl25⟩)
    (c25 : PySem.W.codeIn K cd25 "_law_arc_of" = true)
    (k25 : PySem.W.keepIn K (.ref f25) = true)
    {f26 : Addr} {od26 an26 : Option Addr} {sl26 : Array (Option Value)} {oc26 kV26 dc26 pm26 cd26 ct26 : Value}
    (a26 : PySem.W.nsIn K mainGlobals "_law_leads" = some (some (.ref f26)))
    (l26 : K.lookup f26 = some ⟨oc26, od26, .func (PySem.W.fnOf "_law_leads" "_law_leads" (defArgs (topS 36)) (defBody (topS 36)) (defScope (topS 36)) .none kV26 dc26 pm26 an26 cd26 ct26), sl26⟩)
    (c26 : PySem.W.codeIn K cd26 "_law_leads" = true)
    (k26 : PySem.W.keepIn K (.ref f26) = true)
    {f27 : Addr} {od27 an27 : Option Addr} {sl27 : Array (Option Value)} {oc27 kV27 dc27 pm27 cd27 ct27 : Value}
    (a27 : PySem.W.nsIn K mainGlobals "_law_put" = some (some (.ref f27)))
    (l27 : K.lookup f27 = some ⟨oc27, od27, .func (PySem.W.fnOf "_law_put" "_law_put" (defArgs (topS 37)) (defBody (topS 37)) (defScope (topS 37)) .none kV27 dc27 pm27 an27 cd27 ct27), sl27⟩)
    (c27 : PySem.W.codeIn K cd27 "_law_put" = true)
    (k27 : PySem.W.keepIn K (.ref f27) = true)
    {f28 : Addr} {od28 an28 : Option Addr} {sl28 : Array (Option Value)} {oc28 kV28 dc28 pm28 cd28 ct28 : Value}
    (a28 : PySem.W.nsIn K mainGlobals "_law_done" = some (some (.ref f28)))
    (l28 : K.lookup f28 = some ⟨oc28, od28, .func (PySem.W.fnOf "_law_done" "_law_done" (defArgs (topS 38)) (defBody (topS 38)) (defScope (topS 38)) .none kV28 dc28 pm28 an28 cd28 ct28), sl28⟩)
    (c28 : PySem.W.codeIn K cd28 "_law_done" = true)
    (k28 : PySem.W.keepIn K (.ref f28) = true)
    {f29 : Addr} {od29 an29 : Option Addr} {sl29 : Array (Option Value)} {oc29 kV29 dc29 pm29 cd29 ct29 : Value}
    (a29 : PySem.W.nsIn K mainGlobals "_law_all_done" = some (some (.ref f29)))
    (l29 : K.lookup f29 = some ⟨oc29, od29, .func (PySem.W.fnOf "_law_all_done" "_law_all_done" (defArgs (topS 39)) (defBody (topS 39)) (defScope (topS 39)) .none kV29 dc29 pm29 an29 cd29 ct29), sl29⟩)
    (c29 : PySem.W.codeIn K cd29 "_law_all_done" = true)
    (k29 : PySem.W.keepIn K (.ref f29) = true)
    {f30 : Addr} {od30 an30 : Option Addr} {sl30 : Array (Option Value)} {oc30 kV30 dc30 pm30 cd30 ct30 : Value}
    (a30 : PySem.W.nsIn K mainGlobals "_law_deed" = some (some (.ref f30)))
    (l30 : K.lookup f30 = some ⟨oc30, od30, .func (PySem.W.fnOf "_law_deed" "_law_deed" (defArgs (topS 40)) (defBody (topS 40)) (defScope (topS 40)) .none kV30 dc30 pm30 an30 cd30 ct30), sl30⟩)
    (c30 : PySem.W.codeIn K cd30 "_law_deed" = true)
    (k30 : PySem.W.keepIn K (.ref f30) = true)
    {f31 : Addr} {od31 an31 : Option Addr} {sl31 : Array (Option Value)} {oc31 kV31 dc31 pm31 cd31 ct31 : Value}
    (a31 : PySem.W.nsIn K mainGlobals "_law_deeds" = some (some (.ref f31)))
    (l31 : K.lookup f31 = some ⟨oc31, od31, .func (PySem.W.fnOf "_law_deeds" "_law_deeds" (defArgs (topS 41)) (defBody (topS 41)) (defScope (topS 41)) .none kV31 dc31 pm31 an31 cd31 ct31), sl31⟩)
    (c31 : PySem.W.codeIn K cd31 "_law_deeds" = true)
    (k31 : PySem.W.keepIn K (.ref f31) = true)
    {f32 : Addr} {od32 an32 : Option Addr} {sl32 : Array (Option Value)} {oc32 kV32 dc32 pm32 cd32 ct32 : Value}
    (a32 : PySem.W.nsIn K mainGlobals "_law_heard" = some (some (.ref f32)))
    (l32 : K.lookup f32 = some ⟨oc32, od32, .func (PySem.W.fnOf "_law_heard" "_law_heard" (defArgs (topS 42)) (defBody (topS 42)) (defScope (topS 42)) .none kV32 dc32 pm32 an32 cd32 ct32), sl32⟩)
    (c32 : PySem.W.codeIn K cd32 "_law_heard" = true)
    (k32 : PySem.W.keepIn K (.ref f32) = true)
    {f33 : Addr} {od33 an33 : Option Addr} {sl33 : Array (Option Value)} {oc33 kV33 dc33 pm33 cd33 ct33 : Value}
    (a33 : PySem.W.nsIn K mainGlobals "_law_case_right" = some (some (.ref f33)))
    (l33 : K.lookup f33 = some ⟨oc33, od33, .func (PySem.W.fnOf "_law_case_right" "_law_case_right" (defArgs (topS 43)) (defBody (topS 43)) (defScope (topS 43)) .none kV33 dc33 pm33 an33 cd33 ct33), sl33⟩)
    (c33 : PySem.W.codeIn K cd33 "_law_case_right" = true)
    (k33 : PySem.W.keepIn K (.ref f33) = true)
    {f34 : Addr} {od34 an34 : Option Addr} {sl34 : Array (Option Value)} {oc34 kV34 dc34 pm34 cd34 ct34 : Value}
    (a34 : PySem.W.nsIn K mainGlobals "_law_by_hand_right" = some (some (.ref f34)))
    (l34 : K.lookup f34 = some ⟨oc34, od34, .func (PySem.W.fnOf "_law_by_hand_right" "_law_by_hand_right" (defArgs (topS 44)) (defBody (topS 44)) (defScope (topS 44)) .none kV34 dc34 pm34 an34 cd34 ct34), sl34⟩)
    (c34 : PySem.W.codeIn K cd34 "_law_by_hand_right" = true)
    (k34 : PySem.W.keepIn K (.ref f34) = true)
    {f35 : Addr} {od35 an35 : Option Addr} {sl35 : Array (Option Value)} {oc35 kV35 dc35 pm35 cd35 ct35 : Value}
    (a35 : PySem.W.nsIn K mainGlobals "_law_things_right" = some (some (.ref f35)))
    (l35 : K.lookup f35 = some ⟨oc35, od35, .func (PySem.W.fnOf "_law_things_right" "_law_things_right" (defArgs (topS 45)) (defBody (topS 45)) (defScope (topS 45)) .none kV35 dc35 pm35 an35 cd35 ct35), sl35⟩)
    (c35 : PySem.W.codeIn K cd35 "_law_things_right" = true)
    (k35 : PySem.W.keepIn K (.ref f35) = true)
    {f36 : Addr} {od36 an36 : Option Addr} {sl36 : Array (Option Value)} {oc36 kV36 dc36 pm36 cd36 ct36 : Value}
    (a36 : PySem.W.nsIn K mainGlobals "_law_right" = some (some (.ref f36)))
    (l36 : K.lookup f36 = some ⟨oc36, od36, .func (PySem.W.fnOf "_law_right" "_law_right" (defArgs (topS 46)) (defBody (topS 46)) (defScope (topS 46)) .none kV36 dc36 pm36 an36 cd36 ct36), sl36⟩)
    (c36 : PySem.W.codeIn K cd36 "_law_right" = true)
    (k36 : PySem.W.keepIn K (.ref f36) = true)
    {f37 : Addr} {od37 an37 : Option Addr} {sl37 : Array (Option Value)} {oc37 kV37 dc37 pm37 cd37 ct37 : Value}
    (a37 : PySem.W.nsIn K mainGlobals "law" = some (some (.ref f37)))
    (l37 : K.lookup f37 = some ⟨oc37, od37, .func (PySem.W.fnOf "law" "law" (defArgs (topS 47)) (defBody (topS 47)) (defScope (topS 47)) .none kV37 dc37 pm37 an37 cd37 ct37), sl37⟩)
    (c37 : PySem.W.codeIn K cd37 "law" = true)
    (k37 : PySem.W.keepIn K (.ref f37) = true)
    {E0 : Addr}
    {I0 : Addr} {ioc0 idoc0 ipm0 icdv0 ict0 : Value} {iod0 ian0 : Option Addr} {iosl0 : Array (Option Value)} {ip10 ip20 iq10 iq20 iq30 iq40 : Pos} {iqual0 : Str}
    (g_E0 : PySem.W.nsIn K mainGlobals "NoEvent" = some (some (.ref E0)))
    (kC_E0 : PySem.W.keepIn K (.ref E0) = true)
    (exC_E0 : PySem.W.subIn K (.ref E0) (.type "BaseException") = some true)
    (tyC_E0 : PySem.W.typeIn K (.ref E0) = some (.type "type"))
    (hdC_E0 : PySem.W.hasDictIn K E0 = true)
    (ga_E0 : PySem.W.findIn K (.ref E0) "__getattribute__" = some (some (.builtin "BaseException.__getattribute__")))
    (gg_E0 : PySem.W.findIn K (.ref E0) "__getattr__" = some none)
    (cl_E0 : PySem.W.findIn K (.ref E0) "__class__" = some (some (.builtin "object.__class__")))
    (ob_E0 : PySem.W.mroIn K E0 (.type "object") = some true)
    (ki_E0 : PySem.W.kitOne K (.ref E0) (.type "LookupError") = some true)
    (ini_E0 : PySem.W.excInitIn K E0 [.type "LookupError", .type "Exception", .type "BaseException", .type "object"] "LookupError.__new__" = true)
    (ovr_E0 : PySem.W.excOver K E0 [.type "LookupError", .type "Exception", .type "BaseException", .type "object"] = true)
    (sa_E0 : PySem.W.findIn K (.ref E0) "__setattr__" = some (some (.builtin "object.__setattr__")))
    (noF_E0 : PySem.W.findIn K (.ref E0) "event" = some none)
    (iC_E0 : PySem.W.findIn K (.ref E0) "__init__" = some (some (.ref I0)))
    (tI_E0 : PySem.W.typeIn K (.ref I0) = some (.type "function"))
    (il_E0 : K.lookup I0 = some ⟨ioc0, iod0, .func (PySem.W.fnOf "__init__" iqual0 (inA "event" ip10 ip20) (inB "event" iq10 iq20 iq30 iq40) (inS "event") .none .none idoc0 ipm0 ian0 icdv0 ict0), iosl0⟩)
    (ic_E0 : PySem.W.codeIn K icdv0 iqual0 = true)
    {E1 : Addr}
    {I1 : Addr} {ioc1 idoc1 ipm1 icdv1 ict1 : Value} {iod1 ian1 : Option Addr} {iosl1 : Array (Option Value)} {ip11 ip21 iq11 iq21 iq31 iq41 : Pos} {iqual1 : Str}
    (g_E1 : PySem.W.nsIn K mainGlobals "NoArc" = some (some (.ref E1)))
    (kC_E1 : PySem.W.keepIn K (.ref E1) = true)
    (exC_E1 : PySem.W.subIn K (.ref E1) (.type "BaseException") = some true)
    (tyC_E1 : PySem.W.typeIn K (.ref E1) = some (.type "type"))
    (hdC_E1 : PySem.W.hasDictIn K E1 = true)
    (ga_E1 : PySem.W.findIn K (.ref E1) "__getattribute__" = some (some (.builtin "BaseException.__getattribute__")))
    (gg_E1 : PySem.W.findIn K (.ref E1) "__getattr__" = some none)
    (cl_E1 : PySem.W.findIn K (.ref E1) "__class__" = some (some (.builtin "object.__class__")))
    (ob_E1 : PySem.W.mroIn K E1 (.type "object") = some true)
    (ki_E1 : PySem.W.kitOne K (.ref E1) (.type "LookupError") = some true)
    (ini_E1 : PySem.W.excInitIn K E1 [.type "LookupError", .type "Exception", .type "BaseException", .type "object"] "LookupError.__new__" = true)
    (ovr_E1 : PySem.W.excOver K E1 [.type "LookupError", .type "Exception", .type "BaseException", .type "object"] = true)
    (sa_E1 : PySem.W.findIn K (.ref E1) "__setattr__" = some (some (.builtin "object.__setattr__")))
    (noF_E1 : PySem.W.findIn K (.ref E1) "name" = some none)
    (iC_E1 : PySem.W.findIn K (.ref E1) "__init__" = some (some (.ref I1)))
    (tI_E1 : PySem.W.typeIn K (.ref I1) = some (.type "function"))
    (il_E1 : K.lookup I1 = some ⟨ioc1, iod1, .func (PySem.W.fnOf "__init__" iqual1 (inA "name" ip11 ip21) (inB "name" iq11 iq21 iq31 iq41) (inS "name") .none .none idoc1 ipm1 ian1 icdv1 ict1), iosl1⟩)
    (ic_E1 : PySem.W.codeIn K icdv1 iqual1 = true)
    {E2 : Addr}
    {I2 : Addr} {ioc2 idoc2 ipm2 icdv2 ict2 : Value} {iod2 ian2 : Option Addr} {iosl2 : Array (Option Value)} {ip12 ip22 iq12 iq22 iq32 iq42 : Pos} {iqual2 : Str}
    (g_E2 : PySem.W.nsIn K mainGlobals "Twice" = some (some (.ref E2)))
    (kC_E2 : PySem.W.keepIn K (.ref E2) = true)
    (exC_E2 : PySem.W.subIn K (.ref E2) (.type "BaseException") = some true)
    (tyC_E2 : PySem.W.typeIn K (.ref E2) = some (.type "type"))
    (hdC_E2 : PySem.W.hasDictIn K E2 = true)
    (ga_E2 : PySem.W.findIn K (.ref E2) "__getattribute__" = some (some (.builtin "BaseException.__getattribute__")))
    (gg_E2 : PySem.W.findIn K (.ref E2) "__getattr__" = some none)
    (cl_E2 : PySem.W.findIn K (.ref E2) "__class__" = some (some (.builtin "object.__class__")))
    (ob_E2 : PySem.W.mroIn K E2 (.type "object") = some true)
    (ki_E2 : PySem.W.kitOne K (.ref E2) (.type "ValueError") = some true)
    (ini_E2 : PySem.W.excInitIn K E2 [.type "ValueError", .type "Exception", .type "BaseException", .type "object"] "ValueError.__new__" = true)
    (ovr_E2 : PySem.W.excOver K E2 [.type "ValueError", .type "Exception", .type "BaseException", .type "object"] = true)
    (sa_E2 : PySem.W.findIn K (.ref E2) "__setattr__" = some (some (.builtin "object.__setattr__")))
    (noF_E2 : PySem.W.findIn K (.ref E2) "name" = some none)
    (iC_E2 : PySem.W.findIn K (.ref E2) "__init__" = some (some (.ref I2)))
    (tI_E2 : PySem.W.typeIn K (.ref I2) = some (.type "function"))
    (il_E2 : K.lookup I2 = some ⟨ioc2, iod2, .func (PySem.W.fnOf "__init__" iqual2 (inA "name" ip12 ip22) (inB "name" iq12 iq22 iq32 iq42) (inS "name") .none .none idoc2 ipm2 ian2 icdv2 ict2), iosl2⟩)
    (ic_E2 : PySem.W.codeIn K icdv2 iqual2 = true)
    {E3 : Addr}
    (g_E3 : PySem.W.nsIn K mainGlobals "Ring" = some (some (.ref E3)))
    (kC_E3 : PySem.W.keepIn K (.ref E3) = true)
    (exC_E3 : PySem.W.subIn K (.ref E3) (.type "BaseException") = some true)
    (tyC_E3 : PySem.W.typeIn K (.ref E3) = some (.type "type"))
    (hdC_E3 : PySem.W.hasDictIn K E3 = true)
    (ga_E3 : PySem.W.findIn K (.ref E3) "__getattribute__" = some (some (.builtin "BaseException.__getattribute__")))
    (gg_E3 : PySem.W.findIn K (.ref E3) "__getattr__" = some none)
    (cl_E3 : PySem.W.findIn K (.ref E3) "__class__" = some (some (.builtin "object.__class__")))
    (ob_E3 : PySem.W.mroIn K E3 (.type "object") = some true)
    (ki_E3 : PySem.W.kitOne K (.ref E3) (.type "ValueError") = some true)
    (xi_E3 : PySem.W.excIn K E3 [.type "ValueError", .type "Exception", .type "BaseException", .type "object"] "ValueError.__new__" = true)
    (cg : PySem.W.specialIn K (.builtin "object.__class__") "__get__" = some (some (.builtin "getset_descriptor.__get__")))
    (ctk : PySem.W.takesIn K (.builtin "object.__class__") = some true)
    (m0_0 : PySem.W.exmOne K (.ref E0) (.ref E0) = some true)
    (m0_1 : PySem.W.exmOne K (.ref E0) (.ref E1) = some false)
    (m0_2 : PySem.W.exmOne K (.ref E0) (.ref E2) = some false)
    (m0_3 : PySem.W.exmOne K (.ref E0) (.ref E3) = some false)
    (m1_0 : PySem.W.exmOne K (.ref E1) (.ref E0) = some false)
    (m1_1 : PySem.W.exmOne K (.ref E1) (.ref E1) = some true)
    (m1_2 : PySem.W.exmOne K (.ref E1) (.ref E2) = some false)
    (m1_3 : PySem.W.exmOne K (.ref E1) (.ref E3) = some false)
    (m2_0 : PySem.W.exmOne K (.ref E2) (.ref E0) = some false)
    (m2_1 : PySem.W.exmOne K (.ref E2) (.ref E1) = some false)
    (m2_2 : PySem.W.exmOne K (.ref E2) (.ref E2) = some true)
    (m2_3 : PySem.W.exmOne K (.ref E2) (.ref E3) = some false)
    (m3_0 : PySem.W.exmOne K (.ref E3) (.ref E0) = some false)
    (m3_1 : PySem.W.exmOne K (.ref E3) (.ref E1) = some false)
    (m3_2 : PySem.W.exmOne K (.ref E3) (.ref E2) = some false)
    (m3_3 : PySem.W.exmOne K (.ref E3) (.ref E3) = some true)
    {D0 : Addr} {De0 : Array DictEntry} {Dn0 : Nat}
    (dg0 : PySem.W.nsIn K mainGlobals "SIZES" = some (some (.ref D0)))
    (dl0 : K.lookup D0 = some ⟨.type "dict", none, .dict De0 Dn0, #[]⟩)
    (dk0 : PySem.W.KeysLit w.params De0.toList)
    (db0 : TabE De0.toList tab_SIZES)
    (ds0 : (D0 == sysModules) = false)
    (z_len : PySem.W.nsIn K mainGlobals "len" = some none)
    (z_range : PySem.W.nsIn K mainGlobals "range" = some none)
    (z_abs : PySem.W.nsIn K mainGlobals "abs" = some none)
    (z_int : PySem.W.nsIn K mainGlobals "int" = some none)
    (z_min : PySem.W.nsIn K mainGlobals "min" = some none)
    (z_all : PySem.W.nsIn K mainGlobals "all" = some none)
    (z_any : PySem.W.nsIn K mainGlobals "any" = some none)
    (z_tuple : PySem.W.nsIn K mainGlobals "tuple" = some none)
    (z_list : PySem.W.nsIn K mainGlobals "list" = some none)
    (z_sorted : PySem.W.nsIn K mainGlobals "sorted" = some none)
    (z_set : PySem.W.nsIn K mainGlobals "set" = some none)
    (z_dict : PySem.W.nsIn K mainGlobals "dict" = some none)
    (z_zip : PySem.W.nsIn K mainGlobals "zip" = some none)
    (z_enumerate : PySem.W.nsIn K mainGlobals "enumerate" = some none)
    (z_isinstance : PySem.W.nsIn K mainGlobals "isinstance" = some none)
    (z_bool : PySem.W.nsIn K mainGlobals "bool" = some none)
    (z_str : PySem.W.nsIn K mainGlobals "str" = some none)
    (z_ValueError : PySem.W.nsIn K mainGlobals "ValueError" = some none)
    (z_LookupError : PySem.W.nsIn K mainGlobals "LookupError" = some none) :
    ∃ fd : FuncData, (∀ (s : Shared) (v : Value), BindsTo s fd ⟨[v], []⟩ [("_law_script", v)]) ∧ ∀ base : Heap, K.In base → base.Ns mainGlobals mg → FnOk P w K mg base (L2.CX P w) 19 fa fd ["_law_script"] (spLaw K) := by
  have e := hfa.symm.trans (PySem.W.mg_of X G a37)
  cases e
  have X0 : ErrF K mg "NoEvent" E0 "LookupError" "LookupError.__new__" [.type "LookupError", .type "Exception", .type "BaseException", .type "object"] "event" I0 := ⟨⟨PySem.W.mg_of X G g_E0, kC_E0, exC_E0, tyC_E0, hdC_E0, ga_E0, gg_E0, cl_E0, cg, ctk, ob_E0⟩, ini_E0, ovr_E0, sa_E0, noF_E0, iC_E0, tI_E0, ⟨_, _, _, _, _, _, _, _, _, _, _, _, _, _, _, il_E0, ic_E0⟩⟩
  have X1 : ErrF K mg "NoArc" E1 "LookupError" "LookupError.__new__" [.type "LookupError", .type "Exception", .type "BaseException", .type "object"] "name" I1 := ⟨⟨PySem.W.mg_of X G g_E1, kC_E1, exC_E1, tyC_E1, hdC_E1, ga_E1, gg_E1, cl_E1, cg, ctk, ob_E1⟩, ini_E1, ovr_E1, sa_E1, noF_E1, iC_E1, tI_E1, ⟨_, _, _, _, _, _, _, _, _, _, _, _, _, _, _, il_E1, ic_E1⟩⟩
  have X2 : ErrF K mg "Twice" E2 "ValueError" "ValueError.__new__" [.type "ValueError", .type "Exception", .type "BaseException", .type "object"] "name" I2 := ⟨⟨PySem.W.mg_of X G g_E2, kC_E2, exC_E2, tyC_E2, hdC_E2, ga_E2, gg_E2, cl_E2, cg, ctk, ob_E2⟩, ini_E2, ovr_E2, sa_E2, noF_E2, iC_E2, tI_E2, ⟨_, _, _, _, _, _, _, _, _, _, _, _, _, _, _, il_E2, ic_E2⟩⟩
  have X3 : ErrC K mg "Ring" E3 "ValueError" [.type "ValueError", .type "Exception", .type "BaseException", .type "object"] := ⟨PySem.W.mg_of X G g_E3, kC_E3, exC_E3, tyC_E3, hdC_E3, ga_E3, gg_E3, cl_E3, cg, ctk, ob_E3⟩
  have T : Tx w K mg := {
    h_frozen := ⟨_, _, PySem.W.mg_of X G a0, fun_mk (st := topS 6) l0 c0 k0⟩
    h_is_name := ⟨_, _, PySem.W.mg_of X G a1, fun_mk (st := topS 7) l1 c1 k1⟩
    h_is_name_row := ⟨_, _, PySem.W.mg_of X G a2, fun_mk (st := topS 8) l2 c2 k2⟩
    h_need_events := ⟨_, _, PySem.W.mg_of X G a3, fun_mk (st := topS 9) l3 c3 k3⟩
    h_arc_pairs := ⟨_, _, PySem.W.mg_of X G a4, fun_mk (st := topS 10) l4 c4 k4⟩
    h_ends_of := ⟨_, _, PySem.W.mg_of X G a5, fun_mk (st := topS 11) l5 c5 k5⟩
    h_reached := ⟨_, _, PySem.W.mg_of X G a6, fun_mk (st := topS 12) l6 c6 k6⟩
    h_leads_to := ⟨_, _, PySem.W.mg_of X G a7, fun_mk (st := topS 14) l7 c7 k7⟩
    h_with_arc := ⟨_, _, PySem.W.mg_of X G a8, fun_mk (st := topS 15) l8 c8 k8⟩
    h_without_arc := ⟨_, _, PySem.W.mg_of X G a9, fun_mk (st := topS 16) l9 c9 k9⟩
    h__has_arc := ⟨_, _, PySem.W.mg_of X G a10, fun_mk (st := topS 17) l10 c10 k10⟩
    h_renamed_arcs := ⟨_, _, PySem.W.mg_of X G a11, fun_mk (st := topS 18) l11 c11 k11⟩
    h_is_edit := ⟨_, _, PySem.W.mg_of X G a12, fun_mk (st := topS 21) l12 c12 k12⟩
    h_edited := ⟨_, _, PySem.W.mg_of X G a13, fun_mk (st := topS 22) l13 c13 k13⟩
    h__behind_edit := ⟨_, _, PySem.W.mg_of X G a14, fun_mk (st := topS 23) l14 c14 k14⟩
    h_first_refused := ⟨_, _, PySem.W.mg_of X G a15, fun_mk (st := topS 24) l15 c15 k15⟩
    h__law_box := ⟨_, _, PySem.W.mg_of X G a16, fun_mk (st := topS 26) l16 c16 k16⟩
    h__law_take := ⟨_, _, PySem.W.mg_of X G a17, fun_mk (st := topS 27) l17 c17 k17⟩
    h__law_cells := ⟨_, _, PySem.W.mg_of X G a18, fun_mk (st := topS 28) l18 c18 k18⟩
    h__law_of := ⟨_, _, PySem.W.mg_of X G a19, fun_mk (st := topS 29) l19 c19 k19⟩
    h__law_pick := ⟨_, _, PySem.W.mg_of X G a20, fun_mk (st := topS 30) l20 c20 k20⟩
    h__law_lists := ⟨_, _, PySem.W.mg_of X G a21, fun_mk (st := topS 31) l21 c21 k21⟩
    h__law_same := ⟨_, _, PySem.W.mg_of X G a22, fun_mk (st := topS 32) l22 c22 k22⟩
    h__law_net := ⟨_, _, PySem.W.mg_of X G a23, fun_mk (st := topS 33) l23 c23 k23⟩
    h__law_port := ⟨_, _, PySem.W.mg_of X G a24, fun_mk (st := topS 34) l24 c24 k24⟩
    h__law_arc_of := ⟨_, _, PySem.W.mg_of X G a25, fun_mk (st := topS 35) l25 c25 k25⟩
    h__law_leads := ⟨_, _, PySem.W.mg_of X G a26, fun_mk (st := topS 36) l26 c26 k26⟩
    h__law_put := ⟨_, _, PySem.W.mg_of X G a27, fun_mk (st := topS 37) l27 c27 k27⟩
    h__law_done := ⟨_, _, PySem.W.mg_of X G a28, fun_mk (st := topS 38) l28 c28 k28⟩
    h__law_all_done := ⟨_, _, PySem.W.mg_of X G a29, fun_mk (st := topS 39) l29 c29 k29⟩
    h__law_deed := ⟨_, _, PySem.W.mg_of X G a30, fun_mk (st := topS 40) l30 c30 k30⟩
    h__law_deeds := ⟨_, _, PySem.W.mg_of X G a31, fun_mk (st := topS 41) l31 c31 k31⟩
    h__law_heard := ⟨_, _, PySem.W.mg_of X G a32, fun_mk (st := topS 42) l32 c32 k32⟩
    h__law_case_right := ⟨_, _, PySem.W.mg_of X G a33, fun_mk (st := topS 43) l33 c33 k33⟩
    h__law_by_hand_right := ⟨_, _, PySem.W.mg_of X G a34, fun_mk (st := topS 44) l34 c34 k34⟩
    h__law_things_right := ⟨_, _, PySem.W.mg_of X G a35, fun_mk (st := topS 45) l35 c35 k35⟩
    h__law_right := ⟨_, _, PySem.W.mg_of X G a36, fun_mk (st := topS 46) l36 c36 k36⟩
    h_law := ⟨_, _, PySem.W.mg_of X G a37, fun_mk (st := topS 47) l37 c37 k37⟩
    b_len := PySem.W.mg_none_of X G z_len
    b_range := PySem.W.mg_none_of X G z_range
    b_abs := PySem.W.mg_none_of X G z_abs
    b_int := PySem.W.mg_none_of X G z_int
    b_min := PySem.W.mg_none_of X G z_min
    b_all := PySem.W.mg_none_of X G z_all
    b_any := PySem.W.mg_none_of X G z_any
    b_tuple := PySem.W.mg_none_of X G z_tuple
    b_list := PySem.W.mg_none_of X G z_list
    b_sorted := PySem.W.mg_none_of X G z_sorted
    b_set := PySem.W.mg_none_of X G z_set
    b_dict := PySem.W.mg_none_of X G z_dict
    b_zip := PySem.W.mg_none_of X G z_zip
    b_enumerate := PySem.W.mg_none_of X G z_enumerate
    b_isinstance := PySem.W.mg_none_of X G z_isinstance
    b_bool := PySem.W.mg_none_of X G z_bool
    b_str := PySem.W.mg_none_of X G z_str
    b_ValueError := PySem.W.mg_none_of X G z_ValueError
    b_LookupError := PySem.W.mg_none_of X G z_LookupError
    x_NoEvent := ⟨_, _, X0⟩
    x_NoArc := ⟨_, _, X1⟩
    x_Twice := ⟨_, _, X2⟩
    x_Ring := ⟨_, X3, xi_E3⟩
    d_SIZES := ⟨D0, PySem.W.mg_of X G dg0, ⟨_, _, ⟨dl0, dk0, ds0⟩, db0⟩⟩
    k_NoArc_LookupError := fun C hC => by have q := hC.symm.trans (PySem.W.mg_of X G g_E1); cases q; exact ki_E1
    k_NoEvent_LookupError := fun C hC => by have q := hC.symm.trans (PySem.W.mg_of X G g_E0); cases q; exact ki_E0
    k_Ring_ValueError := fun C hC => by have q := hC.symm.trans (PySem.W.mg_of X G g_E3); cases q; exact ki_E3
    k_Twice_ValueError := fun C hC => by have q := hC.symm.trans (PySem.W.mg_of X G g_E2); cases q; exact ki_E2
    exm := fun x hx y hy => by
      simp only [errsL, List.mem_cons, List.not_mem_nil, or_false] at hx hy
      rcases hx with rfl | rfl | rfl | rfl <;> rcases hy with rfl | rfl | rfl | rfl
      · exact ⟨_, _, PySem.W.mg_of X G g_E0, PySem.W.mg_of X G g_E0, m0_0⟩
      · exact ⟨_, _, PySem.W.mg_of X G g_E0, PySem.W.mg_of X G g_E1, m0_1⟩
      · exact ⟨_, _, PySem.W.mg_of X G g_E0, PySem.W.mg_of X G g_E2, m0_2⟩
      · exact ⟨_, _, PySem.W.mg_of X G g_E0, PySem.W.mg_of X G g_E3, m0_3⟩
      · exact ⟨_, _, PySem.W.mg_of X G g_E1, PySem.W.mg_of X G g_E0, m1_0⟩
      · exact ⟨_, _, PySem.W.mg_of X G g_E1, PySem.W.mg_of X G g_E1, m1_1⟩
      · exact ⟨_, _, PySem.W.mg_of X G g_E1, PySem.W.mg_of X G g_E2, m1_2⟩
      · exact ⟨_, _, PySem.W.mg_of X G g_E1, PySem.W.mg_of X G g_E3, m1_3⟩
      · exact ⟨_, _, PySem.W.mg_of X G g_E2, PySem.W.mg_of X G g_E0, m2_0⟩
      · exact ⟨_, _, PySem.W.mg_of X G g_E2, PySem.W.mg_of X G g_E1, m2_1⟩
      · exact ⟨_, _, PySem.W.mg_of X G g_E2, PySem.W.mg_of X G g_E2, m2_2⟩
      · exact ⟨_, _, PySem.W.mg_of X G g_E2, PySem.W.mg_of X G g_E3, m2_3⟩
      · exact ⟨_, _, PySem.W.mg_of X G g_E3, PySem.W.mg_of X G g_E0, m3_0⟩
      · exact ⟨_, _, PySem.W.mg_of X G g_E3, PySem.W.mg_of X G g_E1, m3_1⟩
      · exact ⟨_, _, PySem.W.mg_of X G g_E3, PySem.W.mg_of X G g_E2, m3_2⟩
      · exact ⟨_, _, PySem.W.mg_of X G g_E3, PySem.W.mg_of X G g_E3, m3_3⟩
  }
  have F := fun_mk (st := topS 47) l37 c37 k37
  exact ⟨PySem.W.fnOf "law" "law" (defArgs (topS 47)) (defBody (topS 47)) (defScope (topS 47)) .none kV37 dc37 pm37 an37 cd37 ct37, fun s v => .of_eq rfl, fun base _ _ => (ok_law (base := base) T F).imp law_sp⟩
end G
open PySem PySem.W PyProof.Rows
set_option maxRecDepth 100000 in
set_option maxHeartbeats 0 in
theorem PySem.Challenge.cw_slowship_k17_webs_behind_edits_holds : PySem.Challenge.rw_slowship_k17_webs_behind_edits.Holds := by
  w_on; o_law; k_head; (case hw => w_witness2)
  k_fill
  refine L2.walk_of (l := PySem.Challenge.rw_slowship_k17_webs_behind_edits) (n := 63) (k := 19) (x := "_law_script") (CX := fun w => L2.CX PySem.Challenge.rw_slowship_k17_webs_behind_edits.prog w) (sp := fun w => G.spLaw _) rfl (by decide) rfl ⟨rfl, by decide, by decide⟩ (fun w h Y => PySem.W.kIn_of Y) ?F (fun _ _ a ns hl _ hS => ⟨a, ns, rfl, hS, hl, fun _ => rfl⟩) ?C
  case C => exact fun _ _ _ _ _ z => by obtain ⟨_, _, _, _, _, _, _, _, _, _, _, _, z⟩ := z; exact z
  case F =>
    intro w mg fa h KX G hmg
    refine' _root_.G.all_mk KX G hmg ?a0 ?l0 ?c0 ?k0 ?a1 ?l1 ?c1 ?k1 ?a2 ?l2 ?c2 ?k2 ?a3 ?l3 ?c3 ?k3 ?a4 ?l4 ?c4 ?k4 ?a5 ?l5 ?c5 ?k5 ?a6 ?l6 ?c6 ?k6 ?a7 ?l7 ?c7 ?k7 ?a8 ?l8 ?c8 ?k8 ?a9 ?l9 ?c9 ?k9 ?a10 ?l10 ?c10 ?k10 ?a11 ?l11 ?c11 ?k11 ?a12 ?l12 ?c12 ?k12 ?a13 ?l13 ?c13 ?k13 ?a14 ?l14 ?c14 ?k14 ?a15 ?l15 ?c15 ?k15 ?a16 ?l16 ?c16 ?k16 ?a17 ?l17 ?c17 ?k17 ?a18 ?l18 ?c18 ?k18 ?a19 ?l19 ?c19 ?k19 ?a20 ?l20 ?c20 ?k20 ?a21 ?l21 ?c21 ?k21 ?a22 ?l22 ?c22 ?k22 ?a23 ?l23 ?c23 ?k23 ?a24 ?l24 ?c24 ?k24 ?a25 ?l25 ?c25 ?k25 ?a26 ?l26 ?c26 ?k26 ?a27 ?l27 ?c27 ?k27 ?a28 ?l28 ?c28 ?k28 ?a29 ?l29 ?c29 ?k29 ?a30 ?l30 ?c30 ?k30 ?a31 ?l31 ?c31 ?k31 ?a32 ?l32 ?c32 ?k32 ?a33 ?l33 ?c33 ?k33 ?a34 ?l34 ?c34 ?k34 ?a35 ?l35 ?c35 ?k35 ?a36 ?l36 ?c36 ?k36 ?a37 ?l37 ?c37 ?k37 ?g_E0 ?kC_E0 ?exC_E0 ?tyC_E0 ?hdC_E0 ?ga_E0 ?gg_E0 ?cl_E0 ?ob_E0 ?ki_E0 ?ini_E0 ?ovr_E0 ?sa_E0 ?noF_E0 ?iC_E0 ?tI_E0 ?il_E0 ?ic_E0 ?g_E1 ?kC_E1 ?exC_E1 ?tyC_E1 ?hdC_E1 ?ga_E1 ?gg_E1 ?cl_E1 ?ob_E1 ?ki_E1 ?ini_E1 ?ovr_E1 ?sa_E1 ?noF_E1 ?iC_E1 ?tI_E1 ?il_E1 ?ic_E1 ?g_E2 ?kC_E2 ?exC_E2 ?tyC_E2 ?hdC_E2 ?ga_E2 ?gg_E2 ?cl_E2 ?ob_E2 ?ki_E2 ?ini_E2 ?ovr_E2 ?sa_E2 ?noF_E2 ?iC_E2 ?tI_E2 ?il_E2 ?ic_E2 ?g_E3 ?kC_E3 ?exC_E3 ?tyC_E3 ?hdC_E3 ?ga_E3 ?gg_E3 ?cl_E3 ?ob_E3 ?ki_E3 ?xi_E3 ?cg ?ctk ?m0_0 ?m0_1 ?m0_2 ?m0_3 ?m1_0 ?m1_1 ?m1_2 ?m1_3 ?m2_0 ?m2_1 ?m2_2 ?m2_3 ?m3_0 ?m3_1 ?m3_2 ?m3_3 ?dg0 ?dl0 ?dk0 ?db0 ?ds0 ?z_len ?z_range ?z_abs ?z_int ?z_min ?z_all ?z_any ?z_tuple ?z_list ?z_sorted ?z_set ?z_dict ?z_zip ?z_enumerate ?z_isinstance ?z_bool ?z_str ?z_ValueError ?z_LookupError
    (case a0 => k_is)
    (case l0 => k_is)
    (case c0 => k_is)
    (case k0 => k_is)
    (case a1 => k_is)
    (case l1 => k_is)
    (case c1 => k_is)
    (case k1 => k_is)
    (case a2 => k_is)
    (case l2 => k_is)
    (case c2 => k_is)
    (case k2 => k_is)
    (case a3 => k_is)
    (case l3 => k_is)
    (case c3 => k_is)
    (case k3 => k_is)
    (case a4 => k_is)
    (case l4 => k_is)
    (case c4 => k_is)
    (case k4 => k_is)
    (case a5 => k_is)
    (case l5 => k_is)
    (case c5 => k_is)
    (case k5 => k_is)
    (case a6 => k_is)
    (case l6 => k_is)
    (case c6 => k_is)
    (case k6 => k_is)
    (case a7 => k_is)
    (case l7 => k_is)
    (case c7 => k_is)
    (case k7 => k_is)
    (case a8 => k_is)
    (case l8 => k_is)
    (case c8 => k_is)
    (case k8 => k_is)
    (case a9 => k_is)
    (case l9 => k_is)
    (case c9 => k_is)
    (case k9 => k_is)
    (case a10 => k_is)
    (case l10 => k_is)
    (case c10 => k_is)
    (case k10 => k_is)
    (case a11 => k_is)
    (case l11 => k_is)
    (case c11 => k_is)
    (case k11 => k_is)
    (case a12 => k_is)
    (case l12 => k_is)
    (case c12 => k_is)
    (case k12 => k_is)
    (case a13 => k_is)
    (case l13 => k_is)
    (case c13 => k_is)
    (case k13 => k_is)
    (case a14 => k_is)
    (case l14 => k_is)
    (case c14 => k_is)
    (case k14 => k_is)
    (case a15 => k_is)
    (case l15 => k_is)
    (case c15 => k_is)
    (case k15 => k_is)
    (case a16 => k_is)
    (case l16 => k_is)
    (case c16 => k_is)
    (case k16 => k_is)
    (case a17 => k_is)
    (case l17 => k_is)
    (case c17 => k_is)
    (case k17 => k_is)
    (case a18 => k_is)
    (case l18 => k_is)
    (case c18 => k_is)
    (case k18 => k_is)
    (case a19 => k_is)
    (case l19 => k_is)
    (case c19 => k_is)
    (case k19 => k_is)
    (case a20 => k_is)
    (case l20 => k_is)
    (case c20 => k_is)
    (case k20 => k_is)
    (case a21 => k_is)
    (case l21 => k_is)
    (case c21 => k_is)
    (case k21 => k_is)
    (case a22 => k_is)
    (case l22 => k_is)
    (case c22 => k_is)
    (case k22 => k_is)
    (case a23 => k_is)
    (case l23 => k_is)
    (case c23 => k_is)
    (case k23 => k_is)
    (case a24 => k_is)
    (case l24 => k_is)
    (case c24 => k_is)
    (case k24 => k_is)
    (case a25 => k_is)
    (case l25 => k_is)
    (case c25 => k_is)
    (case k25 => k_is)
    (case a26 => k_is)
    (case l26 => k_is)
    (case c26 => k_is)
    (case k26 => k_is)
    (case a27 => k_is)
    (case l27 => k_is)
    (case c27 => k_is)
    (case k27 => k_is)
    (case a28 => k_is)
    (case l28 => k_is)
    (case c28 => k_is)
    (case k28 => k_is)
    (case a29 => k_is)
    (case l29 => k_is)
    (case c29 => k_is)
    (case k29 => k_is)
    (case a30 => k_is)
    (case l30 => k_is)
    (case c30 => k_is)
    (case k30 => k_is)
    (case a31 => k_is)
    (case l31 => k_is)
    (case c31 => k_is)
    (case k31 => k_is)
    (case a32 => k_is)
    (case l32 => k_is)
    (case c32 => k_is)
    (case k32 => k_is)
    (case a33 => k_is)
    (case l33 => k_is)
    (case c33 => k_is)
    (case k33 => k_is)
    (case a34 => k_is)
    (case l34 => k_is)
    (case c34 => k_is)
    (case k34 => k_is)
    (case a35 => k_is)
    (case l35 => k_is)
    (case c35 => k_is)
    (case k35 => k_is)
    (case a36 => k_is)
    (case l36 => k_is)
    (case c36 => k_is)
    (case k36 => k_is)
    (case a37 => k_is)
    (case l37 => k_is)
    (case c37 => k_is)
    (case k37 => k_is)
    (case g_E0 => k_is)
    (case kC_E0 => k_is)
    (case exC_E0 => k_is)
    (case tyC_E0 => k_is)
    (case hdC_E0 => k_is)
    (case ga_E0 => k_is)
    (case gg_E0 => k_is)
    (case cl_E0 => k_is)
    (case ob_E0 => k_is)
    (case ki_E0 => kit_is)
    (case ini_E0 => kx_is)
    (case ovr_E0 => kx_is)
    (case sa_E0 => k_is)
    (case noF_E0 => k_is)
    (case iC_E0 => k_is)
    (case tI_E0 => k_is)
    (case il_E0 => k_is)
    (case ic_E0 => k_is)
    (case g_E1 => k_is)
    (case kC_E1 => k_is)
    (case exC_E1 => k_is)
    (case tyC_E1 => k_is)
    (case hdC_E1 => k_is)
    (case ga_E1 => k_is)
    (case gg_E1 => k_is)
    (case cl_E1 => k_is)
    (case ob_E1 => k_is)
    (case ki_E1 => kit_is)
    (case ini_E1 => kx_is)
    (case ovr_E1 => kx_is)
    (case sa_E1 => k_is)
    (case noF_E1 => k_is)
    (case iC_E1 => k_is)
    (case tI_E1 => k_is)
    (case il_E1 => k_is)
    (case ic_E1 => k_is)
    (case g_E2 => k_is)
    (case kC_E2 => k_is)
    (case exC_E2 => k_is)
    (case tyC_E2 => k_is)
    (case hdC_E2 => k_is)
    (case ga_E2 => k_is)
    (case gg_E2 => k_is)
    (case cl_E2 => k_is)
    (case ob_E2 => k_is)
    (case ki_E2 => kit_is)
    (case ini_E2 => kx_is)
    (case ovr_E2 => kx_is)
    (case sa_E2 => k_is)
    (case noF_E2 => k_is)
    (case iC_E2 => k_is)
    (case tI_E2 => k_is)
    (case il_E2 => k_is)
    (case ic_E2 => k_is)
    (case g_E3 => k_is)
    (case kC_E3 => k_is)
    (case exC_E3 => k_is)
    (case tyC_E3 => k_is)
    (case hdC_E3 => k_is)
    (case ga_E3 => k_is)
    (case gg_E3 => k_is)
    (case cl_E3 => k_is)
    (case ob_E3 => k_is)
    (case ki_E3 => kit_is)
    (case xi_E3 => k_exc)
    (case cg => k_is)
    (case ctk => k_is)
    (case m0_0 => kts_exm)
    (case m0_1 => kts_exm)
    (case m0_2 => kts_exm)
    (case m0_3 => kts_exm)
    (case m1_0 => kts_exm)
    (case m1_1 => kts_exm)
    (case m1_2 => kts_exm)
    (case m1_3 => kts_exm)
    (case m2_0 => kts_exm)
    (case m2_1 => kts_exm)
    (case m2_2 => kts_exm)
    (case m2_3 => kts_exm)
    (case m3_0 => kts_exm)
    (case m3_1 => kts_exm)
    (case m3_2 => kts_exm)
    (case m3_3 => kts_exm)
    (case dg0 => k_is)
    (case dl0 => k_is)
    (case dk0 => exact ⟨⟨_, _, rfl, rfl⟩, ⟨⟨_, _, rfl, rfl⟩, ⟨⟨_, _, rfl, rfl⟩, ⟨⟨_, _, rfl, rfl⟩, trivial⟩⟩⟩⟩)
    (case db0 => exact ⟨⟨_, rfl⟩, ⟨_, rfl⟩, ⟨⟨_, rfl⟩, ⟨_, rfl⟩, ⟨⟨_, rfl⟩, ⟨_, rfl⟩, ⟨⟨_, rfl⟩, ⟨_, rfl⟩, trivial⟩⟩⟩⟩)
    (case ds0 => rfl)
    (case z_len => k_is)
    (case z_range => k_is)
    (case z_abs => k_is)
    (case z_int => k_is)
    (case z_min => k_is)
    (case z_all => k_is)
    (case z_any => k_is)
    (case z_tuple => k_is)
    (case z_list => k_is)
    (case z_sorted => k_is)
    (case z_set => k_is)
    (case z_dict => k_is)
    (case z_zip => k_is)
    (case z_enumerate => k_is)
    (case z_isinstance => k_is)
    (case z_bool => k_is)
    (case z_str => k_is)
    (case z_ValueError => k_is)
    (case z_LookupError => k_is)
end
