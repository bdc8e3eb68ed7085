import PyProof.Rows.All
import Wide.All
import OpenK.AllK
import Wide.FinOn
import PyProof.EqAt
import PyProof.EqKinds
import PyProof.TupleCall
import KE.SortData
import HandS.Base
import HandS.Call
import HandS.List
import HandS.Comp
import HandS.Ends
import HandS.Set
import HandS.SetBool
import PyProof.InstEq
import PyProof.InstNe
import PyProof.TupleOfSeq
import PyProof.P3In
import KE.GoesEnum
import HandS.Iter
import HandS.Deep
import HandS.Evl
import HandS.More
import HandS.IsInst
import HandS.TupAny
import HandS.Words
import HandS.SetFor
import HandS.Strs
import HandS.Property
import HandS.Style
import HandS.Text
import HandS.Defaults
import HandS.WordsList
import HandS.WordsDict
import HandS.Dict
import KE.KExcSuper
import HandS.Exc
import HandS.ExcInit
import HandS.ExcSuper
import HandS.WordsExc
import HandS.ExcOwn
import KE.KStateDown
import HandS.Head0
import HandS.Head1
import HandS.Head2
import HandS.HeadEnd
import HandS.HeadHook1
import HandS.HeadHook2
import HandS.HeadNt
import PyProof.SetRoads
import HandS.DictComp
import OpenK.KMeth
import OpenK.KOps
import PyProof.LookupFast
import KE.KOpsOwn
import KE.KDictList
import HandS.ListItems
import KE.DataEq
import KE.KEqDict
import HandS.OwnEq
import PyProof.DictList
import KE.KDictCopyH
import HandS.ExcIs
import HandS.ExcField
import KE.KExcIs
import HandS.Rev
import PySem.Challenge.RW_watchedworks_k21_kits_of_instruments
set_option Elab.async false
set_option linter.all false
set_option maxRecDepth 100000
set_option maxHeartbeats 4000000
/-! Rules of our own over the layer: callees by name, sorted lists of data -/
namespace WW
open PySem PySem.Spec PyProof.Rows L2

/-- nothing is wished of exceptions -/
abbrev CXn : CXT := fun _ _ _ _ _ _ => False
abbrev En : XK := fun _ _ _ => False
theorem passN {X : Cx} {E : XK} : Passes CXn X E := fun _ _ _ _ _ _ _ h => h.elim

/-- a def of the module's, found by its name, with what it promises -/
structure Callee (P : Program) (w : World) (K : PySem.W.Frag) (mg : Str → Option Value) (base : Heap) (CX : CXT) (k : Nat) (x : Str) (n : Nat) (sp : Sp) : Prop where
  ex : ∃ (f : Addr) (fd : FuncData) (ps : List Str), ps.length = n ∧ FnOk P w K mg base CX k f fd ps sp ∧ mg x = some (.ref f) ∧ PySem.W.keepIn K (.ref f) = true ∧ Binds K fd ps []

section
variable {X : Cx} {CX : CXT} {k n : Nat} {sp : Sp} {E : XK} {x : Str} {p pos : Pos} {e : Expr} {es : List Expr} {t : TA}
theorem pe_cl (c : Callee X.prog X.w X.K X.mg X.base CX k x n sp) (hr : Room k X.A) (hg : Gl X x) (hx : Passes CX X E) (ha : PA X (e :: es) t)
    (hdb : (x == ("__debug__" : Str)) = false := by decide) (he : starEach (e :: es) X.env = (false, eval e X.env) :: starEach es X.env := by rfl) (hpl : (backTo pos (starEach es X.env)).any (·.1) = false := by rfl) :
    PE X (.Call (.Name x p) (e :: es) [] pos) (tCall sp [] E t) := by
  obtain ⟨f, fd, ps, _, F, hm, hk, hb⟩ := c.ex
  exact pe_call F hr hg hm hk hb .nil hx ha hdb he hpl
end

/-! ### sorted of lists of data -/
/-- v stands for the datum of b -/
abbrev DpE {β : Type} (K : PySem.W.Frag) (H : Hp) (enc : β → PyData) (v : V) (b : β) : Prop := Dp K H v (enc b)

def rSortD {β : Type} (K : PySem.W.Frag) (enc : β → PyData) : List V → Hp → VK → Prop := fun vs H Q => ∃ (a : Addr) (xs : List V) (bs : List β) (F : V → β → Prop), vs = [V.ref a] ∧ SqL K H a xs ∧ Paired (fun v b => F v b ∧ DpE K H enc v b) xs bs ∧
  (∀ b b', PySem.W.alike (enc b) (enc b') = true) ∧ PySem.W.Sortable (bs.map enc) ∧ (∀ b, (enc b).depth ≤ 32) ∧
  ∀ (ys : List V) (p : Addr), Paired F ys (bs.mergeSort (PySem.W.dataLe false enc)) → H p = none → Q (.ref p) (upd H p (.lst ys))


theorem each_of {β : Type} {K : PySem.W.Frag} {H : Hp} {enc : β → PyData} {F : V → β → Prop} : ∀ {xs : List V} {us : List Value} {bs : List β}, Vals xs us → Paired (fun v b => F v b ∧ DpE K H enc v b) xs bs →
    PySem.W.EachIs (fun u b => ∃ v, F v b ∧ RelV v u ∧ Dp K H v (enc b)) us bs
  | _, _, _, .nil, .nil => .nil
  | _, _, _, .cons r t, .cons d e => .cons ⟨_, d.1, r, d.2⟩ (each_of t e)
theorem of_each {β : Type} {F : V → β → Prop} {G : Value → β → Prop} (h : ∀ u b, G u b → ∃ v, RelV v u ∧ F v b) : ∀ {us : List Value} {bs : List β}, PySem.W.EachIs G us bs → ∃ ys, Vals ys us ∧ Paired F ys bs
  | _, _, .nil => ⟨[], .nil, .nil⟩
  | _, _, .cons g t => by
    obtain ⟨v, r, f⟩ := h _ _ g
    obtain ⟨ys, a, b⟩ := of_each h t
    exact ⟨v :: ys, .cons r a, .cons f b⟩
theorem each_reads {β : Type} {X : Cx} {pins : List (Addr × Obj)} {σ : L2.St} {H : Hp} {s : Shared} {enc : β → PyData} (I : Inv X pins σ H s) : ∀ {us : List Value} {bs : List β} {F : V → β → Prop}, PySem.W.EachIs (fun u b => ∃ v, F v b ∧ RelV v u ∧ Dp X.K H v (enc b)) us bs →
    PySem.W.EachIs (fun u b => ∃ as, Reads s.heap u (enc b) as) us bs
  | _, _, _, .nil => .nil
  | _, _, _, .cons ⟨v, _, r, d⟩ t => .cons (Dp.reads I _ _ _ d r) (each_reads I t)

theorem cr_sortD {X : Cx} {β : Type} (enc : β → PyData) (hu : X.A.units + 64 < cLine) : CallR X (.builtin "sorted") (rSortD X.K enc) := by
  intro pins s σ H vs us Q I r h
  obtain ⟨a, xs, bs, F, rfl, hs, hp, hal, hso, hdp, q⟩ := h
  obtain ⟨its, rv, hl, hz⟩ := I.list hs
  rw [Vals.ref1 r]
  have hlen : bs.length = xs.length := (Paired.length hp).symm
  have e1 := each_of rv hp
  refine PySem.W.sorted_data hl.isList e1 (each_reads I e1) (PySem.W.AllAlike.of hal) hso (by omega) (fun b _ => by have := hdp b; omega) fun out ho eo => ?_
  obtain ⟨ep, he'⟩ := PyProof.Rows.sortedAll_at s.heap its out.toArray
  obtain ⟨ys, rys, pys⟩ := of_each (F := F) (fun u b ⟨v, m, r, d⟩ => ⟨v, r, m⟩) eo
  have hly : ys.length ≤ sizeLine := by rw [rys.length, ho, hlen]; exact hz
  exact ⟨.ref _, upd H (s.heap.objs.size + 1) (.lst ys), I.laid (t' := s.toks) (fun _ _ => PyProof.Rows.sortedAll_old) (Nat.le_succ _) ⟨hly, out, ep, rys, he'⟩, rfl, q ys _ pys (I.hok.fresh (Nat.le_succ _))⟩
end WW

set_option Elab.async false
set_option linter.all false
set_option maxRecDepth 100000
set_option maxHeartbeats 4000000
/-! Sets of scannable keys that can be walked: made, filled, sorted. -/
namespace WW
open PySem PySem.Spec PyProof.Rows L2

section
variable {P : Program} {w : World} {κ : Type} [DecidableEq κ]
def EnK (knd : PySem.KeyKind P w κ) (k : κ) (e : Int × Value) : Prop := knd.is k e.2 = true ∧ e.1 = knd.hash k ∧ e.2.scannable = true
/-- ks: the keys that the set holds, in its table's order -/
def SetW (knd : PySem.KeyKind P w κ) (h : Heap) (a : Addr) (ks : List κ) : Prop :=
  ∃ o es ep t, h.get? a = some o ∧ o.ExactSet ∧ o.data = .set es ep t ∧ ks.Nodup ∧ Paired (EnK knd) ks es.toList ∧
    es.size < scanBound ∧ t.fits es.size = true ∧ Ris t.place.toList ∧ (w.params.followText "set-order" = true ∨ t.led = true)
variable {knd : PySem.KeyKind P w κ} {h h' : Heap} {a : Addr} {ks : List κ}

theorem SetW.here (R : SetW knd h a ks) (k : ∀ o, h.get? a = some o → h'.get? a = some o) : SetW knd h' a ks := by
  obtain ⟨o, es, ep, t, ho, r⟩ := R
  exact ⟨o, es, ep, t, k o ho, r⟩
theorem en_mem {l : List (Int × Value)} : ∀ {ks : List κ}, Paired (EnK knd) ks l → ∀ e ∈ l, ∃ k ∈ ks, EnK knd k e
  | _, .nil, e, he => by cases he
  | _, .cons g t, e, he => by
    rcases List.mem_cons.mp he with rfl | he
    · exact ⟨_, List.mem_cons_self, g⟩
    · obtain ⟨k, hk, q⟩ := en_mem t e he
      exact ⟨k, List.mem_cons_of_mem _ hk, q⟩
theorem en_of : ∀ {ks : List κ} {l : List (Int × Value)}, Paired (EnK knd) ks l → ∀ k ∈ ks, ∃ e ∈ l, EnK knd k e
  | _, _, .nil, k, hk => by cases hk
  | _, _, .cons g t, k, hk => by
    rcases List.mem_cons.mp hk with rfl | hk
    · exact ⟨_, List.mem_cons_self, g⟩
    · obtain ⟨e, he, q⟩ := en_of t k hk
      exact ⟨e, List.mem_cons_of_mem _ he, q⟩
theorem en_elems {l : List (Int × Value)} (g : Paired (EnK knd) ks l) : PySem.ElemsOf knd l := fun e he => by
  obtain ⟨k, _, q⟩ := en_mem g e he
  exact ⟨⟨k, q.1, q.2.1⟩, q.2.2⟩
/-- the keys follow the entries into any order -/
theorem en_perm {l : List (Int × Value)} (g : Paired (EnK knd) ks l) {l' : List (Int × Value)} (p : l'.Perm l) : ∃ ks', ks'.Perm ks ∧ Paired (EnK knd) ks' l' := by
  induction p generalizing ks with
  | nil => exact ⟨ks, List.Perm.refl _, g⟩
  | cons x _ ih =>
    cases g with
    | @cons k _ kr _ g1 g2 =>
      obtain ⟨ks', p', g'⟩ := ih g2
      exact ⟨k :: ks', p'.cons k, .cons g1 g'⟩
  | swap x y l =>
    cases g with
    | @cons k _ kr _ g1 g2 =>
      cases g2 with
      | @cons k2 _ kr2 _ g3 g4 => exact ⟨k2 :: k :: kr2, List.Perm.swap _ _ _, .cons g3 (.cons g1 g4)⟩
  | trans _ _ ih1 ih2 =>
    obtain ⟨k2, p2, g2⟩ := ih2 g
    obtain ⟨k1, p1, g1⟩ := ih1 g2
    exact ⟨k1, p1.trans p2, g1⟩
theorem en_app {l : List (Int × Value)} (g : Paired (EnK knd) ks l) {k : κ} {e : Int × Value} (q : EnK knd k e) : Paired (EnK knd) (ks ++ [k]) (l ++ [e]) := by
  induction g with
  | nil => exact .cons q .nil
  | cons g1 _ ih => exact .cons g1 ih
end

section
variable {P : Program} {w : World} {κ : Type} [DecidableEq κ] {knd : PySem.KeyKind P w κ} {A : Around} {E : Value → Shared → Prop} {s : Shared} {a : Addr} {ks : List κ}

theorem put_at {h : Heap} {o : Obj} {es es' : Array (Int × Value)} {ep : Nat} {t t' : SetTable} (ho : h.get? a = some o) (hd : o.data = .set es ep t) :
    (h.update a (Obj.putSet es' t')).get? a = some { o with data := .set es' (ep + 1) t' } := PpSet.storeB_at ho hd

/-- the end of an addition: stored, and laid anew where it is too full -/
theorem setw_tail {gv : Bool → Sem Unit} (hg : ∀ (b : Bool) (s1 : Shared) (Q' : Unit → Shared → Prop), Q' () s1 → wpAny (model P w) A (gv b) Q' E s1)
    {o : Obj} {es : Array (Int × Value)} {ep : Nat} {t : SetTable} (ho : s.heap.get? a = some o) (hex : o.ExactSet) (hd : o.data = .set es ep t)
    {es1 : Array (Int × Value)} {t2 : SetTable} {k1 : List κ} (nd1 : k1.Nodup) (g1 : Paired (EnK knd) k1 es1.toList)
    (hb1 : es1.size < scanBound) (hf2 : t2.fits es1.size = true) (hr : Ris t2.place.toList) (hl : w.params.followText "set-order" = true ∨ t2.led = true) {wd : Bool} {R : Option Bool → Shared → Prop}
    (hR : ∀ h' k2, k2.Perm k1 → Heap.SameBut a s.heap h' → SetW knd h' a k2 → R (some true) { s with heap := h' }) :
    wpAny (model P w) A (do
        storeSet a es1 t2
        if (!wd && t2.tooFull) = true then do
            gv (relayAll t2 es1 (SetTable.grown es1.size)).2.2
            storeSet a (relayAll t2 es1 (SetTable.grown es1.size)).1 (relayAll t2 es1 (SetTable.grown es1.size)).2.1
            pure (some true)
          else pure (some true)) R E s := by
  refine wpAny_bind (wpAny_storeSet_of ho hd ?_ (fits_of_scanBound hb1))
  have hput := put_at (es' := es1) (t' := t2) ho hd
  have same1 := Heap.SameBut.update s.heap a (Obj.putSet es1 t2)
  split
  · have pm := relayAll_perm t2 es1 (SetTable.grown es1.size)
    have f3 := relayAll_fits t2 es1 (SetTable.grown es1.size)
    have r3 := relayAll_ris t2 es1 (SetTable.grown es1.size)
    have l3 := relayAll_led t2 es1 (SetTable.grown es1.size)
    revert pm f3 r3 l3
    rcases relayAll t2 es1 (SetTable.grown es1.size) with ⟨es2, t3, gave⟩
    intro pm f3 r3 l3
    dsimp only at pm f3 r3 l3 ⊢
    have size2 : es2.size = es1.size := by rw [← Array.length_toList, pm.length_eq, Array.length_toList]
    have small2 : es2.size < scanBound := by rw [size2]; exact hb1
    obtain ⟨k2, pk, g2⟩ := en_perm g1 pm
    refine wpAny_bind (hg _ _ _ ?_)
    refine wpAny_bind (wpAny_storeSet_of hput rfl ?_ (fits_of_scanBound small2))
    refine wpAny_pure (hR _ k2 pk (same1.trans (Heap.SameBut.update _ a _)) ?_)
    exact ⟨_, es2, _, t3, put_at hput rfl, hex, rfl, pk.nodup_iff.mpr nd1, g2, small2, f3, r3, hl.imp id fun z => by rw [l3]; exact z⟩
  · exact wpAny_pure (hR _ k1 (List.Perm.refl _) same1 ⟨_, es1, _, t2, hput, hex, rfl, nd1, g1, hb1, hf2, hr, hl⟩)

/-- what an addition leaves -/
def Added (ks : List κ) (k : κ) (ks' : List κ) : Prop := (k ∈ ks ∧ ks' = ks) ∨ (k ∉ ks ∧ ks'.Perm (k :: ks))
theorem setw_addHashed {k : κ} {v : Value} {Q : Bool → Shared → Prop} (hk : knd.is k v = true) (hv : v.scannable = true) (R : SetW knd s.heap a ks) (room : ks.length + 1 < scanBound)
    (hQ : ∀ b h' ks', Heap.SameBut a s.heap h' → SetW knd h' a ks' → Added ks k ks' → Q b { s with heap := h' }) :
    wpAny (model P w) A (setAddHashed a v (knd.hash k)) Q E s := by
  have R0 := R
  obtain ⟨o, es, ep, t, ho, hex, hd, nd, g, hb, hf, hr, hl⟩ := R
  have hel := en_elems g
  have hlen : es.size = ks.length := by rw [← Array.length_toList]; exact (Paired.length g).symm
  unfold setAddHashed setAddHashedIn
  refine wpAny_holding (wpAny_bind (wpAny_setState_of ho hd hf ?_))
  dsimp only
  rw [byScan_of hv hb hel]
  simp only [↓reduceIte]
  unfold setAddByScan
  refine wpAny_bind (wpAny_bind (wpAny_rule ?_))
  refine wpAny_bind (wpAny_setScan_of hk ho hd hf hel ?_)
  cases hfi : List.findIdx? (fun e => knd.is k e.2) es.toList with
  | some j =>
    dsimp only
    obtain ⟨hj, pj, _⟩ := List.findIdx?_eq_some_iff_getElem.mp hfi
    obtain ⟨k0, m0, q0⟩ := en_mem g _ (List.getElem_mem hj)
    have e0 : k0 = k := knd.inj _ _ _ q0.1 pj
    exact wpAny_pure (wpAny_pure (hQ false s.heap ks (Heap.SameBut.refl a s.heap) R0 (.inl ⟨e0 ▸ m0, rfl⟩)))
  | none =>
    dsimp only
    have hnk : k ∉ ks := fun z => by
      obtain ⟨e, he, q⟩ := en_of g k z
      have c := List.findIdx?_eq_none_iff.mp hfi e he
      rw [q.1] at c
      cases c
    have hgw : ∀ (b : Bool) (s1 : Shared) (Q' : Unit → Shared → Prop), Q' () s1 → wpAny (model P w) A (match b with | true => rule "set.scan.the-table-gave-way" | false => pure ()) Q' E s1 := by
      intro b s1 Q' q
      cases b
      · exact wpAny_pure q
      · exact wpAny_rule q
    have pm := layNew_perm t es (knd.hash k) v
    have f1 := layNew_fits t es (knd.hash k) v
    have r1 := layNew_ris t es (knd.hash k) v hr
    have l1 := layNew_led t es (knd.hash k) v
    revert pm f1 r1 l1
    rcases layNew t es (knd.hash k) v with ⟨es1, t1, wd, gave⟩
    intro pm f1 r1 l1
    dsimp only at pm f1 r1 l1 ⊢
    rw [Array.toList_push] at pm
    obtain ⟨k1, pk, g1⟩ := en_perm (en_app g ⟨hk, rfl, hv⟩) pm
    have pk' : k1.Perm (k :: ks) := pk.trans (List.perm_append_singleton _ _)
    have nd1 : k1.Nodup := pk'.nodup_iff.mpr (List.nodup_cons.mpr ⟨hnk, nd⟩)
    have hb1 : es1.size < scanBound := by
      rw [← Array.length_toList, ← Paired.length g1, pk'.length_eq, List.length_cons]
      exact room
    have led1 : w.params.followText "set-order" = true ∨ t1.led = true := hl.imp id fun z => by rw [l1]; exact z
    have fin : ∀ (b : Bool) h' k2, k2.Perm k1 → Heap.SameBut a s.heap h' → SetW knd h' a k2 → Q b { s with heap := h' } := fun b h' k2 p2 sb r => hQ b h' k2 sb r (.inr ⟨hnk, p2.trans pk'⟩)
    refine wpAny_bind (hgw _ _ _ ?_)
    split
    · refine wpAny_bind ?_
      rw [hashByValue_scannable 8 hv]
      refine wpAny_pure ?_
      refine setw_tail hgw ho hex hd nd1 g1 hb1 ?_ ?_ ?_ ?_
      · split <;> first | exact f1 | exact SetTable.fits_plain_off f1
      · split <;> exact r1
      · split <;> exact led1
      · intro h' k2 p2 sb r; dsimp only; exact wpAny_pure (fin _ h' k2 p2 sb r)
    · refine wpAny_bind (wpAny_pure ?_)
      simp only [↓reduceIte]
      refine setw_tail hgw ho hex hd nd1 g1 hb1 f1 r1 led1 ?_
      intro h' k2 p2 sb r; dsimp only; exact wpAny_pure (fin _ h' k2 p2 sb r)

/-- found.add(k) -/
theorem setw_add {k : κ} {v : Value} {Q : Value → Shared → Prop} (hk : knd.is k v = true) (hv : v.scannable = true) (R : SetW knd s.heap a ks) (room : ks.length + 1 < scanBound)
    (hQ : ∀ h' tk ks', Heap.SameBut a s.heap h' → SetW knd h' a ks' → Added ks k ks' → Q .none { s with heap := h', toks := tk }) :
    wpAny (model P w) A (call (.builtin "set.add") [.ref a, v]) Q E s := by
  have hT : s.TypeIs (.ref a) "set" := by
    obtain ⟨o, es, ep, t, ho, hex, _⟩ := R
    exact ⟨o, ho, hex.1⟩
  refine wpAny_call_entry F.slot_set_add hT F.entry_set_add ?_ (F.args_set_add_2 _ _)
  unfold Builtin.«set.add» Builtin.Frozenset.oneOther
  simp only [List.isEmpty_nil, bind_assoc]
  unfold Builtin.Frozenset.addrOf setAdd
  refine wpAny_bind (wpAny_pure ?_)
  try dsimp only
  refine wpAny_bind (wpAny_pure ?_)
  try dsimp only
  refine wpAny_bind ?_
  refine wpAny_holding ?_
  refine wpAny_bind (knd.pyHash hk ?_)
  refine setw_addHashed (s := { s with toks := s.toks + 1 }) hk hv R room fun b h' ks' sb r ad => ?_
  show wpAny _ _ (ret Value.none) _ _ _
  exact wpAny_pure ⟨_, rfl, hQ h' (s.toks + 1) ks' sb r ad⟩
theorem setw_fresh {h : Heap} : SetW knd (h.push { cls := .type "set", dict := none, data := .set #[] 0 (.fresh 0 0 (!w.params.followText "set-order")) }) h.objs.size [] :=
  ⟨_, #[], 0, _, Heap.get?_push_size _ rfl, ⟨rfl, rfl, rfl⟩, rfl, List.nodup_nil, .nil, (by decide), (by rfl), List.Pairwise.nil, by
    show _ ∨ (!w.params.followText "set-order") = true
    cases w.params.followText "set-order"
    · exact .inr rfl
    · exact .inl rfl⟩
end
end WW

set_option Elab.async false
set_option linter.all false
set_option maxRecDepth 100000
set_option maxHeartbeats 4000000
/-! Sets of texts as tracked things; sorted of one; {text for ..}; set(list of texts). -/
namespace WW
open PySem PySem.Spec PyProof.Rows L2

def leS (a b : Str) : Bool := decide (a.cps.toList ≤ b.cps.toList)
/-- the texts, ascending -/
def sortS (ks : List Str) : List Str := ks.mergeSort leS

/-- a set of texts -/
def SSO (P : Program) (w : World) (a : Addr) (ks : List Str) : HO := .ext fun h => SetW (PySem.strKind P w) h a ks
theorem sso_new {P : Program} {w : World} {H : Hp} {h : Heap} {a : Addr} {ks : List Str} (R : SetW (PySem.strKind P w) h a ks) : ObjOk P w H h a (SSO P w a ks) := by
  have ⟨o, _, _, _, ho, _⟩ := R
  exact ⟨R, ⟨o, ho⟩, fun h1 h2 p k => SetW.here p k⟩
section
variable {X : Cx}
theorem sso_get {pins : List (Addr × Obj)} {σ : L2.St} {H : Hp} {s : Shared} {a : Addr} {ks : List Str} (I : Inv X pins σ H s) (ha : H a = some (SSO X.prog X.w a ks)) : SetW (PySem.strKind X.prog X.w) s.heap a ks := (I.hok a _ ha).1

theorem setw_vals {P : Program} {w : World} {ks : List Str} {l : List (Int × Value)} (g : Paired (EnK (PySem.strKind P w)) ks l) : StrsAre (l.map (·.2)) ks := by
  induction g with
  | nil => exact .nil
  | @cons k e ks l q _ ih =>
    obtain ⟨t, et⟩ := Value.isStrOf_shape (x := k) (v := e.2) q.1
    show StrsAre (e.2 :: l.map (·.2)) (k :: ks)
    rw [et]
    exact .cons k t ih
theorem strs_perm {us vs : List Value} {ks : List Str} (h : StrsAre vs ks) (p : us.Perm vs) : ∃ ks', ks'.Perm ks ∧ StrsAre us ks' := by
  induction p generalizing ks with
  | nil => exact ⟨ks, List.Perm.refl _, h⟩
  | cons x _ ih =>
    cases h with
    | cons k t h2 =>
      obtain ⟨k2, p2, g2⟩ := ih h2
      exact ⟨k :: k2, p2.cons k, .cons k t g2⟩
  | swap x y l =>
    cases h with
    | cons k t h2 =>
      cases h2 with
      | cons k2 t2 h3 => exact ⟨_, List.Perm.swap _ _ _, .cons k2 t2 (.cons k t h3)⟩
  | trans _ _ ih1 ih2 =>
    obtain ⟨k2, p2, g2⟩ := ih2 h
    obtain ⟨k1, p1, g1⟩ := ih1 g2
    exact ⟨k1, p1.trans p2, g1⟩
theorem leS_trans (a b c : Str) (h1 : leS a b = true) (h2 : leS b c = true) : leS a c = true := by
  unfold leS at *
  exact decide_eq_true (Std.le_trans (of_decide_eq_true h1) (of_decide_eq_true h2))
theorem leS_total (a b : Str) : (leS a b || leS b a) = true := by
  unfold leS
  rcases Std.le_total (a := a.cps.toList) (b := b.cps.toList) with h | h
  · rw [decide_eq_true h, Bool.true_or]
  · rw [decide_eq_true h, Bool.or_true]
theorem str_ext {a b : Str} (h : a.cps.toList = b.cps.toList) : a = b := by
  cases a; cases b
  exact congrArg Str.mk (Array.ext' h)
theorem leS_anti (a b : Str) (h1 : leS a b = true) (h2 : leS b a = true) : a = b := by
  unfold leS at *
  exact str_ext (Std.le_antisymm (of_decide_eq_true h1) (of_decide_eq_true h2))
theorem sortS_sorted (ks : List Str) : (sortS ks).Pairwise (fun a b => leS a b = true) := List.pairwise_mergeSort leS_trans leS_total ks
theorem sortS_perm (ks : List Str) : (sortS ks).Perm ks := List.mergeSort_perm ks leS
/-- the ascending list depends on the members alone -/
theorem sortS_congr {ks ls : List Str} (p : ks.Perm ls) : sortS ks = sortS ls :=
  List.Perm.eq_of_pairwise (fun a b _ _ => leS_anti a b) (sortS_sorted ks) (sortS_sorted ls) (((sortS_perm ks).trans p).trans (sortS_perm ls).symm)
theorem sortS_mem {ks : List Str} {x : Str} : x ∈ sortS ks ↔ x ∈ ks := (sortS_perm ks).mem_iff
theorem sortS_len (ks : List Str) : (sortS ks).length = ks.length := (sortS_perm ks).length_eq

theorem strsAre_each : ∀ {vs : List Value} {ks : List Str}, StrsAre vs ks → PySem.W.EachIs (fun v (k : Str) => ∃ t, v = Value.str k t) vs ks
  | _, _, .nil => .nil
  | _, _, .cons k t h => .cons ⟨t, rfl⟩ (strsAre_each h)
theorem each_strsAre : ∀ {vs : List Value} {ks : List Str}, PySem.W.EachIs (fun v (k : Str) => ∃ t, v = Value.str k t) vs ks → StrsAre vs ks
  | _, _, .nil => .nil
  | _, _, .cons ⟨t, e⟩ h => by subst e; exact .cons _ t (each_strsAre h)
theorem le_str_eq : PySem.W.dataLe false PyData.str = leS := PySem.W.dataLe_str (fun k => k)

def rSortSS (P : Program) (w : World) : List V → Hp → VK → Prop := fun vs H Q => ∃ (a : Addr) (ks : List Str), vs = [V.ref a] ∧ H a = some (SSO P w a ks) ∧
  ∀ p, H p = none → Q (.ref p) (upd H p (.lst ((sortS ks).map V.str)))
theorem cr_sortSS (hc : X.calm = true) (hu : X.A.units + 64 < cLine) : CallR X (.builtin "sorted") (rSortSS X.prog X.w) := by
  intro pins s σ H vs us Q I r h
  obtain ⟨a, ks, rfl, ha, q⟩ := h
  rw [Vals.ref1 r]
  obtain ⟨o, es, ep, t, ho, hex, hd, nd, g, hb, hf, hr, hl⟩ := sso_get I ha
  refine Calls.call_function_entry kind_sorted plain_sorted entry_sorted (args_sorted1 _) ?_
  unfold Builtin.«sorted»
  refine wpAny_bind (m := checkCount "sorted" 1 1 _) (wpAny_pure ?_)
  refine wpAny_bind (collect_set (A := X.A.in1) (I.ok.hd hc) ⟨o, ho, hex.1, hd⟩ hf hb hr hl fun s1 out k1 z1 g1 o1 pm => ?_)
  obtain ⟨k2, pk, sa⟩ := strs_perm (setw_vals g) pm
  have hlen : out.length = ks.length := by rw [sa.length, pk.length_eq]
  have hk0 : ks.length = es.size := by rw [Paired.length g, Array.length_toList]
  have hz : out.length ≤ sizeLine := by rw [hlen, hk0]; exact fits_of_scanBound hb
  have I1 : Inv X pins σ H s1 := I.call' (ch := []) o1 (Un.kept k1) (I.hok.kept k1) (by rw [g1]; exact I.bare) (fun _ z => nomatch z)
  refine wpAny_bind (wpAny_newList ?_ hz)
  have hoL : (s1.heap.push (seqObj "list" out.toArray 0)).get? s1.heap.objs.size = some (seqObj "list" out.toArray 0) := Heap.get?_push_size _ rfl
  have ee := strsAre_each sa
  refine wpAny_bind (wpAny_holding (PySem.W.list_sort_data (enc := PyData.str) (s := { s1 with heap := s1.heap.push (seqObj "list" out.toArray 0) }) hoL ee (ee.mono fun v k ⟨t, e⟩ => ⟨[], by subst e; exact ⟨Reads.str k t, by simp⟩⟩) (PySem.W.AllAlike.of fun b b' => by simp [PySem.W.alike])
    (PySem.W.Sortable.others fun b => ⟨by simp, by simp⟩) (by rw [pk.length_eq, ← hlen]; exact hz) (fun b _ => by show X.A.units + 1 + 1 + 0 < cLine; omega) fun out2 h2 e2 => ?_))
  have en : k2.mergeSort (PySem.W.dataLe false PyData.str) = sortS ks := by
    rw [le_str_eq]
    exact sortS_congr pk
  rw [en] at e2
  obtain ⟨c, hc2⟩ := sortedHeap_at (vs := out) (out := out2.toArray) hoL
  have hold : ∀ b u, s1.heap.get? b = some u → (sortedHeap (s1.heap.push (seqObj "list" out.toArray 0)) s1.heap.objs.size out out2.toArray).get? b = some u := fun b u e => by
    have lt := Heap.lt_size e
    exact (sortedHeap_old (Nat.ne_of_lt lt) (by rw [Heap.size_push]; exact Nat.lt_succ_of_lt lt)).trans (Heap.get?_push_of_some _ e)
  have sa2 := each_strsAre e2
  refine wpAny_pure ⟨_, rfl, .ref s1.heap.objs.size, upd H s1.heap.objs.size (.lst ((sortS ks).map V.str)), I1.laid (t' := s1.toks) hold (Nat.le_refl _) ⟨?_, out2, c, vals_of_strs sa2, hc2⟩, rfl, q _ (I1.hok.fresh (Nat.le_refl _))⟩
  rw [List.length_map, sortS_len, ← hlen]
  exact hz
end
end WW

set_option Elab.async false
set_option linter.all false
set_option maxRecDepth 100000
set_option maxHeartbeats 4000000
/-! {e for x in ..}: whatever the set holds. -/
namespace WW
open PySem PySem.Spec PyProof.Rows L2

/-- what set.add does to the tracked set at D: y is put in, N is what then holds of the heap -/
abbrev AddT := V → Addr → Hp → (Hp → Prop) → Prop
/-- a set's making and filling, for any body -/
structure SetMk (P : Program) (w : World) (new : Addr → HO) (add : AddT) : Prop where
  laid : ∀ (H : Hp) (h : Heap), ObjOk P w H (h.push { cls := .type "set", dict := none, data := .set #[] 0 (.fresh 0 0 (!w.params.followText "set-order")) }) h.objs.size (new h.objs.size)
  put : ∀ (X : Cx), X.prog = P → X.w = w → ∀ (pins : List (Addr × Obj)) (σ : L2.St) (H : Hp) (s : Shared) (D : Addr) (y : V) (v : Value) (N : Hp → Prop) (Q : Value → Shared → Prop) (E : Value → Shared → Prop), Inv X pins σ H s → RelV y v → add y D H N →
    (∀ s' H', Inv X pins σ H' s' → N H' → Q .none s') → wpAny (model P w) X.A (call (.builtin "set.add") [.ref D, v]) Q E s

def tSet (new : Addr → HO) (add : AddT) (wi : TI) (g : TG) (tt : TT) (te : TE) (vs : List Nat) : TE := fun σ H Q => wi σ H fun J H1 => ∀ D, H1 D = none →
  ∃ W : Nat → Nat → Hp → Prop, (∃ m, W 0 m (upd H1 D (new D))) ∧ ∀ i m H2, W i m H2 → (J.stop i H2 ∧ Q (.ref D) H2) ∨
    (J.go i H2 ∧ ∃ Nx : Hp → Prop, (∀ H', Nx H' → ∃ m', m' < m ∧ W (i + 1) m' H') ∧ ∀ x H', J.yld i H2 x H' → g x (wipe σ vs) H' fun σ3 H3 => wipe σ3 vs = wipe σ vs ∧
      tt σ3 H3 fun b H4 => if b = true then te σ3 H4 fun y H5 => add y D H5 Nx else Nx H4)

section
variable {X : Cx}
theorem set_core {new : Addr → HO} {add : AddT} {pins : List (Addr × Obj)} {s : Shared} {σ : L2.St} {H : Hp} {Q : VK} {elt tg iter : Expr} {ifs : List Expr} {scope : Scope} {own : List (PySem.Str × Nat)} {pos pos' : Pos} {wi : TI} {g : TG} {tt : TT} {te : TE}
    {use : Option (Value → Sem Unit)} {Qf : Value → Shared → Prop} (M : SetMk X.prog X.w new add) (calm : X.calm = true) (nd : X.N.Nodup) (I : Inv X pins σ H s) (walk : PI X tg iter wi) (blk : BlkOk X.N X.env.scope scope own)
    (hg : ∀ (s : Shared) (H : Hp) (C : Addr) (cl : List (PySem.Str × Addr)) (fp : List Addr), PG (X.blk s H scope (compEnvC scope cl C X.env) fp) tg g)
    (ht : ∀ (s : Shared) (H : Hp) (C : Addr) (cl : List (PySem.Str × Addr)) (fp : List Addr), PTs (X.blk s H scope (compEnvC scope cl C X.env) fp) ifs tt)
    (he : ∀ (s : Shared) (H : Hp) (C : Addr) (cl : List (PySem.Str × Addr)) (fp : List Addr), PE (X.blk s H scope (compEnvC scope cl C X.env) fp) elt te)
    (plain : ∀ x, foldedSetIterable iter X.env x = pure x) (h : tSet new add wi g tt te (own.map (·.2)) σ H Q)
    (back : ∀ D C s' m H', Inv X pins σ H' s' → Q (.ref D) H' → s'.heap.Ns C m → FpOk X pins H' C → compPost (model X.prog X.w) X.A X.xe use Qf (.ref D) C (.ok .next) s') :
    wpAny (model X.prog X.w) X.A (comprehension (.SetComp elt [⟨tg, iter, ifs, 0⟩] scope pos) scope X.env pos' (newSet (.type "set")) false (eval iter X.env) use) Qf X.xe s := by
  have cellsThere : ∀ y ∈ scope.names, y.2 = .free → ∃ c, X.env.cells.lookup y.1 = some c := fun y my fy =>
    (blk.free y my fy).elim (fun k => I.ok.has _ (.inl k)) fun k => I.ok.has _ (.inr k)
  refine wpAny_comprehension_free (use := use) rfl plain (closure_ok cellsThere) blk.kind (fun y my ey => by rw [blk.uniq y my, ey]) (thn (walk.run pins s σ H _ I h) fun v1 s1 h1 => thn h1 fun v2 s2 h2 => ?_)
  obtain ⟨it, fp, tn, J, H2, rfl, I2, T, start2, free2, rest⟩ := h2
  refine PpSet.newSet_ok (newEnv_comp ?_)
  have fresh2 : H2 s2.heap.objs.size = none := I2.hok.fresh (Nat.le_refl _)
  obtain ⟨W, ⟨m0, w0⟩, turn⟩ := rest s2.heap.objs.size fresh2
  -- the state with the empty set
  have I3 : Inv X pins σ (upd H2 s2.heap.objs.size (new s2.heap.objs.size)) { s2 with heap := s2.heap.push { cls := .type "set", dict := none, data := .set #[] 0 (.fresh 0 0 (!X.w.params.followText "set-order")) } } :=
    I2.laid (t' := s2.toks) (fun _ _ e => Heap.get?_push_of_some _ e) (Nat.le_refl _) (M.laid _ _)
  have below : ∀ b ∈ fp, b < s2.heap.objs.size := fun b hb => let ⟨_, e, _⟩ := T.obj _ _ start2 b hb; Heap.lt_size e
  generalize hD : s2.heap.objs.size = D at w0 turn fresh2 I3 below ⊢
  generalize hs3 : ({ s2 with heap := s2.heap.push { cls := .type "set", dict := none, data := .set #[] 0 (.fresh 0 0 (!X.w.params.followText "set-order")) } } : Shared) = s3 at I3
  have grown : s3.heap = s2.heap.push { cls := .type "set", dict := none, data := .set #[] 0 (.fresh 0 0 (!X.w.params.followText "set-order")) } := by rw [← hs3]
  generalize hH3 : upd H2 D (new D) = H3 at I3 w0
  have free3 : ∀ b ∈ fp, FpOk X pins H3 b ∧ b < s3.heap.objs.size := fun b hb => by
    have lt := below b hb
    refine ⟨⟨?_, (free2 b hb).2⟩, by rw [grown, Heap.size_push, hD]; exact Nat.lt_succ_of_lt lt⟩
    rw [← hH3, upd_ne (Nat.ne_of_lt lt)]
    exact (free2 b hb).1
  have start3 : tn 0 s3.heap := T.keep _ _ _ start2 fun b _ o e => by rw [grown]; exact Heap.get?_push_of_some _ e
  have I4 := block_start I3 blk nd free3
  have ruleG := hg s3 H3 s3.heap.objs.size (cellsFrom (s3.heap.objs.size + 1) scope.names (cloFrom X.env.cells scope.names [])) fp
  have ruleT := ht s3 H3 s3.heap.objs.size (cellsFrom (s3.heap.objs.size + 1) scope.names (cloFrom X.env.cells scope.names [])) fp
  have ruleE := he s3 H3 s3.heap.objs.size (cellsFrom (s3.heap.objs.size + 1) scope.names (cloFrom X.env.cells scope.names [])) fp
  show codeAny _ _ (.compStart (.SetComp elt [⟨tg, iter, ifs, 0⟩] scope pos) 0 (.ref it) (.ref D) (compEnvC scope (cellsFrom (s3.heap.objs.size + 1) scope.names (cloFrom X.env.cells scope.names [])) s3.heap.objs.size X.env))
    (compPost (model X.prog X.w) X.A X.xe use Qf (.ref D) s3.heap.objs.size) { s3 with heap := pushCells (s3.heap.push { cls := .type "dict", data := .dict #[] }) scope.names }
  generalize hce : compEnvC scope (cellsFrom (s3.heap.objs.size + 1) scope.names (cloFrom X.env.cells scope.names [])) s3.heap.objs.size X.env = ce at I4 ruleG ruleT ruleE ⊢
  have frame : ce.locals = s3.heap.objs.size := by rw [← hce] <;> rfl
  generalize hs4 : ({ s3 with heap := pushCells (s3.heap.push { cls := .type "dict", data := .dict #[] }) scope.names } : Shared) = s4 at I4 ⊢
  have start4 : tn 0 s4.heap := T.keep _ _ _ start3 fun b _ o e => by rw [← hs4]; exact pushCells_keeps _ _ _ _ (Heap.get?_push_of_some _ e)
  have quiet : ∀ {σ' : L2.St} {H' : Hp} {s' : Shared}, Inv (X.blk s3 H3 scope ce fp) [] σ' H' s' → (∀ b ∈ fp, H' b = none) → ∀ b ∈ fp, FpOk (X.blk s3 H3 scope ce fp) [] H' b := fun {σ' H' s'} I' n b hb =>
    ⟨n b hb, (I'.ok.exf b hb).1, I'.ok.exfs b hb, .inl hb, (I'.ok.exf b hb).2, fun p hp => absurd (show p ∈ ([] : List (Addr × Obj)) ++ [] from hp) (by simp)⟩
  have loop : codeAny (model X.prog X.w) X.A (.compLoop (.SetComp elt [⟨tg, iter, ifs, 0⟩] scope pos) 0 (.ref it) (.ref D) ce) (compPost (model X.prog X.w) X.A X.xe use Qf (.ref D) s3.heap.objs.size) s4 := by
    refine PpSet.compLoopS_any (fun n s' => ∃ i H', Inv (X.blk s3 H3 scope ce fp) [] (wipe σ (own.map (·.2))) H' s' ∧ tn i s'.heap ∧ (∀ b ∈ fp, H' b = none) ∧ W i n H') ?_ m0 ⟨0, H3, I4, start4, fun b hb => (free3 b hb).1.1, w0⟩
    rintro n s5 ⟨i, H5, I5, at5, none5, w5⟩
    rcases turn i n H5 w5 with ⟨stop, fin⟩ | ⟨go, Nx, hNx, step⟩
    · refine thnF (T.done (X.blk s3 H3 scope ce fp) rfl rfl rfl calm i [] s5 _ H5 (fun _ _ => False) I5 (quiet I5 none5) at5 stop) fun r s6 ⟨er, I6⟩ => ?_
      subst er
      have I7 : Inv X pins σ H5 s6 := I3.call' (ch := fp) I6.os I6.base I6.hok I6.bare fun b hb => ⟨(free3 b hb).1.2.2.2.1, (free3 b hb).1.2.1, (free3 b hb).1.2.2.2.2.1, (free3 b hb).1.2.2.2.2.2⟩
      have nC : H5 s3.heap.objs.size = none := frame ▸ (I6.free : H5 ce.locals = none)
      obtain ⟨m, hn, _⟩ := I6.loc
      have hn' : s6.heap.Ns s3.heap.objs.size m := frame ▸ (hn : s6.heap.Ns ce.locals m)
      exact back D s3.heap.objs.size s6 m H5 I7 fin hn' (I3.fpOk (Nat.le_refl _) nC)
    · refine thnF (T.item (X.blk s3 H3 scope ce fp) rfl rfl rfl calm i [] s5 _ H5 (fun _ _ => False) I5 (quiet I5 none5) at5 go) fun r s6 ⟨u, er, h6⟩ => ?_
      subst er
      refine thnF h6 fun _ s7 ⟨x, H7, I7, r7, y7, at7, none7⟩ => ?_
      refine thnF (ruleG.run _ s7 _ H7 x u _ (I7.pinned (quiet I7 none7) (T.obj _ _ at7)) r7 (step x H7 y7)) fun _ s8 ⟨σ8, H8, I8, wiped, q8⟩ => ?_
      refine thnF (ruleT.run _ s8 σ8 H8 _ I8 q8) fun b s9 ⟨H9, I9, q9⟩ => ?_
      have next : ∀ {s' : Shared} {H' : Hp}, Inv (X.blk s3 H3 scope ce fp) ([] ++ pinsAt fp s7.heap) σ8 H' s' → Nx H' → ∃ m, m < n ∧ ∃ i H', Inv (X.blk s3 H3 scope ce fp) [] (wipe σ (own.map (·.2))) H' s' ∧ tn i s'.heap ∧ (∀ b ∈ fp, H' b = none) ∧ W i m H' := fun {s' H'} I' nx => by
        obtain ⟨m', less, w'⟩ := hNx H' nx
        have pinned : ∀ b ∈ fp, ∀ o, s7.heap.get? b = some o → s'.heap.get? b = some o ∧ H' b = none := fun b hb o e =>
          let z := I'.pin (b, o) (List.mem_append_right _ (List.mem_append_right _ (mem_pinsAt hb e)))
          ⟨z.1, z.2.1⟩
        have len8 : (wipe σ (own.map (·.2))).length = σ8.length := by rw [← wiped, wipe_length]
        refine ⟨m', less, i + 1, H', (I'.unpinned (pins := [])).weak len8 (fun j v e => ?_), T.keep _ _ _ at7 fun b hb o e => (pinned b hb o e).1, fun b hb => ?_, w'⟩
        · rw [← wiped] at e
          exact (wipe_some e).1
        · obtain ⟨o, e, _⟩ := T.obj _ _ at7 b hb
          exact (pinned b hb o e).2
      cases b with
      | false =>
        rw [if_neg Bool.false_ne_true] at q9 ⊢
        exact next I9 q9
      | true =>
        rw [if_pos rfl] at q9 ⊢
        refine thnF (ruleE.run _ s9 σ8 H9 _ I9 q9) fun z s10 ⟨yv, H10, I10, r10, put⟩ => ?_
        exact M.put (X.blk s3 H3 scope ce fp) rfl rfl _ σ8 H10 s10 D yv z Nx _ _ I10 r10 put fun s11 H11 I11 nx => next I11 nx
  exact PpSet.codeAny_compStart_set loop (T.self X.A 0 _ _ _ start4 loop)

theorem pe_set {new : Addr → HO} {add : AddT} {elt tg iter : Expr} {ifs : List Expr} {scope : Scope} {own : List (PySem.Str × Nat)} {pos : Pos} {wi : TI} {g : TG} {tt : TT} {te : TE} (M : SetMk X.prog X.w new add) (calm : X.calm = true) (nd : X.N.Nodup) (walk : PI X tg iter wi) (blk : BlkOk X.N X.env.scope scope own)
    (hg : ∀ (s : Shared) (H : Hp) (C : Addr) (cl : List (PySem.Str × Addr)) (fp : List Addr), PG (X.blk s H scope (compEnvC scope cl C X.env) fp) tg g)
    (ht : ∀ (s : Shared) (H : Hp) (C : Addr) (cl : List (PySem.Str × Addr)) (fp : List Addr), PTs (X.blk s H scope (compEnvC scope cl C X.env) fp) ifs tt)
    (he : ∀ (s : Shared) (H : Hp) (C : Addr) (cl : List (PySem.Str × Addr)) (fp : List Addr), PE (X.blk s H scope (compEnvC scope cl C X.env) fp) elt te)
    (plain : ∀ x, foldedSetIterable iter X.env x = pure x := by intro _; rfl) :
    PE X (.SetComp elt [⟨tg, iter, ifs, 0⟩] scope pos) (tSet new add wi g tt te (own.map (·.2))) := by
  refine ⟨fun pins s σ H Q I h => ?_⟩
  rw [PpSet.eval_SetComp]
  refine set_core M calm nd I walk blk hg ht he plain h fun D C s' m H' I' q hn free => ⟨m, hn, fun h'' sb => ?_⟩
  obtain ⟨f0, f1, f2, f3, f4, f5⟩ := free
  exact ⟨.ref D, H', I'.turned (t' := s'.toks) (fun b o hb e => (sb.2 b hb).trans e) f0 f1 f3 f4 f5, rfl, q⟩
end

/-- texts put in: whatever order the table takes -/
def addS (P : Program) (w : World) : AddT := fun y D H N => ∃ (c : Str) (ks : List Str), y = .str c ∧ H D = some (SSO P w D ks) ∧ ks.length + 1 < scanBound ∧ ∀ ks', Added ks c ks' → N (upd H D (SSO P w D ks'))
theorem mkS (P : Program) (w : World) : SetMk P w (fun D => SSO P w D []) (addS P w) where
  laid := fun H h => sso_new setw_fresh
  put := fun X hP hw pins σ H s D y v N Q E I r ⟨c, ks, ey, hD, room, k⟩ fin => by
    subst hP hw ey
    obtain ⟨t, ev⟩ := r
    subst ev
    refine setw_add (knd := PySem.strKind X.prog X.w) (k := c) (by show Value.isStrOf c (.str c t) = true; simp [Value.isStrOf]) rfl (sso_get I hD) room fun h' tk ks' sb new ad => ?_
    have there : ∃ u, h'.get? D = some u := let ⟨o, _, _, _, ho, _⟩ := new; ⟨o, ho⟩
    exact fin _ _ (I.write (e := D) (t' := tk) (by rw [hD]; trivial) (.inl rfl) (fun b u hb hu => (sb.2 b hb).trans hu) there (sso_new new)) (k ks' ad)
end WW

set_option Elab.async false
set_option linter.all false
set_option maxRecDepth 100000
set_option maxHeartbeats 4000000
/-! x == y and x != y by a class's own __eq__, whatever it answers. -/
namespace WW
open PySem PySem.Spec PyProof.Rows L2

theorem cmpOf {P : Value → Shared → Prop} {z : V} {v : Value} {s' : Shared} (r : RelV z v) (h : P v s') : PySem.W.CmpBack P v s' := by
  cases z <;> (try obtain ⟨t, e⟩ := r) <;> first | exact h | (subst e; exact h) | (cases r; exact h)

/-- x op y of two instances, answered by the def sp -/
def rOwnEq (K : PySem.W.Frag) (C : Addr) (sp : Sp) (E : XK) : R2 := fun x y H Q => ∃ a dx fs b C' dy gs, x = .ref a ∧ y = .ref b ∧ H a = some (.ins C dx fs) ∧ H b = some (.ins C' dy gs) ∧ PySem.W.notFirst K C (.ref C') = true ∧ sp [x, y] H Q E
def rOwnNe (K : PySem.W.Frag) (C : Addr) (sp : Sp) (E : XK) : R2 := fun x y H Q => ∃ a dx fs b C' dy gs, x = .ref a ∧ y = .ref b ∧ H a = some (.ins C dx fs) ∧ H b = some (.ins C' dy gs) ∧ PySem.W.notFirst K C (.ref C') = true ∧
  sp [x, y] H (fun v H' => ∃ k, v = .bl k ∧ Q (.bl (!k)) H') E

section
variable {X : Cx} {CX : CXT} {C f : Addr} {fd : FuncData} {ps : List Str} {sp : Sp} {E : XK} {n : Nat}
theorem op_ownEq (hs : PySem.W.findIn X.K (.ref C) "__eq__" = some (some (.ref f))) (hf : PySem.W.isFn X.K (.ref f) = true) (F : FnOk X.prog X.w X.K X.mg X.base CX n f fd ps sp) (hr : Room n X.A) (hb : Binds X.K fd ps []) (hx : Passes CX X E) :
    OpR X (compareOp .Eq) (rOwnEq X.K C sp E) := by
  intro pins s σ H x y v u Q I rx ry h
  obtain ⟨a, dx, fs, b, C', dy, gs, rfl, rfl, ha, hb', hn, q⟩ := h
  cases rx
  cases ry
  obtain ⟨mA, J, _⟩ := ins_get I.hok ha
  obtain ⟨mB, J', _⟩ := ins_get I.hok hb'
  obtain ⟨od, J, _⟩ := J.look
  obtain ⟨od', J', _⟩ := J'.look
  obtain ⟨m, hF⟩ := I.fr
  show wpAny (model X.prog X.w) X.A (richCompare .Eq (.ref a) (.ref b)) (EP X pins σ Q) X.xe s
  refine PySem.W.cmp_K (op := .Eq) (tb := .ref C') hr.units0 hF I.ok.mod.kin J J'.type hn hs hf ?_
  refine wpAny_mono (run_fn (us := [.ref a, .ref b]) (vs := [.ref a, .ref b]) F hr hb .nil hx I (.cons rfl (.cons rfl .nil)) q) (fun w s' z => ?_) fun _ _ e => e
  obtain ⟨z', H', I', rz, qz⟩ := z
  exact cmpOf rz ⟨z', H', I', rz, qz⟩

/-- the class's __ne__ is object's -/
theorem ne_bound {M : Model} {A : Around} {E' : Value → Shared → Prop} {s : Shared} {K : PySem.W.Frag} {x : Addr} {ox : Obj} {od : Option Obj} {args : List Value} {Q : Option Value → Shared → Prop} (Xk : K.In s.heap) (J : PySem.W.InstAt s.heap x ox C od)
    (hne : PySem.W.findIn K (.ref C) "__ne__" = some (some (.builtin "object.__ne__"))) (h : wpAny M A (call (.builtin "object.__ne__") (.ref x :: args)) (fun v => Q (some v)) E' s) : wpAny M A (callSpecialIfBound? (.ref x) "__ne__" args) Q E' s := by
  simp only [callSpecialIfBound?, bindSpecialIfBound?]
  refine wpAny_holding (wpAny_bind (wpAny_bind (wpAny_bind (J.type.here ((PySem.W.looks_findIn Xk hne).here ?_)))))
  refine wpAny_bind (wpAny_askSetting (wpAny_ite ?_))
  have last : wpAny M A (call (.builtin "object.__ne__") ([.ref x] ++ args) >>= fun v => pure (some v)) Q E' s := wpAny_bind (wpAny_mono h (fun v s' q => wpAny_pure q) fun _ _ q => q)
  split
  · exact wpAny_bind (wpAny_of_eq (PySem.F.cmp_object.ne.bind _) (wpAny_pure (by exact last)))
  · exact wpAny_tryCatch (wpAny_bind (wpAny_of_eq (PySem.F.cmp_object.ne.bind _) (wpAny_pure (by exact last))))

theorem op_ownNe (hs : PySem.W.findIn X.K (.ref C) "__eq__" = some (some (.ref f))) (hne : PySem.W.findIn X.K (.ref C) "__ne__" = some (some (.builtin "object.__ne__"))) (hm : PySem.W.mroIn X.K C (.type "object") = some true) (hf : PySem.W.isFn X.K (.ref f) = true)
    (F : FnOk X.prog X.w X.K X.mg X.base CX n f fd ps sp) (hr : Room (n + 1) X.A) (hb : Binds X.K fd ps []) (hx : Passes CX X E) : OpR X (compareOp .NotEq) (rOwnNe X.K C sp E) := by
  intro pins s σ H x y v u Q I rx ry h
  obtain ⟨a, dx, fs, b, C', dy, gs, rfl, rfl, ha, hb', hn, q⟩ := h
  cases rx
  cases ry
  obtain ⟨mA, J, _⟩ := ins_get I.hok ha
  obtain ⟨mB, J', _⟩ := ins_get I.hok hb'
  obtain ⟨od, J, _⟩ := J.look
  obtain ⟨od', J', _⟩ := J'.look
  have hu : X.A.units + 64 < cLine := hr.units
  -- the def, a level down
  have deep : wpAny (model X.prog X.w) X.A.in1 (call (.ref f) [.ref a, .ref b]) (fun w s' => ∃ k, w = .bool k ∧ EP X pins σ Q (.bool (!k)) s') X.xe s := by
    have hl := F.len _ _ _ _ q
    have bd : BindsTo s fd ⟨[.ref a, .ref b], []⟩ (ps.zip [.ref a, .ref b]) := by
      have z := hb s [.ref a, .ref b] I.kIn (by simpa using hl)
      simpa using z
    refine wpAny_call (codeAny_mono (F.run X.A.in1 X.stack s H ⟨[.ref a, .ref b], []⟩ [.ref a, .ref b] [.ref a, .ref b] _ E hr.in1 I.env0.in1 bd (.cons rfl (.cons rfl .nil)) q) fun r s' hq => ?_)
    cases r with
    | error e => exact hx pins σ H s e s' I hq
    | ok fl =>
      cases fl with
      | ret w =>
        obtain ⟨z, H', I', rz, k, ez, qz⟩ := I.after hq
        subst ez
        cases rz
        exact ⟨k, rfl, .bl (!k), H', I', rfl, qz⟩
      | next => exact False.elim hq
      | brk => exact False.elim hq
      | cont => exact False.elim hq
  have entry : wpAny (model X.prog X.w) X.A.in1 (Builtin.«object.__ne__» ⟨[.ref a, .ref b], []⟩) (fun fin s' => match fin with | .done g => (match g with | .ret w => (∃ k, w = .bool k ∧ EP X pins σ Q (.bool k) s') | _ => False) | .again _ => False) X.xe s := by
    unfold Builtin.«object.__ne__»
    refine wpAny_bind (wpAny_pure ?_)
    refine wpAny_bind (wpAny_cRoomFor (by show X.A.units + 1 < cLine; omega) ?_)
    refine wpAny_bind (PySem.W.ifBound_K I.kIn J hs hf (wpAny_mono deep (fun w s' z => ?_) fun _ _ e => e))
    obtain ⟨k, rfl, hq⟩ := z
    exact wpAny_bind (wpAny_truthy_bool (wpAny_pure ⟨_, rfl, hq⟩))
  have tried : wpAny (model X.prog X.w) X.A (tryCompare (.ref a) "__ne__" (.ref b)) (fun r s' => ∃ w, r = some w ∧ EP X pins σ Q w s') X.xe s := by
    unfold tryCompare
    refine wpAny_bind (ne_bound I.kIn J hne (wpAny_call (codeAny_call_builtin PySem.F.cmp_object.ne.plain PySem.F.cmpEntry_ne (PySem.W.check_slot PySem.F.cmpKind_ne PySem.F.cmpSplit_ne (J.type.andThen (PySem.W.looks_mroIn I.kIn hm)) (PySem.F.cmpArgs_ne _ _)
      (wpAny_mono entry (fun fin s' z => ?_) fun _ _ e => e)))))
    cases fin with
    | again _ => exact z.elim
    | done g =>
      cases g with
      | ret w =>
        obtain ⟨k, rfl, hq⟩ := z
        exact wpAny_pure ⟨_, rfl, hq⟩
      | next => exact z.elim
      | brk => exact z.elim
      | cont => exact z.elim
  show wpAny (model X.prog X.w) X.A (richCompare .NotEq (.ref a) (.ref b)) (EP X pins σ Q) X.xe s
  unfold richCompare
  simp only [oneThing_ref]
  refine wpAny_holding (wpAny_bind (wpAny_cRoomFor hr.units0 ?_))
  rw [PySem.cmpInfo_NotEq]
  dsimp only
  refine wpAny_bind (J.type.here (wpAny_bind (J'.type.here ?_)))
  split
  · rename_i ne
    have e : PySem.W.subIn X.K (.ref C') (.ref C) = some false := by
      rcases Bool.or_eq_true_iff.mp hn with e | e
      · rw [beq_iff_eq.mp e] at ne; simp at ne
      · exact beq_iff_eq.mp e
    refine wpAny_bind ((PySem.W.looks_subIn I.kIn e).here ?_)
    simp only [Bool.false_eq_true, if_false]
    refine wpAny_bind (wpAny_mono tried (fun r s' z => ?_) fun _ _ e => e)
    obtain ⟨w, rfl, hq⟩ := z
    exact wpAny_pure hq
  · refine wpAny_bind (wpAny_pure ?_)
    simp only [Bool.false_eq_true, if_false]
    refine wpAny_bind (wpAny_mono tried (fun r s' z => ?_) fun _ _ e => e)
    obtain ⟨w, rfl, hq⟩ := z
    exact wpAny_pure hq
end
end WW

set_option Elab.async false
set_option linter.all false
set_option maxRecDepth 100000
set_option maxHeartbeats 4000000
/-! A list or a tuple alike: either reading; enumerate, in and sorted of tuples. -/
namespace WW
open PySem PySem.Spec PyProof.Rows L2

/-! ### either reading -/
theorem pe_or {X : Cx} {e : Expr} {t u : TE} (a : PE X e t) (b : PE X e u) : PE X e (fun σ H Q => t σ H Q ∨ u σ H Q) :=
  ⟨fun pins s σ H Q I h => h.elim (a.run pins s σ H Q I) (b.run pins s σ H Q I)⟩
def iOr (a b : TI) : TI := fun σ H R => a σ H R ∨ b σ H R
theorem pi_or {X : Cx} {tg e : Expr} {t u : TI} (a : PI X tg e t) (b : PI X tg e u) : PI X tg e (iOr t u) :=
  ⟨fun pins s σ H Q I h => h.elim (a.run pins s σ H Q I) (b.run pins s σ H Q I)⟩
def rOr3 (a b : List V → Hp → VK → Prop) : List V → Hp → VK → Prop := fun vs H Q => a vs H Q ∨ b vs H Q
theorem cr_or {X : Cx} {f : Value} {r u : List V → Hp → VK → Prop} (a : CallR X f r) (b : CallR X f u) : CallR X f (rOr3 r u) :=
  fun pins s σ H vs us Q I rv h => h.elim (a pins s σ H vs us Q I rv) (b pins s σ H vs us Q I rv)

/-! ### x in a tuple, of data of any kind -/
section
variable {X : Cx}
def rInDT (K : PySem.W.Frag) : R2 := fun x y H Q => ∃ d ds, Dp K H x d ∧ Dp K H y (.tuple ds) ∧ SeqAt.shaped d = true ∧ SeqAt.shaped (.tuple ds) = true ∧ Q (.bl (ds.any fun z => PyData.eqv z d)) H
theorem op_inDT (hu : X.A.units + 65 < cLine) : OpR X (compareOp .In) (rInDT X.K) := by
  intro pins s σ H x y v u Q I rx ry h
  obtain ⟨d, ds, hd, he, sd, se, q⟩ := h
  obtain ⟨as, r1⟩ := Dp.reads I d x v hd rx
  obtain ⟨bs, r2⟩ := Dp.reads I (.tuple ds) y u he ry
  exact SeqAt.in_tuple_reads r2 r1 (SeqAt.canLay_of_shaped se) (SeqAt.canLay_of_shaped sd) (room_in_shaped sd hu) ⟨.bl _, H, I, rfl, q⟩
end

/-! ### enumerate(tuple) -/
section
variable {prog : Program} {w : World} {A : Around} {E : Value → Shared → Prop} {s : Shared}
set_option maxHeartbeats 1000000 in
theorem meets_enum1 {v : Value} {o : Obj} {H : Heap → Prop} (B : Begins v o H) :
    Meets (Builtin.«enumerate.__new__» ⟨[.type "enumerate", v], []⟩) (fun _ R s => H s.heap ∧
      R (.ok (.ret (.ref (s.heap.push o).objs.size))) { s with heap := (s.heap.push o).push { cls := .type "enumerate", data := .fields #[.none, .bool false, .ref s.heap.objs.size, rawInt 0, .none, .none] } }) :=
  .of_wp fun prog w A R s h => by
    obtain ⟨hp, g, d, tk, os⟩ := s; obtain ⟨h1, h⟩ := h
    have hsub := sub_enumerate
    have q1 : ∀ {A' : Around} {E : Value → Shared → Prop} {Q : Value → Shared → Prop}, Q (.ref hp.objs.size) ⟨hp.push o, g, d, tk, os⟩ → wpAny (model prog w) A' (pyIter v) Q E ⟨hp, g, d, tk, os⟩ :=
      fun q => B.iter prog w _ _ ⟨hp, g, d, tk, os⟩ _ h1 q
    wp_walk using q1
    refine wpAny_stack_any fun st => wpAny_pure ?_
    split
    · rename_i c _ _ _ _ _
      cases (c == Value.type "enumerate")
      · wp_walk using q1
        exact ⟨_, rfl, h⟩
      · wp_walk using q1
        exact ⟨_, rfl, h⟩
    · wp_walk using q1
      exact ⟨_, rfl, h⟩
theorem enum1_begins {v : Value} {o : Obj} {H : Heap → Prop} {Q : Value → Shared → Prop} (B : Begins v o H) (h1 : H s.heap)
    (h : ∀ h', IsEnum h' (s.heap.objs.size + 1) s.heap.objs.size 0 .none → h'.get? s.heap.objs.size = some o → h'.objs.size = s.heap.objs.size + 2 →
      (∀ b o, s.heap.get? b = some o → h'.get? b = some o) → Q (.ref (s.heap.objs.size + 1)) { s with heap := h' }) :
    wpAny (model prog w) A (call (.type "enumerate") [v]) Q E s := by
  refine callType_new F.called_enumerate (by decide) (F.typeCall_enumerate_1 _) (F.newCall_enumerate_1 _) (fun obj => F.args_object_init_2 obj _) F.entry_enumerate_new
    (meets_enum1 B) ⟨h1, ?_⟩
  have hz : (s.heap.push o).objs.size = s.heap.objs.size + 1 := Heap.size_push ..
  show _ ∧ _
  rw [hz]
  have he : IsEnum ((s.heap.push o).push { cls := .type "enumerate", data := .fields #[.none, .bool false, .ref s.heap.objs.size, rawInt 0, .none, .none] }) (s.heap.objs.size + 1) s.heap.objs.size 0 .none := by
    have := Heap.get?_push_size (s.heap.push o) (o := { cls := .type "enumerate", data := .fields #[.none, .bool false, .ref s.heap.objs.size, rawInt 0, .none, .none] }) rfl
    rw [hz] at this; exact this
  refine ⟨⟨_, he, rfl⟩, h _ he (Heap.get?_push_of_some _ (Heap.get?_push_size _ B.free)) (by rw [Heap.size_push, hz]) fun b o x => Heap.get?_push_of_some _ (Heap.get?_push_of_some _ x)⟩
end

/-- the tuple at a, each item in a new pair -/
def IteT (K : PySem.W.Frag) (a : Addr) : It :=
  ⟨fun i H => ∃ (xs : List V) (x : V), SqT K H a xs ∧ xs[i]? = some x, fun i H v H' => ∃ T x, v = .ref T ∧ H T = none ∧ H' = upd H T (.tup [.int (i : Nat), x]) ∧ ∀ xs, SqT K H a xs → xs[i]? = some x, fun i H => ∃ xs : List V, SqT K H a xs ∧ xs.length = i⟩
theorem turn_enumT {P : Program} {w : World} {K : PySem.W.Frag} {elts : List Expr} {kk : Nat} {tpos : Pos} (a e it : Addr) :
    Turn P w K (.Tuple elts kk tpos) (IteT K a) [e, it] e (fun i h => (∃ old, IsEnum h e it ((i : Nat) : Int) old) ∧ h.IsTupleIter it a i ∧ e ≠ it) where
  mem := by simp
  obj := fun i h st b hb => by
    obtain ⟨⟨old, he⟩, ⟨o, ho, hc, hd⟩, _⟩ := st
    have e' : b = e ∨ b = it := by simpa using hb
    rcases e' with z | z
    · rw [z]; exact ⟨_, he, fun v q => nomatch q⟩
    · rw [z]; exact ⟨o, ho, fun v q => by rw [hd] at q; cases q⟩
  keep := fun i h h' st k => let ⟨⟨old, he⟩, hi, hne⟩ := st; ⟨⟨old, k e (by simp) _ he⟩, hi.at fun o q => k it (by simp) o q, hne⟩
  item := by
    intro X hP hw hK hc i pins s σ H E I hf st hg
    subst hP hw hK
    obtain ⟨⟨old, he⟩, hit, hne⟩ := st
    obtain ⟨xs, x, hq, hx⟩ := hg
    obtain ⟨its, rv, p, hz⟩ := I.tuple hq
    have p' : s.heap.IsTuple a its.toArray := p
    obtain ⟨u, hu, ru⟩ := rv.get hx
    have hel : e < s.heap.objs.size := Heap.lt_size he
    have hil : it < s.heap.objs.size := by obtain ⟨_, q, _⟩ := hit; exact Heap.lt_size q
    have hai : a ≠ it := fun z => by
      obtain ⟨o, ho, hc1, _⟩ := hit
      obtain ⟨o', ho', hc2, _⟩ := p'
      rw [z, ho] at ho'
      cases ho'
      rw [hc1] at hc2
      injection hc2 with hc2
      exact absurd hc2 (by decide)
    have hae : e ∉ [it, a] := fun z => by
      rcases List.mem_cons.mp z with z | z
      · exact hne z
      · have z := List.mem_singleton.mp z
        obtain ⟨o', ho', hc2, _⟩ := p'
        rw [← z, he] at ho'
        cases ho'
        injection hc2 with hc2
        exact absurd hc2 (by decide)
    have hil2 : i < its.toArray.size := by
      have := (List.getElem?_eq_some_iff.mp hu).1
      simpa using this
    refine wpAny_pyNext_enum_itemC (fp := [it, a]) (c := (i : Int)) (Draws.tuple (A := X.A.in1) (I.ok.hd hc) it a hai its.toArray) he ⟨hit, p'⟩ hil2 hne hae fun y h' tk hy ho hit' hT hsz hk => ?_
    have ey : y = u := by
      have e1 : its[i]? = some y := by simpa using hy
      rw [hu] at e1
      exact (Option.some.inj e1).symm
    subst ey
    refine ⟨_, rfl, wpAny_letOwnedTupleGo_enum (s := { s with heap := h', toks := tk + 1 }) ho fun h'' he' sb => ?_⟩
    have hT2 : h''.get? s.heap.objs.size = some { cls := .type "tuple", data := .seq #[.int i tk, y] } := (sb.2 _ (Nat.ne_of_gt hel)).trans hT
    have new : ObjOk X.prog X.w (upd H s.heap.objs.size (.tup [.int (i : Nat), x])) h'' s.heap.objs.size (.tup [.int (i : Nat), x]) :=
      ⟨by show 2 ≤ sizeLine; decide, [.int i tk, y], .cons ⟨_, rfl⟩ (.cons ru .nil), ⟨_, hT2, rfl, _, rfl⟩⟩
    have I1 : Inv X pins σ (upd H s.heap.objs.size (.tup [.int (i : Nat), x])) { s with heap := h'', toks := tk + 1 } :=
      I.turnedNew (ch := [e, it]) (fun b ob hb q => (sb.2 b (fun z => hb (by simp [z]))).trans (hk b ob (fun z => hb (by simp [z])) (fun z => hb (by simp [z])) q)) hf (Nat.le_refl _) new
    refine ⟨.ref s.heap.objs.size, _, I1, rfl, ⟨_, x, rfl, I.hok.fresh (Nat.le_refl _), rfl, fun ys hy => by rw [I.tuple_inj hy hq]; exact hx⟩, ⟨⟨y, ?_⟩, hit'.1.at fun o q => (sb.2 it (Ne.symm hne)).trans q, hne⟩, fun b hb => ?_⟩
    · have e1 : ((i + 1 : Nat) : Int) = (i : Int) + 1 := by omega
      rw [e1]; exact he'
    · have hb' : b < s.heap.objs.size := by
        have e' : b = e ∨ b = it := by simpa using hb
        rcases e' with z | z
        · rw [z]; exact hel
        · rw [z]; exact hil
      rw [upd_ne (Nat.ne_of_lt hb')]
      exact (hf b hb).1
  done := by
    intro X hP hw hK hc i pins s σ H E I hf st hg
    subst hP hw hK
    obtain ⟨⟨old, he⟩, hit, hne⟩ := st
    obtain ⟨xs, hq, hx⟩ := hg
    obtain ⟨its, rv, p, hz⟩ := I.tuple hq
    have p' : s.heap.IsTuple a its.toArray := p
    obtain ⟨f0, f1, f2, f3, f4, f5⟩ := hf it (by simp)
    have hl := rv.length
    have hai : a ≠ it := fun z => by
      obtain ⟨o, ho, hc1, _⟩ := hit
      obtain ⟨o', ho', hc2, _⟩ := p'
      rw [z, ho] at ho'
      cases ho'
      rw [hc1] at hc2
      injection hc2 with hc2
      exact absurd hc2 (by decide)
    have ei : i = its.toArray.size := by simp; omega
    subst ei
    exact wpAny_pyNext_enum_endD (fp := [it, a]) (Draws.tuple (A := X.A.in1) (I.ok.hd hc) it a hai its.toArray) he ⟨hit, p'⟩ fun h' eb => ⟨rfl, I.turned (t' := s.toks) (fun b o hb q => eb b o hb q) f0 f1 f3 f4 f5⟩
  self := fun A i s Q E st h => let ⟨⟨_, he⟩, _⟩ := st; wpAny_pyIter_enum he h
def iEnumT (K : PySem.W.Frag) (ta : TA) : TI := fun σ H R => ta σ H fun vs H1 => ∃ a xs, vs = [.ref a] ∧ SqT K H1 a xs ∧ R (IteT K a) H1
theorem pi_enumT {X : Cx} {e : Expr} {ta : TA} {p pos tpos : Pos} {elts : List Expr} {kk : Nat} (hg : Gl X "enumerate") (hm : X.mg "enumerate" = none) (ha : PA X [e] ta) (hs : starEach [e] X.env = [(false, eval e X.env)] := by rfl) :
    PI X (.Tuple elts kk tpos) (.Call (.Name "enumerate" p) [e] [] pos) (iEnumT X.K ta) := by
  refine ⟨fun pins s σ H R I h => ?_⟩
  refine Call_ (ld_blt I hg hm boot_enumerate (PyProof.Rows.callWith_type1 (thn (ha.run pos pins s σ H _ I h) fun us s1 ⟨vs, H1, I1, r1, q1⟩ => ?_) hs rfl))
  obtain ⟨a, xs, ex, hq, q⟩ := q1
  subst ex
  cases r1 with
  | cons r rr =>
    cases rr
    cases r
    obtain ⟨its, rv, p', hz⟩ := I1.tuple hq
    refine enum1_begins (begins_tuple a its.toArray) p' fun h' he hit hsz hk => wpAny_pyIter_enum he ?_
    have I2 : Inv X pins σ H1 { s1 with heap := h' } := I1.kept (t' := s1.toks) hk
    refine ⟨s1.heap.objs.size + 1, [s1.heap.objs.size + 1, s1.heap.objs.size], _, _, H1, rfl, I2, turn_enumT a (s1.heap.objs.size + 1) s1.heap.objs.size, ⟨⟨.none, he⟩, ⟨_, hit, rfl, rfl⟩, Nat.succ_ne_self _⟩, fun b hb => ?_, q⟩
    have e' : b = s1.heap.objs.size + 1 ∨ b = s1.heap.objs.size := by simpa using hb
    have hle : s1.heap.objs.size ≤ b := by
      rcases e' with z | z
      · rw [z]; exact Nat.le_add_right _ _
      · rw [z]; exact Nat.le_refl _
    exact I1.fpOk hle (I1.hok.fresh hle)

/-! ### sorted(tuple) -/
theorem reads_lt {h : Heap} {v : Value} {d : PyData} {as : List Addr} (r : Reads h v d as) : ∀ a ∈ as, a < h.objs.size := by
  refine Reads.rec (motive_1 := fun v d as _ => ∀ a ∈ as, a < h.objs.size) (motive_2 := fun vs ds as _ => ∀ a ∈ as, a < h.objs.size) ?_ ?_ ?_ ?_ ?_ ?_ ?_ ?_ ?_ r
  · intro a ha; cases ha
  · intro _ a ha; cases ha
  · intro _ _ a ha; cases ha
  · intro _ _ a ha; cases ha
  · intro b o vs n xs as h1 h2 h3 h4 ih a ha
    rcases List.mem_cons.mp ha with e | ha
    · rw [e]; exact Heap.lt_size h1
    · exact ih a ha
  · intro b o vs n xs as h1 h2 h3 h4 ih a ha
    exact ih a ha
  · intro b o es n kvs as bs h1 h2 h3 h4 h5 ih1 ih2 a ha
    rcases List.mem_append.mp ha with ha | ha
    · rcases List.mem_cons.mp ha with e | ha
      · rw [e]; exact Heap.lt_size h1
      · exact ih1 a ha
    · exact ih2 a ha
  · intro a ha; cases ha
  · intro v vs d ds as bs h1 h2 ih1 ih2 a ha
    rcases List.mem_append.mp ha with ha | ha
    · exact ih1 a ha
    · exact ih2 a ha

def rSortDT {β : Type} (K : PySem.W.Frag) (enc : β → PyData) : List V → Hp → VK → Prop := fun vs H Q => ∃ (a : Addr) (xs : List V) (bs : List β) (F : V → β → Prop), vs = [V.ref a] ∧ SqT K H a xs ∧ Paired (fun v b => F v b ∧ DpE K H enc v b) xs bs ∧
  (∀ b b', PySem.W.alike (enc b) (enc b') = true) ∧ PySem.W.Sortable (bs.map enc) ∧ (∀ b, (enc b).depth ≤ 32) ∧
  ∀ (ys : List V) (p : Addr), Paired F ys (bs.mergeSort (PySem.W.dataLe false enc)) → H p = none → Q (.ref p) (upd H p (.lst ys))
theorem cr_sortDT {X : Cx} {β : Type} (enc : β → PyData) (hc : X.calm = true) (hu : X.A.units + 64 < cLine) : CallR X (.builtin "sorted") (rSortDT X.K enc) := by
  intro pins s σ H vs us Q I r h
  obtain ⟨a, xs, bs, F, rfl, hs, hp, hal, hso, hdp, q⟩ := h
  rw [Vals.ref1 r]
  obtain ⟨its, rv, hl, hz⟩ := I.tuple hs
  have hl' : s.heap.IsTuple a its.toArray := hl
  obtain ⟨o, ho, hcl, n, hd⟩ := hl'
  have hxl := rv.length
  refine Calls.call_function_entry kind_sorted plain_sorted entry_sorted (args_sorted1 _) ?_
  unfold Builtin.«sorted»
  refine wpAny_bind (m := checkCount "sorted" 1 1 _) (wpAny_pure ?_)
  refine wpAny_bind (wpAny_collect_seq a (.inr rfl) ho hcl hd (fun h1 k1 => ?_) (by simp; omega))
  have I1 : Inv X pins σ H { s with heap := h1 } := I.kept (t' := s.toks) k1
  have hol : its.toArray.toList = its := by simp
  rw [hol]
  have hz' : its.length ≤ sizeLine := by omega
  refine wpAny_bind (wpAny_newList ?_ hz')
  have hoL : (h1.push (seqObj "list" its.toArray 0)).get? h1.objs.size = some (seqObj "list" its.toArray 0) := Heap.get?_push_size _ rfl
  have hlen : bs.length = xs.length := (Paired.length hp).symm
  have e1 := each_of rv hp
  have I2 : Inv X pins σ H { s with heap := h1.push (seqObj "list" its.toArray 0) } := I1.kept (t' := s.toks) fun b u e => Heap.get?_push_of_some _ e
  have er : PySem.W.EachIs (fun v b => ∃ as, Reads (h1.push (seqObj "list" its.toArray 0)) v (enc b) as ∧ h1.objs.size ∉ as) its bs := (each_reads I1 e1).mono fun v b ⟨as, r⟩ =>
    ⟨as, PyProof.Rows.Reads.keeps (fun _ _ e => Heap.get?_push_of_some _ e) r, fun z => Nat.lt_irrefl _ (reads_lt r _ z)⟩
  have e3 : PySem.W.EachIs (fun u b => ∃ v, F v b ∧ RelV v u ∧ Dp X.K H v (enc b)) its bs := e1
  refine wpAny_bind (wpAny_holding (PySem.W.list_sort_data (enc := enc) (s := { s with heap := h1.push (seqObj "list" its.toArray 0) }) hoL e3 er (PySem.W.AllAlike.of hal) hso (by omega) (fun b _ => by have := hdp b; show X.A.units + 1 + 1 + (enc b).depth < cLine; omega) fun out2 h2 e2 => ?_))
  obtain ⟨ys, rys, pys⟩ := of_each (F := F) (fun u b ⟨v, m, r, d⟩ => ⟨v, r, m⟩) e2
  obtain ⟨c, hc2⟩ := sortedHeap_at (vs := its) (out := out2.toArray) hoL
  have hold : ∀ b u, h1.get? b = some u → (sortedHeap (h1.push (seqObj "list" its.toArray 0)) h1.objs.size its out2.toArray).get? b = some u := fun b u e => by
    have lt := Heap.lt_size e
    exact (sortedHeap_old (Nat.ne_of_lt lt) (by rw [Heap.size_push]; exact Nat.lt_succ_of_lt lt)).trans (Heap.get?_push_of_some _ e)
  have hly : ys.length ≤ sizeLine := by rw [rys.length, h2, hlen]; omega
  refine wpAny_pure ⟨_, rfl, .ref h1.objs.size, upd H h1.objs.size (.lst ys), I1.laid (t' := s.toks) hold (Nat.le_refl _) ⟨hly, out2, c, rys, hc2⟩, rfl, q ys _ pys (I1.hok.fresh (Nat.le_refl _))⟩
end WW

set_option Elab.async false
set_option linter.all false
set_option maxRecDepth 100000
/-! Rules at a fragment that is told (for blocks of comprehensions). -/
namespace WW
open PySem PySem.Spec PyProof.Rows L2
def rTupOf (K : PySem.W.Frag) : List V → Hp → VK → Prop := fun xs H Q => ∃ p ys, xs = [.ref p] ∧ ((SqL K H p ys ∧ ∀ l, H l = none → Q (.ref l) (upd H l (.tup ys))) ∨ (SqT K H p ys ∧ Q (.ref p) H))
def rListOf (K : PySem.W.Frag) : List V → Hp → VK → Prop := fun xs H Q => ∃ p ys, xs = [.ref p] ∧ (SqL K H p ys ∨ SqT K H p ys) ∧ ∀ l, H l = none → Q (.ref l) (upd H l (.lst ys))
section
variable {X : Cx} {K : PySem.W.Frag}
theorem ixK (h : X.K = K) : IxR X (rIx K) := h ▸ ix_seq
theorem inK (h : X.K = K) : OpR X (compareOp .In) (rIn K false) := h ▸ op_in_seq
theorem notInK (h : X.K = K) : OpR X (compareOp .NotIn) (rIn K true) := h ▸ op_notIn_seq
theorem lenK (h : X.K = K) : CallR X (.builtin "len") (rLen K) := h ▸ (call_len : CallR X _ (rLen X.K))
theorem isiK (h : X.K = K) : CallR X (.builtin "isinstance") (rIsi K) := h ▸ call_isi
theorem tupOfK (h : X.K = K) : CallR X (.type "tuple") (rTupOf K) := h ▸ (call_tuple_of : CallR X _ (rTupOf X.K))
theorem listOfK (h : X.K = K) : CallR X (.type "list") (rListOf K) := h ▸ (call_list_of : CallR X _ (rListOf X.K))
theorem eqDK (h : X.K = K) (hu : X.A.units + 64 < cLine) : OpR X (compareOp .Eq) (rEqD K) := h ▸ op_eqD hu
theorem room65 {k : Nat} {A : Around} (r : Room k A) : A.units + 65 < cLine := by have := r.un; omega
end
end WW

set_option Elab.async false
set_option linter.all false
set_option maxRecDepth 100000
set_option maxHeartbeats 4000000
/-! Loops and comprehensions over anything that stays. -/
namespace WW
open PySem PySem.Spec PyProof.Rows L2 Evl
/-- whatever is laid behind H, the iterator gives xs -/
structure Steady (J : It) (H : Hp) (xs : List V) : Prop where
  go : ∀ i H', Ex H H' → i < xs.length → J.go i H'
  yld : ∀ i H' x H'', Ex H H' → i < xs.length → J.yld i H' x H'' → H'' = H' ∧ xs[i]? = some x
  stop : ∀ H', Ex H H' → J.stop xs.length H'
section
variable {K : PySem.W.Frag} {H : Hp} {a : Addr} {xs : List V}
theorem st_l (h : SqL K H a xs) : Steady (Itl K a) H xs where
  go := fun i H' e hi => ⟨xs, xs[i], ex_l e h, List.getElem?_eq_getElem hi⟩
  yld := fun i H' x H'' e _ y => ⟨y.1, y.2 xs (ex_l e h)⟩
  stop := fun H' e => ⟨xs, ex_l e h, Nat.le_refl _⟩
theorem st_t (h : SqT K H a xs) : Steady (Itt K a) H xs where
  go := fun i H' e hi => ⟨xs, xs[i], ex_t e h, List.getElem?_eq_getElem hi⟩
  yld := fun i H' x H'' e _ y => ⟨y.1, y.2 xs (ex_t e h)⟩
  stop := fun H' e => ⟨xs, ex_t e h, Nat.le_refl _⟩
def chs (z : Str) : List V := z.cps.toList.map fun c => V.str ⟨#[c]⟩
theorem chs_len (z : Str) : (chs z).length = z.length := by unfold chs; rw [List.length_map, Array.length_toList]; rfl
theorem st_s {z : Str} : Steady (Its z) H (chs z) where
  go := fun i H' e hi => by
    have h2 : (chs z).length = z.cps.size := by unfold chs; simp
    show i < z.cps.size
    omega
  yld := fun i H' x H'' e hi y => by
    obtain ⟨e1, c, hc, rfl⟩ := y
    refine ⟨e1, ?_⟩
    unfold chs
    rw [List.getElem?_map]
    have e2 : z.cps.toList[i]? = some c := by simpa using hc
    rw [e2]
    rfl
  stop := fun H' e => by
    show z.cps.size ≤ (chs z).length
    unfold chs
    simp
theorem st_r {lo : Int} {n : Nat} : Steady (Itr lo n) H ((List.range n).map fun (i : Nat) => V.int (lo + (i : Int))) where
  go := fun i H' e hi => by
    show i < n
    simpa using hi
  yld := fun i H' x H'' e hi y => by
    obtain ⟨e1, rfl⟩ := y
    refine ⟨e1, ?_⟩
    have hi2 : i < n := by simpa using hi
    rw [List.getElem?_map, List.getElem?_range hi2]
    rfl
  stop := fun H' e => by
    show n ≤ _
    simp
end
section
variable {J : It} {H : Hp} {xs : List V} {D : Addr} {σ : L2.St} {vs : List Nat} {j : Nat} {tt : TT} {te : TE} {f : V → Bool} {v : V → V} {Q : Hp → Prop}
theorem take_snoc {α : Type} {l : List α} {i : Nat} {x : α} (h : l[i]? = some x) : l.take (i + 1) = l.take i ++ [x] := by
  rw [List.take_add_one, h]
  rfl
theorem lc_ev (S : Steady J H xs) (hz : xs.length < 100000) (hw : ∀ x, wipe ((wipe σ vs).set j (some x)) vs = wipe σ vs) (hD : H D = none)
    (ht : ∀ x ∈ xs, EvT tt ((wipe σ vs).set j (some x)) H (f x)) (he : ∀ x ∈ xs, f x = true → Ev te ((wipe σ vs).set j (some x)) H (v x))
    (q : ∀ H', Ex H H' → H' D = some (.lst ((xs.filter f).map v)) → Q H') :
    ∃ W : Nat → Nat → Hp → Prop, (∃ m, W 0 m (upd H D (.lst []))) ∧ ∀ i m H, W i m H →
      (J.stop i H ∧ Q H) ∨ (J.go i H ∧ ∃ Nx : Hp → Prop, (∀ H', Nx H' → ∃ m', m' < m ∧ W (i + 1) m' H') ∧ ∀ x H', J.yld i H x H' → gName j x (wipe σ vs) H' fun σ2 H2 => wipe σ2 vs = wipe σ vs ∧ tt σ2 H2 fun b H3 =>
        if b = true then te σ2 H3 fun y H4 => ∃ acc, H4 D = some (.lst acc) ∧ acc.length < sizeLine ∧ Nx (upd H4 D (.lst (acc ++ [y]))) else Nx H3) := by
  refine ⟨fun i m H' => m = xs.length - i ∧ i ≤ xs.length ∧ Ex H H' ∧ H' D = some (.lst (((xs.take i).filter f).map v)), ⟨xs.length, by simp, Nat.zero_le _, Ex.new hD, upd_same⟩, ?_⟩
  rintro i m H' ⟨rfl, hi, e, hd⟩
  by_cases hlt : i < xs.length
  · refine .inr ⟨S.go i H' e hlt, fun H' => Ex H H' ∧ H' D = some (.lst (((xs.take (i + 1)).filter f).map v)), fun H'' p' => ⟨xs.length - (i + 1), by omega, rfl, hlt, p'⟩, fun x H'' y => ?_⟩
    obtain ⟨e1, hx⟩ := S.yld i H' x H'' e hlt y
    subst e1
    have mx : x ∈ xs := List.mem_of_getElem? hx
    refine ⟨hw x, ht x mx _ e _ fun H2 e2 => ?_⟩
    rw [take_snoc hx]
    cases hf : f x with
    | true =>
      refine he x mx hf H2 (e.trans e2) _ fun H3 e3 => ⟨_, e3 _ _ (e2 _ _ hd), ?_, (e.trans e2 |>.trans e3).mut hD, ?_⟩
      · have h1 := List.length_filter_le f (xs.take i)
        rw [List.length_map]
        have h2 : (xs.take i).length ≤ xs.length := by rw [List.length_take]; omega
        exact sz_lt (by omega)
      · rw [upd_same, List.filter_append, List.map_append]
        simp [hf]
    | false =>
      refine ⟨e.trans e2, ?_⟩
      rw [e2 _ _ hd, List.filter_append]
      simp [hf]
  · have e1 : i = xs.length := by omega
    subst e1
    rw [List.take_length] at hd
    exact .inl ⟨S.stop H' e, q H' e hd⟩
/-- {e for x in ..} of texts -/
theorem set_ev {P : Program} {w : World} {u : V → Str} (S : Steady J H xs) (hz : xs.length < 1000) (hw : ∀ x, wipe ((wipe σ vs).set j (some x)) vs = wipe σ vs) (hD : H D = none)
    (he : ∀ x ∈ xs, Ev te ((wipe σ vs).set j (some x)) H (.str (u x)))
    (q : ∀ H' ks, Ex H H' → ks.Nodup → (∀ k, k ∈ ks ↔ k ∈ xs.map u) → H' D = some (SSO P w D ks) → Q H') :
    ∃ W : Nat → Nat → Hp → Prop, (∃ m, W 0 m (upd H D (SSO P w D []))) ∧ ∀ i m H2, W i m H2 → (J.stop i H2 ∧ Q H2) ∨
    (J.go i H2 ∧ ∃ Nx : Hp → Prop, (∀ H', Nx H' → ∃ m', m' < m ∧ W (i + 1) m' H') ∧ ∀ x H', J.yld i H2 x H' → gName j x (wipe σ vs) H' fun σ3 H3 => wipe σ3 vs = wipe σ vs ∧
      tYes σ3 H3 fun b H4 => if b = true then te σ3 H4 fun y H5 => addS P w y D H5 Nx else Nx H4) := by
  refine ⟨fun i m H' => m = xs.length - i ∧ i ≤ xs.length ∧ Ex H H' ∧ ∃ ks, ks.Nodup ∧ ks.length ≤ i ∧ (∀ k, k ∈ ks ↔ k ∈ (xs.take i).map u) ∧ H' D = some (SSO P w D ks), ⟨xs.length, by simp, Nat.zero_le _, Ex.new hD, [], List.nodup_nil, Nat.le_refl _, by simp, upd_same⟩, ?_⟩
  rintro i m H' ⟨rfl, hi, e, ks, nd, hl, hm, hd⟩
  by_cases hlt : i < xs.length
  · refine .inr ⟨S.go i H' e hlt, fun H' => Ex H H' ∧ ∃ ks, ks.Nodup ∧ ks.length ≤ i + 1 ∧ (∀ k, k ∈ ks ↔ k ∈ (xs.take (i + 1)).map u) ∧ H' D = some (SSO P w D ks), fun H'' p' => ⟨xs.length - (i + 1), by omega, rfl, hlt, p'⟩, fun x H'' y => ?_⟩
    obtain ⟨e1, hx⟩ := S.yld i H' x H'' e hlt y
    subst e1
    have mx : x ∈ xs := List.mem_of_getElem? hx
    refine ⟨hw x, ?_⟩
    unfold tYes
    refine he x mx _ e _ fun H3 e3 => ?_
    refine ⟨u x, ks, rfl, e3 _ _ hd, ?_, fun ks' ad => ⟨(e.trans e3).mut hD, ks', ?_, ?_, ?_, upd_same⟩⟩
    · have : (1002 : Nat) ≤ scanBound := by decide
      omega
    · rcases ad with ⟨_, rfl⟩ | ⟨n, p⟩
      · exact nd
      · exact p.nodup_iff.mpr (List.nodup_cons.mpr ⟨n, nd⟩)
    · rcases ad with ⟨_, rfl⟩ | ⟨n, p⟩
      · omega
      · rw [p.length_eq, List.length_cons]; omega
    · intro k
      rw [take_snoc hx, List.map_append, List.mem_append, ← hm k]
      rcases ad with ⟨m, rfl⟩ | ⟨n, p⟩
      · constructor
        · exact fun z => .inl z
        · rintro (z | z)
          · exact z
          · simp at z; rw [z]; exact m
      · rw [p.mem_iff, List.mem_cons]
        constructor
        · rintro (z | z)
          · exact .inr (by simp [z])
          · exact .inl z
        · rintro (z | z)
          · exact .inr z
          · simp at z
            exact .inl z
  · have e1 : i = xs.length := by omega
    subst e1
    rw [List.take_length] at hm
    exact .inl ⟨S.stop H' e, q H' ks e nd hm hd⟩
end
/-- any for loop of n turns -/
theorem for_go {J : It} {n : Nat} {g : TG} {tb : TS} {D : Ends} {σ : L2.St} {H : Hp} (Pv : Nat → L2.St → Hp → Prop) (h0 : Pv 0 σ H) (hgo : ∀ i σ H, i < n → Pv i σ H → J.go i H) (hst : ∀ σ H, Pv n σ H → J.stop n H)
    (hs : ∀ i σ H x H', i < n → Pv i σ H → J.yld i H x H' → g x σ H' fun σ2 H2 => tb { D with nx := Pv (i + 1), ct := Pv (i + 1), bk := D.nx } σ2 H2) (hd : ∀ σ H, Pv n σ H → D.nx σ H) :
    ∃ W : Nat → Nat → L2.St → Hp → Prop, (∃ m, W 0 m σ H) ∧ ∀ i m σ H, W i m σ H →
      (J.stop i H ∧ D.nx σ H) ∨ (J.go i H ∧ ∃ N : L2.St → Hp → Prop, (∀ σ' H', N σ' H' → ∃ m', m' < m ∧ W (i + 1) m' σ' H') ∧ ∀ x H', J.yld i H x H' → g x σ H' fun σ2 H2 => tb { D with nx := N, ct := N, bk := D.nx } σ2 H2) := by
  refine ⟨fun i m σ H => m = n - i ∧ i ≤ n ∧ Pv i σ H, ⟨n, by simp, Nat.zero_le _, h0⟩, ?_⟩
  rintro i m σ H ⟨rfl, hi, p⟩
  by_cases hlt : i < n
  · refine .inr ⟨hgo i σ H hlt p, Pv (i + 1), fun σ' H' p' => ⟨n - (i + 1), by omega, rfl, hlt, p'⟩, fun x H' y => hs i σ H x H' hlt p y⟩
  · have e : i = n := by omega
    subst e
    exact .inl ⟨hst σ H p, hd σ H p⟩
end WW
namespace WW
open PySem PySem.Spec PyProof.Rows L2 Evl
/-- whatever is laid behind H, enumerate gives xs -/
structure EnumS (J : It) (H : Hp) (xs : List V) : Prop where
  go : ∀ i H', Ex H H' → i < xs.length → J.go i H'
  yld : ∀ i H' v H'', Ex H H' → i < xs.length → J.yld i H' v H'' → ∃ T x, v = .ref T ∧ H' T = none ∧ H'' = upd H' T (.tup [.int (i : Nat), x]) ∧ xs[i]? = some x
  stop : ∀ H', Ex H H' → J.stop xs.length H'
section
variable {K : PySem.W.Frag} {H : Hp} {a : Addr} {xs : List V}
theorem en_l (h : SqL K H a xs) : EnumS (Ite K a) H xs where
  go := fun i H' e hi => ⟨xs, xs[i], ex_l e h, List.getElem?_eq_getElem hi⟩
  yld := fun i H' v H'' e _ ⟨T, x, e1, e2, e3, e4⟩ => ⟨T, x, e1, e2, e3, e4 xs (ex_l e h)⟩
  stop := fun H' e => ⟨xs, ex_l e h, Nat.le_refl _⟩
theorem en_t (h : SqT K H a xs) : EnumS (IteT K a) H xs where
  go := fun i H' e hi => ⟨xs, xs[i], ex_t e h, List.getElem?_eq_getElem hi⟩
  yld := fun i H' v H'' e _ ⟨T, x, e1, e2, e3, e4⟩ => ⟨T, x, e1, e2, e3, e4 xs (ex_t e h)⟩
  stop := fun H' e => ⟨xs, ex_t e h, rfl⟩
/-- a list or a tuple -/
def SqX (H : Hp) (a : Addr) (xs : List V) : Prop := H a = some (.lst xs) ∨ H a = some (.tup xs)
theorem SqX.ex {H H' : Hp} (e : Ex H H') (h : SqX H a xs) : SqX H' a xs := h.imp (e _ _) (e _ _)
theorem ienum_go {σ : L2.St} {i : Nat} {R : It → Hp → Prop} (h : σ[i]? = some (some (.ref a))) (hx : SqX H a xs) (k : ∀ J, EnumS J H xs → R J H) : iOr (iEnum K (tCons (tVar i) tNil)) (iEnumT K (tCons (tVar i) tNil)) σ H R := by
  rcases hx with hx | hx
  · exact .inl ⟨_, h, a, xs, rfl, sq_of hx, k _ (en_l (sq_of hx))⟩
  · exact .inr ⟨_, h, a, xs, rfl, st_of hx, k _ (en_t (st_of hx))⟩
theorem iseq_go {σ : L2.St} {i : Nat} {R : It → Hp → Prop} (h : σ[i]? = some (some (.ref a))) (hx : SqX H a xs) (k : ∀ J, Steady J H xs → R J H) : iOr (iList K (tVar i)) (iTup K (tVar i)) σ H R := by
  rcases hx with hx | hx
  · exact .inl ⟨_, h, a, rfl, ⟨xs, sq_of hx⟩, k _ (st_l (sq_of hx))⟩
  · exact .inr ⟨_, h, a, rfl, ⟨xs, st_of hx⟩, k _ (st_t (st_of hx))⟩
theorem cut_take (xs : List V) (i : Nat) : cutV xs none (some (i : Int)) = xs.take i := by
  unfold cutV
  rw [HT.sIx_none, HT.sIx_nat]
  simp
theorem cut_drop (xs : List V) (i : Nat) : cutV xs (some (i : Int)) none = xs.drop i := by
  unfold cutV
  rw [HT.sIx_none, HT.sIx_nat]
  rcases Nat.le_total i xs.length with h | h
  · rw [Nat.min_eq_left h, List.take_of_length_le (by rw [List.length_drop]; omega)]
  · rw [Nat.min_eq_right h, List.drop_of_length_le h]
    simp
/-- xs[:i] -/
theorem slx_take {i : Nat} {Q : VK} (hx : SqX H a xs) (hi : i ≤ xs.length) (k : ∀ p H', Ex H H' → SqX H' p (xs.take i) → Q (.ref p) H') : rSlL K (.ref a) none (some (i : Int)) H Q ∨ rSlA K (.ref a) none (some (i : Int)) H Q := by
  rcases hx with hx | hx
  · exact .inl ⟨a, xs, rfl, sq_of hx, fun p hp => k p _ (Ex.new hp) (by rw [cut_take]; exact .inl upd_same)⟩
  · refine .inr ⟨a, xs, rfl, st_of hx, fun ⟨_, h2⟩ => k a H (Ex.refl _) (.inr ?_), fun _ p hp => k p _ (Ex.new hp) (by rw [cut_take]; exact .inr upd_same)⟩
    rw [HT.sIx_nat] at h2
    have e : xs.take i = xs := List.take_of_length_le (by omega)
    rw [e]
    exact hx
theorem tupof_go {Q : VK} (hx : SqX H a xs) (k : ∀ tp H', Ex H H' → H' tp = some (.tup xs) → Q (.ref tp) H') : rTupOf K [.ref a] H Q := by
  rcases hx with hx | hx
  · exact ⟨a, xs, rfl, .inl ⟨sq_of hx, fun l hl => k l _ (Ex.new hl) upd_same⟩⟩
  · exact ⟨a, xs, rfl, .inr ⟨st_of hx, k a H (Ex.refl _) hx⟩⟩
theorem listof_go {Q : VK} (hx : SqX H a xs) (k : ∀ l H', Ex H H' → H l = none → H' l = some (.lst xs) → Q (.ref l) H') : rListOf K [.ref a] H Q :=
  ⟨a, xs, rfl, hx.imp sq_of st_of, fun l hl => k l _ (Ex.new hl) hl upd_same⟩
theorem putF_le {f : Str} {y : V} : ∀ fs : List (Str × V), (putF f y fs).length ≤ fs.length + 1
  | [] => by show 1 ≤ 1; omega
  | (g, z) :: r => by
    have ih := putF_le (f := f) (y := y) r
    unfold putF
    split
    · simp
    · simp; omega
end
end WW

set_option Elab.async false
set_option linter.all false
set_option maxRecDepth 100000
set_option maxHeartbeats 4000000
/-! set(xs), xs a list of texts. -/
namespace WW
open PySem PySem.Spec PyProof.Rows L2

section
variable {P : Program} {w : World} {κ : Type} [DecidableEq κ] {knd : PySem.KeyKind P w κ} {A : Around} {E : Value → Shared → Prop} {s : Shared}
theorem added_take {xs ks ks' : List κ} {i : Nat} {x : κ} (hx : xs[i]? = some x) (m : ∀ k, k ∈ ks ↔ k ∈ xs.take i) (l : ks.length ≤ i) (h : Added ks x ks') : ks'.length ≤ i + 1 ∧ ∀ k, k ∈ ks' ↔ k ∈ xs.take (i + 1) := by
  have et : xs.take (i + 1) = xs.take i ++ [x] := by rw [List.take_add_one, hx]; rfl
  rcases h with ⟨h1, rfl⟩ | ⟨h1, h2⟩
  · refine ⟨by omega, fun k => ?_⟩
    rw [et, List.mem_append, List.mem_singleton, ← m k]
    exact ⟨.inl, fun z => z.elim id fun e => e ▸ h1⟩
  · refine ⟨by rw [h2.length_eq, List.length_cons]; omega, fun k => ?_⟩
    rw [et, List.mem_append, List.mem_singleton, ← m k, h2.mem_iff, List.mem_cons]
    exact ⟨fun z => z.elim .inr .inl, fun z => z.elim .inr .inl⟩
/-- the walk of set(..) over things that are keys -/
theorem setw_loop {I : Addr} {fp wr : List Addr} {G : Array GenState → Array GenState → Prop} {n : Nat} {Pv : Nat → Value → Prop} {St : Nat → Shared → Prop} {R : Result → Shared → Prop}
    (W : WalksS P w A.in1 I fp wr G n Pv St) (S : Addr) (away : S ∉ fp) (xs : List κ) (hn : xs.length = n) (hb : n + 1 < scanBound) (val : ∀ i v, Pv i v → ∃ x, xs[i]? = some x ∧ knd.is x v = true ∧ v.scannable = true) :
    ∀ (k i : Nat) (s : Shared) (ks : List κ), n - i = k → i ≤ n → St i s → SetW knd s.heap S ks → ks.length ≤ i → (∀ x, x ∈ ks ↔ x ∈ xs.take i) →
      (∀ s' ls, Moved (S :: wr) G s s' → SetW knd s'.heap S ls → (∀ x, x ∈ ls ↔ x ∈ xs) → R (.ok (.ret .none)) s') → codeAny (model P w) A (.builtin "set.update.loop" ⟨[.ref S, .ref I], []⟩) R s := by
  have off : S ∉ wr := fun z => away (W.sub S z)
  have more : ∀ b ∈ wr, b ∈ S :: wr := fun b z => List.mem_cons_of_mem S z
  intro k
  induction k with
  | zero =>
    intro i s ks hk hi st hS hl hm fin
    obtain rfl : i = n := by omega
    refine codeAny_builtin F.entry_set_update_loop ?_; rw [Around.under_plainId F.plain_set_update_loop _]
    show wpAny _ A.in1 (pyNext (Value.ref I) >>= _) _ _ s
    refine wpAny_bind (W.done s _ _ st fun s1 mv => ?_); show wpAny _ A.in1 (ret Value.none) _ _ s1
    exact wpAny_pure (fin s1 ks (mv.mono more) (hS.here fun o e => mv.heap S o off e) fun x => by rw [hm x, ← hn, List.take_length])
  | succ k ih =>
    intro i s ks hk hi st hS hl hm fin
    have lt : i < n := by omega
    refine codeAny_builtin F.entry_set_update_loop ?_; rw [Around.under_plainId F.plain_set_update_loop _]
    show wpAny _ A.in1 (pyNext (Value.ref I) >>= _) _ _ s
    refine wpAny_bind (W.item i s _ _ lt st fun v s1 hv st1 mv => ?_)
    obtain ⟨x, hx, k1, k2⟩ := val i v hv
    have S1 : SetW knd s1.heap S ks := hS.here fun o e => mv.heap S o off e
    show wpAny _ A.in1 (holding [v] (setAdd S v) >>= _) _ _ s1
    refine wpAny_bind (wpAny_holding ?_); unfold setAdd
    refine wpAny_holding (wpAny_bind (knd.pyHash k1 ?_))
    refine setw_addHashed (s := { s1 with toks := s1.toks + 1 }) k1 k2 S1 (by omega) fun b h' ks' sb S2 ad => ?_
    obtain ⟨l2, m2⟩ := added_take hx hm hl ad
    refine wpAny_pure ⟨plainId_quiet F.plain_set_update_loop _, ih (i + 1) _ ks' (by omega) lt (W.frame _ s1 _ _ st1 (Nat.le_succ _) fun c hc o e => ?_) S2 l2 m2 fun s2 ls mv2 S3 m3 => ?_⟩
    · exact (sb.2 c (fun z : c = S => away (z ▸ hc))).trans e
    · refine fin s2 ls (Moved.trans W.gtrans ((mv.mono more).then_heap (Nat.le_succ _) fun c o hc e => ?_) mv2) S3 m3
      exact (sb.2 c (fun z : c = S => hc (z ▸ List.mem_cons_self))).trans e
end

section
variable {P : Program} {w : World} {κ : Type} [DecidableEq κ] {knd : PySem.KeyKind P w κ} {A : Around} {E : Value → Shared → Prop} {s : Shared}
/-- a set object with nothing in it -/
abbrev noneIn (w : World) : Obj := { cls := .type "set", dict := none, data := .set #[] 0 (.fresh 0 0 (!w.params.followText "set-order")) }
theorem setw_none {h : Heap} {a : Addr} (e : h.get? a = some (noneIn w)) : SetW knd h a [] :=
  ⟨_, #[], 0, _, e, ⟨rfl, rfl, rfl⟩, rfl, List.nodup_nil, .nil, (by decide), (by rfl), List.Pairwise.nil, by
    show _ ∨ (!w.params.followText "set-order") = true
    cases w.params.followText "set-order" <;> simp⟩
theorem setw_of_list {l : Addr} {items : Array Value} (xs : List κ) {Q : Value → Shared → Prop} (hh : A.handled = none) (hl : s.heap.IsList l items) (hn : xs.length = items.size) (hb : items.size + 1 < scanBound)
    (hit : ∀ (i : Nat) v, items[i]? = some v → ∃ x, xs[i]? = some x ∧ knd.is x v = true ∧ v.scannable = true)
    (q : ∀ (h' : Heap) (tk : Nat) ks, SetW knd h' s.heap.objs.size ks → (∀ x, x ∈ ks ↔ x ∈ xs) → (∀ b o, s.heap.get? b = some o → h'.get? b = some o) → Q (.ref s.heap.objs.size) { s with heap := h', toks := tk }) :
    wpAny (model P w) A (call (.type "set") [.ref l]) Q E s := by
  obtain ⟨cc, cr, mro⟩ := F.called_set.mro
  have mde := F.called_set.made; have sbb := F.called_set.sub
  refine wpAny_call (codeAny_of_tree ?_); show wpAny _ _ (callAny (Value.type "set") _) _ _ _
  refine wpAny_pure ⟨Code.quiet_builtin _ (by decide +kernel), codeAny_builtin F.entry_type_call ?_⟩; rw [Around.under_plain (weight_type_call_type "set" [Value.ref l] []) rfl]
  have nty := F.called_set.notType; have ccr := F.called_set.canCreate
  have tcl := F.typeCall_set_1 (Value.ref l)
  repeat (any_goals (first | wp_step | assumption))
  refine codeAny_mono (code_set_led1 (Value.ref l) (E := E) (Q₁ := fun ob s1 => ob = .ref s.heap.objs.size ∧ s1 = { s with heap := s.heap.push (noneIn w) }) ⟨rfl, rfl⟩) fun r s1 hr => ?_
  cases r with
  | error e => exact hr
  | ok fl =>
    cases fl with
    | ret ob =>
      obtain ⟨rfl, rfl⟩ := hr
      have at1 : (s.heap.push (noneIn w)).get? s.heap.objs.size = some (noneIn w) := Heap.get?_push_size _ rfl
      have ty1 : Shared.TypeIs { s with heap := s.heap.push (noneIn w) } (.ref s.heap.objs.size) "set" := ⟨_, at1, rfl⟩
      have ilk := F.called_set.init.lookup; have ibd := F.called_set.init.bind (.ref s.heap.objs.size)
      repeat (any_goals (first | wp_step | assumption))
      refine codeAny_mono (codeAny_call_builtin (R := wants (fun r s2 => r = .none ∧ ∃ h' tk ks, s2 = { s with heap := h', toks := tk } ∧ SetW knd h' s.heap.objs.size ks ∧ (∀ x, x ∈ ks ↔ x ∈ xs) ∧ ∀ b o, s.heap.get? b = some o → h'.get? b = some o) E) F.called_set.init.plain F.entry_set_init (check_set_init_1 ty1 ?_)) fun r2 s2 hr2 => ?_
      · obtain ⟨⟨cl1, dc1, da1, sl1⟩, ho1, hc1, nn1, hd1⟩ := hl
        simp only at hc1 hd1; subst hc1; subst hd1
        have ho2 : (s.heap.push (noneIn w)).get? l = some { cls := .type "list", dict := dc1, data := .seq items nn1, slots := sl1 } := Heap.get?_push_of_some _ ho1
        have nls := F.sub_list_set; have nlf := F.sub_list_frozenset
        have nld : (Value.type "list" == Value.type "dict") = false := by decide
        have il1 : (s.heap.push (noneIn w)).IsList l items := ⟨_, ho2, rfl, nn1, rfl⟩
        unfold Builtin.«set.__init__» noKeywords Builtin.Frozenset.updateFrom; generalize hgen : pyIter = itf
        wp_walk
        subst hgen
        refine wpAny_pyIter_list il1 (wpAny_bind (wpAny_runValue ?_))
        have ls : l < s.heap.objs.size := Heap.lt_size ho1
        have sz1 : (s.heap.push (noneIn w)).objs.size = s.heap.objs.size + 1 := Heap.size_push ..
        have han : A.in1.in1.in1.handled = none := by simp only [hh, Around.in1]
        have ne1 : l ≠ (s.heap.push (noneIn w)).objs.size := by rw [sz1]; exact Nat.ne_of_lt (Nat.lt_succ_of_lt ls)
        have away : s.heap.objs.size ∉ [(s.heap.push (noneIn w)).objs.size, l] := by
          rw [sz1]
          intro z
          rcases List.mem_cons.mp z with z | z
          · exact Nat.ne_of_lt (Nat.lt_succ_self _) z
          · exact Nat.ne_of_gt ls (List.mem_singleton.mp z)
        refine setw_loop (knd := knd) ((Walks.list han _ l ne1 items).toS) s.heap.objs.size away xs hn hb hit (items.size - 0) 0 _ [] (by omega) (Nat.zero_le _) ⟨⟨_, Heap.get?_push_size _ rfl, rfl, rfl⟩, (il1.push _)⟩
          (setw_none (Heap.get?_push_of_some _ at1)) (Nat.le_refl 0) (fun x => by simp) fun s3 ks mv S3 m3 => ?_
        obtain ⟨h3, g3, d3, t3, o3⟩ := s3
        obtain rfl : g3 = s.gens := mv.gens
        obtain rfl : d3 = s.drawn := mv.drawn
        obtain rfl : o3 = s.os := mv.os
        show wpAny _ _ _ _ _ _
        refine wpAny_pure ?_; show wpAny _ _ (ret Value.none) _ _ _
        refine wpAny_pure ⟨rfl, h3, t3, ks, rfl, S3, m3, fun b o e => mv.heap b o (fun z => ?_) (Heap.get?_push_of_some _ (Heap.get?_push_of_some _ e))⟩
        have lb := Heap.lt_size e
        rcases List.mem_cons.mp z with z | z
        · exact Nat.ne_of_lt lb z
        · have z2 := List.mem_singleton.mp z
          rw [sz1] at z2
          exact Nat.ne_of_lt (Nat.lt_succ_of_lt lb) z2
      · cases r2 with
        | error e => exact hr2
        | ok fl2 =>
          cases fl2 with
          | ret r =>
            obtain ⟨rfl, h3, t3, ks, rfl, S3, m3, k3⟩ := hr2
            repeat (any_goals (first | wp_step | assumption))
            exact q h3 t3 ks S3 m3 k3
          | _ => exact hr2.elim
    | _ => exact hr.elim
end
section
variable {X : Cx}
/-- set(xs), xs a list of texts -/
def rSetOfS (K : PySem.W.Frag) (P : Program) (w : World) : List V → Hp → VK → Prop := fun vs H Q => ∃ (l : Addr) (zs : List Str), vs = [V.ref l] ∧ SqL K H l (zs.map V.str) ∧ zs.length + 1 < scanBound ∧
  ∀ a ks, H a = none → ks.Nodup → (∀ x, x ∈ ks ↔ x ∈ zs) → Q (.ref a) (upd H a (SSO P w a ks))
theorem cr_setOfS (hc : X.calm = true) : CallR X (.type "set") (rSetOfS X.K X.prog X.w) := by
  intro pins s σ H xs us Q I r h
  obtain ⟨l, zs, rfl, hl, hb, q⟩ := h
  rw [Vals.ref1 r]
  obtain ⟨its, rv, pl, hz⟩ := I.list hl
  have free : H s.heap.objs.size = none := I.hok.fresh (Nat.le_refl _)
  have le : zs.length = its.toArray.size := by rw [List.size_toArray, ← rv.length, List.length_map]
  have sa : StrsAre its zs := by
    clear pl hl hz le q hb
    induction zs generalizing its with
    | nil => cases rv; exact .nil
    | cons z zs ih =>
      cases rv with
      | cons r1 r2 =>
        obtain ⟨t, rfl⟩ := r1
        exact .cons z t (ih _ r2)
  refine setw_of_list (knd := PySem.strKind X.prog X.w) zs (I.ok.hd hc) pl.isList le (by rw [← le]; exact hb) (fun i v hv => ?_) fun h' tk ks R m k => ?_
  · have hv2 : its[i]? = some v := by simpa using hv
    have li : i < zs.length := by
      have := (List.getElem?_eq_some_iff.mp hv2).1
      rw [le, List.size_toArray]
      exact this
    obtain ⟨t, rfl⟩ := SS.strs_at sa i v hv2
    refine ⟨zs.getD i Str.empty, ?_, strKind_is _ _ _ _, rfl⟩
    rw [List.getD_eq_getElem?_getD, List.getElem?_eq_getElem li]
    rfl
  · have nd : ks.Nodup := by
      obtain ⟨_, _, _, _, _, _, _, nd, _⟩ := R
      exact nd
    exact ⟨.ref s.heap.objs.size, upd H s.heap.objs.size (SSO X.prog X.w s.heap.objs.size ks), I.laid (t' := tk) k (Nat.le_refl _) (sso_new R), rfl, q _ ks free nd m⟩
end
end WW

set_option Elab.async false
set_option linter.all false
set_option maxRecDepth 100000
set_option maxHeartbeats 4000000
/-! Plain values of any kind, and what isinstance says of them. -/
namespace WW
open PySem PySem.Spec PyProof.Rows L2 Evl
inductive Pl (H : Hp) : V → Prop
  | non : Pl H .non
  | bl (b : Bool) : Pl H (.bl b)
  | int (i : Int) : Pl H (.int i)
  | str (z : Str) : Pl H (.str z)
  | lst {a : Addr} {xs : List V} (h : H a = some (.lst xs)) : Pl H (.ref a)
  | tup {a : Addr} {xs : List V} (h : H a = some (.tup xs)) : Pl H (.ref a)
  | dct {a : Addr} {kvs : List (Key × V)} (h : H a = some (.dK kvs)) : Pl H (.ref a)
def isI : V → Bool | .int _ => true | _ => false
def isB : V → Bool | .bl _ => true | _ => false
def isS : V → Bool | .str _ => true | _ => false
def isLo : Option HO → Bool | some (.lst _) => true | _ => false
def isTo : Option HO → Bool | some (.tup _) => true | _ => false
def isL (H : Hp) : V → Bool | .ref a => isLo (H a) | _ => false
def isT (H : Hp) : V → Bool | .ref a => isTo (H a) | _ => false
/-- v is of the type t, of which isinstance says .. -/
structure Kin (K : PySem.W.Frag) (H : Hp) (v : V) (t : Value) : Prop where
  ty : TyX K H v t
  int : PySem.W.kitOne K t (.type "int") = some (isI v || isB v)
  bool : PySem.W.kitOne K t (.type "bool") = some (isB v)
  str : PySem.W.kitOne K t (.type "str") = some (isS v)
  list : PySem.W.kitOne K t (.type "list") = some (isL H v)
  tuple : PySem.W.kitOne K t (.type "tuple") = some (isT H v)
theorem isL_at {H : Hp} {a : Addr} {o : HO} (h : H a = some o) : isL H (.ref a) = isLo (some o) := by rw [← h]; rfl
theorem isT_at {H : Hp} {a : Addr} {o : HO} (h : H a = some o) : isT H (.ref a) = isTo (some o) := by rw [← h]; rfl
theorem Pl.kin {K : PySem.W.Frag} {H : Hp} {v : V} (h : Pl H v) : ∃ t, Kin K H v t := by
  cases h with
  | non => exact ⟨.type "NoneType", .base .non, kit_ty (r := false) (by decide +kernel), kit_ty (r := false) (by decide +kernel), kit_ty (r := false) (by decide +kernel), kit_ty (r := false) (by decide +kernel), kit_ty (r := false) (by decide +kernel)⟩
  | bl b => exact ⟨.type "bool", .base (.bl b), kit_ty (r := true) (by decide +kernel), kit_ty (r := true) (by decide +kernel), kit_ty (r := false) (by decide +kernel), kit_ty (r := false) (by decide +kernel), kit_ty (r := false) (by decide +kernel)⟩
  | int i => exact ⟨.type "int", .base (.int i), kit_ty (r := true) (by decide +kernel), kit_ty (r := false) (by decide +kernel), kit_ty (r := false) (by decide +kernel), kit_ty (r := false) (by decide +kernel), kit_ty (r := false) (by decide +kernel)⟩
  | str z => exact ⟨.type "str", .base (.str z), kit_ty (r := false) (by decide +kernel), kit_ty (r := false) (by decide +kernel), kit_ty (r := true) (by decide +kernel), kit_ty (r := false) (by decide +kernel), kit_ty (r := false) (by decide +kernel)⟩
  | lst h => exact ⟨.type "list", .base (.lst h), kit_ty (r := false) (by decide +kernel), kit_ty (r := false) (by decide +kernel), kit_ty (r := false) (by decide +kernel), (isL_at h : isL H _ = true) ▸ kit_ty (r := true) (by decide +kernel), (isT_at h : isT H _ = false) ▸ kit_ty (r := false) (by decide +kernel)⟩
  | tup h => exact ⟨.type "tuple", .base (.tup h), kit_ty (r := false) (by decide +kernel), kit_ty (r := false) (by decide +kernel), kit_ty (r := false) (by decide +kernel), (isL_at h : isL H _ = false) ▸ kit_ty (r := false) (by decide +kernel), (isT_at h : isT H _ = true) ▸ kit_ty (r := true) (by decide +kernel)⟩
  | dct h => exact ⟨.type "dict", .base (.dK h), kit_ty (r := false) (by decide +kernel), kit_ty (r := false) (by decide +kernel), kit_ty (r := false) (by decide +kernel), (isL_at h : isL H _ = false) ▸ kit_ty (r := false) (by decide +kernel), (isT_at h : isT H _ = false) ▸ kit_ty (r := false) (by decide +kernel)⟩
theorem Pl.ex {H H' : Hp} {v : V} (e : Ex H H') (h : Pl H v) : Pl H' v := by
  cases h with
  | non => exact .non
  | bl b => exact .bl b
  | int i => exact .int i
  | str z => exact .str z
  | lst h => exact .lst (e _ _ h)
  | tup h => exact .tup (e _ _ h)
  | dct h => exact .dct (e _ _ h)
end WW

set_option Elab.async false
set_option linter.all false
set_option maxRecDepth 100000
set_option maxHeartbeats 4000000
namespace WK
open PySem PySem.Spec PyProof.Rows L2 WW Evl
def top (i : Nat) : Stmt := PySem.Challenge.pw_watchedworks_k21_kits_of_instruments.main.body.getD i (.Pass ⟨0, 0, 0, 0⟩)
/-- the built-in names that the program doesn't take -/
structure Gz (mg : Str → Option Value) : Prop where
  g_len : mg "len" = none
  g_isinstance : mg "isinstance" = none
  g_int : mg "int" = none
  g_bool : mg "bool" = none
  g_str : mg "str" = none
  g_list : mg "list" = none
  g_tuple : mg "tuple" = none
  g_all : mg "all" = none
  g_abs : mg "abs" = none
  g_max : mg "max" = none
  g_sorted : mg "sorted" = none
  g_range : mg "range" = none
  g_enumerate : mg "enumerate" = none
  g_set : mg "set" = none
  g_dict : mg "dict" = none
/-- a def of the module's -/
structure Df (K : PySem.W.Frag) (mg : Str → Option Value) (x : Str) (st : Stmt) (f : Addr) (fd : FuncData) (ps : List Str) : Prop where
  fn : FunD K x x (defArgs st) (defBody st) (defScope st) [] [] f fd
  at_ : mg x = some (.ref f)
  bd : Binds K fd ps []
theorem Df.callee {P : Program} {w : World} {K : PySem.W.Frag} {mg : Str → Option Value} {base : Heap} {CX : CXT} {k : Nat} {x : Str} {st : Stmt} {f : Addr} {fd : FuncData} {ps : List Str} {sp : Sp} (D : Df K mg x st f fd ps) (ok : FnOk P w K mg base CX k f fd ps sp) : Callee P w K mg base CX k x ps.length sp :=
  ⟨f, fd, ps, rfl, ok, D.at_, D.fn.kp, D.bd⟩
def IsNm (z : Str) : Prop := 1 ≤ z.length ∧ z.length ≤ 10 ∧ ∀ c ∈ z.cps.toList, 97 ≤ c ∧ c ≤ 122
/-- room for a dict -/
theorem room1 {k : Nat} {A : Around} (r : Room k A) : A.units + 1 < cLine := by have := r.un; omega
section
variable {P : Program} {w : World} {K : PySem.W.Frag} {mg : Str → Option Value} {base : Heap} {f : Addr} {fd : FuncData}
theorem not_both {v : V} (h : isI v = true) : isB v = false := by
  cases v <;> first | rfl | exact nomatch (show false = true from h)
abbrev s_is_integer : Stmt := top 12
theorem sc_is_integer : FnScope ["thing"] ["thing"] (defScope s_is_integer) := ⟨rfl, rfl, rfl, by decide +kernel, rfl, by decide +kernel, by decide +kernel⟩
def spIsIntegerG : Sp := fun vs H Q _ => ∃ v, vs = [v] ∧ Pl H v ∧ ∀ H', Ex H H' → Q (.bl (isI v)) H'
theorem okg_is_integer (G : Gz mg) (D : Df K mg "is_integer" s_is_integer f fd ["thing"]) : Callee P w K mg base CXn 1 "is_integer" 1 spIsIntegerG := by
  refine D.callee (D.fn.ok sc_is_integer (fun vs H Q E h => ?_) (fun cdv A outer s H vs Q E hr h => ⟨_, PSs.nox (pss_one (ps_ret (L2.pe_and (pe_callB (isiK (K := K) rfl) rfl G.g_isinstance (by rfl) (pa_cons (pv 0) (pa_cons (pe_bltn (v := .ty "int") rfl G.g_int (by rfl) rfl) pa_nil))) (pe_one (pe_not (pe_callB (isiK (K := K) rfl) rfl G.g_isinstance (by rfl) (pa_cons (pv 0) (pa_cons (pe_bltn (v := .ty "bool") rfl G.g_bool (by rfl) rfl) pa_nil)))))))), ?_⟩))
  · obtain ⟨i, rfl, _⟩ := h
    rfl
  · obtain ⟨v, rfl, hv, k⟩ := h
    obtain ⟨t, g⟩ := hv.kin (K := K)
    have q := k H (Ex.refl _)
    refine ⟨_, rfl, v, .ty "int", t, .type "int", isI v || isB v, rfl, .ty _, g.ty, g.int, isI v || isB v, rfl, ?_⟩
    cases hi : isI v with
    | true =>
      have hb := not_both hi
      rw [hi] at q
      exact ⟨_, rfl, v, .ty "bool", t, .type "bool", false, rfl, .ty _, g.ty, hb ▸ g.bool, false, rfl, q⟩
    | false =>
      rw [hi] at q
      cases hb : isB v with
      | true => exact ⟨_, rfl, v, .ty "bool", t, .type "bool", true, rfl, .ty _, g.ty, hb ▸ g.bool, true, rfl, q⟩
      | false => exact q
abbrev s_is_row : Stmt := top 13
theorem sc_is_row : FnScope ["thing"] ["thing"] (defScope s_is_row) := ⟨rfl, rfl, rfl, by decide +kernel, rfl, by decide +kernel, by decide +kernel⟩
def spIsRowG : Sp := fun vs H Q _ => ∃ v, vs = [v] ∧ Pl H v ∧ ∀ H', Ex H H' → Q (.bl (isL H v || isT H v)) H'
theorem okg_is_row (G : Gz mg) (D : Df K mg "is_row" s_is_row f fd ["thing"]) : Callee P w K mg base CXn 1 "is_row" 1 spIsRowG := by
  refine D.callee (D.fn.ok sc_is_row (fun vs H Q E h => ?_) (fun cdv A outer s H vs Q E hr h => ⟨_, PSs.nox (pss_one (ps_ret (pe_callB call_isiT rfl G.g_isinstance (by rfl) (pa_cons (pv 0) (pa_cons (pe_tup (pa_cons (pe_bltn (v := .ty "list") rfl G.g_list (by rfl) rfl) (pa_cons (pe_bltn (v := .ty "tuple") rfl G.g_tuple (by rfl) rfl) pa_nil))) pa_nil))))), ?_⟩))
  · obtain ⟨i, rfl, _⟩ := h
    rfl
  · obtain ⟨v, rfl, hv, k⟩ := h
    refine ⟨_, rfl, (by decide), fun p hp => ?_⟩
    have e1 : Ex H (upd H p (.tup [.ty "list", .ty "tuple"])) := Ex.new hp
    obtain ⟨t, g⟩ := (hv.ex e1).kin (K := K)
    have q := k _ e1
    have same : isL (upd H p (.tup [.ty "list", .ty "tuple"])) v = isL H v ∧ isT (upd H p (.tup [.ty "list", .ty "tuple"])) v = isT H v := by
      cases hv with
      | lst h => exact ⟨(isL_at (e1 _ _ h)).trans (isL_at h).symm, (isT_at (e1 _ _ h)).trans (isT_at h).symm⟩
      | tup h => exact ⟨(isL_at (e1 _ _ h)).trans (isL_at h).symm, (isT_at (e1 _ _ h)).trans (isT_at h).symm⟩
      | dct h => exact ⟨(isL_at (e1 _ _ h)).trans (isL_at h).symm, (isT_at (e1 _ _ h)).trans (isT_at h).symm⟩
      | _ => exact ⟨rfl, rfl⟩
    rw [← same.1, ← same.2] at q
    exact ⟨v, p, _, t, [.type "list", .type "tuple"], _, rfl, upd_same, .cons (.ty _) (.cons (.ty _) .nil), g.ty,
      kitAny_cons g.list (fun z => by rw [z]; exact kitAny_cons g.tuple (fun z2 => by rw [z2]; rfl) (fun z2 => by rw [z2]; rfl)) (fun z => by rw [z]; rfl), q⟩
/-- how many items the row v has -/
def rlo : Option HO → Option Nat | some (.lst xs) => some xs.length | some (.tup xs) => some xs.length | _ => none
def rlen (H : Hp) : V → Option Nat | .ref a => rlo (H a) | _ => none
theorem rlen_at {H : Hp} {a : Addr} {o : HO} (h : H a = some o) : rlen H (.ref a) = rlo (some o) := by rw [← h]; rfl
def rowB (H : Hp) (v : V) (l m : Int) : Bool := match rlen H v with
  | some n => decide (l ≤ (n : Int)) && decide ((n : Int) ≤ m)
  | none => false
abbrev s_is_row_of : Stmt := top 14
theorem sc_is_row_of : FnScope ["thing", "least", "most"] ["thing", "least", "most"] (defScope s_is_row_of) := ⟨rfl, rfl, rfl, by decide +kernel, rfl, by decide +kernel, by decide +kernel⟩
def spIsRowOfG : Sp := fun vs H Q _ => ∃ v l m, vs = [v, .int l, .int m] ∧ Pl H v ∧ ∀ H', Ex H H' → Q (.bl (rowB H v l m)) H'
theorem okg_is_row_of (G : Gz mg) (D : Df K mg "is_row_of" s_is_row_of f fd ["thing", "least", "most"]) (c_is_row : Callee P w K mg base CXn 1 "is_row" 1 spIsRowG) : Callee P w K mg base CXn 2 "is_row_of" 3 spIsRowOfG := by
  refine D.callee (D.fn.ok sc_is_row_of (fun vs H Q E h => ?_) (fun cdv A outer s H vs Q E hr h => ⟨_, PSs.nox (pss_one (ps_ret (L2.pe_and (pe_cl (E := En) c_is_row (hr.mono (by decide)) rfl passN (pa_cons (pv 0) pa_nil)) (pe_one (pe_chain op_le op_le (pv 1) (pe_callB (lenK (K := K) rfl) rfl G.g_len PySem.boot_len (pa_cons (pv 0) pa_nil)) (pv 2)))))), ?_⟩))
  · obtain ⟨i, _, _, rfl, _⟩ := h
    rfl
  · obtain ⟨v, l, m, rfl, hv, k⟩ := h
    refine ⟨_, rfl, v, rfl, hv, fun H1 e1 => ⟨_, rfl, ?_⟩⟩
    have q := k H1 e1
    cases hv with
    | lst h =>
      rename_i a xs
      have e : rowB H (.ref a) l m = (decide (l ≤ (xs.length : Int)) && decide ((xs.length : Int) ≤ m)) := by unfold rowB; rw [rlen_at h]; rfl
      rw [e] at q
      rw [show (isL H (.ref a) || isT H (.ref a)) = true by rw [show isL H (.ref a) = true from isL_at h]; rfl]
      have hx1 : LenV K (.ref a) H1 xs.length := .inl ⟨xs, sq_of (e1 _ _ h), rfl⟩
      refine ⟨_, rfl, _, rfl, _, _, rfl, hx1, l, _, rfl, rfl, decide (l ≤ (xs.length : Int)), rfl, ?_⟩
      cases hd : decide (l ≤ (xs.length : Int)) with
      | false =>
        rw [hd] at q
        exact q
      | true =>
        rw [hd] at q
        exact ⟨_, rfl, _, _, rfl, rfl, q⟩
    | tup h =>
      rename_i a xs
      have e : rowB H (.ref a) l m = (decide (l ≤ (xs.length : Int)) && decide ((xs.length : Int) ≤ m)) := by unfold rowB; rw [rlen_at h]; rfl
      rw [e] at q
      rw [show (isL H (.ref a) || isT H (.ref a)) = true by rw [show isL H (.ref a) = false from isL_at h, show isT H (.ref a) = true from isT_at h]; rfl]
      have hx1 : LenV K (.ref a) H1 xs.length := .inr ⟨xs, st_of (e1 _ _ h), rfl⟩
      refine ⟨_, rfl, _, rfl, _, _, rfl, hx1, l, _, rfl, rfl, decide (l ≤ (xs.length : Int)), rfl, ?_⟩
      cases hd : decide (l ≤ (xs.length : Int)) with
      | false =>
        rw [hd] at q
        exact q
      | true =>
        rw [hd] at q
        exact ⟨_, rfl, _, _, rfl, rfl, q⟩
    | dct h =>
      rename_i a kvs
      have e : rowB H (.ref a) l m = false := by unfold rowB; rw [rlen_at h]; rfl
      rw [e] at q
      rw [show (isL H (.ref a) || isT H (.ref a)) = false by rw [show isL H (.ref a) = false from isL_at h, show isT H (.ref a) = false from isT_at h]; rfl]
      exact q
    | _ => exact q
def ltB (c : Nat) : Bool := decide (97 ≤ c) && decide (c ≤ 122)
def nmB : V → Bool
  | .str z => decide (1 ≤ (z.length : Int)) && (decide ((z.length : Int) ≤ 10) && z.cps.toList.all fun c => ltB c)
  | _ => false
theorem nmB_str (z : Str) : nmB (.str z) = (decide (1 ≤ (z.length : Int)) && (decide ((z.length : Int) ≤ 10) && z.cps.toList.all fun c => ltB c)) := rfl
/-- a letter of a text -/
def chB : V → Bool
  | .str z => z.cps.toList.all fun c => ltB c
  | _ => true
abbrev s_is_name : Stmt := top 15
theorem sc_is_name : FnScope ["thing", "letter"] ["thing"] (defScope s_is_name) := ⟨rfl, rfl, rfl, by decide +kernel, rfl, by decide +kernel, by decide +kernel⟩
def spIsNameG : Sp := fun vs H Q _ => ∃ v, vs = [v] ∧ Pl H v ∧ (∀ z, v = .str z → z.length ≤ 1000) ∧ ∀ H', Ex H H' → Q (.bl (nmB v)) H'
theorem okg_is_name (G : Gz mg) (gc : ∃ t, mg "MOST_LETTERS" = some (.int 10 t)) (D : Df K mg "is_name" s_is_name f fd ["thing"]) : Callee P w K mg base CXn 1 "is_name" 1 spIsNameG := by
  obtain ⟨tc, g_MOST_LETTERS⟩ := gc
  have r_MOST_LETTERS : RelV (.int 10) (.int 10 tc) := ⟨_, rfl⟩
  refine D.callee (D.fn.ok sc_is_name (fun vs H Q E h => ?_) (fun cdv A outer s H vs Q E hr h => ⟨_, PSs.nox (pss_cons (ps_if (PW.pt (pw_or (pt_not (pt_val (pe_callB (isiK (K := K) rfl) rfl G.g_isinstance (by rfl) (pa_cons (pv 0) (pa_cons (pe_bltn (v := .ty "str") rfl G.g_str (by rfl) rfl) pa_nil))))) (pw_or1 (pt_not (pt_chain op_le op_le pe_int (pe_callB (lenK (K := K) rfl) rfl G.g_len PySem.boot_len (pa_cons (pv 0) pa_nil)) (pe_glob rfl g_MOST_LETTERS r_MOST_LETTERS)))))) (pss_one (ps_ret pe_bl)) pss_nil) (pss_one (ps_ret (pe_callB (cr_all rfl) rfl G.g_all (by rfl) (pa_cons (pe_lc (own := [("letter", 1)]) rfl sc_is_name.nd (pi_str (pv 0)) (BlkOk.mk (N := ["thing", "letter"]) (sc := defScope s_is_name) rfl (by decide +kernel) (by decide +kernel) (by decide +kernel) (by decide +kernel)) (fun _ _ _ _ _ => (pg_name (i := 1) sc_is_name.nd rfl (Or.inl rfl))) (fun _ _ _ _ _ => pts_nil) (fun _ _ _ _ _ => (pe_chain op_le_str op_le_str pe_str (pv 1) pe_str))) pa_nil))))), ?_⟩))
  · obtain ⟨i, rfl, _⟩ := h
    rfl
  · obtain ⟨v, rfl, hv, hz, k⟩ := h
    obtain ⟨t, g⟩ := hv.kin (K := K)
    refine ⟨_, rfl, v, .ty "str", t, .type "str", isS v, rfl, .ty _, g.ty, g.str, isS v, rfl, ?_⟩
    have q0 := k H (Ex.refl _)
    cases v with
    | str z =>
      have hl : LenV K (.str z) H z.length := ⟨Nat.le_trans (hz z rfl) (by decide), rfl⟩
      refine iteF ⟨_, rfl, .str z, z.length, rfl, hl, 1, (z.length : Int), rfl, rfl, decide ((1 : Int) ≤ (z.length : Int)), rfl, ?_⟩
      cases h1 : decide ((1 : Int) ≤ (z.length : Int)) with
      | false =>
        have e : nmB (.str z) = false := by rw [nmB_str, h1]; rfl
        rw [e] at q0
        exact ⟨false, rfl, iteT q0⟩
      | true =>
        refine ⟨(z.length : Int), 10, rfl, rfl, decide ((z.length : Int) ≤ 10), rfl, ?_⟩
        cases h2 : decide ((z.length : Int) ≤ 10) with
        | false =>
          have e : nmB (.str z) = false := by rw [nmB_str, h1, h2]; rfl
          rw [e] at q0
          exact iteT q0
        | true =>
          have e : nmB (.str z) = z.cps.toList.all fun c => ltB c := by rw [nmB_str, h1, h2]; rfl
          rw [e] at k
          refine iteF ?_
          refine ⟨.str z, rfl, z, rfl, fun D hD => ?_⟩
          refine lc_ev (f := fun _ => true) (v := fun x => .bl (chB x)) st_s (by rw [chs_len]; have := hz z rfl; omega) (fun x => rfl) hD (fun x _ H1 e Q q => q H1 (Ex.refl _)) (fun x hx _ H1 e Q q => ?_) (fun H' e hd => ?_)
          · obtain ⟨c, hm, rfl⟩ : ∃ c, c ∈ z.cps.toList ∧ V.str ⟨#[c]⟩ = x := by unfold chs at hx; simpa using hx
            have q1 := q H1 (Ex.refl _)
            have ec : chB (.str ⟨#[c]⟩) = ltB c := by show ([c].all fun c => ltB c) = _; simp
            rw [ec] at q1
            refine ⟨_, rfl, (Str.ofString "a"), ⟨#[c]⟩, rfl, rfl, _, rfl, ?_⟩
            have e1 : (!decide ((⟨#[c]⟩ : Str).cps.toList < (Str.ofString "a").cps.toList)) = decide (97 ≤ c) := by
              have : (Str.ofString "a").cps.toList = [97] := by decide +kernel
              rw [this]
              rw [Bool.eq_iff_iff]
              simp [List.cons_lt_cons_iff]
            have e2 : (!decide ((Str.ofString "z").cps.toList < (⟨#[c]⟩ : Str).cps.toList)) = decide (c ≤ 122) := by
              have : (Str.ofString "z").cps.toList = [122] := by decide +kernel
              rw [this]
              rw [Bool.eq_iff_iff]
              simp [List.cons_lt_cons_iff]
            rw [e1]
            cases h3 : decide (97 ≤ c) with
            | false =>
              have e4 : ltB c = false := by unfold ltB; rw [h3]; rfl
              rw [e4] at q1
              exact q1
            | true =>
              have e4 : ltB c = decide (c ≤ 122) := by unfold ltB; rw [h3]; rfl
              rw [e4] at q1
              refine ⟨⟨#[c]⟩, (Str.ofString "z"), rfl, rfl, ?_⟩
              rw [e2]
              exact q1
          · refine ⟨D, (chs z).map chB, rfl, sq_of ?_, ?_⟩
            · rw [hd, List.filter_eq_self.mpr (fun _ _ => rfl), List.map_map]
              rfl
            · have e3 : ((chs z).map chB).all id = z.cps.toList.all fun c => ltB c := by
                unfold chs
                rw [List.map_map, List.all_map]
                congr 1
                funext c
                show ([c].all fun c => ltB c) = _
                simp
              rw [e3]
              exact k H' e
    | _ => exact iteT q0
end
end WK

set_option Elab.async false
set_option linter.all false
set_option maxRecDepth 100000
set_option maxHeartbeats 4000000
namespace WK
open PySem PySem.Spec PyProof.Rows L2 WW Evl
/-- the pool stands at p -/
def Pool (H : Hp) (p : Addr) : Prop := ∃ (g s : Addr) (n k : Int) (gs ss : List Int), H p = some (.lst [.ref g, .ref s, .int n, .int k]) ∧ g ≠ p ∧ s ≠ p ∧ 0 ≤ n ∧ 0 ≤ k ∧
  H g = some (.lst (gs.map V.int)) ∧ (∀ x ∈ gs, 0 ≤ x) ∧ gs.length ≤ 63 ∧ H s = some (.lst (ss.map V.int)) ∧ (∀ x ∈ ss, 0 ≤ x ∧ x < 1000003) ∧ ss.length ≤ 63
/-- all but the pool is kept -/
def K0 (p : Addr) (H H' : Hp) : Prop := ∀ b o, b ≠ p → H b = some o → H' b = some o
/-- b is no part of the pool -/
def Apart (H : Hp) (p b : Addr) : Prop := ∀ (g s : Addr) (n k : V), H p = some (.lst [.ref g, .ref s, n, k]) → g ≠ b ∧ s ≠ b
structure Kp (p : Addr) (H H' : Hp) : Prop where
  k : K0 p H H'
  a : ∀ b, b ≠ p → H b ≠ none → Apart H p b → Apart H' p b
theorem K0.refl (p : Addr) (H : Hp) : K0 p H H := fun _ _ _ h => h
theorem K0.trans {p : Addr} {H H1 H2 : Hp} (a : K0 p H H1) (b : K0 p H1 H2) : K0 p H H2 := fun c o n h => b c o n (a c o n h)
theorem K0.ex {p : Addr} {H H' : Hp} (e : Ex H H') : K0 p H H' := fun b o _ h => e b o h
theorem K0.new {p l : Addr} {o : HO} {H H' : Hp} (a : K0 p H H') (hl : H' l = none) : K0 p H (upd H' l o) := a.trans (K0.ex (Ex.new hl))
theorem K0.put {p : Addr} {o : HO} {H H' : Hp} (a : K0 p H H') : K0 p H (upd H' p o) := fun b u n h => by
  rw [upd_ne n]
  exact a b u n h
theorem some_ne {α : Type} {o : Option α} {x : α} (h : o = some x) : o ≠ none := fun z => by rw [h] at z; cases z
theorem Kp.refl (p : Addr) (H : Hp) : Kp p H H := ⟨K0.refl p H, fun _ _ _ h => h⟩
theorem Kp.trans {p : Addr} {H H1 H2 : Hp} (a : Kp p H H1) (b : Kp p H1 H2) : Kp p H H2 := ⟨a.k.trans b.k, fun c n h x => b.a c n (by
  cases e : H c with
  | none => exact absurd e h
  | some o => exact some_ne (a.k c o n e)) (a.a c n h x)⟩
theorem Pool.here {H : Hp} {p : Addr} (h : Pool H p) : H p ≠ none := by
  obtain ⟨g, s, n, k, gs, ss, h1, _⟩ := h
  exact some_ne h1
theorem Kp.ex {p : Addr} {H H' : Hp} (e : Ex H H') (hp : Pool H p) : Kp p H H' := ⟨K0.ex e, fun b n hb x g s n k h => by
  obtain ⟨g0, s0, n0, k0, gs, ss, h1, _⟩ := hp
  have h2 := e _ _ h1
  rw [h] at h2
  cases h2
  exact x _ _ _ _ h1⟩
theorem Kp.of {p g s g' : Addr} {n k n' k' : V} {H H' : Hp} (h1 : K0 p H H') (hp : H p = some (.lst [.ref g, .ref s, n, k])) (hp' : H' p = some (.lst [.ref g', .ref s, n', k'])) (hg : g' = g ∨ H g' = none) : Kp p H H' := ⟨h1, fun b nb hb x g2 s2 n2 k2 h => by
  rw [hp'] at h
  cases h
  obtain ⟨a1, a2⟩ := x _ _ _ _ hp
  refine ⟨?_, a2⟩
  rcases hg with rfl | hg
  · exact a1
  · intro z
    rw [← z] at hb
    exact hb hg⟩
theorem Kp.new {p l : Addr} {o : HO} {H H' : Hp} (a : Kp p H H') (hP : Pool H' p) (hl : H' l = none) : Kp p H (upd H' l o) := a.trans (Kp.ex (Ex.new hl) hP)
/-- a thing that came behind H changes -/
theorem Kp.mut {p D : Addr} {o : HO} {H H' : Hp} (a : Kp p H H') (hD : H D = none) (nD : D ≠ p) : Kp p H (upd H' D o) := ⟨fun b u n h => by
    rw [upd_ne (ne_of_none h hD)]
    exact a.k b u n h, fun b nb hb x g s n k h => by
    rw [upd_ne nD.symm] at h
    exact a.a b nb hb x g s n k h⟩
theorem Pool.ex {p : Addr} {H H' : Hp} (e : Ex H H') (h : Pool H p) : Pool H' p := by
  obtain ⟨g, s, n, k, gs, ss, h1, h2, h3, h4, h5, h6, h7, h8, h9, h10, h11⟩ := h
  exact ⟨g, s, n, k, gs, ss, e _ _ h1, h2, h3, h4, h5, e _ _ h6, h7, h8, e _ _ h9, h10, h11⟩
theorem Pool.mut {p D : Addr} {o : HO} {H : Hp} (h : Pool H p) (nD : D ≠ p) (x : Apart H p D) : Pool (upd H D o) p := by
  obtain ⟨g, s, n, k, gs, ss, h1, h2, h3, h4, h5, h6, h7, h8, h9, h10, h11⟩ := h
  obtain ⟨a1, a2⟩ := x _ _ _ _ h1
  exact ⟨g, s, n, k, gs, ss, by rw [upd_ne nD.symm]; exact h1, h2, h3, h4, h5, by rw [upd_ne a1]; exact h6, h7, h8, by rw [upd_ne a2]; exact h9, h10, h11⟩
/-- what is new is no part of the pool -/
theorem Apart.new {p D : Addr} {o : HO} {H : Hp} (h : Pool H p) (hD : H D = none) : D ≠ p ∧ Apart (upd H D o) p D := by
  obtain ⟨g, s, n, k, gs, ss, h1, h2, h3, h4, h5, h6, h7, h8, h9, h10, h11⟩ := h
  have nD : p ≠ D := ne_of_none h1 hD
  refine ⟨nD.symm, fun g2 s2 n2 k2 e => ?_⟩
  rw [upd_ne nD, h1] at e
  cases e
  exact ⟨ne_of_none h6 hD, ne_of_none h9 hD⟩
theorem Apart.mut {p D b : Addr} {o : HO} {H : Hp} (nD : D ≠ p) (x : Apart H p b) : Apart (upd H D o) p b := fun g s n k h => by
  rw [upd_ne nD.symm] at h
  exact x g s n k h
/-- what is free behind was free before -/
theorem Kp.free {p D : Addr} {H H' : Hp} (a : Kp p H H') (h : Pool H' p) (hD : H' D = none) : H D = none ∧ D ≠ p := by
  have nD : D ≠ p := fun z => h.here (z ▸ hD)
  refine ⟨?_, nD⟩
  cases e : H D with
  | none => rfl
  | some o =>
    rw [a.k D o nD e] at hD
    cases hD
def absV : V → V
  | .int i => .int (if i < 0 then -i else i)
  | v => v
def geV : V → Bool
  | .int i => decide ((10 : Int) ^ 18 ≤ i)
  | _ => false
def ltV : V → Bool
  | .int i => decide (i < (10 : Int) ^ 18)
  | _ => false
def modV : V → V
  | .int i => .int (i % 1000003)
  | v => v
section
variable {P : Program} {w : World} {K : PySem.W.Frag} {mg : Str → Option Value} {base : Heap} {f : Addr} {fd : FuncData}
abbrev s__law_pool : Stmt := top 39
theorem sc__law_pool : FnScope ["_law_script", "_law_cells", "_law_cell", "_law_great", "_law_small"] ["_law_script"] (defScope s__law_pool) := ⟨rfl, rfl, rfl, by decide +kernel, rfl, by decide +kernel, by decide +kernel⟩
def spPool (K : PySem.W.Frag) : Sp := fun vs H Q _ => ∃ (a : Addr) (ns : List Int), vs = [.ref a] ∧ SqL K H a (ns.map V.int) ∧ ∀ p H', Ex H H' → H p = none → Pool H' p → Q (.ref p) H'
theorem ok_pool (G : Gz mg) (D : Df K mg "_law_pool" s__law_pool f fd ["_law_script"]) : Callee P w K mg base CXn 1 "_law_pool" 1 (spPool K) := by
  refine D.callee (D.fn.ok sc__law_pool (fun vs H Q E h => ?_) (fun cdv A outer s H vs Q E hr h => ⟨_, PSs.nox (pss_cons (ps_setLc (i := 1) (y := "_law_cells") (own := [("_law_cell", 2)]) rfl sc__law_pool.nd rfl rfl rfl (pi_list (pe_slice sl_list (pv 0) po_none (po_some pe_int))) (BlkOk.mk (N := ["_law_script", "_law_cells", "_law_cell", "_law_great", "_law_small"]) (sc := defScope s__law_pool) rfl (by decide +kernel) (by decide +kernel) (by decide +kernel) (by decide +kernel)) (fun _ _ _ _ _ => (pg_name (i := 2) sc__law_pool.nd rfl (Or.inl rfl))) (fun _ _ _ _ _ => pts_nil) (fun _ _ _ _ _ => (pe_callB call_abs rfl G.g_abs (by rfl) (pa_cons (pe_callTy call_int1 rfl G.g_int (by rfl) (pa_cons (pv 2) pa_nil)) pa_nil)))) (pss_cons (ps_setLc (i := 3) (y := "_law_great") (own := [("_law_cell", 2)]) rfl sc__law_pool.nd rfl rfl rfl (pi_list (pv 1)) (BlkOk.mk (N := ["_law_script", "_law_cells", "_law_cell", "_law_great", "_law_small"]) (sc := defScope s__law_pool) rfl (by decide +kernel) (by decide +kernel) (by decide +kernel) (by decide +kernel)) (fun _ _ _ _ _ => (pg_name (i := 2) sc__law_pool.nd rfl (Or.inl rfl))) (fun _ _ _ _ _ => (pts_one (pt_cmpR op_ge (pv 2) (pe_op op_pow pe_int pe_int) (nomark _)))) (fun _ _ _ _ _ => (pv 2))) (pss_cons (ps_setLc (i := 4) (y := "_law_small") (own := [("_law_cell", 2)]) rfl sc__law_pool.nd rfl rfl rfl (pi_list (pv 1)) (BlkOk.mk (N := ["_law_script", "_law_cells", "_law_cell", "_law_great", "_law_small"]) (sc := defScope s__law_pool) rfl (by decide +kernel) (by decide +kernel) (by decide +kernel) (by decide +kernel)) (fun _ _ _ _ _ => (pg_name (i := 2) sc__law_pool.nd rfl (Or.inl rfl))) (fun _ _ _ _ _ => (pts_one (pt_cmpR op_lt (pv 2) (pe_op op_pow pe_int pe_int) (nomark _)))) (fun _ _ _ _ _ => (pe_op op_mod (pe_callTy call_int1 rfl G.g_int (by rfl) (pa_cons (pv 2) pa_nil)) pe_int))) (pss_one (ps_ret (pe_lst (pa_cons (pv 3) (pa_cons (pv 4) (pa_cons pe_int (pa_cons pe_int pa_nil)))))))))), ?_⟩))
  · obtain ⟨_, _, rfl, _⟩ := h
    rfl
  · obtain ⟨a, ns, rfl, hS, k⟩ := h
    refine ⟨.ref a, rfl, 63, rfl, a, _, rfl, hS, fun p hp => ⟨p, rfl, ⟨_, sq_of upd_same⟩, fun D hD => ?_⟩⟩
    have ec : cutV (ns.map V.int) none (some 63) = (ns.take 63).map V.int := by
      have e := cut_take (ns.map V.int) 63
      rw [← List.map_take] at e
      exact e
    rw [ec] at hD ⊢
    have l63 : ((ns.take 63).map V.int).length ≤ 63 := by rw [List.length_map, List.length_take]; omega
    refine lc_ev (f := fun _ => true) (v := absV) (st_l (sq_of upd_same)) (by omega) (fun x => rfl) hD (fun x _ H1 e Q q => q H1 (Ex.refl _)) (fun x hx _ H1 e Q q => ?_) (fun H1 e1 hd1 => ?_)
    · obtain ⟨i, _, rfl⟩ := List.mem_map.mp hx
      exact ⟨_, rfl, .inl ⟨i, rfl, i, rfl, q H1 (Ex.refl _)⟩⟩
    generalize hcs : (ns.take 63).map (fun i : Int => if i < 0 then -i else i) = cs
    have d1 : H1 D = some (.lst (cs.map V.int)) := by
      rw [hd1, List.filter_eq_self.mpr (fun _ _ => rfl), ← hcs, List.map_map, List.map_map]
      rfl
    have lcs : cs.length ≤ 63 := by rw [← hcs, List.length_map, List.length_take]; omega
    have pcs : ∀ x ∈ cs, 0 ≤ x := fun x hx => by
      rw [← hcs] at hx
      obtain ⟨i, _, rfl⟩ := List.mem_map.mp hx
      split <;> omega
    refine ⟨_, rfl, D, rfl, ⟨_, sq_of d1⟩, fun D2 hD2 => ?_⟩
    refine lc_ev (f := geV) (v := fun x => x) (st_l (sq_of d1)) (by rw [List.length_map]; omega) (fun x => rfl) hD2 (fun x hx H2 e Q q => ?_) (fun x hx _ H2 e Q q => ⟨_, rfl, q H2 (Ex.refl _)⟩) (fun H2 e2 hd2 => ?_)
    · obtain ⟨i, _, rfl⟩ := List.mem_map.mp hx
      exact ⟨_, rfl, 10, 18, rfl, rfl, ⟨by decide, by decide, by decide⟩, i, _, rfl, rfl, _, rfl, q H2 (Ex.refl _)⟩
    have d2 : H2 D2 = some (.lst ((cs.filter fun i => decide ((10 : Int) ^ 18 ≤ i)).map V.int)) := by
      rw [hd2, List.map_id'' (fun _ => rfl), List.filter_map]
      rfl
    have d12 := e2 _ _ d1
    refine ⟨_, rfl, D, rfl, ⟨_, sq_of d12⟩, fun D3 hD3 => ?_⟩
    refine lc_ev (f := ltV) (v := modV) (st_l (sq_of d12)) (by rw [List.length_map]; omega) (fun x => rfl) hD3 (fun x hx H3 e Q q => ?_) (fun x hx _ H3 e Q q => ?_) (fun H3 e3 hd3 => ?_)
    · obtain ⟨i, _, rfl⟩ := List.mem_map.mp hx
      exact ⟨_, rfl, 10, 18, rfl, rfl, ⟨by decide, by decide, by decide⟩, i, _, rfl, rfl, _, rfl, q H3 (Ex.refl _)⟩
    · obtain ⟨i, _, rfl⟩ := List.mem_map.mp hx
      exact ⟨_, rfl, .inl ⟨i, rfl, i, 1000003, rfl, rfl, (by show (0 : Int) < 1000003; decide), q H3 (Ex.refl _)⟩⟩
    have d3 : H3 D3 = some (.lst (((cs.filter fun i => decide (i < (10 : Int) ^ 18)).map fun i => i % 1000003).map V.int)) := by
      rw [hd3, List.filter_map, List.map_map, List.map_map]
      rfl
    have d23 := e3 _ _ d2
    refine ⟨_, rfl, _, rfl, (by show 4 ≤ sizeLine; decide), fun q hq => ?_⟩
    have e03 : Ex H H3 := (Ex.new hp).trans (e1.trans (e2.trans e3))
    have e04 : Ex H (upd H3 q (.lst [.ref D2, .ref D3, .int 0, .int 0])) := e03.trans (Ex.new hq)
    refine k q _ e04 (fresh_back e03 hq) ⟨D2, D3, 0, 0, (cs.filter fun i => decide ((10 : Int) ^ 18 ≤ i)), ((cs.filter fun i => decide (i < (10 : Int) ^ 18)).map fun i => i % 1000003), upd_same, ne_of_none d23 hq, ne_of_none d3 hq, Int.le_refl _, Int.le_refl _, ?_, ?_, ?_, ?_, ?_, ?_⟩
    · rw [upd_ne (ne_of_none d23 hq)]; exact d23
    · exact fun x hx => pcs x (List.mem_filter.mp hx).1
    · exact Nat.le_trans (List.length_filter_le _ _) lcs
    · rw [upd_ne (ne_of_none d3 hq)]; exact d3
    · intro x hx
      obtain ⟨i, hi, rfl⟩ := List.mem_map.mp hx
      exact ⟨Int.emod_nonneg _ (by decide), Int.emod_lt_of_pos _ (by decide)⟩
    · rw [List.length_map]
      exact Nat.le_trans (List.length_filter_le _ _) lcs
abbrev s__law_draw : Stmt := top 40
theorem sc__law_draw : FnScope ["_law_pool_here", "_law_many", "_law_great", "_law_digit", "_law_seed", "_law_number"] ["_law_pool_here", "_law_many"] (defScope s__law_draw) := ⟨rfl, rfl, rfl, by decide +kernel, rfl, by decide +kernel, by decide +kernel⟩
def spDraw : Sp := fun vs H Q _ => ∃ (p : Addr) (m : Int), vs = [.ref p, .int m] ∧ Pool H p ∧ 1 ≤ m ∧ m ≤ 1000000 ∧ ∀ d H', 0 ≤ d → d < m → Kp p H H' → Pool H' p → Q (.int d) H'
theorem ok_draw (G : Gz mg) (D : Df K mg "_law_draw" s__law_draw f fd ["_law_pool_here", "_law_many"]) : Callee P w K mg base CXn 1 "_law_draw" 2 spDraw := by
  refine D.callee (D.fn.ok sc__law_draw (fun vs H Q E h => ?_) (fun cdv A outer s H vs Q E hr h => ⟨_, PSs.nox (pss_cut (ps_if (PW.pt (pw_and (pt_cmpR op_eq (pe_ix (ixK (K := K) rfl) (pv 0) pe_int (fun _ _ => rfl)) pe_int (nomark _)) (pw_and1 (pt_cmpR op_gt (pe_callB (lenK (K := K) rfl) rfl G.g_len PySem.boot_len (pa_cons (pe_ix (ixK (K := K) rfl) (pv 0) pe_int (fun _ _ => rfl)) pa_nil)) pe_int (nomark _))))) (pss_cons (ps_set (i := 2) sc__law_draw.nd rfl (Or.inl rfl) (pe_ix (ixK (K := K) rfl) (pv 0) pe_int (fun _ _ => rfl))) (pss_one (ps_asg (pe_tup (pa_cons (pe_ix (ixK (K := K) rfl) (pv 2) pe_int (fun _ _ => rfl)) (pa_cons (pe_slice sl_list (pv 2) (po_some pe_int) po_none) pa_nil))) (pg_tup rfl (pgs_cons (pg_sub (pv 0) pe_int set_list) (pgs_cons (pg_sub (pv 0) pe_int set_list) pgs_nil)))))) pss_nil) (pss_cut (ps_if (pt_cmpR op_gt (pe_ix (ixK (K := K) rfl) (pv 0) pe_int (fun _ _ => rfl)) pe_int (nomark _)) (pss_cons (ps_asg (pe_tup (pa_cons (pe_op op_mod (pe_callTy call_int1 rfl G.g_int (by rfl) (pa_cons (pe_ix (ixK (K := K) rfl) (pv 0) pe_int (fun _ _ => rfl)) pa_nil)) (pv 1)) (pa_cons (pe_op op_fdiv (pe_ix (ixK (K := K) rfl) (pv 0) pe_int (fun _ _ => rfl)) (pv 1)) pa_nil))) (pg_tup rfl (pgs_cons (pg_name (i := 3) sc__law_draw.nd rfl (Or.inl rfl)) (pgs_cons (pg_sub (pv 0) pe_int set_list) pgs_nil)))) (pss_one (ps_ret (pv 3)))) pss_nil) (pss_cons (ps_asg (pe_op op_add (pe_ix (ixK (K := K) rfl) (pv 0) pe_int (fun _ _ => rfl)) pe_int) (pg_sub (pv 0) pe_int set_list)) (pss_cons (ps_set (i := 4) sc__law_draw.nd rfl (Or.inl rfl) (pe_ix (ixK (K := K) rfl) (pe_op op_cat (pe_ix (ixK (K := K) rfl) (pv 0) pe_int (fun _ _ => rfl)) (pe_lst (pa_cons pe_int pa_nil))) (pe_op op_mod (pe_callTy call_int1 rfl G.g_int (by rfl) (pa_cons (pe_ix (ixK (K := K) rfl) (pv 0) pe_int (fun _ _ => rfl)) pa_nil)) (pe_callB (call_max2 rfl) rfl G.g_max (by rfl) (pa_cons pe_int (pa_cons (pe_callB (lenK (K := K) rfl) rfl G.g_len PySem.boot_len (pa_cons (pe_ix (ixK (K := K) rfl) (pv 0) pe_int (fun _ _ => rfl)) pa_nil)) pa_nil)))) (fun _ _ => rfl))) (pss_cons (ps_set (i := 5) sc__law_draw.nd rfl (Or.inl rfl) (pe_op op_mod (pe_callTy call_int1 rfl G.g_int (by rfl) (pa_cons (pe_op op_mul (pe_op op_add (pe_op op_add (pv 4) (pe_op op_mul pe_int (pe_ix (ixK (K := K) rfl) (pv 0) pe_int (fun _ _ => rfl)))) pe_int) pe_int) pa_nil)) pe_int)) (pss_cons (ps_set (i := 5) sc__law_draw.nd rfl (Or.inl rfl) (pe_op op_mod (pe_callTy call_int1 rfl G.g_int (by rfl) (pa_cons (pe_op op_mul (pv 5) (pe_op op_add (pe_op op_fdiv (pv 5) pe_int) pe_int)) pa_nil)) pe_int)) (pss_cons (ps_set (i := 5) sc__law_draw.nd rfl (Or.inl rfl) (pe_op op_mod (pe_callTy call_int1 rfl G.g_int (by rfl) (pa_cons (pe_op op_mul (pv 5) (pe_op op_add (pe_op op_fdiv (pv 5) pe_int) pe_int)) pa_nil)) pe_int)) (pss_one (ps_ret (pe_op op_mod (pe_callTy call_int1 rfl G.g_int (by rfl) (pa_cons (pe_op op_fdiv (pv 5) pe_int) pa_nil)) (pv 1))))))))))), ?_⟩))
  · obtain ⟨_, _, rfl, _⟩ := h
    rfl
  · obtain ⟨p, m, rfl, hP, hm1, hm2, k⟩ := h
    refine ⟨fun σ' H' => (∃ v, σ' = [some (.ref p), some (.int m), v, none, none, none]) ∧ Pool H' p ∧ Kp p H H', ?_, ?_⟩
    · have hP0 := hP
      obtain ⟨g, s', n, kk, gs, ss, hp, gp, sp, n0, k0, hg, pg, lg, hs, ps, ls⟩ := hP
      refine ⟨_, rfl, .inl ⟨p, _, 2, _, rfl, rfl, sq_of hp, rfl, rfl, _, rfl, ?_⟩⟩
      have skip : (fun σ' H' => (∃ v, σ' = [some (V.ref p), some (V.int m), v, none, none, none]) ∧ Pool H' p ∧ Kp p H H') (start ["_law_pool_here", "_law_many", "_law_great", "_law_digit", "_law_seed", "_law_number"] [.ref p, .int m]) H := ⟨⟨none, rfl⟩, hP0, Kp.refl p H⟩
      cases hd : decide (V.int n = V.int 0) with
      | false => exact skip
      | true =>
        refine ⟨_, rfl, .inl ⟨p, _, 0, _, rfl, rfl, sq_of hp, rfl, .ref g, gs.length, rfl, .inl ⟨_, sq_of hg, by rw [List.length_map]⟩, _, _, rfl, rfl, _, rfl, ?_⟩⟩
        cases gs with
        | nil => exact skip
        | cons g0 gs =>
          have hgt : decide ((0 : Int) < (((g0 :: gs).length : Nat) : Int)) = true := decide_eq_true (by simp)
          rw [hgt]
          refine ⟨_, rfl, .inl ⟨p, _, 0, _, rfl, rfl, sq_of hp, rfl, ?_⟩⟩
          refine ⟨_, rfl, .inl ⟨g, _, 0, .int g0, rfl, rfl, sq_of hg, (show atI ((g0 :: gs).map V.int) ((0 : Nat) : Int) = some (.int g0) from atI_nat rfl), ?_⟩⟩
          refine ⟨_, rfl, 1, rfl, g, _, rfl, sq_of hg, fun l hl => ?_⟩
          have ec : cutV ((g0 :: gs).map V.int) (some 1) none = gs.map V.int := cut_drop ((g0 :: gs).map V.int) 1
          rw [ec]
          refine ⟨(by show 2 ≤ sizeLine; decide), fun T hT => ⟨T, _, rfl, st_of upd_same, rfl, _, _, rfl, ?_⟩⟩
          have npl : p ≠ l := ne_of_none hp hl
          have hp1 : upd H l (.lst (gs.map V.int)) p = some (.lst [.ref g, .ref s', .int n, .int kk]) := by rw [upd_ne npl]; exact hp
          have npT : p ≠ T := ne_of_none hp1 hT
          have nlT : l ≠ T := ne_of_none upd_same hT
          have nsl : s' ≠ l := ne_of_none hs hl
          have hs1 : upd H l (.lst (gs.map V.int)) s' = some (.lst (ss.map V.int)) := by rw [upd_ne nsl]; exact hs
          have nsT : s' ≠ T := ne_of_none hs1 hT
          refine ⟨_, rfl, p, _, 2, 2, rfl, rfl, (by rw [upd_ne npT]; exact hp1), rfl, _, _, rfl, _, rfl, p, _, 0, 0, rfl, rfl, upd_same, rfl, rfl, ⟨_, rfl⟩, ?_, ?_⟩
          · refine ⟨l, s', g0, kk, gs, ss, upd_same, npl.symm, sp, pg g0 (by simp), k0, ?_, fun x hx => pg x (by simp [hx]), by simp at lg; omega, ?_, ps, ls⟩
            · rw [upd_ne npl.symm, upd_ne npl.symm, upd_ne nlT, upd_same]
            · rw [upd_ne sp, upd_ne sp, upd_ne nsT]; exact hs1
          · exact Kp.of (K0.put (K0.put (K0.new (K0.new (K0.refl p H) hl) hT))) hp upd_same (.inr hl)
    · rintro σ' H1 ⟨⟨v, rfl⟩, ⟨g, s', n, kk, gs, ss, hp, gp, sp, n0, k0, hg, pg, lg, hs, ps, ls⟩, K1⟩
      refine ⟨fun σ' H' => (∃ v2, σ' = [some (.ref p), some (.int m), v2, none, none, none]) ∧ H' = H1, ?_, ?_⟩
      · refine ⟨_, rfl, .inl ⟨p, _, 2, _, rfl, rfl, sq_of hp, rfl, _, _, rfl, rfl, _, rfl, ?_⟩⟩
        refine ite2 (fun hn => ?_) (fun _ => ⟨⟨_, rfl⟩, rfl⟩)
        have hn0 : 0 < n := of_decide_eq_true hn
        refine ⟨_, rfl, .inl ⟨p, _, 2, _, rfl, rfl, sq_of hp, rfl, .inl ⟨n, rfl, _, rfl, n, m, rfl, rfl, (by show 0 < m; omega), ?_⟩⟩⟩
        refine ⟨_, rfl, .inl ⟨p, _, 2, _, rfl, rfl, sq_of hp, rfl, _, rfl, n, m, rfl, rfl, ⟨by omega, by omega⟩, ?_⟩⟩
        refine ⟨(by show 2 ≤ sizeLine; decide), fun T hT => ⟨T, _, rfl, st_of upd_same, rfl, _, _, rfl, ?_⟩⟩
        have npT : p ≠ T := ne_of_none hp hT
        refine ⟨_, _, rfl, _, rfl, p, _, 2, 2, rfl, rfl, (by rw [upd_ne npT]; exact hp), rfl, rfl, _, rfl, ?_⟩
        refine k _ _ (Int.emod_nonneg _ (by omega)) (Int.emod_lt_of_pos _ (by omega)) (K1.trans (Kp.of (K0.put (K0.new (K0.refl p _) hT)) hp upd_same (.inl rfl))) ?_
        refine ⟨g, s', n / m, kk, gs, ss, upd_same, gp, sp, Int.ediv_nonneg n0 (by omega), k0, ?_, pg, lg, ?_, ps, ls⟩
        · rw [upd_ne gp, upd_ne (ne_of_none hg hT)]; exact hg
        · rw [upd_ne sp, upd_ne (ne_of_none hs hT)]; exact hs
      · rintro σ' H2 ⟨⟨v2, rfl⟩, rfl⟩
        refine ⟨_, rfl, .inl ⟨p, _, 3, _, rfl, rfl, sq_of hp, rfl, kk, 1, rfl, rfl, ?_⟩⟩
        refine ⟨_, rfl, p, _, 3, 3, rfl, rfl, hp, rfl, ?_⟩
        have K3 : Kp p H (upd H2 p (.lst ([.ref g, .ref s', .int n, .int kk].set 3 (.int (kk + 1))))) := K1.trans (Kp.of (K0.put (K0.refl p _)) hp upd_same (.inl rfl))
        have hp3 : upd H2 p (.lst ([.ref g, .ref s', .int n, .int kk].set 3 (.int (kk + 1)))) p = some (.lst [.ref g, .ref s', .int n, .int (kk + 1)]) := upd_same
        have hg3 : upd H2 p (.lst ([.ref g, .ref s', .int n, .int kk].set 3 (.int (kk + 1)))) g = some (.lst (gs.map V.int)) := by rw [upd_ne gp]; exact hg
        have hs3 : upd H2 p (.lst ([.ref g, .ref s', .int n, .int kk].set 3 (.int (kk + 1)))) s' = some (.lst (ss.map V.int)) := by rw [upd_ne sp]; exact hs
        generalize upd H2 p (.lst ([.ref g, .ref s', .int n, .int kk].set 3 (.int (kk + 1)))) = H3 at K3 hp3 hg3 hs3
        have P3 : Pool H3 p := ⟨g, s', n, kk + 1, gs, ss, hp3, gp, sp, n0, by omega, hg3, pg, lg, hs3, ps, ls⟩
        -- the seed
        refine ⟨_, rfl, .inl ⟨p, _, 1, _, rfl, rfl, sq_of hp3, rfl, (by show 1 ≤ sizeLine; decide), fun b hb => ?_⟩⟩
        have e4 : Ex H3 (upd H3 b (.lst [.int 0])) := Ex.new hb
        refine ⟨s', b, _, _, rfl, rfl, e4 _ _ hs3, upd_same, (by rw [List.length_map]; exact Nat.le_trans (Nat.add_le_add_right ls 1) (by decide)), fun c hc => ?_⟩
        have e5 : Ex H3 (upd (upd H3 b (.lst [.int 0])) c (.lst (ss.map V.int ++ [.int 0]))) := e4.trans (Ex.new hc)
        have hc5 : upd (upd H3 b (.lst [.int 0])) c (.lst (ss.map V.int ++ [.int 0])) c = some (.lst (ss.map V.int ++ [.int 0])) := upd_same
        generalize upd (upd H3 b (.lst [.int 0])) c (.lst (ss.map V.int ++ [.int 0])) = H5 at e5 hc5
        have hp5 := e5 _ _ hp3
        have hs5 := e5 _ _ hs3
        have P5 : Pool H5 p := P3.ex e5
        have K5 : Kp p H H5 := K3.trans (Kp.ex e5 P3)
        refine ⟨_, rfl, .inl ⟨p, _, 3, _, rfl, rfl, sq_of hp5, rfl, .inl ⟨kk + 1, rfl, ?_⟩⟩⟩
        refine ⟨_, rfl, .inl ⟨p, _, 1, _, rfl, rfl, sq_of hp5, rfl, .ref s', ss.length, rfl, .inl ⟨_, sq_of hs5, by rw [List.length_map]⟩, 1, (ss.length : Int), rfl, ?_⟩⟩
        generalize hmx : (if ((ss.length : Nat) : Int) > 1 then ((ss.length : Nat) : Int) else 1) = mx
        have hmx1 : 1 ≤ mx ∧ mx ≤ (ss.length : Int) + 1 := by
          rw [← hmx]
          split <;> omega
        have hj0 : 0 ≤ (kk + 1) % mx := Int.emod_nonneg _ (by omega)
        have hj1 : (kk + 1) % mx < mx := Int.emod_lt_of_pos _ (by omega)
        obtain ⟨z, hz⟩ : ∃ z, (ss ++ [0])[((kk + 1) % mx).toNat]? = some z := ⟨_, List.getElem?_eq_getElem (by rw [List.length_append, List.length_singleton]; omega)⟩
        have hz2 : (ss.map V.int ++ [.int 0])[((kk + 1) % mx).toNat]? = some (V.int z) := by
          have e : ss.map V.int ++ [.int 0] = (ss ++ [0]).map V.int := by simp
          rw [e, List.getElem?_map, hz]
          rfl
        refine ⟨kk + 1, mx, rfl, rfl, (by show 0 < mx; omega), .inl ⟨c, _, _, .int z, rfl, rfl, sq_of hc5, at_of (j := ((kk + 1) % mx).toNat) (by omega) hz2, ?_⟩⟩
        -- the numbers
        refine ⟨_, rfl, _, rfl, .inl ⟨p, _, 3, _, rfl, rfl, sq_of hp5, rfl, 7919, kk + 1, rfl, rfl, .inl ⟨by decide, by decide⟩, z, _, rfl, rfl, _, 1, rfl, rfl, _, 48271, rfl, rfl, .inr ⟨by decide, by decide⟩, .inl ⟨_, rfl, _, 2147483647, rfl, rfl, (by show (0 : Int) < 2147483647; decide), ?_⟩⟩⟩
        dsimp only
        generalize h1 : (z + 7919 * (kk + 1) + 1) * 48271 % 2147483647 = n1
        have b1 : 0 ≤ n1 ∧ n1 < 2147483647 := by rw [← h1]; exact ⟨Int.emod_nonneg _ (by decide), Int.emod_lt_of_pos _ (by decide)⟩
        refine ⟨_, rfl, _, rfl, n1, 1009, rfl, rfl, ⟨by decide, by decide⟩, _, 69621, rfl, rfl, n1, _, rfl, rfl, .inl ⟨by omega, by omega⟩, .inl ⟨_, rfl, _, 2147483647, rfl, rfl, (by show (0 : Int) < 2147483647; decide), ?_⟩⟩
        dsimp only
        generalize h2 : n1 * (n1 / 1009 + 69621) % 2147483647 = n2
        have b2 : 0 ≤ n2 ∧ n2 < 2147483647 := by rw [← h2]; exact ⟨Int.emod_nonneg _ (by decide), Int.emod_lt_of_pos _ (by decide)⟩
        refine ⟨_, rfl, _, rfl, n2, 2003, rfl, rfl, ⟨by decide, by decide⟩, _, 40692, rfl, rfl, n2, _, rfl, rfl, .inl ⟨by omega, by omega⟩, .inl ⟨_, rfl, _, 2147483399, rfl, rfl, (by show (0 : Int) < 2147483399; decide), ?_⟩⟩
        exact ⟨_, rfl, _, 16, rfl, rfl, ⟨by decide, by decide⟩, .inl ⟨_, rfl, _, rfl, _, m, rfl, rfl, (by show 0 < m; omega), k _ _ (Int.emod_nonneg _ (by omega)) (Int.emod_lt_of_pos _ (by omega)) K5 P5⟩⟩
abbrev s__law_pick : Stmt := top 41
theorem sc__law_pick : FnScope ["_law_pool_here", "_law_items"] ["_law_pool_here", "_law_items"] (defScope s__law_pick) := ⟨rfl, rfl, rfl, by decide +kernel, rfl, by decide +kernel, by decide +kernel⟩
def spPick : Sp := fun vs H Q _ => ∃ (p a : Addr) (xs : List V), vs = [.ref p, .ref a] ∧ Pool H p ∧ a ≠ p ∧ (H a = some (.lst xs) ∨ H a = some (.tup xs)) ∧ xs ≠ [] ∧ xs.length ≤ 1000 ∧ ∀ x H', x ∈ xs → Kp p H H' → Pool H' p → Q x H'
theorem ok_pick (G : Gz mg) (D : Df K mg "_law_pick" s__law_pick f fd ["_law_pool_here", "_law_items"]) (c__law_draw : Callee P w K mg base CXn 1 "_law_draw" 2 spDraw) : Callee P w K mg base CXn 2 "_law_pick" 2 spPick := by
  refine D.callee (D.fn.ok sc__law_pick (fun vs H Q E h => ?_) (fun cdv A outer s H vs Q E hr h => ⟨_, PSs.nox (pss_one (ps_ret (pe_ix (ixK (K := K) rfl) (pv 1) (pe_cl (E := En) c__law_draw (hr.mono (by decide)) rfl passN (pa_cons (pv 0) (pa_cons (pe_callB (lenK (K := K) rfl) rfl G.g_len PySem.boot_len (pa_cons (pv 1) pa_nil)) pa_nil))) (fun _ _ => rfl)))), ?_⟩))
  · obtain ⟨_, _, _, rfl, _⟩ := h
    rfl
  · obtain ⟨p, a, xs, rfl, hP, nap, hx, hne, hl, k⟩ := h
    have hlen : LenV K (.ref a) H xs.length := hx.elim (fun z => .inl ⟨_, sq_of z, rfl⟩) fun z => .inr ⟨_, st_of z, rfl⟩
    have hpos : 0 < xs.length := List.length_pos_iff.mpr hne
    refine ⟨_, rfl, _, rfl, _, rfl, .ref a, xs.length, rfl, hlen, p, _, rfl, hP, by omega, by omega, fun d H1 d0 d1 K1 P1 => ?_⟩
    obtain ⟨x, hxd⟩ : ∃ x, xs[d.toNat]? = some x := ⟨_, List.getElem?_eq_getElem (by omega)⟩
    have fin := k x H1 (List.mem_of_getElem? hxd) K1 P1
    rcases hx with hx | hx
    · exact .inl ⟨a, xs, d, x, rfl, rfl, sq_of (K1.k _ _ nap hx), at_of (j := d.toNat) (by omega) hxd, fin⟩
    · exact .inr (.inl ⟨a, xs, d, x, rfl, rfl, st_of (K1.k _ _ nap hx), at_of (j := d.toNat) (by omega) hxd, fin⟩)
def sg (c : Nat) : Str := ⟨#[c]⟩
abbrev abc : Str := "abcdefghijklmnopqrstuvwxyz"
theorem abc_at : ∀ j : Fin 26, abc.cps.toList[j.1]? = some (97 + j.1) := by decide +kernel
theorem abc_len : abc.cps.toList.length = 26 := by decide +kernel
theorem abc_mem {c : Nat} (h : c ∈ abc.cps.toList) : 97 ≤ c ∧ c ≤ 122 := by
  obtain ⟨j, hj⟩ := List.getElem?_of_mem h
  have hl := (List.getElem?_eq_some_iff.mp hj).1
  rw [abc_len] at hl
  rw [abc_at ⟨j, hl⟩] at hj
  cases hj
  show 97 ≤ 97 + j ∧ 97 + j ≤ 122
  omega
theorem join_sg : ∀ cs : List Nat, (Str.join "" (cs.map sg)).cps.toList = cs
  | [] => rfl
  | [c] => rfl
  | c :: d :: r => by
    have ih := join_sg (d :: r)
    show (sg c ++ "" ++ Str.join "" ((d :: r).map sg)).cps.toList = _
    rw [Str.cps_append, Str.cps_append, Array.toList_append, Array.toList_append, ih]
    rfl
theorem txt_ext {a b : Str} (h : a.cps.toList = b.cps.toList) : a = b := str_ext h
theorem inV_str (z : Str) (zs : List Str) : inV (.str z) (zs.map V.str) = decide (z ∈ zs) := by
  unfold inV
  rw [Bool.eq_iff_iff, List.any_eq_true]
  constructor
  · rintro ⟨y, hy, e⟩
    obtain ⟨u, hu, rfl⟩ := List.mem_map.mp hy
    have e2 : (u == z) = true := e
    rw [← beq_iff_eq.mp e2]
    exact decide_eq_true hu
  · intro h
    refine ⟨.str z, List.mem_map.mpr ⟨z, of_decide_eq_true h, rfl⟩, ?_⟩
    show (z == z) = true
    exact beq_self_eq_true z
theorem flat_strs (zs : List Str) : (zs.map V.str).all flatV = true := by
  rw [List.all_eq_true]
  intro v hv
  obtain ⟨z, _, rfl⟩ := List.mem_map.mp hv
  rfl
/-- more different ones than places -/
theorem pigeon {α : Type} [DecidableEq α] : ∀ (l m : List α), l.Nodup → (∀ x ∈ l, x ∈ m) → l.length ≤ m.length
  | [], m, _, _ => Nat.zero_le _
  | a :: l, m, nd, h => by
    obtain ⟨na, nd2⟩ := List.nodup_cons.mp nd
    have ih := pigeon l (m.erase a) nd2 fun x hx => by
      have hm := h x (List.mem_cons_of_mem _ hx)
      have ne : x ≠ a := fun z => na (z ▸ hx)
      exact (List.mem_erase_of_ne ne).mpr hm
    have hm := h a List.mem_cons_self
    rw [List.length_erase_of_mem hm] at ih
    have : 0 < m.length := List.length_pos_of_mem hm
    rw [List.length_cons]
    omega
/-- the letter behind the first nine -/
def nx9 (z : Str) : V → Str
  | .str c => cutS z none (some 9) ++ c
  | _ => z
theorem cut9 (z : Str) : (cutS z none (some 9)).cps.toList = z.cps.toList.take 9 := by
  unfold cutS
  rw [HT.sIx_none]
  have e : HT.sIx z.length z.length (some 9) = min 9 z.length := HT.sIx_nat z.length z.length 9
  rw [e]
  show ((z.cps.toList.drop 0).take (min 9 z.length - 0)) = z.cps.toList.take 9
  rw [List.drop_zero, Nat.sub_zero]
  have hl : z.cps.toList.length = z.length := Array.length_toList
  rcases Nat.le_total 9 z.length with h | h
  · rw [Nat.min_eq_left h]
  · rw [Nat.min_eq_right h, List.take_of_length_le (by omega), List.take_of_length_le (by omega)]
theorem nx9_cps (z : Str) (c : Nat) : (nx9 z (.str (sg c))).cps.toList = z.cps.toList.take 9 ++ [c] := by
  show (cutS z none (some 9) ++ sg c).cps.toList = _
  rw [Str.cps_append, Array.toList_append, cut9]
  rfl
theorem nx9_inj {z : Str} {c d : Nat} (h : nx9 z (.str (sg c)) = nx9 z (.str (sg d))) : c = d := by
  have e1 := nx9_cps z c
  rw [h, nx9_cps z d] at e1
  have e2 := List.append_cancel_left e1
  simpa using e2.symm
theorem nx9_some (z : Str) (zs : List Str) (hz : zs.length ≤ 20) : ∃ c r, (chs abc).filter (fun x => !decide (nx9 z x ∈ zs)) = .str (sg c) :: r ∧ c ∈ abc.cps.toList ∧ nx9 z (.str (sg c)) ∉ zs := by
  have mem : ∀ x ∈ chs abc, ∃ c, c ∈ abc.cps.toList ∧ V.str (sg c) = x := fun x hx => by
    unfold chs at hx
    exact List.mem_map.mp hx
  cases e : (chs abc).filter (fun x => !decide (nx9 z x ∈ zs)) with
  | nil =>
    have all : ∀ x ∈ (chs abc).map (nx9 z), x ∈ zs := fun y hy => by
      obtain ⟨x, hx, rfl⟩ := List.mem_map.mp hy
      have h := List.filter_eq_nil_iff.mp e x hx
      simpa using h
    have nd : ((chs abc).map (nx9 z)).Nodup := by
      unfold chs
      rw [List.map_map]
      have nd0 : abc.cps.toList.Nodup := by decide +kernel
      exact List.Pairwise.map _ (fun c d hcd z2 => hcd (nx9_inj z2)) nd0
    have h1 := pigeon _ _ nd all
    rw [List.length_map, chs_len] at h1
    have h2 : abc.length = 26 := by decide +kernel
    omega
  | cons x r =>
    have hx : x ∈ (chs abc).filter (fun x => !decide (nx9 z x ∈ zs)) := by rw [e]; exact List.mem_cons_self
    obtain ⟨h1, h2⟩ := List.mem_filter.mp hx
    obtain ⟨c, hc, rfl⟩ := mem x h1
    exact ⟨c, r, rfl, hc, by simpa using h2⟩
theorem nx9_nm {z : Str} {c : Nat} (h : IsNm z) (hc : 97 ≤ c ∧ c ≤ 122) : IsNm (nx9 z (.str (sg c))) := by
  have e := nx9_cps z c
  have hl : (nx9 z (.str (sg c))).length = (z.cps.toList.take 9 ++ [c]).length := by rw [← e, Array.length_toList]; rfl
  rw [List.length_append, List.length_take, List.length_singleton] at hl
  refine ⟨by omega, by omega, fun d hd => ?_⟩
  rw [e] at hd
  rcases List.mem_append.mp hd with hd | hd
  · exact h.2.2 d (List.mem_of_mem_take hd)
  · rw [List.mem_singleton.mp hd]; exact hc
abbrev s__law_name : Stmt := top 42
theorem sc__law_name : FnScope ["_law_pool_here", "_law_taken", "_law_letters", "_law_size", "_law_name_here", "_law_k", "_law_letter"] ["_law_pool_here", "_law_taken"] (defScope s__law_name) := ⟨rfl, rfl, rfl, by decide +kernel, rfl, by decide +kernel, by decide +kernel⟩
def spName : Sp := fun vs H Q _ => ∃ (p a : Addr) (zs : List Str), vs = [.ref p, .ref a] ∧ Pool H p ∧ a ≠ p ∧ H a = some (.lst (zs.map V.str)) ∧ zs.length ≤ 20 ∧ ∀ z H', IsNm z → z ∉ zs → Kp p H H' → Pool H' p → Q (.str z) H'
theorem ok_name (G : Gz mg) (D : Df K mg "_law_name" s__law_name f fd ["_law_pool_here", "_law_taken"]) (c__law_draw : Callee P w K mg base CXn 1 "_law_draw" 2 spDraw) : Callee P w K mg base CXn 2 "_law_name" 2 spName := by
  refine D.callee (D.fn.ok sc__law_name (fun vs H Q E h => ?_) (fun cdv A outer s H vs Q E hr h => ⟨_, PSs.nox (pss_cons (ps_set (i := 2) sc__law_name.nd rfl (Or.inr rfl) pe_str) (pss_cons (ps_set (i := 3) sc__law_name.nd rfl (Or.inl rfl) (pe_ix (ixK (K := K) rfl) (pe_lst (pa_cons pe_int (pa_cons pe_int (pa_cons pe_int (pa_cons pe_int (pa_cons pe_int (pa_cons pe_int (pa_cons pe_int pa_nil)))))))) (pe_cl (E := En) c__law_draw (hr.mono (by decide)) rfl passN (pa_cons (pv 0) (pa_cons pe_int pa_nil))) (fun _ _ => rfl))) (pss_cons (ps_set (i := 4) sc__law_name.nd rfl (Or.inr rfl) (pe_join pe_str (pe_lc (own := [("_law_k", 5)]) rfl sc__law_name.nd (pi_range1 rfl G.g_range (pa_cons (pv 3) pa_nil)) (BlkOk.mk (N := ["_law_pool_here", "_law_taken", "_law_letters", "_law_size", "_law_name_here", "_law_k", "_law_letter"]) (sc := defScope s__law_name) rfl (by decide +kernel) (by decide +kernel) (by decide +kernel) (by decide +kernel)) (fun _ _ _ _ _ => (pg_name (i := 5) sc__law_name.nd rfl (Or.inl rfl))) (fun _ _ _ _ _ => pts_nil) (fun _ _ _ _ _ => (pe_ix (ixK (K := K) rfl) (pv 2) (pe_cl (E := En) c__law_draw (hr.mono (by decide)) rfl passN (pa_cons (pv 0) (pa_cons pe_int pa_nil))) (fun _ _ => rfl)))))) (pss_cut (ps_if (pt_cmpR (inK (K := K) rfl) (pv 4) (pv 1) (by rfl)) (pss_one (ps_set (i := 4) sc__law_name.nd rfl (Or.inr rfl) (pe_ix (ixK (K := K) rfl) (pe_lc (own := [("_law_letter", 6)]) rfl sc__law_name.nd (pi_str (pv 2)) (BlkOk.mk (N := ["_law_pool_here", "_law_taken", "_law_letters", "_law_size", "_law_name_here", "_law_k", "_law_letter"]) (sc := defScope s__law_name) rfl (by decide +kernel) (by decide +kernel) (by decide +kernel) (by decide +kernel)) (fun _ _ _ _ _ => (pg_name (i := 6) sc__law_name.nd rfl (Or.inl rfl))) (fun _ _ _ _ _ => (pts_one (pt_cmpR (notInK (K := K) rfl) (pe_op op_add_str (pe_slice sl_str (pv 4) po_none (po_some pe_int)) (pv 6)) (pv 1) (by rfl)))) (fun _ _ _ _ _ => (pe_op op_add_str (pe_slice sl_str (pv 4) po_none (po_some pe_int)) (pv 6)))) pe_int (fun _ _ => rfl)))) pss_nil) (pss_one (ps_ret (pv 4))))))), ?_⟩))
  · obtain ⟨_, _, _, rfl, _⟩ := h
    rfl
  · obtain ⟨p, a, zs, rfl, hP, nap, ha, hz, k⟩ := h
    refine ⟨(by show 7 ≤ sizeLine; decide), fun l hl => ⟨_, rfl, p, 7, rfl, hP.ex (Ex.new hl), by decide, by decide, fun d H1 d0 d1 K1' P1 => ?_⟩⟩
    have hm : ∃ m : Int, ([.int 1, .int 1, .int 2, .int 3, .int 4, .int 6, .int 10] : List V)[d.toNat]? = some (.int m) ∧ 1 ≤ m ∧ m ≤ 10 := by
      have hd : d = 0 ∨ d = 1 ∨ d = 2 ∨ d = 3 ∨ d = 4 ∨ d = 5 ∨ d = 6 := by omega
      rcases hd with rfl | rfl | rfl | rfl | rfl | rfl | rfl <;> exact ⟨_, rfl, by decide, by decide⟩
    obtain ⟨m, hm, m1, m10⟩ := hm
    have nlp : l ≠ p := fun z => hP.here (z ▸ hl)
    have K1 : Kp p H H1 := (Kp.ex (Ex.new hl) hP).trans K1'
    refine .inl ⟨l, _, d, .int m, rfl, rfl, sq_of (K1'.k l _ nlp upd_same), at_of (j := d.toNat) (by omega) hm, ?_⟩
    refine ⟨⟨_, rfl⟩, _, rfl, m, rfl, by omega, by omega, fun D hD => ?_⟩
    obtain ⟨hD0, nDp⟩ := K1.free P1 hD
    refine lc_range (fun i H' => ∃ cs : List Nat, cs.length = i ∧ (∀ c ∈ cs, 97 ≤ c ∧ c ≤ 122) ∧ H' D = some (.lst (cs.map fun c => .str (sg c))) ∧ Kp p H H' ∧ Pool H' p ∧ Apart H' p D) ?_ ?_ ?_
    · obtain ⟨_, ap⟩ := Apart.new (o := .lst []) P1 hD
      exact ⟨[], rfl, fun c hc => (nomatch hc), upd_same, K1.new P1 hD, P1.ex (Ex.new hD), ap⟩
    · rintro i H' hi ⟨cs, hcl, hcs, hd, K2, P2, A2⟩
      refine ⟨rfl, _, rfl, _, rfl, p, 26, rfl, P2, by decide, by decide, fun e H3 e0 e1 K3 P3 => ?_⟩
      have he : abc.cps.toList[e.toNat]? = some (97 + e.toNat) := abc_at ⟨e.toNat, by omega⟩
      have hd3 := K3.k D _ nDp hd
      refine .inr (.inr ⟨abc, e, 97 + e.toNat, rfl, rfl, (by decide), (by have q := atI_nat (xs := abc.cps.toList) he; rwa [show ((e.toNat : Nat) : Int) = e by omega] at q), _, hd3, ?_, ?_⟩)
      · rw [List.length_map]
        exact sz_lt (by omega)
      · have hd2 : H' D ≠ none := some_ne hd
        refine ⟨cs ++ [97 + e.toNat], by rw [List.length_append, hcl]; rfl, fun c hc => ?_, ?_, (K2.trans K3).mut hD0 nDp, P3.mut nDp (K3.a D nDp hd2 A2), Apart.mut nDp (K3.a D nDp hd2 A2)⟩
        · rcases List.mem_append.mp hc with hc | hc
          · exact hcs c hc
          · rw [List.mem_singleton.mp hc]; omega
        · rw [upd_same, List.map_append]
          rfl
    rintro H' ⟨cs, hcl, hcs, hd, K2, P2, A2⟩
    refine ⟨_, D, cs.map sg, rfl, rfl, .inl (sq_of (by rw [hd, List.map_map]; rfl)), ?_, ?_⟩
    · have h1 : (cs.map sg).map (·.length) = cs.map fun _ => 1 := by rw [List.map_map]; rfl
      have h2 : (cs.map fun _ => (1 : Nat)).sum = cs.length := by
        clear h1 hd hcs hcl
        induction cs with
        | nil => rfl
        | cons c r ih => rw [List.map_cons, List.sum_cons, ih, List.length_cons]; omega
      rw [h1, h2]
      show cs.length + (cs.map sg).length * 0 ≤ 16777216
      omega
    have hjn : (Txt.join "" (cs.map sg)).cps.toList = cs := by rw [show Txt.join "" (cs.map sg) = Str.join "" (cs.map sg) from StrLaws.glued_eq_join _ _]; exact join_sg cs
    generalize hzz : Txt.join "" (cs.map sg) = z at hjn ⊢
    have zl : z.length = cs.length := by rw [← hjn, Array.length_toList]; rfl
    have nz : IsNm z := ⟨by omega, by omega, fun c hc => hcs c (hjn ▸ hc)⟩
    have ha2 := K2.k a _ nap ha
    refine ⟨fun σ' H2 => ∃ y v5 v6, σ' = [some (.ref p), some (.ref a), some (.str abc), some (.int m), some (.str y), v5, v6] ∧ IsNm y ∧ y ∉ zs ∧ Kp p H H2 ∧ Pool H2 p, ?_, ?_⟩
    · refine ⟨_, rfl, _, rfl, a, _, rfl, .inl (sq_of ha2), rfl, flat_strs zs, _, rfl, ?_⟩
      show if (inV (.str z) (zs.map V.str)) = true then _ else _
      rw [inV_str]
      refine ite2 (fun hin => ?_) (fun hno => ⟨z, none, none, rfl, nz, fun z2 => hno (decide_eq_true z2), K2, P2⟩)
      refine ⟨_, rfl, abc, rfl, fun D2 hD2 => ?_⟩
      have lz : z.length ≤ sizeLine := Nat.le_trans nz.2.1 (by decide)
      have lc9 : ∀ c, (cutS z none (some 9)).length + (sg c).length ≤ sizeLine := fun c => by
        have h1 : (cutS z none (some 9)).length = ((cutS z none (some 9)).cps.toList).length := by rw [Array.length_toList]; rfl
        rw [cut9, List.length_take] at h1
        have h2 : (sg c).length = 1 := rfl
        exact Nat.le_trans (by omega : _ ≤ 10) (by decide)
      have mem : ∀ x ∈ chs abc, ∃ c, c ∈ abc.cps.toList ∧ V.str (sg c) = x := fun x hx => by
        unfold chs at hx
        exact List.mem_map.mp hx
      refine lc_ev (f := fun x => !decide (nx9 z x ∈ zs)) (v := fun x => .str (nx9 z x)) st_s (by rw [chs_len]; decide +kernel) (fun x => rfl) hD2 (fun x hx H3 e Q q => ?_) (fun x hx _ H3 e Q q => ?_) (fun H3 e3 hd3 => ?_)
      · obtain ⟨c, hc, rfl⟩ := mem x hx
        refine ⟨_, rfl, 9, rfl, z, rfl, lz, _, rfl, _, sg c, rfl, rfl, lc9 c, _, rfl, a, _, rfl, .inl (sq_of (e _ _ ha2)), rfl, flat_strs zs, _, rfl, ?_⟩
        show Q (!inV (.str (nx9 z (.str (sg c)))) (zs.map V.str)) H3
        rw [inV_str]
        exact q H3 (Ex.refl _)
      · obtain ⟨c, hc, rfl⟩ := mem x hx
        exact ⟨_, rfl, 9, rfl, z, rfl, lz, _, rfl, _, sg c, rfl, rfl, lc9 c, q H3 (Ex.refl _)⟩
      · obtain ⟨c, r, e, hc, hn⟩ := nx9_some z zs hz
        rw [e] at hd3
        refine .inl ⟨D2, _, 0, .str (nx9 z (.str (sg c))), rfl, rfl, sq_of hd3, (show atI _ ((0 : Nat) : Int) = _ from atI_nat rfl), ?_⟩
        exact ⟨_, _, _, rfl, nx9_nm nz (abc_mem hc), hn, K2.trans (Kp.ex e3 P2), P2.ex e3⟩
    · rintro σ' H2 ⟨y, v5, v6, rfl, ny, hy, K5, P5⟩
      exact ⟨_, rfl, k y H2 ny hy K5 P5⟩
abbrev s__law_names : Stmt := top 43
theorem sc__law_names : FnScope ["_law_pool_here", "_law_many", "_law_names_here", "_law_k"] ["_law_pool_here", "_law_many"] (defScope s__law_names) := ⟨rfl, rfl, rfl, by decide +kernel, rfl, by decide +kernel, by decide +kernel⟩
def spNames : Sp := fun vs H Q _ => ∃ (p : Addr) (m : Int), vs = [.ref p, .int m] ∧ Pool H p ∧ 0 ≤ m ∧ m ≤ 20 ∧ ∀ (a : Addr) (zs : List Str) (H' : Hp), zs.length = m.toNat → zs.Nodup → (∀ z ∈ zs, IsNm z) → Kp p H H' → Pool H' p → H a = none → a ≠ p → H' a = some (.lst (zs.map V.str)) → Q (.ref a) H'
theorem ok_names (G : Gz mg) (D : Df K mg "_law_names" s__law_names f fd ["_law_pool_here", "_law_many"]) (c__law_name : Callee P w K mg base CXn 2 "_law_name" 2 spName) : Callee P w K mg base CXn 3 "_law_names" 2 spNames := by
  refine D.callee (D.fn.ok sc__law_names (fun vs H Q E h => ?_) (fun cdv A outer s H vs Q E hr h => ⟨_, PSs.nox (pss_cons (ps_set (i := 2) sc__law_names.nd rfl (Or.inl rfl) (pe_lst pa_nil)) (pss_cons (ps_for PassesOwn.never rfl (pi_range1 rfl G.g_range (pa_cons (pv 1) pa_nil)) (pg_name (i := 3) sc__law_names.nd rfl (Or.inl rfl)) (pss_one (ps_expr (pe_bm PySem.F.plainAttrs_list PySem.F.slot_list_append PySem.F.type_list_append mt_append (pv 2) (pa_cons (pe_cl (E := En) c__law_name (hr.mono (by decide)) rfl passN (pa_cons (pv 0) (pa_cons (pv 2) pa_nil))) pa_nil))))) (pss_one (ps_ret (pv 2))))), ?_⟩))
  · obtain ⟨_, _, rfl, _⟩ := h
    rfl
  · obtain ⟨p, m, rfl, hP, m0, m20, k⟩ := h
    refine ⟨Nat.zero_le _, fun l hl => ?_⟩
    obtain ⟨nlp, al⟩ := Apart.new (o := .lst []) hP hl
    refine ⟨_, rfl, m, rfl, by omega, by omega, for_range (fun i σ' H' => (∃ v, σ' = [some (.ref p), some (.int m), some (.ref l), v]) ∧ ∃ zs : List Str, zs.length = i ∧ zs.Nodup ∧ (∀ z ∈ zs, IsNm z) ∧ H' l = some (.lst (zs.map V.str)) ∧ Kp p H H' ∧ Pool H' p ∧ Apart H' p l) ?_ ?_ ?_⟩
    · exact ⟨⟨none, rfl⟩, [], rfl, List.nodup_nil, fun z hz => (nomatch hz), upd_same, (Kp.refl p H).new hP hl, hP.ex (Ex.new hl), al⟩
    · rintro i σ' H' hi ⟨⟨v, rfl⟩, zs, hzl, nd, nm, hd, K1, P1, A1⟩
      refine ⟨_, rfl, .inl ⟨rfl, _, sq_of hd⟩, _, rfl, _, rfl, p, l, zs, rfl, P1, nlp, hd, by omega, fun z H2 nz hz K2 P2 => ?_⟩
      have hd2 := K2.k l _ nlp hd
      have A2 := K2.a l nlp (some_ne hd) A1
      refine ⟨l, _, _, rfl, rfl, hd2, ?_, ⟨_, rfl⟩, zs ++ [z], by rw [List.length_append, hzl]; rfl, ?_, ?_, ?_, (K1.trans K2).mut hl nlp, P2.mut nlp A2, Apart.mut nlp A2⟩
      · rw [List.length_map]
        exact sz_lt (by omega)
      · rw [List.nodup_append]
        refine ⟨nd, by simp, fun x hx y hy => ?_⟩
        rw [List.mem_singleton.mp hy]
        exact fun e => hz (e ▸ hx)
      · intro x hx
        rcases List.mem_append.mp hx with hx | hx
        · exact nm x hx
        · rw [List.mem_singleton.mp hx]; exact nz
      · rw [upd_same, List.map_append]
        rfl
    · rintro σ' H' ⟨⟨v, rfl⟩, zs, hzl, nd, nm, hd, K1, P1, A1⟩
      exact ⟨_, rfl, k l zs H' hzl nd nm K1 P1 hl nlp hd⟩
end
end WK

set_option Elab.async false
set_option linter.all false
set_option maxRecDepth 100000
set_option maxHeartbeats 4000000
/-! Triples (number, text, number) as data. -/
namespace WW
open PySem PySem.Spec PyProof.Rows L2
/-- a step: from, word, to -/
abbrev Stp := Int × Str × Int
def encS (t : Stp) : PyData := .tuple [.int t.1, .str t.2.1, .int t.2.2]
def OkS (z : Stp) : Prop := PyData.strOk z.2.1 = true
theorem encS_lay {z : Stp} (h : OkS z) : (encS z).canLay0 = true := by
  have h : PyData.strOk z.2.1 = true := h
  simp [encS, PyData.canLay0, PyData.canLayAll0, h]
theorem encS_depth (z : Stp) : (encS z).depth ≤ 2 := by simp [encS, PyData.depth, PyData.depthAll]
theorem encSs_lay : ∀ zs : List Stp, (∀ z ∈ zs, OkS z) → PyData.canLayAll0 (zs.map encS) = true
  | [], _ => by simp [PyData.canLayAll0]
  | z :: zs, h => by
    have h1 := encS_lay (h z List.mem_cons_self)
    have h2 := encSs_lay zs fun y hy => h y (List.mem_cons_of_mem _ hy)
    simp only [List.map_cons, PyData.canLayAll0]
    rw [h1, h2]
    rfl
theorem encSs_depth : ∀ zs : List Stp, PyData.depthAll (zs.map encS) ≤ 2
  | [] => by simp [PyData.depthAll]
  | z :: zs => by
    have h1 := encSs_depth zs
    have h2 := encS_depth z
    simp only [List.map_cons, PyData.depthAll]
    omega
theorem encS_shaped {z : Stp} (h0 : OkS z) : SeqAt.shaped (encS z) = true := by
  have h := encS_depth z
  show ((encS z).canLay0 && decide ((encS z).depth ≤ 64)) = true
  rw [Bool.and_eq_true]
  exact ⟨encS_lay h0, decide_eq_true (by omega)⟩
theorem encSs_shaped {zs : List Stp} (h0 : ∀ z ∈ zs, OkS z) : SeqAt.shaped (.list (zs.map encS)) = true := by
  have h1 := encSs_depth zs
  have h2 : PyData.depth (.list (zs.map encS)) ≤ 64 := by
    simp only [PyData.depth]
    omega
  show (PyData.canLay0 (.list (zs.map encS)) && decide (PyData.depth (.list (zs.map encS)) ≤ 64)) = true
  rw [Bool.and_eq_true]
  exact ⟨by simp only [PyData.canLay0]; exact encSs_lay zs h0, decide_eq_true h2⟩
theorem encSs_shapedT {zs : List Stp} (h0 : ∀ z ∈ zs, OkS z) : SeqAt.shaped (.tuple (zs.map encS)) = true := by
  have h1 := encSs_depth zs
  have h2 : PyData.depth (.tuple (zs.map encS)) ≤ 64 := by
    simp only [PyData.depth]
    omega
  show (PyData.canLay0 (.tuple (zs.map encS)) && decide (PyData.depth (.tuple (zs.map encS)) ≤ 64)) = true
  rw [Bool.and_eq_true]
  exact ⟨by simp only [PyData.canLay0]; exact encSs_lay zs h0, decide_eq_true h2⟩
theorem encS_eqv (z w : Stp) : PyData.eqv (encS z) (encS w) = decide (z = w) := by
  obtain ⟨a, b, c⟩ := z
  obtain ⟨a', b', c'⟩ := w
  have e : PyData.eqv (encS (a, b, c)) (encS (a', b', c')) = ((a == a') && ((b == b') && ((c == c') && true))) := by simp only [encS, PyData.eqv, PyData.eqvAll]
  rw [e, Bool.eq_iff_iff]
  simp
theorem encSs_eqvAll : ∀ (zs ws : List Stp), PyData.eqvAll (zs.map encS) (ws.map encS) = decide (zs = ws)
  | [], [] => by simp [PyData.eqvAll]
  | [], _ :: _ => by simp [PyData.eqvAll]
  | _ :: _, [] => by simp [PyData.eqvAll]
  | z :: zs, w :: ws => by
    rw [List.map_cons, List.map_cons]
    simp only [PyData.eqvAll]
    rw [encS_eqv, encSs_eqvAll zs ws, Bool.eq_iff_iff]
    simp
theorem encSs_eqv (zs ws : List Stp) : PyData.eqv (.list (zs.map encS)) (.list (ws.map encS)) = decide (zs = ws) := by
  simp only [PyData.eqv]
  exact encSs_eqvAll zs ws
theorem encSs_eqvT (zs ws : List Stp) : PyData.eqv (.tuple (zs.map encS)) (.tuple (ws.map encS)) = decide (zs = ws) := by
  simp only [PyData.eqv]
  exact encSs_eqvAll zs ws
theorem encSs_any (zs : List Stp) (z : Stp) : ((zs.map encS).any fun y => PyData.eqv y (encS z)) = decide (z ∈ zs) := by
  rw [List.any_map, Bool.eq_iff_iff, List.any_eq_true]
  constructor
  · rintro ⟨w, hw, e⟩
    have e2 := encS_eqv w z
    rw [show PyData.eqv (encS w) (encS z) = true from e] at e2
    rw [← of_decide_eq_true e2.symm]
    exact decide_eq_true hw
  · intro h
    refine ⟨z, of_decide_eq_true h, ?_⟩
    show PyData.eqv (encS z) (encS z) = true
    rw [encS_eqv]
    exact decide_eq_true rfl
theorem encS_alike (z w : Stp) : PySem.W.alike (encS z) (encS w) = true := by simp [encS, PySem.W.alike, PySem.W.alikeAll]
theorem encS_sortable (zs : List Stp) : PySem.W.Sortable (zs.map encS) := PySem.W.Sortable.tuples fun _ => ⟨_, _, rfl⟩
theorem encS_keys {z w : Stp} (h : PySem.W.keyToks (encS z) = PySem.W.keyToks (encS w)) : z = w := by
  obtain ⟨a, b, c⟩ := z
  obtain ⟨a', b', c'⟩ := w
  simp [encS, PySem.W.keyToks, PySem.W.keyToksAll] at h
  obtain ⟨h1, h2, h3⟩ := h
  have hb : b = b' := by
    cases b; cases b'
    first | exact congrArg Str.mk (Array.ext' h2) | exact congrArg Str.mk h2
  rw [h1, hb, h3]
abbrev leT : Stp → Stp → Bool := PySem.W.dataLe false encS
theorem leT_anti (a b : Stp) (h1 : leT a b = true) (h2 : leT b a = true) : a = b := by
  refine encS_keys ?_
  have e1 : (listOrd itemOrd).blt (PySem.W.keyToks (encS b)) (PySem.W.keyToks (encS a)) = false := by simpa [leT, PySem.W.dataLe, PySem.W.sortLe] using h1
  have e2 : (listOrd itemOrd).blt (PySem.W.keyToks (encS a)) (PySem.W.keyToks (encS b)) = false := by simpa [leT, PySem.W.dataLe, PySem.W.sortLe] using h2
  exact (listOrd itemOrd).total _ _ e2 e1
def sortT (ts : List Stp) : List Stp := ts.mergeSort leT
theorem sortT_perm (ts : List Stp) : (sortT ts).Perm ts := List.mergeSort_perm ts leT
theorem sortT_sorted (ts : List Stp) : (sortT ts).Pairwise (fun a b => leT a b = true) := List.pairwise_mergeSort (PySem.W.sortLe_total _ _ _).trans (fun a b => Bool.or_eq_true_iff.mpr ((PySem.W.sortLe_total _ _ _).total a b)) ts
theorem sortT_congr {ks ls : List Stp} (p : ks.Perm ls) : sortT ks = sortT ls :=
  List.Perm.eq_of_pairwise (fun a b _ _ => leT_anti a b) (sortT_sorted ks) (sortT_sorted ls) (((sortT_perm ks).trans p).trans (sortT_perm ls).symm)
theorem sortT_len (ts : List Stp) : (sortT ts).length = ts.length := (sortT_perm ts).length_eq
end WW

set_option Elab.async false
set_option linter.all false
set_option maxRecDepth 100000
set_option maxHeartbeats 4000000
namespace WK
open PySem PySem.Spec PyProof.Rows L2 WW Evl
def StepAt (H : Hp) (v : V) (t : Stp) : Prop := ∃ a, v = .ref a ∧ H a = some (.tup [.int t.1, .str t.2.1, .int t.2.2])
def Rw (H : Hp) (xs : List V) (ts : List Stp) : Prop := Paired (StepAt H) xs ts
def GoodStep (t : Stp) : Prop := 0 ≤ t.1 ∧ t.1 ≤ 99 ∧ IsNm t.2.1 ∧ 0 ≤ t.2.2 ∧ t.2.2 ≤ 99
/-- the steps before it that begin where it does -/
def cnt (t : Stp) (ts : List Stp) : Nat := (ts.filter fun u => u.1 == t.1).length
theorem ok_of_nm {z : Str} (h : IsNm z) : PyData.strOk z = true := by
  unfold PyData.strOk
  rw [Array.all_eq_true_iff_forall_mem]
  intro c hc
  have := h.2.2 c (by simpa using hc)
  exact decide_eq_true (by omega)
theorem GoodStep.ok {t : Stp} (h : GoodStep t) : OkS t := ok_of_nm h.2.2.1
structure GoodRow (ts : List Stp) : Prop where
  least : 1 ≤ ts.length
  most : ts.length ≤ 20
  good : ∀ t ∈ ts, GoodStep t
  nd : ts.Nodup
  few : ∀ t ∈ ts, cnt t ts ≤ 3
theorem Rw.ex {H H' : Hp} {xs : List V} {ts : List Stp} (e : Ex H H') (h : Rw H xs ts) : Rw H' xs ts := Paired.mapP h fun v t ⟨a, e1, e2⟩ => ⟨a, e1, e _ _ e2⟩
theorem Rw.len {H : Hp} {xs : List V} {ts : List Stp} (h : Rw H xs ts) : xs.length = ts.length := Paired.length h
theorem Rw.at {H : Hp} : ∀ {xs : List V} {ts : List Stp} {i : Nat} {x : V}, Rw H xs ts → xs[i]? = some x → ∃ t, ts[i]? = some t ∧ StepAt H x t
  | _, _, i, _, .nil, e => by simp at e
  | _, _, 0, _, .cons g _, e => by simp at e; subst e; exact ⟨_, rfl, g⟩
  | _, _, i + 1, _, .cons _ r, e => by simpa using Rw.at r (by simpa using e)
theorem Rw.take {H : Hp} : ∀ {xs : List V} {ts : List Stp} (n : Nat), Rw H xs ts → Rw H (xs.take n) (ts.take n)
  | _, _, 0, _ => by simp; exact .nil
  | _, _, n + 1, .nil => by simp; exact .nil
  | _, _, n + 1, .cons g r => by simp only [List.take_succ_cons]; exact .cons g (Rw.take n r)
theorem StepAt.dp {K : PySem.W.Frag} {H : Hp} {v : V} {t : Stp} (h : StepAt H v t) : Dp K H v (encS t) := by
  obtain ⟨a, rfl, ha⟩ := h
  exact .tup (st_of ha) (.cons (.int _) (.cons (.str _) (.cons (.int _) .nil)))
theorem Rw.dps {K : PySem.W.Frag} {H : Hp} : ∀ {xs : List V} {ts : List Stp}, Rw H xs ts → DpAll K H xs (ts.map encS)
  | _, _, .nil => .nil
  | _, _, .cons g r => .cons g.dp (Rw.dps r)
/-- the value begins at the state i -/
def hit (H : Hp) (i : Int) : V → Bool
  | .ref b => (match H b with
    | some (.tup (.int j :: _)) => j == i
    | _ => false)
  | _ => false
theorem hit_at {H : Hp} {v : V} {t : Stp} {i : Int} (h : StepAt H v t) : hit H i v = (t.1 == i) := by
  obtain ⟨a, rfl, ha⟩ := h
  show (match H a with
    | some (.tup (.int j :: _)) => j == i
    | _ => false) = (t.1 == i)
  rw [ha]
theorem hit_len {H : Hp} {i : Int} : ∀ {xs : List V} {ts : List Stp}, Rw H xs ts → (xs.filter (hit H i)).length = (ts.filter fun u => u.1 == i).length
  | _, _, .nil => rfl
  | _, _, .cons (a := x) (b := t) g r => by
    rw [List.filter_cons, List.filter_cons, hit_at g]
    have ih := hit_len (i := i) r
    cases t.1 == i <;> simp [ih]
/-- t in that row -/
theorem in_go {K : PySem.W.Frag} {H : Hp} {p : Addr} {ys : List V} {us : List Stp} {x : V} {t : Stp} {Q : VK} (hx : StepAt H x t) (hp : SqX H p ys) (hy : Rw H ys us) (ho : ∀ z ∈ us, OkS z) (ht : OkS t) (q : Q (.bl (decide (t ∈ us))) H) : rInD K x (.ref p) H Q ∨ rInDT K x (.ref p) H Q := by
  rcases hp with hp | hp
  · exact .inl ⟨encS t, us.map encS, hx.dp, .lst (sq_of hp) hy.dps, encS_shaped ht, encSs_shaped ho, by rw [encSs_any]; exact q⟩
  · exact .inr ⟨encS t, us.map encS, hx.dp, .tup (st_of hp) hy.dps, encS_shaped ht, encSs_shapedT ho, by rw [encSs_any]; exact q⟩
theorem nd_take {ts : List Stp} {i : Nat} {t : Stp} (nd : ts.Nodup) (h : ts[i]? = some t) : t ∉ ts.take i := fun m => by
  obtain ⟨j, hj⟩ := List.getElem?_of_mem m
  have hj2 : j < i ∧ ts[j]? = some t := by
    rw [List.getElem?_take] at hj
    split at hj
    · exact ⟨by assumption, hj⟩
    · cases hj
  have hi := (List.getElem?_eq_some_iff.mp h)
  have hjj := (List.getElem?_eq_some_iff.mp hj2.2)
  obtain ⟨l1, e1⟩ := hi
  obtain ⟨l2, e2⟩ := hjj
  have := (List.getElem_inj nd (h₀ := l1) (h₁ := l2)).mp (e1.trans e2.symm)
  omega
theorem cnt_take {ts : List Stp} {i : Nat} {t : Stp} (h : ts[i]? = some t) : cnt t (ts.take i) + 1 ≤ cnt t ts := by
  have e : ts = ts.take i ++ t :: ts.drop (i + 1) := by
    obtain ⟨l1, e1⟩ := List.getElem?_eq_some_iff.mp h
    rw [← e1, List.getElem_cons_drop, List.take_append_drop]
  unfold cnt
  conv => rhs; rw [e]
  rw [List.filter_append, List.length_append, List.filter_cons]
  simp
/-- the word of a step -/
def wd (H : Hp) : V → Str
  | .ref b => (match H b with
    | some (.tup (_ :: .str z :: _)) => z
    | _ => Str.empty)
  | _ => Str.empty
theorem wd_at {H : Hp} {v : V} {t : Stp} (h : StepAt H v t) : wd H v = t.2.1 := by
  obtain ⟨a, rfl, ha⟩ := h
  show (match H a with
    | some (.tup (_ :: .str z :: _)) => z
    | _ => Str.empty) = t.2.1
  rw [ha]
theorem wd_map {H : Hp} : ∀ {xs : List V} {ts : List Stp}, Rw H xs ts → xs.map (wd H) = ts.map (·.2.1)
  | _, _, .nil => rfl
  | _, _, .cons g r => by rw [List.map_cons, List.map_cons, wd_at g, wd_map r]
/-- what a drawn hand keeps -/
structure Drawn (ws : List Str) (st : Int) (ts : List Stp) : Prop where
  row : GoodRow ts
  st0 : 0 ≤ st ∧ st ≤ 96
  low : ∀ t ∈ ts, t.1 ≤ 96 ∧ t.2.2 ≤ 96
  short : ts.length ≤ 12
  word : ∀ t ∈ ts, t.2.1 ∈ ws
/-- tuples stay -/
def Tu (H H' : Hp) : Prop := ∀ b ys, H b = some (.tup ys) → H' b = some (.tup ys)
theorem Tu.trans {H H1 H2 : Hp} (a : Tu H H1) (b : Tu H1 H2) : Tu H H2 := fun c ys h => b c ys (a c ys h)
theorem Tu.ex {H H' : Hp} (e : Ex H H') : Tu H H' := fun b ys h => e _ _ h
theorem Tu.lst {H : Hp} {l : Addr} {xs : List V} {o : HO} (h : H l = some (.lst xs)) : Tu H (upd H l o) := fun b ys hb => by
  rw [upd_ne (fun z => by rw [z, h] at hb; cases hb)]
  exact hb
theorem Kp.tu {p : Addr} {H H' : Hp} (hP : Pool H p) (k : Kp p H H') : Tu H H' := fun b ys hb => by
  obtain ⟨g, s, n, kk, gs, ss, h1, _⟩ := hP
  exact k.k b _ (fun z => by rw [z, h1] at hb; cases hb) hb
theorem Rw.tu {H H' : Hp} {xs : List V} {ts : List Stp} (e : Tu H H') (h : Rw H xs ts) : Rw H' xs ts := Paired.mapP h fun v t ⟨a, e1, e2⟩ => ⟨a, e1, e _ _ e2⟩
theorem StepAt.tu {H H' : Hp} {v : V} {t : Stp} (e : Tu H H') (h : StepAt H v t) : StepAt H' v t := let ⟨a, e1, e2⟩ := h; ⟨a, e1, e _ _ e2⟩
theorem Rw.snoc {H : Hp} {x : V} {t : Stp} (hx : StepAt H x t) : ∀ {xs : List V} {ts : List Stp}, Rw H xs ts → Rw H (xs ++ [x]) (ts ++ [t])
  | _, _, .nil => .cons hx .nil
  | _, _, .cons g r => .cons g (Rw.snoc hx r)
theorem Rw.app {H : Hp} : ∀ {xs ys : List V} {ts us : List Stp}, Rw H xs ts → Rw H ys us → Rw H (xs ++ ys) (ts ++ us)
  | _, _, _, _, .nil, r => r
  | _, _, _, _, .cons g r, q => .cons g (Rw.app r q)
theorem Rw.drop {H : Hp} : ∀ {xs : List V} {ts : List Stp} (n : Nat), Rw H xs ts → Rw H (xs.drop n) (ts.drop n)
  | _, _, 0, h => h
  | _, _, n + 1, .nil => by simp; exact .nil
  | _, _, n + 1, .cons _ r => by simpa using Rw.drop n r
/-- steps over low states and these words -/
structure Row96 (zs : List Str) (ts : List Stp) : Prop where
  good : ∀ t ∈ ts, (0 ≤ t.1 ∧ t.1 ≤ 96) ∧ t.2.1 ∈ zs ∧ (0 ≤ t.2.2 ∧ t.2.2 ≤ 96)
  nd : ts.Nodup
  few : ∀ t ∈ ts, cnt t ts ≤ 3
theorem cnt_app (u : Stp) (ts us : List Stp) : cnt u (ts ++ us) = cnt u ts + cnt u us := by
  unfold cnt
  rw [List.filter_append, List.length_append]
theorem cnt_one (u t : Stp) : cnt u [t] = if t.1 = u.1 then 1 else 0 := by
  unfold cnt
  by_cases h : t.1 = u.1
  · simp [h]
  · simp [h]
theorem cnt_same {u t : Stp} (h : u.1 = t.1) (ts : List Stp) : cnt u ts = cnt t ts := by
  unfold cnt
  rw [h]
theorem Row96.nil (zs : List Str) : Row96 zs [] := ⟨fun _ h => (nomatch h), List.nodup_nil, fun _ h => (nomatch h)⟩
theorem Row96.add {zs : List Str} {ts : List Stp} {t : Stp} (h : Row96 zs ts) (ht : (0 ≤ t.1 ∧ t.1 ≤ 96) ∧ t.2.1 ∈ zs ∧ (0 ≤ t.2.2 ∧ t.2.2 ≤ 96)) (hn : t ∉ ts) (hc : cnt t ts < 3) : Row96 zs (ts ++ [t]) where
  good := fun u hu => by
    rcases List.mem_append.mp hu with hu | hu
    · exact h.good u hu
    · rw [List.mem_singleton.mp hu]; exact ht
  nd := by
    rw [List.nodup_append]
    refine ⟨h.nd, by simp, fun x hx y hy => ?_⟩
    rw [List.mem_singleton.mp hy]
    exact fun e => hn (e ▸ hx)
  few := fun u hu => by
    rw [cnt_app, cnt_one]
    by_cases e : t.1 = u.1
    · rw [if_pos e, cnt_same e.symm]
      omega
    · rw [if_neg e]
      rcases List.mem_append.mp hu with hu | hu
      · exact h.few u hu
      · exact absurd (by rw [List.mem_singleton.mp hu]) e
theorem Row96.row {zs : List Str} {ts : List Stp} (h : Row96 zs ts) (hz : ∀ z ∈ zs, IsNm z) (h1 : ts ≠ []) (h2 : ts.length ≤ 20) : GoodRow ts :=
  ⟨List.length_pos_iff.mpr h1, h2, fun t ht => let ⟨⟨a, b⟩, c, d, e⟩ := h.good t ht; ⟨a, by omega, hz _ c, d, by omega⟩, h.nd, h.few⟩
section
variable {P : Program} {w : World} {K : PySem.W.Frag} {mg : Str → Option Value} {base : Heap} {f : Addr} {fd : FuncData}
/-- the row of steps at sl while it is filled; B: what stood before -/
def HI (p sl : Addr) (B H : Hp) (zs : List Str) (xs : List V) (ts : List Stp) : Prop := H sl = some (.lst xs) ∧ Rw H xs ts ∧ Row96 zs ts ∧ Kp p B H ∧ Pool H p ∧ Apart H p sl
theorem HI.draw {p sl : Addr} {B H H2 : Hp} {zs : List Str} {xs : List V} {ts : List Stp} (h : HI p sl B H zs xs ts) (n : sl ≠ p) (K : Kp p H H2) (P : Pool H2 p) : HI p sl B H2 zs xs ts :=
  ⟨K.k sl _ n h.1, h.2.1.tu (K.tu h.2.2.2.2.1), h.2.2.1, h.2.2.2.1.trans K, P, K.a sl n (some_ne h.1) h.2.2.2.2.2⟩
theorem HI.ex {p sl : Addr} {B H H2 : Hp} {zs : List Str} {xs : List V} {ts : List Stp} (h : HI p sl B H zs xs ts) (n : sl ≠ p) (e : Ex H H2) : HI p sl B H2 zs xs ts := h.draw n (Kp.ex e h.2.2.2.2.1) (h.2.2.2.2.1.ex e)
theorem HI.add {p sl : Addr} {B H : Hp} {zs : List Str} {xs : List V} {ts : List Stp} {x : V} {t : Stp} (h : HI p sl B H zs xs ts) (n : sl ≠ p) (hb : B sl = none) (hx : StepAt H x t) (r : Row96 zs (ts ++ [t])) : HI p sl B (upd H sl (.lst (xs ++ [x]))) zs (xs ++ [x]) (ts ++ [t]) :=
  ⟨upd_same, (h.2.1.snoc hx).tu (Tu.lst h.1), r, h.2.2.2.1.mut hb n, h.2.2.2.2.1.mut n h.2.2.2.2.2, Apart.mut n h.2.2.2.2.2⟩
abbrev s__law_hand : Stmt := top 44
theorem sc__law_hand : FnScope ["_law_pool_here", "_law_words_here", "_law_most", "_law_shape", "_law_first", "_law_gap", "_law_many", "_law_places", "_law_k", "_law_turn", "_law_orderly", "_law_steps", "_law_word", "_law_more_here", "_law_step", "_law_old"] ["_law_pool_here", "_law_words_here", "_law_most"] (defScope s__law_hand) := ⟨rfl, rfl, rfl, by decide +kernel, rfl, by decide +kernel, by decide +kernel⟩
def spHand : Sp := fun vs H Q _ => ∃ (p a : Addr) (zs : List Str) (m : Int), vs = [.ref p, .ref a, .int m] ∧ Pool H p ∧ a ≠ p ∧ H a = some (.lst (zs.map V.str)) ∧ zs ≠ [] ∧ zs.length ≤ 20 ∧ (∀ z ∈ zs, IsNm z) ∧ 1 ≤ m ∧ m ≤ 4 ∧
  ∀ q t xs st ts H', Drawn zs st ts → Kp p H H' → Pool H' p → H' q = some (.tup [.int st, .ref t]) → H' t = some (.tup xs) → Rw H' xs ts → Q (.ref q) H'
theorem ok_hand (G : Gz mg) (D : Df K mg "_law_hand" s__law_hand f fd ["_law_pool_here", "_law_words_here", "_law_most"]) (c__law_draw : Callee P w K mg base CXn 1 "_law_draw" 2 spDraw) (c__law_pick : Callee P w K mg base CXn 2 "_law_pick" 2 spPick) : Callee P w K mg base CXn 3 "_law_hand" 3 spHand := by
  refine D.callee (D.fn.ok sc__law_hand (fun vs H Q E h => ?_) (fun cdv A outer s H vs Q E hr h => ⟨_, PSs.nox (pss_cons (ps_asg (pe_tup (pa_cons (pe_cl (E := En) c__law_draw (hr.mono (by decide)) rfl passN (pa_cons (pv 0) (pa_cons pe_int pa_nil))) (pa_cons (pe_cl (E := En) c__law_draw (hr.mono (by decide)) rfl passN (pa_cons (pv 0) (pa_cons pe_int pa_nil))) (pa_cons (pe_op op_add pe_int (pe_cl (E := En) c__law_draw (hr.mono (by decide)) rfl passN (pa_cons (pv 0) (pa_cons pe_int pa_nil)))) pa_nil)))) (pg_tup rfl (pgs_cons (pg_name (i := 3) sc__law_hand.nd rfl (Or.inl rfl)) (pgs_cons (pg_name (i := 4) sc__law_hand.nd rfl (Or.inr rfl)) (pgs_cons (pg_name (i := 5) sc__law_hand.nd rfl (Or.inr rfl)) pgs_nil))))) (pss_cons (ps_set (i := 6) sc__law_hand.nd rfl (Or.inl rfl) (pe_op op_sub (pv 2) (pe_op op_mul (pe_cl (E := En) c__law_draw (hr.mono (by decide)) rfl passN (pa_cons (pv 0) (pa_cons (pv 2) pa_nil))) (pe_callTy call_int1 rfl G.g_int (by rfl) (pa_cons (pe_cmpR op_eq (pe_cl (E := En) c__law_draw (hr.mono (by decide)) rfl passN (pa_cons (pv 0) (pa_cons pe_int pa_nil))) pe_int (nomark _)) pa_nil))))) (pss_cons (ps_setLc (i := 7) (y := "_law_places") (own := [("_law_k", 8)]) rfl sc__law_hand.nd rfl rfl rfl (pi_range1 rfl G.g_range (pa_cons (pv 6) pa_nil)) (BlkOk.mk (N := ["_law_pool_here", "_law_words_here", "_law_most", "_law_shape", "_law_first", "_law_gap", "_law_many", "_law_places", "_law_k", "_law_turn", "_law_orderly", "_law_steps", "_law_word", "_law_more_here", "_law_step", "_law_old"]) (sc := defScope s__law_hand) rfl (by decide +kernel) (by decide +kernel) (by decide +kernel) (by decide +kernel)) (fun _ _ _ _ _ => (pg_name (i := 8) sc__law_hand.nd rfl (Or.inl rfl))) (fun _ _ _ _ _ => pts_nil) (fun _ _ _ _ _ => (pe_op op_add (pv 4) (pe_op op_mul (pv 5) (pv 8))))) (pss_cons (ps_par (i := 9) (j := 10) rfl sc__law_hand.nd rfl rfl (by decide) rfl rfl (pa_cons (pe_cl (E := En) c__law_draw (hr.mono (by decide)) rfl passN (pa_cons (pv 0) (pa_cons (pe_callB (lenK (K := K) rfl) rfl G.g_len PySem.boot_len (pa_cons (pv 1) pa_nil)) pa_nil))) (pa_cons (pe_cmpR op_gt (pe_cl (E := En) c__law_draw (hr.mono (by decide)) rfl passN (pa_cons (pv 0) (pa_cons pe_int pa_nil))) pe_int (nomark _)) pa_nil)) rfl) (pss_cons (ps_set (i := 11) sc__law_hand.nd rfl (Or.inl rfl) (pe_lst pa_nil)) (pss_cons (ps_for PassesOwn.never rfl (pi_range1 rfl G.g_range (pa_cons (pe_op op_mul (pe_op op_sub (pv 6) (pe_callTy call_int1 rfl G.g_int (by rfl) (pa_cons (pe_cmpR op_gt (pv 3) pe_int (nomark _)) pa_nil))) (pe_callTy call_int1 rfl G.g_int (by rfl) (pa_cons (pe_cmpR op_gt (pv 3) pe_int (nomark _)) pa_nil))) pa_nil)) (pg_name (i := 8) sc__law_hand.nd rfl (Or.inl rfl)) (pss_cut (ps_set (i := 12) sc__law_hand.nd rfl (Or.inl rfl) (pe_ifExp (pt_val (pv 10)) (pe_ix (ixK (K := K) rfl) (pv 1) (pe_op op_mod (pe_callTy call_int1 rfl G.g_int (by rfl) (pa_cons (pe_op op_add (pv 9) (pv 8)) pa_nil)) (pe_callB (lenK (K := K) rfl) rfl G.g_len PySem.boot_len (pa_cons (pv 1) pa_nil))) (fun _ _ => rfl)) (pe_cl (E := En) c__law_pick (hr.mono (by decide)) rfl passN (pa_cons (pv 0) (pa_cons (pv 1) pa_nil))))) (pss_one (ps_expr (pe_bm PySem.F.plainAttrs_list PySem.F.slot_list_append PySem.F.type_list_append mt_append (pv 11) (pa_cons (pe_tup (pa_cons (pe_ix (ixK (K := K) rfl) (pv 7) (pv 8) (fun _ _ => rfl)) (pa_cons (pv 12) (pa_cons (pe_ix (ixK (K := K) rfl) (pv 7) (pe_op op_mod (pe_callTy call_int1 rfl G.g_int (by rfl) (pa_cons (pe_op op_add (pv 8) pe_int) pa_nil)) (pv 6)) (fun _ _ => rfl)) pa_nil)))) pa_nil)))))) (pss_cut (ps_set (i := 13) sc__law_hand.nd rfl (Or.inl rfl) (pe_op op_mul (pe_cl (E := En) c__law_draw (hr.mono (by decide)) rfl passN (pa_cons (pv 0) (pa_cons pe_int pa_nil))) (pe_callTy call_int1 rfl G.g_int (by rfl) (pa_cons (L2.pe_or (pe_not (pv 10)) (pe_one (pe_cmpR op_eq (pe_cl (E := En) c__law_draw (hr.mono (by decide)) rfl passN (pa_cons (pv 0) (pa_cons pe_int pa_nil))) pe_int (nomark _)))) pa_nil)))) (pss_cons (ps_for PassesOwn.never rfl (pi_range1 rfl G.g_range (pa_cons (pe_op op_add (pv 13) (pe_callTy call_int1 rfl G.g_int (by rfl) (pa_cons (pe_cmpR op_eq (pe_callB (lenK (K := K) rfl) rfl G.g_len PySem.boot_len (pa_cons (pv 11) pa_nil)) pe_int (nomark _)) pa_nil))) pa_nil)) (pg_name (i := 8) sc__law_hand.nd rfl (Or.inl rfl)) (pss_cons (ps_set (i := 14) sc__law_hand.nd rfl (Or.inr rfl) (pe_tup (pa_cons (pe_cl (E := En) c__law_pick (hr.mono (by decide)) rfl passN (pa_cons (pv 0) (pa_cons (pv 7) pa_nil))) (pa_cons (pe_cl (E := En) c__law_pick (hr.mono (by decide)) rfl passN (pa_cons (pv 0) (pa_cons (pv 1) pa_nil))) (pa_cons (pe_cl (E := En) c__law_pick (hr.mono (by decide)) rfl passN (pa_cons (pv 0) (pa_cons (pv 7) pa_nil))) pa_nil))))) (pss_one (ps_if (PW.pt (pw_and (pt_cmpR (op_notInD (room65 hr)) (pv 14) (pv 11) (by rfl)) (pw_and1 (pt_cmpR op_lt (pe_callB (lenK (K := K) rfl) rfl G.g_len PySem.boot_len (pa_cons (pe_lc (own := [("_law_old", 15)]) rfl sc__law_hand.nd (pi_list (pv 11)) (BlkOk.mk (N := ["_law_pool_here", "_law_words_here", "_law_most", "_law_shape", "_law_first", "_law_gap", "_law_many", "_law_places", "_law_k", "_law_turn", "_law_orderly", "_law_steps", "_law_word", "_law_more_here", "_law_step", "_law_old"]) (sc := defScope s__law_hand) rfl (by decide +kernel) (by decide +kernel) (by decide +kernel) (by decide +kernel)) (fun _ _ _ _ _ => (pg_name (i := 15) sc__law_hand.nd rfl (Or.inl rfl))) (fun _ _ _ _ _ => (pts_one (pt_cmpR op_eq (pe_ix (ixK (K := K) rfl) (pv 15) pe_int (fun _ _ => rfl)) (pe_ix (ixK (K := K) rfl) (pv 14) pe_int (fun _ _ => rfl)) (nomark _)))) (fun _ _ _ _ _ => pe_int)) pa_nil)) pe_int (nomark _))))) (pss_one (ps_expr (pe_bm PySem.F.plainAttrs_list PySem.F.slot_list_append PySem.F.type_list_append mt_append (pv 11) (pa_cons (pv 14) pa_nil)))) pss_nil)))) (pss_one (ps_ret (pe_tup (pa_cons (pe_ix (ixK (K := K) rfl) (pe_lst (pa_cons (pe_ix (ixK (K := K) rfl) (pe_ix (ixK (K := K) rfl) (pv 11) pe_int (fun _ _ => rfl)) pe_int (fun _ _ => rfl)) (pa_cons (pe_cl (E := En) c__law_pick (hr.mono (by decide)) rfl passN (pa_cons (pv 0) (pa_cons (pv 7) pa_nil))) pa_nil))) (pe_cl (E := En) c__law_draw (hr.mono (by decide)) rfl passN (pa_cons (pv 0) (pa_cons pe_int pa_nil))) (fun _ _ => rfl)) (pa_cons (pe_callTy (tupOfK (K := K) rfl) rfl G.g_tuple (by rfl) (pa_cons (pv 11) pa_nil)) pa_nil))))))))))))), ?_⟩))
  · obtain ⟨_, _, _, _, rfl, _⟩ := h
    rfl
  · obtain ⟨p, a, zs, m, rfl, hP, nap, ha, zne, zl, znm, m1, m4, k⟩ := h
    have zpos : 0 < zs.length := List.length_pos_iff.mpr zne
    refine ⟨_, rfl, p, 6, rfl, hP, by decide, by decide, fun sh H1 s0 s1 K1 P1 => ⟨_, rfl, p, 70, rfl, P1, by decide, by decide, fun fi H2 f0 f1 K2 P2 => ⟨_, rfl, p, 9, rfl, P2, by decide, by decide, fun ga H3 g0 g1 K3 P3 => ⟨1, ga, rfl, rfl, (by show 3 ≤ sizeLine; decide), fun T hT => ?_⟩⟩⟩⟩
    refine ⟨T, _, rfl, st_of upd_same, rfl, _, _, rfl, _, _, rfl, _, _, rfl, rfl, ?_⟩
    have K4 := (K1.trans (K2.trans K3)).new (o := .tup [.int sh, .int fi, .int (1 + ga)]) P3 hT
    have P4 := P3.ex (Ex.new (o := .tup [.int sh, .int fi, .int (1 + ga)]) hT)
    generalize upd H3 T (.tup [.int sh, .int fi, .int (1 + ga)]) = H4 at K4 P4
    -- many
    refine ⟨_, rfl, _, rfl, _, rfl, p, m, rfl, P4, by omega, by omega, fun d H5 d0 d1 K5 P5 => ⟨_, rfl, p, 5, rfl, P5, by decide, by decide, fun e H6 e0 e1 K6 P6 => ⟨rfl, .inr ⟨_, rfl, d, _, rfl, rfl, .inl ⟨by omega, by omega⟩, m, _, rfl, rfl, ?_⟩⟩⟩⟩
    dsimp only
    generalize hmany : m - d * (if decide (V.int e = V.int 0) = true then 1 else 0) = many
    have hm : 1 ≤ many ∧ many ≤ 4 := by
      rw [← hmany]
      split <;> omega
    have K6' : Kp p H H6 := K4.trans (K5.trans K6)
    -- places
    refine ⟨_, rfl, many, rfl, by omega, by omega, fun pl hpl => ?_⟩
    obtain ⟨hpl0, nplp⟩ := K6'.free P6 hpl
    refine lc_ev (f := fun _ => true) (v := fun x => match x with | .int j => .int (fi + (1 + ga) * j) | x => x) st_r (by rw [List.length_map, List.length_range]; omega) (fun x => rfl) hpl (fun x _ H7 e Q q => q H7 (Ex.refl _)) (fun x hx _ H7 e Q q => ?_) (fun H7 e7 hd7 => ?_)
    · obtain ⟨j, hj, rfl⟩ := List.mem_map.mp hx
      exact ⟨_, rfl, _, rfl, _, rfl, _, _, rfl, rfl, .inl ⟨by omega, by omega⟩, fi, _, rfl, rfl, q H7 (Ex.refl _)⟩
    have d7 : H7 pl = some (.lst (((List.range many.toNat).map fun i : Nat => fi + (1 + ga) * (0 + (i : Int))).map V.int)) := by
      rw [hd7, List.filter_eq_self.mpr (fun _ _ => rfl), List.map_map, List.map_map]
      rfl
    generalize hpls : (List.range many.toNat).map (fun i : Nat => fi + (1 + ga) * (0 + (i : Int))) = pls at d7
    have plen : pls.length = many.toNat := by rw [← hpls, List.length_map, List.length_range]
    have pat : ∀ i : Nat, i < many.toNat → pls[i]? = some (fi + (1 + ga) * (i : Int)) := fun i hi => by
      rw [← hpls, List.getElem?_map, List.getElem?_range hi]
      show some (fi + (1 + ga) * (0 + (i : Int))) = _
      rw [Int.zero_add]
    have plow : ∀ x ∈ pls, 0 ≤ x ∧ x ≤ 96 := fun x hx => by
      obtain ⟨i, hi⟩ := List.getElem?_of_mem hx
      have hl := (List.getElem?_eq_some_iff.mp hi).1
      rw [pat i (by omega)] at hi
      have hi2 : fi + (1 + ga) * (i : Int) = x := Option.some.inj hi
      have hi3 : i = 0 ∨ i = 1 ∨ i = 2 ∨ i = 3 := by omega
      rcases hi3 with rfl | rfl | rfl | rfl <;> omega
    have K7 := K6'.trans (Kp.ex e7 P6)
    have P7 := P6.ex e7
    have ha7 := K7.k a _ nap ha
    -- turn, orderly
    refine ⟨_, rfl, _, rfl, .ref a, zs.length, rfl, .inl ⟨_, sq_of ha7, by rw [List.length_map]⟩, p, _, rfl, P7, by omega, by omega, fun tu H8 t0 t1 K8 P8 => ⟨_, rfl, p, 3, rfl, P8, by decide, by decide, fun o H9 o0 o1 K9 P9 => ⟨o, 0, rfl, rfl, _, _, rfl, ?_⟩⟩⟩
    have K79 := K8.trans K9
    have K9' := K7.trans K79
    have ha9 := K79.k a _ nap ha7
    have d9 := K79.k pl _ nplp d7
    clear hd7 e7 K8 K9 K5 K6 K1 K2 K3
    -- steps
    refine ⟨Nat.zero_le _, fun sl hsl => ?_⟩
    obtain ⟨nslp, asl⟩ := Apart.new (o := .lst []) P9 hsl
    refine ⟨_, rfl, _, rfl, sh, 3, rfl, rfl, .inr ⟨_, rfl, many, _, rfl, rfl, _, rfl, sh, 0, rfl, rfl, .inr ⟨_, rfl, _, _, rfl, rfl, .inl ⟨?_, ?_⟩, _, rfl, ?_, ?_, ?_⟩⟩⟩
    · split <;> omega
    · split <;> omega
    · split <;> split <;> omega
    · split <;> split <;> omega
    have I0 : HI p sl H9 (upd H9 sl (.lst [])) zs [] [] := ⟨upd_same, .nil, Row96.nil zs, (Kp.refl p H9).new P9 hsl, P9.ex (Ex.new hsl), asl⟩
    have key : ∀ {H' xs ts}, HI p sl H9 H' zs xs ts → H' a = some (.lst (zs.map V.str)) ∧ H' pl = some (.lst (pls.map V.int)) := fun {H' xs ts} h => ⟨h.2.2.2.1.k a _ nap ha9, h.2.2.2.1.k pl _ nplp d9⟩
    refine for_range (fun i σ' H' => ∃ v8 v12 xs ts, σ' = [some (.ref p), some (.ref a), some (.int m), some (.int sh), some (.int fi), some (.int (1 + ga)), some (.int many), some (.ref pl), v8, some (.int tu), some (.bl (decide ((0 : Int) < o))), some (.ref sl), v12, none, none, none] ∧ HI p sl H9 H' zs xs ts ∧ ts.length = i ∧ ∀ (j : Nat) t, ts[j]? = some t → t.1 = fi + (1 + ga) * (j : Int)) ⟨none, none, [], [], rfl, I0, rfl, fun j t h => (nomatch h)⟩ ?_ ?_
    · rintro i σ' H' hi ⟨v8, v12, xs, ts, rfl, I, hl, hat⟩
      have him : i < many.toNat := by
        revert hi
        (first | dsimp only | skip)
        split <;> split <;> omega
      refine ⟨fun σ2 H2 => ∃ w, w ∈ zs ∧ σ2 = [some (.ref p), some (.ref a), some (.int m), some (.int sh), some (.int fi), some (.int (1 + ga)), some (.int many), some (.ref pl), some (.int (0 + (i : Int))), some (.int tu), some (.bl (decide ((0 : Int) < o))), some (.ref sl), some (.str w), none, none, none] ∧ HI p sl H9 H2 zs xs ts, ?_, ?_⟩
      · obtain ⟨ka, kp⟩ := key I
        refine ⟨_, rfl, _, rfl, ite2 (fun _ => ?_) (fun _ => ?_)⟩
        · have h0 : 0 ≤ (tu + (0 + (i : Int))) % (zs.length : Int) := Int.emod_nonneg _ (by omega)
          have h1 : (tu + (0 + (i : Int))) % (zs.length : Int) < (zs.length : Int) := Int.emod_lt_of_pos _ (by omega)
          obtain ⟨w, hw⟩ : ∃ w, zs[((tu + (0 + (i : Int))) % (zs.length : Int)).toNat]? = some w := ⟨_, List.getElem?_eq_getElem (by omega)⟩
          refine ⟨_, rfl, _, rfl, _, rfl, tu, _, rfl, rfl, .inl ⟨_, rfl, _, rfl, .ref a, zs.length, rfl, .inl ⟨_, sq_of ka, by rw [List.length_map]⟩, _, _, rfl, rfl, (by show (0 : Int) < (zs.length : Int); omega), ?_⟩⟩
          refine .inl ⟨a, _, _, .str w, rfl, rfl, sq_of ka, at_of (j := ((tu + (0 + (i : Int))) % (zs.length : Int)).toNat) (by omega) (by rw [List.getElem?_map, hw]; rfl), w, List.mem_of_getElem? hw, rfl, I⟩
        · refine ⟨_, rfl, _, rfl, p, a, _, rfl, I.2.2.2.2.1, nap, .inl ka, (by intro z; rw [List.map_eq_nil_iff] at z; exact zne z), (by rw [List.length_map]; omega), fun x H2 hx K2 P2 => ?_⟩
          obtain ⟨w, hw, rfl⟩ := List.mem_map.mp hx
          exact ⟨w, hw, rfl, I.draw nslp K2 P2⟩
      · rintro σ2 H2 ⟨w, hw, rfl, I2⟩
        obtain ⟨ka, kp⟩ := key I2
        have hp1 := pat i him
        have h0 : 0 ≤ (0 + (i : Int) + 1) % many := Int.emod_nonneg _ (by omega)
        have h1 : (0 + (i : Int) + 1) % many < many := Int.emod_lt_of_pos _ (by omega)
        have hp2 := pat ((0 + (i : Int) + 1) % many).toNat (by omega)
        have low1 := plow _ (List.mem_of_getElem? hp1)
        have low2 := plow _ (List.mem_of_getElem? hp2)
        generalize fi + (1 + ga) * ((((0 + (i : Int) + 1) % many).toNat : Nat) : Int) = y2 at hp2 low2
        refine ⟨_, rfl, .inl ⟨rfl, _, sq_of I2.1⟩, _, rfl, _, rfl, .inl ⟨pl, _, _, .int (fi + (1 + ga) * (i : Int)), rfl, rfl, sq_of kp, at_of (j := i) (by omega) (by rw [List.getElem?_map, hp1]; rfl), _, rfl, ?_⟩⟩
        refine ⟨_, rfl, _, rfl, _, _, rfl, rfl, .inl ⟨_, rfl, _, rfl, _, many, rfl, rfl, (by show 0 < many; omega), .inl ⟨pl, _, _, .int y2, rfl, rfl, sq_of kp, at_of (j := ((0 + (i : Int) + 1) % many).toNat) (by omega) (by rw [List.getElem?_map, hp2]; rfl), (by show 3 ≤ sizeLine; decide), fun q hq => ?_⟩⟩⟩
        have I3 := I2.ex nslp (Ex.new (o := .tup [.int (fi + (1 + ga) * (i : Int)), .str w, .int y2]) hq)
        have hst : StepAt (upd H2 q (.tup [.int (fi + (1 + ga) * (i : Int)), .str w, .int y2])) (.ref q) (fi + (1 + ga) * (i : Int), w, y2) := ⟨q, rfl, upd_same⟩
        have hlx : xs.length = ts.length := I2.2.1.len
        refine ⟨sl, xs, .ref q, rfl, rfl, I3.1, sz_lt (by omega), _, _, _, _, rfl, I3.add nslp hsl hst ?_, by rw [List.length_append, hl]; rfl, fun j t hj => ?_⟩
        · have far : ∀ u ∈ ts, u.1 ≠ fi + (1 + ga) * (i : Int) := fun u hu => by
            obtain ⟨j, hj⟩ := List.getElem?_of_mem hu
            have hjl := (List.getElem?_eq_some_iff.mp hj).1
            rw [hat j u hj]
            intro e
            have e2 : (1 + ga) * ((i : Int) - (j : Int)) = 0 := by rw [Int.mul_sub]; omega
            rcases Int.mul_eq_zero.mp e2 with z | z <;> omega
          refine I3.2.2.1.add ⟨low1, hw, low2⟩ (fun hm => far _ hm rfl) ?_
          have hc : cnt (fi + (1 + ga) * (i : Int), w, y2) ts = 0 := by
            unfold cnt
            rw [List.length_eq_zero_iff, List.filter_eq_nil_iff]
            intro u hu
            have := far u hu
            simpa using this
          omega
        · rw [List.getElem?_append] at hj
          split at hj
          · exact hat j t hj
          · rw [List.getElem?_singleton] at hj
            split at hj
            · cases hj
              have : j = i := by omega
              rw [this]
            · cases hj
    · rintro σ' H' ⟨v8, v12, xs, ts, rfl, I, hl, hat⟩
      have hl4 : ts.length ≤ 4 := by
        rw [hl]
        (first | dsimp only | skip)
        split <;> split <;> omega
      clear hl hat
      have plne : pls.map V.int ≠ [] := fun z => by
        have z2 := congrArg List.length z
        rw [List.length_map, plen] at z2
        simp at z2
        omega
      have zne2 : zs.map V.str ≠ [] := fun z => by rw [List.map_eq_nil_iff] at z; exact zne z
      -- more
      refine ⟨fun σ2 H2 => ∃ mo : Int, 0 ≤ mo ∧ mo ≤ 3 ∧ σ2 = [some (.ref p), some (.ref a), some (.int m), some (.int sh), some (.int fi), some (.int (1 + ga)), some (.int many), some (.ref pl), v8, some (.int tu), some (.bl (decide ((0 : Int) < o))), some (.ref sl), v12, some (.int mo), none, none] ∧ HI p sl H9 H2 zs xs ts, ?_, ?_⟩
      · refine ⟨_, rfl, p, 4, rfl, I.2.2.2.2.1, by decide, by decide, fun d H2 d0 d1 K2 P2 => ?_⟩
        have I2 := I.draw nslp K2 P2
        refine ⟨_, rfl, _, rfl, _, rfl, ite2 (fun _ => ?_) (fun _ => ?_)⟩
        · exact .inr ⟨true, rfl, d, 1, rfl, rfl, .inr ⟨by decide, by decide⟩, d * 1, by omega, by omega, rfl, I2⟩
        · refine ⟨_, rfl, p, 2, rfl, P2, by decide, by decide, fun e H3 e0 e1 K3 P3 => ⟨rfl, .inr ⟨_, rfl, d, _, rfl, rfl, .inl ⟨by omega, by omega⟩, _, ?_, ?_, rfl, I2.draw nslp K3 P3⟩⟩⟩
          · split <;> omega
          · split <;> omega
      rintro σ2 H2 ⟨mo, mo0, mo3, rfl, I2⟩
      refine ⟨_, rfl, _, rfl, .ref sl, xs.length, rfl, .inl ⟨_, sq_of I2.1, rfl⟩, rfl, .inr ⟨_, rfl, mo, _, rfl, rfl, _, rfl, ?_, ?_, ?_⟩⟩
      · split <;> omega
      · split <;> omega
      refine for_range (fun i σ' H' => ∃ v8 v14 v15 xs' ts', σ' = [some (.ref p), some (.ref a), some (.int m), some (.int sh), some (.int fi), some (.int (1 + ga)), some (.int many), some (.ref pl), v8, some (.int tu), some (.bl (decide ((0 : Int) < o))), some (.ref sl), v12, some (.int mo), v14, v15] ∧ HI p sl H9 H' zs xs' ts' ∧ ts'.length ≤ 4 + i ∧ (1 ≤ i ∨ ts ≠ [] → ts' ≠ [])) ⟨v8, none, none, xs, ts, rfl, I2, by omega, fun h => h.elim (fun z => absurd z (by decide)) id⟩ ?_ ?_
      · rintro i σ' H' hi ⟨w8, w14, w15, xs', ts', rfl, I3, hl3, hne3⟩
        have hi4 : i < 4 := by
          revert hi
          split <;> omega
        refine ⟨_, rfl, _, rfl, p, pl, _, rfl, I3.2.2.2.2.1, nplp, .inl (key I3).2, plne, (by rw [List.length_map]; omega), fun x1 H4 hx1 K4 P4 => ?_⟩
        have I4 := I3.draw nslp K4 P4
        refine ⟨_, rfl, _, rfl, p, a, _, rfl, P4, nap, .inl (key I4).1, zne2, (by rw [List.length_map]; omega), fun x2 H5 hx2 K5 P5 => ?_⟩
        have I5 := I4.draw nslp K5 P5
        refine ⟨_, rfl, _, rfl, p, pl, _, rfl, P5, nplp, .inl (key I5).2, plne, (by rw [List.length_map]; omega), fun x3 H6 hx3 K6 P6 => ?_⟩
        have I6 := I5.draw nslp K6 P6
        obtain ⟨i1, hi1, rfl⟩ := List.mem_map.mp hx1
        obtain ⟨w, hw, rfl⟩ := List.mem_map.mp hx2
        obtain ⟨i3, hi3, rfl⟩ := List.mem_map.mp hx3
        refine ⟨(by show 3 ≤ sizeLine; decide), fun q hq => ?_⟩
        have I7 := I6.ex nslp (Ex.new (o := .tup [.int i1, .str w, .int i3]) hq)
        have hst : StepAt (upd H6 q (.tup [.int i1, .str w, .int i3])) (.ref q) (i1, w, i3) := ⟨q, rfl, upd_same⟩
        generalize upd H6 q (.tup [.int i1, .str w, .int i3]) = H7 at I7 hst
        have okz : ∀ z ∈ ts', OkS z := fun z hz => ok_of_nm (znm _ (I7.2.2.1.good z hz).2.1)
        have okt : OkS (i1, w, i3) := ok_of_nm (znm _ hw)
        have hlx : xs'.length = ts'.length := I7.2.1.len
        refine ⟨_, rfl, _, rfl, encS (i1, w, i3), ts'.map encS, hst.dp, .lst (sq_of I7.1) I7.2.1.dps, encS_shaped okt, encSs_shaped okz, ?_⟩
        rw [encSs_any]
        refine ⟨_, rfl, ?_⟩
        by_cases hm : (i1, w, i3) ∈ ts'
        · rw [decide_eq_true hm]
          exact iteF (iteF ⟨_, _, _, xs', ts', rfl, I7, by omega, fun _ z => by rw [z] at hm; cases hm⟩)
        · rw [decide_eq_false hm]
          refine iteT ?_
          refine ⟨_, rfl, sl, rfl, ⟨_, sq_of I7.1⟩, fun D hD => ?_⟩
          refine lc_ev (f := hit H7 i1) (v := fun _ => .int 1) (st_l (sq_of I7.1)) (by omega) (fun x => rfl) hD (fun x mx H8 e Q q => ?_) (fun x mx _ H8 e Q q => q H8 (Ex.refl _)) (fun H8 e8 hd8 => ?_)
          · obtain ⟨j, hj⟩ := List.getElem?_of_mem mx
            obtain ⟨u, hu, b, rfl, hb⟩ := I7.2.1.at hj
            obtain ⟨c, hce, hc⟩ := hst
            cases hce
            refine ⟨_, rfl, .inr (.inl ⟨b, _, 0, _, rfl, rfl, st_of (e _ _ hb), (by rfl), ?_⟩)⟩
            refine ⟨_, rfl, .inr (.inl ⟨_, _, 0, _, rfl, rfl, st_of (e _ _ hc), (by rfl), rfl, _, rfl, ?_⟩)⟩
            have e1 : decide (V.int u.1 = V.int i1) = hit H7 i1 (.ref b) := by
              rw [hit_at (t := u) ⟨b, rfl, hb⟩, Bool.eq_iff_iff]
              simp
            rw [e1]
            exact q H8 (Ex.refl _)
          · have I8 := I7.ex nslp e8
            have hst8 := hst.tu (Tu.ex e8)
            refine ⟨.ref D, _, rfl, .inl ⟨_, sq_of hd8, rfl⟩, _, 3, rfl, rfl, _, rfl, ?_⟩
            have hcn : ((((xs'.filter (hit H7 i1)).map fun _ => V.int 1).length : Nat) : Int) = (cnt (i1, w, i3) ts' : Int) := by
              rw [List.length_map, hit_len I7.2.1]
              rfl
            refine ite2 (fun hlt => ?_) (fun hge => ?_)
            · have hlt2 : cnt (i1, w, i3) ts' < 3 := by
                have := of_decide_eq_true hlt
                omega
              have I9 := I8.add nslp hsl hst8 (I8.2.2.1.add ⟨plow _ hi1, hw, plow _ hi3⟩ hm hlt2)
              exact ⟨_, rfl, .inl ⟨rfl, _, sq_of I8.1⟩, _, rfl, sl, xs', .ref q, rfl, rfl, I8.1, sz_lt (by omega), _, _, _, _, _, rfl, I9, by rw [List.length_append, List.length_singleton]; omega, fun _ z => by simp at z⟩
            · refine ⟨_, _, _, xs', ts', rfl, I8, by omega, fun _ z => hge ?_⟩
              subst z
              refine decide_eq_true ?_
              rw [hcn]
              show ((0 : Nat) : Int) < 3
              decide
      · rintro σ' H' ⟨w8, w14, w15, xs', ts', rfl, I3, hl3, hne3⟩
        have hl8 : ts'.length ≤ 12 := by
          revert hl3
          split <;> omega
        have hne : ts' ≠ [] := by
          refine hne3 ?_
          by_cases hz : ts = []
          · refine .inl ?_
            have hx0 : xs.length = 0 := by rw [I2.2.1.len, hz]; rfl
            rw [hx0]
            rw [if_pos (show decide (V.int ((0 : Nat) : Int) = V.int 0) = true from by simp)]
            omega
          · exact .inr hz
        clear hl3 hne3
        obtain ⟨t0, tr, rfl⟩ : ∃ t0 tr, ts' = t0 :: tr := by
          cases ts' with
          | nil => exact absurd rfl hne
          | cons t0 tr => exact ⟨t0, tr, rfl⟩
        have hxs := I3.2.1
        obtain ⟨x0, xr, rfl⟩ : ∃ x0 xr, xs' = x0 :: xr := by
          cases xs' with
          | nil => exact (nomatch hxs)
          | cons x0 xr => exact ⟨x0, xr, rfl⟩
        obtain ⟨t, ht, b0, rfl, hb0⟩ := hxs.at (i := 0) rfl
        cases ht
        have g0' := (I3.2.2.1.good t0 List.mem_cons_self).1
        refine ⟨_, rfl, .inl ⟨sl, _, 0, .ref b0, rfl, rfl, sq_of I3.1, (show atI _ ((0 : Nat) : Int) = _ from atI_nat rfl), .inr (.inl ⟨b0, _, 0, _, rfl, rfl, st_of hb0, (by rfl), ?_⟩)⟩⟩
        refine ⟨_, rfl, _, rfl, p, pl, _, rfl, I3.2.2.2.2.1, nplp, .inl (key I3).2, plne, (by rw [List.length_map]; omega), fun x1 H4 hx1 K4 P4 => ?_⟩
        have I4 := I3.draw nslp K4 P4
        obtain ⟨i1, hi1, rfl⟩ := List.mem_map.mp hx1
        refine ⟨(by show 2 ≤ sizeLine; decide), fun q hq => ?_⟩
        have I5 := I4.ex nslp (Ex.new (o := .lst [.int t0.1, .int i1]) hq)
        have nqp : q ≠ p := fun z => P4.here (z ▸ hq)
        refine ⟨_, rfl, p, 2, rfl, I5.2.2.2.2.1, by decide, by decide, fun d H6 d0 d1 K6 P6 => ?_⟩
        have hq6 := K6.k q _ nqp upd_same
        have I6 := I5.draw nslp K6 P6
        have hst : ∃ st : Int, ([.int t0.1, .int i1] : List V)[d.toNat]? = some (.int st) ∧ 0 ≤ st ∧ st ≤ 96 := by
          have hd : d = 0 ∨ d = 1 := by omega
          rcases hd with rfl | rfl
          · exact ⟨_, rfl, g0'⟩
          · exact ⟨_, rfl, plow _ hi1⟩
        obtain ⟨st, hst, st0, st96⟩ := hst
        refine .inl ⟨q, _, d, .int st, rfl, rfl, sq_of hq6, at_of (j := d.toNat) (by omega) hst, ?_⟩
        refine ⟨.ref sl, rfl, ?_⟩
        dsimp only [tNil]
        refine tupof_go (K := K) (.inl I6.1) fun tp H7 e7 htp => ?_
        have I7 := I6.ex nslp e7
        refine ⟨(by show 2 ≤ sizeLine; decide), fun q2 hq2 => ?_⟩
        have I8 := I7.ex nslp (Ex.new (o := .tup [.int st, .ref tp]) hq2)
        refine k q2 tp _ st _ _ ⟨I8.2.2.1.row znm (by simp) (by omega), ⟨st0, st96⟩, fun u hu => ?_, hl8, fun u hu => (I8.2.2.1.good u hu).2.1⟩ (K9'.trans I8.2.2.2.1) I8.2.2.2.2.1 upd_same (Ex.new hq2 _ _ htp) I8.2.1
        obtain ⟨⟨_, a2⟩, _, _, a4⟩ := I8.2.2.1.good u hu
        exact ⟨a2, a4⟩
end
end WK

set_option Elab.async false
set_option linter.all false
set_option maxRecDepth 100000
set_option maxHeartbeats 4000000
namespace WK
open PySem PySem.Spec PyProof.Rows L2 WW Evl
/-- a hand's start and its row of steps -/
abbrev Hnd : Type := Int × List Stp
def HdT (H : Hp) (v : V) (h : Hnd) : Prop := ∃ a b xs, v = .ref a ∧ H a = some (.tup [.int h.1, .ref b]) ∧ H b = some (.tup xs) ∧ Rw H xs h.2
theorem HdT.tu {H H' : Hp} {v : V} {h : Hnd} (e : Tu H H') (q : HdT H v h) : HdT H' v h := by
  obtain ⟨a, b, xs, rfl, h1, h2, h3⟩ := q
  exact ⟨a, b, xs, rfl, e _ _ h1, e _ _ h2, h3.tu e⟩
/-- the tuple of hands -/
def HdsAt (H : Hp) (a : Addr) (hs : List Hnd) : Prop := ∃ vs, H a = some (.tup vs) ∧ Paired (HdT H) vs hs
theorem HdsAt.tu {H H' : Hp} {a : Addr} {hs : List Hnd} (e : Tu H H') (q : HdsAt H a hs) : HdsAt H' a hs := by
  obtain ⟨vs, h1, h2⟩ := q
  exact ⟨vs, e _ _ h1, Paired.mapP h2 fun _ _ z => z.tu e⟩
theorem prd_at {α β : Type} {R : α → β → Prop} : ∀ {xs : List α} {os : List β} {i : Nat} {x : α}, Paired R xs os → xs[i]? = some x → ∃ o, os[i]? = some o ∧ R x o
  | _, _, i, _, .nil, e => by simp at e
  | _, _, 0, _, .cons g _, e => by simp at e; subst e; exact ⟨_, rfl, g⟩
  | _, _, i + 1, _, .cons _ r, e => by simpa using prd_at r (by simpa using e)
theorem HdsAt.get {H : Hp} {a : Addr} {hs : List Hnd} {i : Nat} {h : Hnd} (q : HdsAt H a hs) (e : hs[i]? = some h) : ∃ vs v, H a = some (.tup vs) ∧ vs[i]? = some v ∧ HdT H v h := by
  obtain ⟨vs, h1, h2⟩ := q
  have hl := Paired.length h2
  have li : i < vs.length := by
    have := (List.getElem?_eq_some_iff.mp e).1
    omega
  obtain ⟨v, hv⟩ : ∃ v, vs[i]? = some v := ⟨_, List.getElem?_eq_getElem li⟩
  obtain ⟨o, ho, r⟩ := prd_at h2 hv
  rw [e] at ho
  cases ho
  exact ⟨vs, v, h1, hv, r⟩
theorem put_mem {κ : Type} [DecidableEq κ] {kvs : List (κ × V)} {k : κ} {v : V} {q : κ × V} (h : q ∈ putK kvs k v) : q ∈ kvs ∨ q = (k, v) := by
  unfold putK at h
  split at h
  · obtain ⟨r, hr, e⟩ := List.mem_map.mp h
    split at e
    · rename_i hk
      right
      rw [← e, hk]
    · left
      rw [← e]
      exact hr
  · rcases List.mem_append.mp h with h | h
    · exact .inl h
    · exact .inr (List.mem_singleton.mp h)
theorem put_ne {κ : Type} [DecidableEq κ] (kvs : List (κ × V)) (k : κ) (v : V) : putK kvs k v ≠ [] := fun z => by
  have h := valV_put kvs k k v
  rw [z, if_pos rfl] at h
  cases h
/-- a pattern's row, for m hands -/
def PatK (m : Nat) (kvs : List (Key × V)) : Prop := ∀ q ∈ kvs, ∃ k v : Int, q = (.inl k, .int v) ∧ 0 ≤ k ∧ k < m ∧ 0 ≤ v ∧ v ≤ 99
theorem PatK.put {m : Nat} {kvs : List (Key × V)} {k v : Int} (h : PatK m kvs) (h1 : 0 ≤ k) (h2 : k < m) (h3 : 0 ≤ v) (h4 : v ≤ 99) : PatK m (putK kvs (.inl k) (.int v)) := fun q hq => by
  rcases put_mem hq with hq | rfl
  · exact h q hq
  · exact ⟨k, v, rfl, h1, h2, h3, h4⟩
/-- the thing at D while it is filled; B: what stood before -/
structure Fil (p D : Addr) (B H : Hp) : Prop where
  kp : Kp p B H
  pool : Pool H p
  ap : Apart H p D
theorem Fil.draw {p D : Addr} {B H H2 : Hp} {o : HO} (h : Fil p D B H) (n : D ≠ p) (hd : H D = some o) (K : Kp p H H2) (P : Pool H2 p) : Fil p D B H2 ∧ H2 D = some o :=
  ⟨⟨h.kp.trans K, P, K.a D n (some_ne hd) h.ap⟩, K.k D o n hd⟩
theorem Fil.put {p D : Addr} {B H : Hp} {o : HO} (h : Fil p D B H) (n : D ≠ p) (hb : B D = none) : Fil p D B (upd H D o) := ⟨h.kp.mut hb n, h.pool.mut n h.ap, Apart.mut n h.ap⟩
theorem Fil.new {p D : Addr} {B : Hp} {o : HO} (hP : Pool B p) (hb : B D = none) : Fil p D B (upd B D o) ∧ D ≠ p := by
  obtain ⟨n, a⟩ := Apart.new (o := o) hP hb
  exact ⟨⟨(Kp.refl p B).new hP hb, hP.ex (Ex.new hb), a⟩, n⟩
theorem Fil.ex {p D : Addr} {B H H2 : Hp} {o : HO} (h : Fil p D B H) (n : D ≠ p) (hd : H D = some o) (e : Ex H H2) : Fil p D B H2 ∧ H2 D = some o := h.draw n hd (Kp.ex e h.pool) (h.pool.ex e)
section
variable {P : Program} {w : World} {K : PySem.W.Frag} {mg : Str → Option Value} {base : Heap} {f : Addr} {fd : FuncData}
abbrev s__law_pattern : Stmt := top 45
theorem sc__law_pattern : FnScope ["_law_pool_here", "_law_hands", "_law_pattern_here", "_law_k", "_law_step"] ["_law_pool_here", "_law_hands"] (defScope s__law_pattern) := ⟨rfl, rfl, rfl, by decide +kernel, rfl, by decide +kernel, by decide +kernel⟩
def spPattern : Sp := fun vs H Q _ => ∃ (p a : Addr) (hs : List Hnd), vs = [.ref p, .ref a] ∧ Pool H p ∧ HdsAt H a hs ∧ hs ≠ [] ∧ hs.length ≤ 3 ∧ (∀ h ∈ hs, GoodRow h.2) ∧
  ∀ D kvs H', Kp p H H' → Pool H' p → H D = none → D ≠ p → kvs ≠ [] → kvs.length ≤ 4 → PatK hs.length kvs → H' D = some (.dK kvs) → Q (.ref D) H'
theorem ok_pattern (G : Gz mg) (D : Df K mg "_law_pattern" s__law_pattern f fd ["_law_pool_here", "_law_hands"]) (c__law_draw : Callee P w K mg base CXn 1 "_law_draw" 2 spDraw) (c__law_pick : Callee P w K mg base CXn 2 "_law_pick" 2 spPick) : Callee P w K mg base CXn 3 "_law_pattern" 2 spPattern := by
  refine D.callee (D.fn.ok sc__law_pattern (fun vs H Q E h => ?_) (fun cdv A outer s H vs Q E hr h => ⟨_, PSs.nox (pss_cons (ps_set (i := 2) sc__law_pattern.nd rfl (Or.inl rfl) pe_dnewK) (pss_cons (ps_for PassesOwn.never rfl (pi_range1 rfl G.g_range (pa_cons (pe_callB (lenK (K := K) rfl) rfl G.g_len PySem.boot_len (pa_cons (pv 1) pa_nil)) pa_nil)) (pg_name (i := 3) sc__law_pattern.nd rfl (Or.inl rfl)) (pss_one (ps_if (pt_cmpR op_eq (pe_cl (E := En) c__law_draw (hr.mono (by decide)) rfl passN (pa_cons (pv 0) (pa_cons pe_int pa_nil))) pe_int (nomark _)) (pss_cons (ps_set (i := 4) sc__law_pattern.nd rfl (Or.inl rfl) (pe_cl (E := En) c__law_pick (hr.mono (by decide)) rfl passN (pa_cons (pv 0) (pa_cons (pe_ix (ixK (K := K) rfl) (pe_ix (ixK (K := K) rfl) (pv 1) (pv 3) (fun _ _ => rfl)) pe_int (fun _ _ => rfl)) pa_nil)))) (pss_one (ps_dput (room1 hr) (pv 2) (pv 3) (pe_ix (ixK (K := K) rfl) (pv 4) (pe_op op_mul pe_int (pe_cl (E := En) c__law_draw (hr.mono (by decide)) rfl passN (pa_cons (pv 0) (pa_cons pe_int pa_nil)))) (fun _ _ => rfl)) rfl))) pss_nil))) (pss_cut (ps_if (pt_cmpR op_eq (pe_callB call_lenD rfl G.g_len PySem.boot_len (pa_cons (pv 2) pa_nil)) pe_int (nomark _)) (pss_one (ps_dput (room1 hr) (pv 2) pe_int (pe_ix (ixK (K := K) rfl) (pe_cl (E := En) c__law_pick (hr.mono (by decide)) rfl passN (pa_cons (pv 0) (pa_cons (pe_ix (ixK (K := K) rfl) (pe_ix (ixK (K := K) rfl) (pv 1) pe_int (fun _ _ => rfl)) pe_int (fun _ _ => rfl)) pa_nil))) pe_int (fun _ _ => rfl)) rfl)) pss_nil) (pss_one (ps_ret (pv 2)))))), ?_⟩))
  · obtain ⟨_, _, _, rfl, _⟩ := h
    rfl
  · obtain ⟨p, a, hs, rfl, hP, ha, hne, h3, good, k⟩ := h
    have tup0 : ∀ {H' : Hp}, Kp p H H' → HdsAt H' a hs := fun K' => ha.tu (K'.tu hP)
    -- one of a hand's steps
    have one : ∀ {H' : Hp} {i : Nat} {h : Hnd}, Kp p H H' → hs[i]? = some h → ∃ vs v b xs, H' a = some (.tup vs) ∧ vs[i]? = some v ∧ v = .ref b ∧ ∃ c, H' b = some (.tup [.int h.1, .ref c]) ∧ H' c = some (.tup xs) ∧ Rw H' xs h.2 := fun K' e => by
      obtain ⟨vs, v, h1, h2, b, c, xs, rfl, h4, h5, h6⟩ := (tup0 K').get e
      exact ⟨vs, _, b, xs, h1, h2, rfl, c, h4, h5, h6⟩
    refine fun D hD => ?_
    obtain ⟨F0, nDp⟩ := Fil.new (o := .dK []) hP hD
    have hl : ∃ vs, H a = some (.tup vs) ∧ vs.length = hs.length := let ⟨vs, h1, h2⟩ := ha; ⟨vs, h1, Paired.length h2⟩
    obtain ⟨vs0, ha0, hl0⟩ := hl
    have e0 : Ex H (upd H D (.dK [])) := Ex.new hD
    refine ⟨_, rfl, .ref a, hs.length, rfl, .inr ⟨vs0, st_of (e0 _ _ ha0), hl0.symm⟩, (hs.length : Int), rfl, by omega, by omega, for_range (fun i σ' H' => ∃ v3 v4 kvs, σ' = [some (.ref p), some (.ref a), some (.ref D), v3, v4] ∧ Fil p D H H' ∧ PatK hs.length kvs ∧ kvs.length ≤ i ∧ H' D = some (.dK kvs)) ?_ ?_ ?_⟩
    · exact ⟨none, none, [], rfl, F0, fun q z => (nomatch z), Nat.le_refl _, upd_same⟩
    · rintro i σ' H' hi ⟨v3, v4, kvs, rfl, F, hk, hkl, hd⟩
      have hi2 : i < hs.length := by simpa using hi
      obtain ⟨h, hh⟩ : ∃ h, hs[i]? = some h := ⟨_, List.getElem?_eq_getElem hi2⟩
      have gh := good h (List.mem_of_getElem? hh)
      refine ⟨_, rfl, p, 2, rfl, F.pool, by decide, by decide, fun d H1 d0 d1 K1 P1 => ⟨rfl, _, rfl, ?_⟩⟩
      obtain ⟨F1, hd1⟩ := F.draw nDp hd K1 P1
      refine ite2 (fun _ => ?_) (fun _ => ⟨_, _, kvs, rfl, F1, hk, by omega, hd1⟩)
      obtain ⟨vs, v, b, xs, x1, x2, rfl, c, x4, x5, x6⟩ := one F1.kp hh
      have ncp : c ≠ p := fun z => by
        obtain ⟨_, _, _, _, _, _, hp, _⟩ := P1
        rw [z, hp] at x5
        cases x5
      have lx := x6.len
      have l1 := gh.least
      have l2 := gh.most
      refine ⟨_, rfl, _, rfl, _, rfl, .inr (.inl ⟨a, vs, _, .ref b, rfl, rfl, st_of x1, at_of (j := i) (by omega) x2, .inr (.inl ⟨b, _, 1, _, rfl, rfl, st_of x4, (by rfl), ?_⟩)⟩)⟩
      refine ⟨p, c, xs, rfl, P1, ncp, .inr x5, (fun z => by rw [z] at lx; simp at lx; omega), by omega, fun x H2 hx K2 P2 => ?_⟩
      obtain ⟨j, hj⟩ := List.getElem?_of_mem hx
      obtain ⟨u, hu, hst⟩ := x6.at hj
      have gu := gh.good u (List.mem_of_getElem? hu)
      obtain ⟨F2, hd2⟩ := F1.draw nDp hd1 K2 P2
      have hst2 := hst.tu (K2.tu P1)
      refine ⟨_, rfl, _, rfl, p, 2, rfl, P2, by decide, by decide, fun e H3 e0' e1' K3 P3 => ?_⟩
      obtain ⟨F3, hd3⟩ := F2.draw nDp hd2 K3 P3
      obtain ⟨b2, rfl, hb2⟩ := hst2.tu (K3.tu P2)
      have hv : ∃ y : Int, ([.int u.1, .str u.2.1, .int u.2.2] : List V)[(2 * e).toNat]? = some (.int y) ∧ 0 ≤ y ∧ y ≤ 99 := by
        have he : e = 0 ∨ e = 1 := by omega
        rcases he with rfl | rfl
        · exact ⟨_, rfl, gu.1, gu.2.1⟩
        · exact ⟨_, rfl, gu.2.2.2.1, gu.2.2.2.2⟩
      obtain ⟨y, hy, y0, y99⟩ := hv
      refine ⟨2, e, rfl, rfl, .inl ⟨by omega, by omega⟩, .inr (.inl ⟨b2, _, 2 * e, .int y, rfl, rfl, st_of hb2, at_of (j := (2 * e).toNat) (by omega) hy, ?_⟩)⟩
      refine ⟨_, rfl, _, rfl, D, _, rfl, DPut.k (k := .inl (0 + (i : Int))) hd3 (sz_lt (by omega)), ?_⟩
      exact ⟨_, _, _, rfl, F3.put nDp hD, hk.put (by omega) (by omega) y0 y99, by have := length_putK kvs (Sum.inl (0 + (i : Int)) : Key) (V.int y); omega, upd_same⟩
    · rintro σ' H' ⟨v3, v4, kvs, rfl, F, hk, hkl, hd⟩
      have hkl3 : kvs.length ≤ 3 := by simp at hkl; omega
      refine ⟨fun σ2 H2 => ∃ v3 v4 kvs, σ2 = [some (.ref p), some (.ref a), some (.ref D), v3, v4] ∧ Fil p D H H2 ∧ kvs ≠ [] ∧ kvs.length ≤ 4 ∧ PatK hs.length kvs ∧ H2 D = some (.dK kvs), ?_, ?_⟩
      · refine ⟨_, rfl, D, kvs, rfl, hd, rfl, _, rfl, ite2 (fun _ => ?_) (fun hz => ⟨_, _, kvs, rfl, F, fun z => hz (by rw [z]; rfl), by omega, hk, hd⟩)⟩
        obtain ⟨h, hh⟩ : ∃ h, hs[0]? = some h := ⟨_, List.getElem?_eq_getElem (List.length_pos_iff.mpr hne)⟩
        have gh := good h (List.mem_of_getElem? hh)
        obtain ⟨vs, v, b, xs, x1, x2, rfl, c, x4, x5, x6⟩ := one F.kp hh
        have P1 := F.pool
        have ncp : c ≠ p := fun z => by
          obtain ⟨_, _, _, _, _, _, hp, _⟩ := P1
          rw [z, hp] at x5
          cases x5
        have lx := x6.len
        have l1 := gh.least
        have l2 := gh.most
        refine ⟨_, rfl, _, rfl, .inr (.inl ⟨a, vs, _, .ref b, rfl, rfl, st_of x1, at_of (j := 0) (by rfl) x2, .inr (.inl ⟨b, _, 1, _, rfl, rfl, st_of x4, (by rfl), ?_⟩)⟩)⟩
        refine ⟨p, c, xs, rfl, P1, ncp, .inr x5, (fun z => by rw [z] at lx; simp at lx; omega), by omega, fun x H2 hx K2 P2 => ?_⟩
        obtain ⟨j, hj⟩ := List.getElem?_of_mem hx
        obtain ⟨u, hu, hst⟩ := x6.at hj
        have gu := gh.good u (List.mem_of_getElem? hu)
        obtain ⟨F2, hd2⟩ := F.draw nDp hd K2 P2
        obtain ⟨b2, rfl, hb2⟩ := hst.tu (K2.tu P1)
        refine .inr (.inl ⟨b2, _, 2, _, rfl, rfl, st_of hb2, (by rfl), ?_⟩)
        refine ⟨_, rfl, D, _, rfl, DPut.k (k := .inl 0) hd2 (sz_lt (by omega)), ?_⟩
        have hp1 : 0 < hs.length := List.length_pos_iff.mpr hne
        exact ⟨_, _, _, rfl, F2.put nDp hD, put_ne _ _ _, by have := length_putK kvs (Sum.inl 0 : Key) (V.int u.2.2); omega, hk.put (Int.le_refl 0) (by omega) gu.2.2.2.1 gu.2.2.2.2, upd_same⟩
      · rintro σ2 H2 ⟨v3', v4', kvs', rfl, F2, ne, l4, hk2, hd2⟩
        exact ⟨_, rfl, k D kvs' H2 F2.kp F2.pool hD nDp ne l4 hk2 hd2⟩
end
end WK

set_option Elab.async false
set_option linter.all false
set_option maxRecDepth 100000
set_option maxHeartbeats 4000000
namespace WK
open PySem PySem.Spec PyProof.Rows L2 WW Evl
/-- the keys of a locked dict -/
theorem st_k {H : Hp} {d : Addr} {o : Obj} {kvs : List (Key × V)} (h : H d = some (.frz o (.dK kvs))) : Steady (Itk d o kvs) H (kvs.map fun q => kV q.1) where
  go := fun i H' e hi => ⟨e _ _ h, by simpa using hi⟩
  yld := fun i H' x H'' e _ y => by
    obtain ⟨e1, k, v, hk, rfl⟩ := y
    refine ⟨e1, ?_⟩
    rw [List.getElem?_map, hk]
    rfl
  stop := fun H' e => ⟨e _ _ h, by simp⟩
theorem unlock_ex {H H' : Hp} {d : Addr} {o : Obj} {u : HO} (h : H d = some u) (e : Ex (upd H d (.frz o u)) H') : Ex H (upd H' d u) := fun b x hb => by
  by_cases z : b = d
  · rw [z] at hb ⊢
    rw [upd_same, ← hb, h]
  · rw [upd_ne z]
    exact e b x (by rw [upd_ne z]; exact hb)
theorem frz_get {H H' : Hp} {d : Addr} {o : Obj} {kvs : List (Key × V)} {k : Key} (h : H d = some (.frz o (.dK kvs))) : DGet H d (kV k) (valV kvs k) := .inl ⟨kvs, k, .inr ⟨o, h⟩, rfl, rfl⟩
theorem valV_of {m : Nat} {kvs : List (Key × V)} {q : Key × V} (h : PatK m kvs) (hq : q ∈ kvs) : ∃ k v : Int, q.1 = .inl k ∧ 0 ≤ k ∧ k < m ∧ valV kvs q.1 = some (.int v) := by
  obtain ⟨k, v, rfl, k0, km, v0, v9⟩ := h q hq
  cases e : valV kvs (.inl k) with
  | none =>
    have : (kvs.any fun kv => decide (kv.1 = (Sum.inl k : Key))) = true := List.any_eq_true.mpr ⟨_, hq, by simp⟩
    rw [valV_any, e] at this
    cases this
  | some x =>
    have hm : ∃ q2 ∈ kvs, q2 = (.inl k, x) := by
      clear h hq
      induction kvs with
      | nil => cases e
      | cons a r ih =>
        by_cases z : a.1 = (Sum.inl k : Key)
        · rw [valV_pos z] at e
          exact ⟨a, List.mem_cons_self, by cases a; cases z; cases e; rfl⟩
        · rw [valV_neg z] at e
          obtain ⟨q2, m2, e2⟩ := ih e
          exact ⟨q2, List.mem_cons_of_mem _ m2, e2⟩
    obtain ⟨q2, m2, rfl⟩ := hm
    obtain ⟨k', v', e', _⟩ := h _ m2
    cases e'
    exact ⟨_, _, rfl, k0, km, rfl⟩
/-- a standing and a pattern part at x -/
def apart' (ss : List Int) (kvs : List (Key × V)) : V → Bool
  | .int k => !decide (((ss.map V.int)[k.toNat]?).getD .non = (valV kvs (.inl k)).getD .non)
  | _ => false
section
variable {P : Program} {w : World} {K : PySem.W.Frag} {mg : Str → Option Value} {base : Heap} {f : Addr} {fd : FuncData}
abbrev s__law_agrees : Stmt := top 46
theorem sc__law_agrees : FnScope ["_law_pattern_here", "_law_standing", "_law_k"] ["_law_pattern_here", "_law_standing"] (defScope s__law_agrees) := ⟨rfl, rfl, rfl, by decide +kernel, rfl, by decide +kernel, by decide +kernel⟩
def spAgrees : Sp := fun vs H Q _ => ∃ (D T : Addr) (kvs : List (Key × V)) (ss : List Int), vs = [.ref D, .ref T] ∧ H D = some (.dK kvs) ∧ PatK ss.length kvs ∧ kvs.length ≤ 100 ∧ H T = some (.tup (ss.map V.int)) ∧ ∀ b H', Ex H H' → Q (.bl b) H'
theorem ok_agrees (G : Gz mg) (D : Df K mg "_law_agrees" s__law_agrees f fd ["_law_pattern_here", "_law_standing"]) : Callee P w K mg base CXn 1 "_law_agrees" 2 spAgrees := by
  refine D.callee (D.fn.ok sc__law_agrees (fun vs H Q E h => ?_) (fun cdv A outer s H vs Q E hr h => ⟨_, PSs.nox (pss_one (ps_ret (pe_cmpR op_eq (pe_callB (lenK (K := K) rfl) rfl G.g_len PySem.boot_len (pa_cons (pe_lock (pe_lc (own := [("_law_k", 2)]) rfl sc__law_agrees.nd (pi_keys (pv 0)) (BlkOk.mk (N := ["_law_pattern_here", "_law_standing", "_law_k"]) (sc := defScope s__law_agrees) rfl (by decide +kernel) (by decide +kernel) (by decide +kernel) (by decide +kernel)) (fun _ _ _ _ _ => (pg_name (i := 2) sc__law_agrees.nd rfl (Or.inl rfl))) (fun _ _ _ _ _ => (pts_one (pt_cmpR op_ne (pe_ix (ixK (K := K) rfl) (pv 1) (pv 2) (fun _ _ => rfl)) (pe_dget (room1 hr) (pv 0) (pv 2) (fun _ _ => rfl)) (nomark _)))) (fun _ _ _ _ _ => (pv 2)))) pa_nil)) pe_int (nomark _)))), ?_⟩))
  · obtain ⟨_, _, _, _, rfl, _⟩ := h
    rfl
  · obtain ⟨D, T, kvs, ss, rfl, hD, hk, hkl, hT, k⟩ := h
    have nTD : T ≠ D := fun z => by rw [z, hD] at hT; cases hT
    refine ⟨D, .dK kvs, hD, trivial, fun od => ?_⟩
    have hf : upd H D (.frz od (.dK kvs)) D = some (.frz od (.dK kvs)) := upd_same
    have hT2 : upd H D (.frz od (.dK kvs)) T = some (.tup (ss.map V.int)) := by rw [upd_ne nTD]; exact hT
    refine ⟨_, rfl, D, od, rfl, .inl ⟨kvs, hf, fun N hN => ?_⟩⟩
    refine lc_ev (f := apart' ss kvs) (v := fun x => x) (st_k hf) (by rw [List.length_map]; omega) (fun x => rfl) hN (fun x hx H1 e Q q => ?_) (fun x hx _ H1 e Q q => ⟨_, rfl, q H1 (Ex.refl _)⟩) (fun H' e hd => ⟨e _ _ hf, ?_⟩)
    · obtain ⟨y, hy, rfl⟩ := List.mem_map.mp hx
      obtain ⟨ky, vy, e1, k0, km, hv⟩ := valV_of hk hy
      have li : ky.toNat < (ss.map V.int).length := by rw [List.length_map]; omega
      obtain ⟨z, hz⟩ : ∃ z, (ss.map V.int)[ky.toNat]? = some z := ⟨_, List.getElem?_eq_getElem li⟩
      have hz2 := hz
      rw [List.getElem?_map] at hz2
      obtain ⟨s0, hs0, rfl⟩ := Option.map_eq_some_iff.mp hz2
      have ef : apart' ss kvs (kV y.1) = !decide (V.int s0 = V.int vy) := by
        rw [e1] at hv ⊢
        show (!decide (((ss.map V.int)[ky.toNat]?).getD .non = (valV kvs (.inl ky)).getD .non)) = _
        rw [hz, hv]
        rfl
      have hg : DGet H1 D (kV y.1) (some (.int vy)) := by
        rw [← hv]
        exact frz_get (H' := H1) (e _ _ hf)
      have e2 : kV y.1 = .int ky := by rw [e1]; rfl
      have q1 := q H1 (Ex.refl _)
      rw [ef] at q1
      refine ⟨_, rfl, _, rfl, .inr (.inl ⟨T, _, ky, .int s0, rfl, e2, st_of (e _ _ hT2), at_of (j := ky.toNat) (by omega) hz, ?_⟩)⟩
      exact ⟨_, rfl, _, rfl, D, .int vy, rfl, hg, rfl, _, rfl, q1⟩
    · have ex := unlock_ex hD e
      have nND : N ≠ D := fun z => by rw [z, hf] at hN; cases hN
      refine ⟨.ref N, _, rfl, .inl ⟨_, sq_of (by rw [upd_ne nND]; exact hd), rfl⟩, rfl, k _ _ ex⟩
end
/-- the words of hands, in their order -/
def wds (hs : List Hnd) : List Str := hs.flatMap fun h => h.2.map (·.2.1)
section
variable {P : Program} {w : World} {K : PySem.W.Frag} {mg : Str → Option Value} {base : Heap} {f : Addr} {fd : FuncData}
/-- sorted(set(a list of texts)) -/
theorem words_go {H : Hp} {D : Addr} {zs : List Str} {Q : VK} (hd : H D = some (.lst (zs.map V.str))) (hl : zs.length + 1 < scanBound) (q : ∀ W ks H', Ex H H' → H W = none → ks.Nodup → (∀ x, x ∈ ks ↔ x ∈ zs) → H' W = some (.lst ((sortS ks).map V.str)) → Q (.ref W) H') :
    rSetOfS K P w [.ref D] H fun v H1 => rSortSS P w [v] H1 Q :=
  ⟨D, zs, rfl, sq_of hd, hl, fun A ks hA nd hm => ⟨A, ks, rfl, upd_same, fun W hW => q W ks _ ((Ex.new hA).trans (Ex.new hW)) (fresh_back (Ex.new hA) hW) nd hm upd_same⟩⟩
abbrev s__law_words : Stmt := top 47
theorem sc__law_words : FnScope ["_law_hands", "_law_words_here", "_law_hand_here", "_law_step"] ["_law_hands"] (defScope s__law_words) := ⟨rfl, rfl, rfl, by decide +kernel, rfl, by decide +kernel, by decide +kernel⟩
def spWordsP : Sp := fun vs H Q _ => ∃ (a : Addr) (hs : List Hnd), vs = [.ref a] ∧ HdsAt H a hs ∧ hs.length ≤ 3 ∧ (∀ h ∈ hs, h.2.length ≤ 20) ∧ ∀ W ks H', Ex H H' → H W = none → ks.Nodup → (∀ x, x ∈ ks ↔ x ∈ wds hs) → H' W = some (.lst ((sortS ks).map V.str)) → Q (.ref W) H'
theorem ok_wordsP (G : Gz mg) (D : Df K mg "_law_words" s__law_words f fd ["_law_hands"]) : Callee P w K mg base CXn 1 "_law_words" 1 spWordsP := by
  refine D.callee (D.fn.ok sc__law_words (fun vs H Q E h => ?_) (fun cdv A outer s H vs Q E hr h => ⟨_, PSs.nox (pss_cons (ps_set (i := 1) sc__law_words.nd rfl (Or.inl rfl) (pe_lst pa_nil)) (pss_cons (ps_for PassesOwn.never rfl (pi_tup (pv 0)) (pg_name (i := 2) sc__law_words.nd rfl (Or.inl rfl)) (pss_one (ps_set (i := 1) sc__law_words.nd rfl (Or.inl rfl) (pe_op op_cat (pv 1) (pe_lc (own := [("_law_step", 3)]) rfl sc__law_words.nd (pi_tup (pe_ix (ixK (K := K) rfl) (pv 2) pe_int (fun _ _ => rfl))) (BlkOk.mk (N := ["_law_hands", "_law_words_here", "_law_hand_here", "_law_step"]) (sc := defScope s__law_words) rfl (by decide +kernel) (by decide +kernel) (by decide +kernel) (by decide +kernel)) (fun _ _ _ _ _ => (pg_name (i := 3) sc__law_words.nd rfl (Or.inl rfl))) (fun _ _ _ _ _ => pts_nil) (fun _ _ _ _ _ => (pe_ix (ixK (K := K) rfl) (pv 3) pe_int (fun _ _ => rfl)))))))) (pss_one (ps_ret (pe_callB (cr_sortSS rfl hr.units) rfl G.g_sorted (by rfl) (pa_cons (pe_callTy (cr_setOfS rfl) rfl G.g_set (by rfl) (pa_cons (pv 1) pa_nil)) pa_nil)))))), ?_⟩))
  · obtain ⟨_, _, rfl, _⟩ := h
    rfl
  · obtain ⟨a, hs, rfl, ⟨vs, ha, hv⟩, h3, hl20, k⟩ := h
    have hvl := Paired.length hv
    refine ⟨Nat.zero_le _, fun l0 hl0 => ?_⟩
    have e0 : Ex H (upd H l0 (.lst [])) := Ex.new hl0
    refine ⟨_, rfl, a, rfl, ⟨vs, st_of (e0 _ _ ha)⟩, for_tup (fun i σ' H' => ∃ l v2, σ' = [some (.ref a), some (.ref l), v2, none] ∧ Ex H H' ∧ H' l = some (.lst ((wds (hs.take i)).map V.str)) ∧ (wds (hs.take i)).length ≤ 20 * i) ⟨l0, none, rfl, e0, upd_same, Nat.le_refl _⟩ (fun i σ' H' _ ⟨_, _, _, e, _⟩ => st_of (e _ _ ha)) ?_ ?_⟩
    · rintro i x σ' H' hx ⟨l, v2, rfl, e, hl, hll⟩
      obtain ⟨h, hh, b, c, xs, rfl, x1, x2, x3⟩ := prd_at hv hx
      have h20 := hl20 h (List.mem_of_getElem? hh)
      have i3 : i < 3 := by
        have := (List.getElem?_eq_some_iff.mp hh).1
        omega
      have hw := x3.ex e
      have lx := x3.len
      refine ⟨_, rfl, _, rfl, .inr (.inl ⟨b, _, 1, _, rfl, rfl, st_of (e _ _ x1), (by rfl), c, rfl, ⟨xs, st_of (e _ _ x2)⟩, fun N hN => ?_⟩)⟩
      refine lc_ev (f := fun _ => true) (v := fun y => .str (wd H' y)) (st_t (st_of (e _ _ x2))) (by omega) (fun x => rfl) hN (fun y _ H1 e Q q => q H1 (Ex.refl _)) (fun y my _ H1 e1 Q q => ?_) (fun H1 e1 hd => ?_)
      · obtain ⟨j, hj⟩ := List.getElem?_of_mem my
        obtain ⟨u, hu, hst2⟩ := hw.at hj
        rw [wd_at hst2] at q
        obtain ⟨d, rfl, hc⟩ := hst2
        exact ⟨_, rfl, .inr (.inl ⟨d, _, 1, _, rfl, rfl, st_of (e1 _ _ hc), (by rfl), q H1 (Ex.refl _)⟩)⟩
      have hd2 : H1 N = some (.lst ((h.2.map (·.2.1)).map V.str)) := by
        rw [hd, List.filter_eq_self.mpr (fun _ _ => rfl), ← wd_map hw, List.map_map]
        rfl
      have et : wds (hs.take (i + 1)) = wds (hs.take i) ++ h.2.map (·.2.1) := by
        unfold wds
        rw [List.take_add_one, hh, List.flatMap_append]
        simp
      refine ⟨l, N, _, _, rfl, rfl, e1 _ _ hl, hd2, sz_of (by rw [List.length_map, List.length_map, List.length_map]; omega), fun q hq => ⟨q, _, rfl, e.trans (e1.trans (Ex.new hq)), ?_, ?_⟩⟩
      · rw [upd_same, et, List.map_append]
      · rw [et, List.length_append, List.length_map]
        omega
    · rintro σ' H' ⟨l, v2, rfl, e, hl, hll⟩
      have et : hs.take vs.length = hs := by rw [hvl]; exact List.take_length
      rw [et] at hl hll
      refine ⟨_, rfl, ?_⟩
      dsimp only [tNil]
      refine words_go hl ?_ fun W ks H2 e2 hn nd hm hW => ?_
      · have : (1002 : Nat) ≤ scanBound := by decide
        omega
      · exact k W ks H2 (e.trans e2) (fresh_back e hn) nd hm hW
abbrev s__law_start : Stmt := top 48
theorem sc__law_start : FnScope ["_law_hands", "_law_hand_here"] ["_law_hands"] (defScope s__law_start) := ⟨rfl, rfl, rfl, by decide +kernel, rfl, by decide +kernel, by decide +kernel⟩
def spStartP : Sp := fun vs H Q _ => ∃ (a : Addr) (hs : List Hnd), vs = [.ref a] ∧ HdsAt H a hs ∧ hs.length ≤ 3 ∧ ∀ T H', Ex H H' → H' T = some (.tup ((hs.map (·.1)).map V.int)) → Q (.ref T) H'
/-- the start of a hand -/
def stO : Option HO → V | some (.tup (x :: _)) => x | _ => .non
def stV (H : Hp) : V → V | .ref a => stO (H a) | _ => .non
theorem ok_startP (G : Gz mg) (D : Df K mg "_law_start" s__law_start f fd ["_law_hands"]) : Callee P w K mg base CXn 1 "_law_start" 1 spStartP := by
  refine D.callee (D.fn.ok sc__law_start (fun vs H Q E h => ?_) (fun cdv A outer s H vs Q E hr h => ⟨_, PSs.nox (pss_one (ps_ret (pe_callTy (tupOfK (K := K) rfl) rfl G.g_tuple (by rfl) (pa_cons (pe_lc (own := [("_law_hand_here", 1)]) rfl sc__law_start.nd (pi_tup (pv 0)) (BlkOk.mk (N := ["_law_hands", "_law_hand_here"]) (sc := defScope s__law_start) rfl (by decide +kernel) (by decide +kernel) (by decide +kernel) (by decide +kernel)) (fun _ _ _ _ _ => (pg_name (i := 1) sc__law_start.nd rfl (Or.inl rfl))) (fun _ _ _ _ _ => pts_nil) (fun _ _ _ _ _ => (pe_ix (ixK (K := K) rfl) (pv 1) pe_int (fun _ _ => rfl)))) pa_nil)))), ?_⟩))
  · obtain ⟨_, _, rfl, _⟩ := h
    rfl
  · obtain ⟨a, hs, rfl, ⟨vs, ha, hv⟩, h3, k⟩ := h
    have hvl := Paired.length hv
    refine ⟨_, rfl, a, rfl, ⟨vs, st_of ha⟩, fun N hN => ?_⟩
    refine lc_ev (f := fun _ => true) (v := stV H) (st_t (st_of ha)) (by omega) (fun x => rfl) hN (fun y _ H1 e Q q => q H1 (Ex.refl _)) (fun y my _ H1 e1 Q q => ?_) (fun H1 e1 hd => ?_)
    · obtain ⟨j, hj⟩ := List.getElem?_of_mem my
      obtain ⟨h, hh, b, c, xs, rfl, x1, x2, x3⟩ := prd_at hv hj
      have es : stV H (.ref b) = .int h.1 := by show stO (H b) = _; rw [x1]; rfl
      rw [es] at q
      exact ⟨_, rfl, .inr (.inl ⟨b, _, 0, _, rfl, rfl, st_of (e1 _ _ x1), (by rfl), q H1 (Ex.refl _)⟩)⟩
    have hd2 : H1 N = some (.lst ((hs.map (·.1)).map V.int)) := by
      rw [hd, List.filter_eq_self.mpr (fun _ _ => rfl)]
      congr 2
      clear hd hN ha hvl k
      induction hv with
      | nil => rfl
      | cons g r ih =>
        obtain ⟨b, c, xs, rfl, x1, x2, x3⟩ := g
        rw [List.map_cons, List.map_cons, List.map_cons, ih (by simp at h3; omega)]
        congr 1
        show stO (H b) = _
        rw [x1]
        rfl
    dsimp only [tNil]
    exact tupof_go (K := K) (.inl hd2) fun T H2 e2 hT => k T H2 (e1.trans e2) hT
end
end WK

set_option Elab.async false
set_option linter.all false
set_option maxRecDepth 100000
set_option maxHeartbeats 4000000
namespace WK
open PySem PySem.Spec PyProof.Rows L2 WW Evl
/-- words of faults with their names -/
def Bl (zs : List Str) (kvs : List (Key × V)) : Prop := ∀ q ∈ kvs, ∃ x n : Str, q = (.inr x, .str n) ∧ x ∈ zs ∧ IsNm n
theorem Bl.put {zs : List Str} {kvs : List (Key × V)} {x n : Str} (h : Bl zs kvs) (hx : x ∈ zs) (hn : IsNm n) : Bl zs (putK kvs (.inr x) (.str n)) := fun q hq => by
  rcases put_mem hq with hq | rfl
  · exact h q hq
  · exact ⟨x, n, rfl, hx, hn⟩
theorem two_at {ns : List Str} (h : ns.length = 2) (b : Bool) : ∃ n ∈ ns, atI (ns.map V.str) (if b = true then 1 else 0) = some (.str n) := by
  match ns, h with
  | [x, y], _ =>
    cases b
    · exact ⟨x, by simp, at_of (j := 0) rfl rfl⟩
    · exact ⟨y, by simp, at_of (j := 1) rfl rfl⟩
section
variable {P : Program} {w : World} {K : PySem.W.Frag} {mg : Str → Option Value} {base : Heap} {f : Addr} {fd : FuncData}
abbrev s__law_blames : Stmt := top 49
theorem sc__law_blames : FnScope ["_law_pool_here", "_law_words_here", "_law_names_here", "_law_blames_here", "_law_word", "_law_part"] ["_law_pool_here", "_law_words_here"] (defScope s__law_blames) := ⟨rfl, rfl, rfl, by decide +kernel, rfl, by decide +kernel, by decide +kernel⟩
def spBlames : Sp := fun vs H Q _ => ∃ (p a : Addr) (zs : List Str), vs = [.ref p, .ref a] ∧ Pool H p ∧ a ≠ p ∧ H a = some (.lst (zs.map V.str)) ∧ zs.length ≤ 100 ∧
  ∀ v H', Kp p H H' → Pool H' p → (v = .non ∨ ∃ D kvs, v = .ref D ∧ D ≠ p ∧ H' D = some (.dK kvs) ∧ Bl zs kvs) → Q v H'
theorem ok_blames (G : Gz mg) (D : Df K mg "_law_blames" s__law_blames f fd ["_law_pool_here", "_law_words_here"]) (c__law_draw : Callee P w K mg base CXn 1 "_law_draw" 2 spDraw) (c__law_names : Callee P w K mg base CXn 3 "_law_names" 2 spNames) : Callee P w K mg base CXn 4 "_law_blames" 2 spBlames := by
  refine D.callee (D.fn.ok sc__law_blames (fun vs H Q E h => ?_) (fun cdv A outer s H vs Q E hr h => ⟨_, PSs.nox (pss_cons (ps_par (i := 2) (j := 3) rfl sc__law_blames.nd rfl rfl (by decide) rfl rfl (pa_cons (pe_cl (E := En) c__law_names (hr.mono (by decide)) rfl passN (pa_cons (pv 0) (pa_cons pe_int pa_nil))) (pa_cons pe_dnewK pa_nil)) rfl) (pss_cons (ps_for PassesOwn.never rfl (pi_list (pv 1)) (pg_name (i := 4) sc__law_blames.nd rfl (Or.inl rfl)) (pss_cons (ps_set (i := 5) sc__law_blames.nd rfl (Or.inl rfl) (pe_cl (E := En) c__law_draw (hr.mono (by decide)) rfl passN (pa_cons (pv 0) (pa_cons pe_int pa_nil)))) (pss_one (ps_if (pt_cmpR op_lt (pv 5) pe_int (nomark _)) (pss_one (ps_dput (room1 hr) (pv 3) (pv 4) (pe_ix (ixK (K := K) rfl) (pv 2) (pe_callTy call_int1 rfl G.g_int (by rfl) (pa_cons (L2.pe_and (pe_cmpR op_eq (pv 5) pe_int (nomark _)) (pe_one (pe_cmpR op_eq (pe_cl (E := En) c__law_draw (hr.mono (by decide)) rfl passN (pa_cons (pv 0) (pa_cons pe_int pa_nil))) pe_int (nomark _)))) pa_nil)) (fun _ _ => rfl)) rfl)) pss_nil)))) (pss_cons (ps_if (PW.pt (pw_and (pt_cmpR op_eq (pe_callB call_lenD rfl G.g_len PySem.boot_len (pa_cons (pv 3) pa_nil)) pe_int (nomark _)) (pw_and1 (pt_cmpR op_eq (pe_cl (E := En) c__law_draw (hr.mono (by decide)) rfl passN (pa_cons (pv 0) (pa_cons pe_int pa_nil))) pe_int (nomark _))))) (pss_one (ps_ret pe_non)) pss_nil) (pss_one (ps_ret (pv 3)))))), ?_⟩))
  · obtain ⟨_, _, _, rfl, _⟩ := h
    rfl
  · obtain ⟨p, a, zs, rfl, hP, nap, ha, zl, k⟩ := h
    refine ⟨_, rfl, p, 2, rfl, hP, by decide, by decide, fun nl ns H1 nlen nd nm K1 P1 hnl nnl hns => fun D hD => ⟨_, _, rfl, ?_⟩⟩
    have nlen2 : ns.length = 2 := nlen
    obtain ⟨F0, nDp⟩ := Fil.new (o := .dK []) P1 hD
    have ha1 := K1.k _ _ nap ha
    have keep : ∀ {H' : Hp}, Fil p D H1 H' → H' a = some (.lst (zs.map V.str)) ∧ H' nl = some (.lst (ns.map V.str)) := fun F => ⟨F.kp.k _ _ nap ha1, F.kp.k _ _ nnl hns⟩
    refine ⟨_, rfl, a, rfl, ⟨_, sq_of (keep F0).1⟩, for_list (fun i σ' H' => ∃ v4 v5 kvs, σ' = [some (.ref p), some (.ref a), some (.ref nl), some (.ref D), v4, v5] ∧ Fil p D H1 H' ∧ H' D = some (.dK kvs) ∧ Bl zs kvs ∧ kvs.length ≤ i) ⟨none, none, [], rfl, F0, upd_same, (fun q z => nomatch z), Nat.le_refl _⟩ (fun i σ' H' _ ⟨_, _, _, _, F, _⟩ => sq_of (keep F).1) ?_ ?_⟩
    · rintro i x σ' H' hx ⟨v4, v5, kvs, rfl, F, hd, hb, hkl⟩
      obtain ⟨z, hz, rfl⟩ := List.mem_map.mp (List.mem_of_getElem? hx)
      have i100 : i < 100 := by
        have := (List.getElem?_eq_some_iff.mp hx).1
        rw [List.length_map] at this
        omega
      refine ⟨_, rfl, p, 7, rfl, F.pool, by decide, by decide, fun d H2 d0 d1 K2 P2 => ?_⟩
      obtain ⟨F2, hd2⟩ := F.draw nDp hd K2 P2
      refine ⟨_, rfl, _, 2, rfl, rfl, _, rfl, ite2 (fun _ => ?_) (fun _ => ⟨_, _, kvs, rfl, F2, hd2, hb, by omega⟩)⟩
      have fin : ∀ {H3 : Hp} {n : Str}, Fil p D H1 H3 → H3 D = some (.dK kvs) → n ∈ ns → DPut H3 D (.str z) (.str n) (upd H3 D (.dK (putK kvs (.inr z) (.str n)))) ∧ ∃ v4 v5 kvs', [some (V.ref p), some (V.ref a), some (V.ref nl), some (V.ref D), some (V.str z), some (V.int d)] = [some (.ref p), some (.ref a), some (.ref nl), some (.ref D), v4, v5] ∧ Fil p D H1 (upd H3 D (.dK (putK kvs (.inr z) (.str n)))) ∧ upd H3 D (.dK (putK kvs (.inr z) (.str n))) D = some (.dK kvs') ∧ Bl zs kvs' ∧ kvs'.length ≤ i + 1 := fun {H3 n} F3 hd3 hn =>
        ⟨DPut.k (k := .inr z) hd3 (sz_lt (by omega)), _, _, _, rfl, F3.put nDp hD, upd_same, hb.put hz (nm n hn), by have := length_putK kvs (Sum.inr z : Key) (V.str n); omega⟩
      refine ⟨_, rfl, _, rfl, rfl, decide (V.int d = V.int 1), rfl, ?_⟩
      cases decide (V.int d = V.int 1) with
      | false =>
        obtain ⟨n, hn, hat⟩ := two_at nlen2 false
        obtain ⟨f1, f2⟩ := fin F2 hd2 hn
        exact .inr ⟨false, rfl, .inl ⟨nl, _, _, .str n, rfl, rfl, sq_of (keep F2).2, hat, _, rfl, _, rfl, D, _, rfl, f1, f2⟩⟩
      | true =>
        refine ⟨_, rfl, p, 2, rfl, P2, by decide, by decide, fun e H3 e0 e1 K3 P3 => ⟨rfl, .inr ⟨_, rfl, ?_⟩⟩⟩
        obtain ⟨F3, hd3⟩ := F2.draw nDp hd2 K3 P3
        obtain ⟨n, hn, hat⟩ := two_at nlen2 (decide (V.int e = V.int 0))
        obtain ⟨f1, f2⟩ := fin F3 hd3 hn
        exact .inl ⟨nl, _, _, .str n, rfl, rfl, sq_of (keep F3).2, hat, _, rfl, _, rfl, D, _, rfl, f1, f2⟩
    · rintro σ' H' ⟨v4, v5, kvs, rfl, F, hd, hb, hkl⟩
      have end_ : ∀ {H2 : Hp}, Fil p D H1 H2 → H2 D = some (.dK kvs) → Q (.ref D) H2 := fun F2 hd2 => k _ _ (K1.trans F2.kp) F2.pool (.inr ⟨D, kvs, rfl, nDp, hd2, hb⟩)
      refine ⟨_, rfl, D, kvs, rfl, hd, rfl, _, rfl, ite2 (fun _ => ?_) (fun _ => ⟨_, rfl, end_ F hd⟩)⟩
      refine ⟨_, rfl, p, 2, rfl, F.pool, by decide, by decide, fun e H2 e0 e1 K2 P2 => ⟨rfl, _, rfl, ?_⟩⟩
      obtain ⟨F2, hd2⟩ := F.draw nDp hd K2 P2
      exact ite2 (fun _ => k _ _ (K1.trans F2.kp) F2.pool (.inl rfl)) (fun _ => ⟨_, rfl, end_ F2 hd2⟩)
abbrev s__law_hides : Stmt := top 50
theorem sc__law_hides : FnScope ["_law_pool_here", "_law_hands", "_law_hides_here", "_law_name_here", "_law_k"] ["_law_pool_here", "_law_hands"] (defScope s__law_hides) := ⟨rfl, rfl, rfl, by decide +kernel, rfl, by decide +kernel, by decide +kernel⟩
def spHides : Sp := fun vs H Q _ => ∃ (p a : Addr) (hs : List Hnd), vs = [.ref p, .ref a] ∧ Pool H p ∧ HdsAt H a hs ∧ hs ≠ [] ∧ hs.length ≤ 3 ∧ (∀ h ∈ hs, GoodRow h.2) ∧ ∀ v H', Kp p H H' → Pool H' p → Q v H'
theorem ok_hides (G : Gz mg) (D : Df K mg "_law_hides" s__law_hides f fd ["_law_pool_here", "_law_hands"]) (c__law_draw : Callee P w K mg base CXn 1 "_law_draw" 2 spDraw) (c__law_names : Callee P w K mg base CXn 3 "_law_names" 2 spNames) (c__law_pattern : Callee P w K mg base CXn 3 "_law_pattern" 2 spPattern) : Callee P w K mg base CXn 4 "_law_hides" 2 spHides := by
  refine D.callee (D.fn.ok sc__law_hides (fun vs H Q E h => ?_) (fun cdv A outer s H vs Q E hr h => ⟨_, PSs.nox (pss_cons (ps_set (i := 2) sc__law_hides.nd rfl (Or.inl rfl) pe_dnewK) (pss_cons (ps_for PassesOwn.never rfl (pi_list (pe_cl (E := En) c__law_names (hr.mono (by decide)) rfl passN (pa_cons (pv 0) (pa_cons (pe_cl (E := En) c__law_draw (hr.mono (by decide)) rfl passN (pa_cons (pv 0) (pa_cons pe_int pa_nil))) pa_nil)))) (pg_name (i := 3) sc__law_hides.nd rfl (Or.inl rfl)) (pss_one (ps_dput (room1 hr) (pv 2) (pv 3) (pe_lc (own := [("_law_k", 4)]) rfl sc__law_hides.nd (pi_range1 rfl G.g_range (pa_cons (pe_op op_add pe_int (pe_cl (E := En) c__law_draw (hr.mono (by decide)) rfl passN (pa_cons (pv 0) (pa_cons pe_int pa_nil)))) pa_nil)) (BlkOk.mk (N := ["_law_pool_here", "_law_hands", "_law_hides_here", "_law_name_here", "_law_k"]) (sc := defScope s__law_hides) rfl (by decide +kernel) (by decide +kernel) (by decide +kernel) (by decide +kernel)) (fun _ _ _ _ _ => (pg_name (i := 4) sc__law_hides.nd rfl (Or.inl rfl))) (fun _ _ _ _ _ => pts_nil) (fun _ _ _ _ _ => (pe_cl (E := En) c__law_pattern (hr.mono (by decide)) rfl passN (pa_cons (pv 0) (pa_cons (pv 1) pa_nil))))) rfl))) (pss_cons (ps_if (PW.pt (pw_and (pt_cmpR op_eq (pe_callB call_lenD rfl G.g_len PySem.boot_len (pa_cons (pv 2) pa_nil)) pe_int (nomark _)) (pw_and1 (pt_cmpR op_eq (pe_cl (E := En) c__law_draw (hr.mono (by decide)) rfl passN (pa_cons (pv 0) (pa_cons pe_int pa_nil))) pe_int (nomark _))))) (pss_one (ps_ret pe_non)) pss_nil) (pss_one (ps_ret (pv 2)))))), ?_⟩))
  · obtain ⟨_, _, _, rfl, _⟩ := h
    rfl
  · obtain ⟨p, a, hs, rfl, hP, ha, hne, h3, good, k⟩ := h
    intro D hD
    obtain ⟨F0, nDp⟩ := Fil.new (o := .dK []) hP hD
    refine ⟨_, rfl, _, rfl, p, 3, rfl, F0.pool, by decide, by decide, fun d H1 d0 d1 K1 P1 => ⟨p, d, rfl, P1, d0, by omega, fun nl ns H2 nlen nd nm K2 P2 hnl nnl hns => ?_⟩⟩
    obtain ⟨F1, hd1⟩ := F0.draw nDp upd_same K1 P1
    obtain ⟨F2, hd2⟩ := F1.draw nDp hd1 K2 P2
    have nDl : D ≠ nl := fun z => by rw [z, hnl] at hd1; cases hd1
    refine ⟨nl, rfl, ⟨_, sq_of hns⟩, for_list (fun i σ' H' => ∃ v3 kvs, σ' = [some (.ref p), some (.ref a), some (.ref D), v3, none] ∧ Fil p D H H' ∧ H' D = some (.dK kvs) ∧ kvs.length ≤ i ∧ H' nl = some (.lst (ns.map V.str))) ⟨none, [], rfl, F2, hd2, Nat.le_refl _, hns⟩ (fun i σ' H' _ ⟨_, _, _, _, _, _, h⟩ => sq_of h) ?_ ?_⟩
    · rintro i x σ' H' hx ⟨v3, kvs, rfl, F, hd, hkl, hn'⟩
      obtain ⟨z, hz, rfl⟩ := List.mem_map.mp (List.mem_of_getElem? hx)
      have i3 : i < 3 := by
        have := (List.getElem?_eq_some_iff.mp hx).1
        rw [List.length_map, nlen] at this
        omega
      refine ⟨_, rfl, p, 2, rfl, F.pool, by decide, by decide, fun e H3 e0 e1 K3 P3 => ⟨1, e, rfl, rfl, 1 + e, rfl, by omega, by omega, fun N hN => ?_⟩⟩
      obtain ⟨F3, hd3⟩ := F.draw nDp hd K3 P3
      have hn3 := K3.k _ _ nnl hn'
      obtain ⟨E0, nNp⟩ := Fil.new (o := .lst []) P3 hN
      refine lc_range (fun j H' => ∃ ms : List V, ms.length = j ∧ H' N = some (.lst ms) ∧ Fil p N H3 H') ⟨[], rfl, upd_same, E0⟩ ?_ ?_
      · rintro j H4 hj ⟨ms, hml, hM, E4⟩
        have K04 : Kp p H H4 := F3.kp.trans E4.kp
        refine ⟨rfl, _, rfl, _, rfl, p, a, hs, rfl, E4.pool, ha.tu (K04.tu hP), hne, h3, good, fun D2 kvs2 H5 K5 P5 hD2 nD2 ne2 l4 pk2 hd5 => ?_⟩
        obtain ⟨E5, hM5⟩ := E4.draw nNp hM K5 P5
        refine ⟨ms, hM5, sz_lt (by omega), ms ++ [.ref D2], by rw [List.length_append, hml]; rfl, upd_same, E5.put nNp hN⟩
      · rintro H4 ⟨ms, hml, hM, E4⟩
        obtain ⟨F4, hd4⟩ := F3.draw nDp hd3 E4.kp E4.pool
        have hn4 := E4.kp.k _ _ nnl hn3
        refine ⟨_, rfl, _, rfl, D, _, rfl, DPut.k (k := .inr z) hd4 (sz_lt (by omega)), ?_⟩
        refine ⟨_, _, rfl, F4.put nDp hD, upd_same, by have := length_putK kvs (Sum.inr z : Key) (V.ref N); omega, ?_⟩
        rw [upd_ne nDl.symm]
        exact hn4
    · rintro σ' H' ⟨v3, kvs, rfl, F, hd, hkl, hn'⟩
      refine ⟨_, rfl, D, kvs, rfl, hd, rfl, _, rfl, ite2 (fun _ => ?_) (fun _ => ⟨_, rfl, k _ _ F.kp F.pool⟩)⟩
      refine ⟨_, rfl, p, 2, rfl, F.pool, by decide, by decide, fun e H2 e0 e1 K2 P2 => ⟨rfl, _, rfl, ?_⟩⟩
      exact ite2 (fun _ => k _ _ (F.kp.trans K2) P2) (fun _ => ⟨_, rfl, k _ _ (F.kp.trans K2) P2⟩)
end
end WK

set_option Elab.async false
set_option linter.all false
set_option maxRecDepth 100000
set_option maxHeartbeats 4000000
namespace WK
open PySem PySem.Spec PyProof.Rows L2 WW Evl
theorem Drawn.mono {ws zs : List Str} {st : Int} {ts : List Stp} (h : Drawn ws st ts) (s : ∀ x ∈ ws, x ∈ zs) : Drawn zs st ts := ⟨h.row, h.st0, h.low, h.short, fun t m => s _ (h.word t m)⟩
theorem cut_mem {xs : List V} {lo hi : Option Int} {x : V} (h : x ∈ cutV xs lo hi) : x ∈ xs := List.mem_of_mem_drop (List.mem_of_mem_take h)
theorem two_atI {a b : Int} (c : Bool) : ∃ m, atI [V.int a, .int b] (if c = true then 1 else 0) = some (.int m) ∧ (m = a ∨ m = b) := by
  cases c
  · exact ⟨a, at_of (j := 0) rfl rfl, .inl rfl⟩
  · exact ⟨b, at_of (j := 1) rfl rfl, .inr rfl⟩
/-- how many places each hand has -/
def Shp (H : Hp) (v : V) : Prop := ∃ (T : Addr) (ks : List Int), v = .ref T ∧ H T = some (.tup (ks.map V.int)) ∧ 1 ≤ ks.length ∧ ks.length ≤ 3 ∧ ∀ k ∈ ks, 2 ≤ k ∧ k ≤ 4
theorem Shp.ex {H H' : Hp} {v : V} (e : Ex H H') (h : Shp H v) : Shp H' v := by
  obtain ⟨T, ks, rfl, h1, h2⟩ := h
  exact ⟨T, ks, rfl, e _ _ h1, h2⟩
theorem prd_snoc {α β : Type} {R : α → β → Prop} {x : α} {y : β} : ∀ {xs : List α} {ys : List β}, Paired R xs ys → R x y → Paired R (xs ++ [x]) (ys ++ [y])
  | _, _, .nil, h => .cons h .nil
  | _, _, .cons g r, h => .cons g (prd_snoc r h)
theorem not_list {p a : Addr} {H : Hp} {xs : List V} (hP : Pool H p) (h : H a = some (.tup xs)) : a ≠ p := fun z => by
  obtain ⟨_, _, _, _, _, _, hp, _⟩ := hP
  rw [z, hp] at h
  cases h
section
variable {P : Program} {w : World} {K : PySem.W.Frag} {mg : Str → Option Value} {base : Heap} {f : Addr} {fd : FuncData}
abbrev s__law_plan : Stmt := top 51
theorem sc__law_plan : FnScope ["_law_pool_here", "_law_size", "_law_shapes", "_law_shape", "_law_words_here", "_law_hands", "_law_k", "_law_own", "_law_at", "_law_gates", "_law_pattern_here"] ["_law_pool_here", "_law_size"] (defScope s__law_plan) := ⟨rfl, rfl, rfl, by decide +kernel, rfl, by decide +kernel, by decide +kernel⟩
def spPlan : Sp := fun vs H Q _ => ∃ (p : Addr) (sz : Int), vs = [.ref p, .int sz] ∧ Pool H p ∧ 0 ≤ sz ∧ sz ≤ 2 ∧
  ∀ T hd a1 a2 a3 a4 hs zs H', Kp p H H' → Pool H' p → H' T = some (.tup [.ref hd, a1, a2, a3, a4]) → HdsAt H' hd hs → hs ≠ [] → hs.length ≤ 3 → (∀ h ∈ hs, Drawn zs h.1 h.2) → zs.length ≤ 5 → (∀ z ∈ zs, IsNm z) → zs.Nodup → Q (.ref T) H'
theorem ok_plan (G : Gz mg) (D : Df K mg "_law_plan" s__law_plan f fd ["_law_pool_here", "_law_size"]) (c__law_draw : Callee P w K mg base CXn 1 "_law_draw" 2 spDraw) (c__law_pick : Callee P w K mg base CXn 2 "_law_pick" 2 spPick) (c__law_names : Callee P w K mg base CXn 3 "_law_names" 2 spNames) (c__law_hand : Callee P w K mg base CXn 3 "_law_hand" 3 spHand)
    (c__law_pattern : Callee P w K mg base CXn 3 "_law_pattern" 2 spPattern) (c__law_agrees : Callee P w K mg base CXn 1 "_law_agrees" 2 spAgrees) (c__law_words : Callee P w K mg base CXn 1 "_law_words" 1 spWordsP) (c__law_start : Callee P w K mg base CXn 1 "_law_start" 1 spStartP)
    (c__law_blames : Callee P w K mg base CXn 4 "_law_blames" 2 spBlames) (c__law_hides : Callee P w K mg base CXn 4 "_law_hides" 2 spHides) : Callee P w K mg base CXn 5 "_law_plan" 2 spPlan := by
  refine D.callee (D.fn.ok sc__law_plan (fun vs H Q E h => ?_) (fun cdv A outer s H vs Q E hr h => ⟨_, PSs.nox (pss_cons (ps_set (i := 2) sc__law_plan.nd rfl (Or.inl rfl) (pe_lst (pa_cons (pe_tup (pa_cons pe_int pa_nil)) (pa_cons (pe_tup (pa_cons pe_int pa_nil)) (pa_cons (pe_tup (pa_cons pe_int pa_nil)) (pa_cons (pe_tup (pa_cons pe_int (pa_cons pe_int pa_nil))) (pa_cons (pe_tup (pa_cons pe_int (pa_cons pe_int pa_nil))) (pa_cons (pe_tup (pa_cons pe_int (pa_cons pe_int pa_nil))) (pa_cons (pe_tup (pa_cons pe_int (pa_cons pe_int pa_nil))) (pa_cons (pe_tup (pa_cons pe_int (pa_cons pe_int (pa_cons pe_int pa_nil)))) (pa_cons (pe_tup (pa_cons pe_int (pa_cons pe_int pa_nil))) pa_nil))))))))))) (pss_cons (ps_set (i := 3) sc__law_plan.nd rfl (Or.inr rfl) (pe_cl (E := En) c__law_pick (hr.mono (by decide)) rfl passN (pa_cons (pv 0) (pa_cons (pe_slice sl_list (pv 2) (po_some (pe_ix (ixK (K := K) rfl) (pe_lst (pa_cons pe_int (pa_cons pe_int (pa_cons pe_int pa_nil)))) (pv 1) (fun _ _ => rfl))) (po_some (pe_ix (ixK (K := K) rfl) (pe_lst (pa_cons pe_int (pa_cons pe_int (pa_cons pe_int pa_nil)))) (pv 1) (fun _ _ => rfl)))) pa_nil)))) (pss_cons (ps_set (i := 4) sc__law_plan.nd rfl (Or.inr rfl) (pe_cl (E := En) c__law_names (hr.mono (by decide)) rfl passN (pa_cons (pv 0) (pa_cons (pe_op op_add pe_int (pe_cl (E := En) c__law_draw (hr.mono (by decide)) rfl passN (pa_cons (pv 0) (pa_cons pe_int pa_nil)))) pa_nil)))) (pss_cons (ps_set (i := 5) sc__law_plan.nd rfl (Or.inl rfl) (pe_lst pa_nil)) (pss_cons (ps_for PassesOwn.never rfl (pi_range1 rfl G.g_range (pa_cons (pe_callB (lenK (K := K) rfl) rfl G.g_len PySem.boot_len (pa_cons (pv 3) pa_nil)) pa_nil)) (pg_name (i := 6) sc__law_plan.nd rfl (Or.inr rfl)) (pss_cons (ps_setLc (i := 7) (y := "_law_own") (own := [("_law_at", 8)]) rfl sc__law_plan.nd rfl rfl rfl (pi_range1 rfl G.g_range (pa_cons (pe_callB (lenK (K := K) rfl) rfl G.g_len PySem.boot_len (pa_cons (pv 4) pa_nil)) pa_nil)) (BlkOk.mk (N := ["_law_pool_here", "_law_size", "_law_shapes", "_law_shape", "_law_words_here", "_law_hands", "_law_k", "_law_own", "_law_at", "_law_gates", "_law_pattern_here"]) (sc := defScope s__law_plan) rfl (by decide +kernel) (by decide +kernel) (by decide +kernel) (by decide +kernel)) (fun _ _ _ _ _ => (pg_name (i := 8) sc__law_plan.nd rfl (Or.inl rfl))) (fun _ _ _ _ _ => (pts_one (PW.pt (pw_or (pt_cmpR op_eq (pe_op op_mod (pe_callTy call_int1 rfl G.g_int (by rfl) (pa_cons (pv 8) pa_nil)) (pe_callB (lenK (K := K) rfl) rfl G.g_len PySem.boot_len (pa_cons (pv 3) pa_nil))) (pv 6) (nomark _)) (pw_or1 (pt_cmpR op_eq (pe_cl (E := En) c__law_draw (hr.mono (by decide)) rfl passN (pa_cons (pv 0) (pa_cons pe_int pa_nil))) pe_int (nomark _))))))) (fun _ _ _ _ _ => (pe_ix (ixK (K := K) rfl) (pv 4) (pv 8) (fun _ _ => rfl)))) (pss_one (ps_expr (pe_bm PySem.F.plainAttrs_list PySem.F.slot_list_append PySem.F.type_list_append mt_append (pv 5) (pa_cons (pe_cl (E := En) c__law_hand (hr.mono (by decide)) rfl passN (pa_cons (pv 0) (pa_cons (pv 7) (pa_cons (pe_ix (ixK (K := K) rfl) (pv 3) (pv 6) (fun _ _ => rfl)) pa_nil)))) pa_nil)))))) (pss_cons (ps_set (i := 5) sc__law_plan.nd rfl (Or.inl rfl) (pe_callTy (tupOfK (K := K) rfl) rfl G.g_tuple (by rfl) (pa_cons (pv 5) pa_nil))) (pss_cons (ps_set (i := 9) sc__law_plan.nd rfl (Or.inl rfl) (pe_lst pa_nil)) (pss_cons (ps_for PassesOwn.never rfl (pi_range1 rfl G.g_range (pa_cons (pe_ix (ixK (K := K) rfl) (pe_lst (pa_cons (pe_cl (E := En) c__law_draw (hr.mono (by decide)) rfl passN (pa_cons (pv 0) (pa_cons pe_int pa_nil))) (pa_cons (pe_cl (E := En) c__law_draw (hr.mono (by decide)) rfl passN (pa_cons (pv 0) (pa_cons pe_int pa_nil))) pa_nil))) (pe_callTy call_int1 rfl G.g_int (by rfl) (pa_cons (pe_cmpR op_eq (pe_cl (E := En) c__law_draw (hr.mono (by decide)) rfl passN (pa_cons (pv 0) (pa_cons pe_int pa_nil))) pe_int (nomark _)) pa_nil)) (fun _ _ => rfl)) pa_nil)) (pg_name (i := 6) sc__law_plan.nd rfl (Or.inr rfl)) (pss_cons (ps_set (i := 10) sc__law_plan.nd rfl (Or.inl rfl) (pe_cl (E := En) c__law_pattern (hr.mono (by decide)) rfl passN (pa_cons (pv 0) (pa_cons (pv 5) pa_nil)))) (pss_one (ps_if (pt_not (pt_val (pe_cl (E := En) c__law_agrees (hr.mono (by decide)) rfl passN (pa_cons (pv 10) (pa_cons (pe_cl (E := En) c__law_start (hr.mono (by decide)) rfl passN (pa_cons (pv 5) pa_nil)) pa_nil))))) (pss_one (ps_expr (pe_bm PySem.F.plainAttrs_list PySem.F.slot_list_append PySem.F.type_list_append mt_append (pv 9) (pa_cons (pv 10) pa_nil)))) pss_nil)))) (pss_one (ps_ret (pe_tup (pa_cons (pv 5) (pa_cons (pv 9) (pa_cons (pe_cl (E := En) c__law_blames (hr.mono (by decide)) rfl passN (pa_cons (pv 0) (pa_cons (pe_cl (E := En) c__law_words (hr.mono (by decide)) rfl passN (pa_cons (pv 5) pa_nil)) pa_nil))) (pa_cons (pe_cl (E := En) c__law_hides (hr.mono (by decide)) rfl passN (pa_cons (pv 0) (pa_cons (pv 5) pa_nil))) (pa_cons (pe_revL (pe_lc (own := [("_law_k", 6)]) rfl sc__law_plan.nd (pi_range1 rfl G.g_range (pa_cons (pe_callB (lenK (K := K) rfl) rfl G.g_len PySem.boot_len (pa_cons (pv 5) pa_nil)) pa_nil)) (BlkOk.mk (N := ["_law_pool_here", "_law_size", "_law_shapes", "_law_shape", "_law_words_here", "_law_hands", "_law_k", "_law_own", "_law_at", "_law_gates", "_law_pattern_here"]) (sc := defScope s__law_plan) rfl (by decide +kernel) (by decide +kernel) (by decide +kernel) (by decide +kernel)) (fun _ _ _ _ _ => (pg_name (i := 6) sc__law_plan.nd rfl (Or.inl rfl))) (fun _ _ _ _ _ => (pts_one (pt_cmpR op_eq (pe_cl (E := En) c__law_draw (hr.mono (by decide)) rfl passN (pa_cons (pv 0) (pa_cons pe_int pa_nil))) pe_int (nomark _)))) (fun _ _ _ _ _ => (pv 6)))) pa_nil)))))))))))))))), ?_⟩))
  · obtain ⟨_, _, rfl, _⟩ := h
    rfl
  · obtain ⟨p, sz, rfl, hP, sz0, sz2, k⟩ := h
    -- the shapes
    have one : ∀ {A B : Hp} {T : Addr} {o : HO}, Ex H A → A T = none → upd A T o = B → Ex H B ∧ B T = some o ∧ Ex A B := fun {A B T o} e n eb => by
      subst eb
      exact ⟨e.trans (Ex.new n), upd_same, Ex.new n⟩
    refine ⟨(by show 1 ≤ sizeLine; decide), fun A1 n1 => ?_⟩
    obtain ⟨B1, eB⟩ : ∃ B, upd H A1 (.tup [.int 2]) = B := ⟨_, rfl⟩
    obtain ⟨E1, h1, x1⟩ := one (Ex.refl _) n1 eB
    rw [eB]
    clear eB n1
    refine ⟨(by show 1 ≤ sizeLine; decide), fun A2 n2 => ?_⟩
    obtain ⟨B2, eB⟩ : ∃ B, upd B1 A2 (.tup [.int 3]) = B := ⟨_, rfl⟩
    obtain ⟨E2, h2, x2⟩ := one E1 n2 eB
    rw [eB]
    clear eB n2
    refine ⟨(by show 1 ≤ sizeLine; decide), fun A3 n3 => ?_⟩
    obtain ⟨B3, eB⟩ : ∃ B, upd B2 A3 (.tup [.int 4]) = B := ⟨_, rfl⟩
    obtain ⟨E3, h3, x3⟩ := one E2 n3 eB
    rw [eB]
    clear eB n3
    refine ⟨(by show 2 ≤ sizeLine; decide), fun A4 n4 => ?_⟩
    obtain ⟨B4, eB⟩ : ∃ B, upd B3 A4 (.tup [.int 2, .int 2]) = B := ⟨_, rfl⟩
    obtain ⟨E4, h4, x4⟩ := one E3 n4 eB
    rw [eB]
    clear eB n4
    refine ⟨(by show 2 ≤ sizeLine; decide), fun A5 n5 => ?_⟩
    obtain ⟨B5, eB⟩ : ∃ B, upd B4 A5 (.tup [.int 2, .int 3]) = B := ⟨_, rfl⟩
    obtain ⟨E5, h5, x5⟩ := one E4 n5 eB
    rw [eB]
    clear eB n5
    refine ⟨(by show 2 ≤ sizeLine; decide), fun A6 n6 => ?_⟩
    obtain ⟨B6, eB⟩ : ∃ B, upd B5 A6 (.tup [.int 3, .int 2]) = B := ⟨_, rfl⟩
    obtain ⟨E6, h6, x6⟩ := one E5 n6 eB
    rw [eB]
    clear eB n6
    refine ⟨(by show 2 ≤ sizeLine; decide), fun A7 n7 => ?_⟩
    obtain ⟨B7, eB⟩ : ∃ B, upd B6 A7 (.tup [.int 3, .int 3]) = B := ⟨_, rfl⟩
    obtain ⟨E7, h7, x7⟩ := one E6 n7 eB
    rw [eB]
    clear eB n7
    refine ⟨(by show 3 ≤ sizeLine; decide), fun A8 n8 => ?_⟩
    obtain ⟨B8, eB⟩ : ∃ B, upd B7 A8 (.tup [.int 2, .int 2, .int 2]) = B := ⟨_, rfl⟩
    obtain ⟨E8, h8, x8⟩ := one E7 n8 eB
    rw [eB]
    clear eB n8
    refine ⟨(by show 2 ≤ sizeLine; decide), fun A9 n9 => ?_⟩
    obtain ⟨B9, eB⟩ : ∃ B, upd B8 A9 (.tup [.int 4, .int 2]) = B := ⟨_, rfl⟩
    obtain ⟨E9, h9, x9⟩ := one E8 n9 eB
    rw [eB]
    clear eB n9
    have sh : ∀ v ∈ [V.ref A1, .ref A2, .ref A3, .ref A4, .ref A5, .ref A6, .ref A7, .ref A8, .ref A9], Shp B9 v := by
      simp only [List.forall_mem_cons]
      exact ⟨⟨A1, [2], rfl, (x2.trans (x3.trans (x4.trans (x5.trans (x6.trans (x7.trans (x8.trans x9))))))) _ _ h1, by decide, by decide, by decide⟩, ⟨A2, [3], rfl, (x3.trans (x4.trans (x5.trans (x6.trans (x7.trans (x8.trans x9)))))) _ _ h2, by decide, by decide, by decide⟩, ⟨A3, [4], rfl, (x4.trans (x5.trans (x6.trans (x7.trans (x8.trans x9))))) _ _ h3, by decide, by decide, by decide⟩,
        ⟨A4, [2, 2], rfl, (x5.trans (x6.trans (x7.trans (x8.trans x9)))) _ _ h4, by decide, by decide, by decide⟩, ⟨A5, [2, 3], rfl, (x6.trans (x7.trans (x8.trans x9))) _ _ h5, by decide, by decide, by decide⟩, ⟨A6, [3, 2], rfl, (x7.trans (x8.trans x9)) _ _ h6, by decide, by decide, by decide⟩, ⟨A7, [3, 3], rfl, (x8.trans x9) _ _ h7, by decide, by decide, by decide⟩,
        ⟨A8, [2, 2, 2], rfl, x9 _ _ h8, by decide, by decide, by decide⟩, ⟨A9, [4, 2], rfl, h9, by decide, by decide, by decide⟩, fun _ z => nomatch z⟩
    clear h1 h2 h3 h4 h5 h6 h7 h8 h9 x1 x2 x3 x4 x5 x6 x7 x8 x9 E1 E2 E3 E4 E5 E6 E7 E8 one
    refine ⟨(by show 9 ≤ sizeLine; decide), fun LS nLS => ?_⟩
    obtain ⟨C0, eC⟩ : ∃ C, upd B9 LS (.lst [V.ref A1, .ref A2, .ref A3, .ref A4, .ref A5, .ref A6, .ref A7, .ref A8, .ref A9]) = C := ⟨_, rfl⟩
    have eC0 : Ex B9 C0 := eC ▸ Ex.new nLS
    have hLS : C0 LS = some (.lst [V.ref A1, .ref A2, .ref A3, .ref A4, .ref A5, .ref A6, .ref A7, .ref A8, .ref A9]) := eC ▸ upd_same
    rw [eC]
    clear eC nLS
    generalize hxs : [V.ref A1, .ref A2, .ref A3, .ref A4, .ref A5, .ref A6, .ref A7, .ref A8, .ref A9] = shs at sh hLS
    have hsl : shs.length = 9 := by rw [← hxs]; rfl
    clear hxs
    have EC : Ex H C0 := E9.trans eC0
    replace sh : ∀ v ∈ shs, Shp C0 v := fun v m => (sh v m).ex eC0
    clear E9 eC0
    have PC := hP.ex EC
    -- a part of them
    have lohi : ∃ lo hi : Int, ([.int 0, .int 2, .int 2] : List V)[sz.toNat]? = some (.int lo) ∧ ([.int 4, .int 6, .int 9] : List V)[sz.toNat]? = some (.int hi) ∧ 0 < HT.sIx 9 9 (some hi) - HT.sIx 9 0 (some lo) ∧ HT.sIx 9 0 (some lo) < 9 := by
      have hsz : sz = 0 ∨ sz = 1 ∨ sz = 2 := by omega
      rcases hsz with rfl | rfl | rfl
      · exact ⟨0, 4, rfl, rfl, by decide +kernel, by decide +kernel⟩
      · exact ⟨2, 6, rfl, rfl, by decide +kernel, by decide +kernel⟩
      · exact ⟨2, 9, rfl, rfl, by decide +kernel, by decide +kernel⟩
    obtain ⟨lo, hi, hlo, hhi, hpos, hlt⟩ := lohi
    refine ⟨_, rfl, _, rfl, (by show 3 ≤ sizeLine; decide), fun L1 nL1 => ⟨_, rfl, .inl ⟨L1, _, sz, .int lo, rfl, rfl, sq_of upd_same, at_of (j := sz.toNat) (by omega) hlo, lo, rfl, ?_⟩⟩⟩
    have f1 : Ex C0 (upd C0 L1 (.lst [.int 0, .int 2, .int 2])) := Ex.new nL1
    generalize upd C0 L1 (.lst [.int 0, .int 2, .int 2]) = C1 at f1
    refine ⟨(by show 3 ≤ sizeLine; decide), fun L2 nL2 => ⟨_, rfl, .inl ⟨L2, _, sz, .int hi, rfl, rfl, sq_of upd_same, at_of (j := sz.toNat) (by omega) hhi, hi, rfl, ?_⟩⟩⟩
    have f2 : Ex C1 (upd C1 L2 (.lst [.int 4, .int 6, .int 9])) := Ex.new nL2
    generalize upd C1 L2 (.lst [.int 4, .int 6, .int 9]) = C2 at f2
    refine ⟨LS, shs, rfl, sq_of ((f1.trans f2) _ _ hLS), fun L3 nL3 => ?_⟩
    have f3 : Ex C2 (upd C2 L3 (.lst (cutV shs (some lo) (some hi)))) := Ex.new nL3
    have hL3 : upd C2 L3 (.lst (cutV shs (some lo) (some hi))) L3 = some (.lst (cutV shs (some lo) (some hi))) := upd_same
    generalize upd C2 L3 (.lst (cutV shs (some lo) (some hi))) = C3 at f3 hL3
    have EC3 := EC.trans (f1.trans (f2.trans f3))
    have PC3 := hP.ex EC3
    have nL3p : L3 ≠ p := fun z => by
      obtain ⟨g, s', n', k', gs, ss, hp, _⟩ := hP
      have := (EC.trans (f1.trans f2)) _ _ hp
      rw [← z, nL3] at this
      cases this
    have cl : 0 < (cutV shs (some lo) (some hi)).length := by
      unfold cutV
      rw [List.length_take, List.length_drop, hsl]
      omega
    refine ⟨p, L3, _, rfl, PC3, nL3p, .inl hL3, List.length_pos_iff.mp cl, (by have := cutV_length shs (some lo) (some hi); omega), fun x H1 hx K1' P1 => ?_⟩
    have K1 : Kp p H H1 := (Kp.ex EC3 hP).trans K1'
    have hshp := sh x (cut_mem hx)
    obtain ⟨T, ks, rfl, hT0, kl1, kl3, kb⟩ := hshp.ex (f1.trans (f2.trans f3))
    have hT1 : H1 T = some (.tup (ks.map V.int)) := (K1'.tu PC3) _ _ hT0
    clear K1' hT0 hx cl nL3p PC3 EC3 hL3 f3 f2 f1 nL3 nL2 nL1 hlo hhi hpos hlt sh hLS PC EC hsl
    -- the words
    refine ⟨_, rfl, _, rfl, p, 3, rfl, P1, by decide, by decide, fun d H2 d0 d1 K2 P2 => ⟨3, d, rfl, rfl, p, 3 + d, rfl, P2, by omega, by omega, fun wl zs H3 zl znd znm K3 P3 hwl nwl hw3 => ?_⟩⟩
    have zlen : zs.length = (3 + d).toNat := zl
    have z35 : 3 ≤ zs.length ∧ zs.length ≤ 5 := by omega
    have K03 := K1.trans (K2.trans K3)
    have hT3 := ((K2.tu P1).trans (K3.tu P2)) _ _ hT1
    -- the hands
    refine ⟨Nat.zero_le _, fun hl nhl => ?_⟩
    obtain ⟨F0, nhp⟩ := Fil.new (o := .lst []) P3 nhl
    have kT : ∀ {H' : Hp}, Kp p H3 H' → H' T = some (.tup (ks.map V.int)) := fun K' => (K'.tu P3) _ _ hT3
    have kW : ∀ {H' : Hp}, Kp p H3 H' → H' wl = some (.lst (zs.map V.str)) := fun K' => K'.k _ _ nwl hw3
    have lT : ∀ {H' : Hp}, Kp p H3 H' → LenV K (.ref T) H' ks.length := fun K' => .inr ⟨_, st_of (kT K'), by rw [List.length_map]⟩
    refine ⟨_, rfl, .ref T, ks.length, rfl, lT F0.kp, (ks.length : Int), rfl, by omega, by omega, for_range (fun i σ' H' => ∃ v6 v7 vs hs, σ' = [some (.ref p), some (.int sz), some (.ref LS), some (.ref T), some (.ref wl), some (.ref hl), v6, v7, none, none, none] ∧ Fil p hl H3 H' ∧ H' hl = some (.lst vs) ∧ Paired (HdT H') vs hs ∧ hs.length = i ∧ ∀ h ∈ hs, Drawn zs h.1 h.2) ?_ ?_ ?_⟩
    · exact ⟨none, none, [], [], rfl, F0, upd_same, .nil, rfl, fun _ z => nomatch z⟩
    · rintro i σ' H' hi ⟨v6, v7, vs, hs, rfl, F, hv, pv', hsl, dr⟩
      have hi2 : i < ks.length := by simpa using hi
      rw [Int.zero_add]
      obtain ⟨m, hm⟩ : ∃ m, ks[i]? = some m := ⟨_, List.getElem?_eq_getElem hi2⟩
      have mb := kb m (List.mem_of_getElem? hm)
      refine ⟨_, rfl, .ref wl, zs.length, rfl, .inl ⟨_, sq_of (kW F.kp), by rw [List.length_map]⟩, (zs.length : Int), rfl, by omega, by omega, fun N hN => ?_⟩
      obtain ⟨E0, nNp⟩ := Fil.new (o := .lst []) F.pool hN
      refine lc_range (fun j H2 => ∃ os : List Str, H2 N = some (.lst (os.map V.str)) ∧ Fil p N H' H2 ∧ (∀ x ∈ os, x ∈ zs) ∧ os.length ≤ j ∧ (i < j → os ≠ [])) ⟨[], upd_same, E0, (fun _ z => nomatch z), Nat.le_refl _, fun z => absurd z (Nat.not_lt_zero i)⟩ ?_ ?_
      · rintro j H2 hj ⟨os, hos, E, sub, ol, one⟩
        have hj2 : j < zs.length := by simpa using hj
        rw [Int.zero_add]
        obtain ⟨z, hz⟩ : ∃ z, zs[j]? = some z := ⟨_, List.getElem?_eq_getElem hj2⟩
        have put : ∀ {H3' : Hp}, Fil p N H' H3' → H3' N = some (.lst (os.map V.str)) → ∃ acc, H3' N = some (.lst acc) ∧ acc.length < sizeLine ∧ ∃ os' : List Str, upd H3' N (.lst (acc ++ [.str z])) N = some (.lst (os'.map V.str)) ∧ Fil p N H' (upd H3' N (.lst (acc ++ [.str z]))) ∧ (∀ x ∈ os', x ∈ zs) ∧ os'.length ≤ j + 1 ∧ (i < j + 1 → os' ≠ []) := fun {H3'} E3 h3 =>
          ⟨_, h3, by rw [List.length_map]; exact sz_lt (by omega), os ++ [z], by rw [upd_same, List.map_append]; rfl, E3.put nNp hN, fun x hx => by
            rcases List.mem_append.mp hx with hx | hx
            · exact sub x hx
            · rw [List.mem_singleton.mp hx]; exact List.mem_of_getElem? hz, by rw [List.length_append, List.length_singleton]; omega, fun _ => by simp⟩
        have K32 := F.kp.trans E.kp
        refine ⟨rfl, _, rfl, .inl ⟨_, rfl, _, rfl, .ref T, ks.length, rfl, lT K32, (j : Int), (ks.length : Int), rfl, rfl, (by show (0 : Int) < (ks.length : Int); omega), _, rfl, rfl, decide (V.int ((j : Int) % (ks.length : Int)) = V.int (i : Int)), rfl, ?_⟩⟩
        by_cases hmod : V.int ((j : Int) % (ks.length : Int)) = V.int (i : Int)
        · rw [decide_eq_true hmod]
          exact iteT ⟨_, rfl, _, rfl, .inl ⟨wl, _, _, .str z, rfl, rfl, sq_of (kW K32), at_of (j := j) rfl (by rw [List.getElem?_map, hz]; rfl), put E hos⟩⟩
        · rw [decide_eq_false hmod]
          refine iteF ⟨_, rfl, p, 6, rfl, E.pool, by decide, by decide, fun e H4 e0 e1 K4 P4 => ⟨rfl, _, rfl, ?_⟩⟩
          obtain ⟨E4, h4⟩ := E.draw nNp hos K4 P4
          refine ite2 (fun _ => ⟨_, rfl, _, rfl, .inl ⟨wl, _, _, .str z, rfl, rfl, sq_of (kW (F.kp.trans E4.kp)), at_of (j := j) rfl (by rw [List.getElem?_map, hz]; rfl), put E4 h4⟩⟩) (fun _ => ⟨os, h4, E4, sub, by omega, fun hij => ?_⟩)
          refine one ?_
          rcases Nat.lt_or_ge i j with q | q
          · exact q
          · exfalso
            have : i = j := by omega
            subst this
            exact hmod (by rw [Int.emod_eq_of_lt (by omega) (by omega)])
      · rintro H2 ⟨os, hos, E, sub, ol, one⟩
        have one' : os ≠ [] := one (by simp; omega)
        obtain ⟨F2, hv2⟩ := F.draw nhp hv E.kp E.pool
        have ol5 : os.length ≤ 20 := by simp at ol; omega
        refine ⟨_, rfl, .inl ⟨rfl, _, sq_of hv2⟩, _, rfl, _, rfl, _, rfl, _, rfl, .inr (.inl ⟨T, _, (i : Int), .int m, rfl, rfl, st_of (kT F2.kp), at_of (j := i) rfl (by rw [List.getElem?_map, hm]; rfl), ?_⟩)⟩
        refine ⟨p, N, os, m, rfl, E.pool, nNp, hos, one', ol5, fun x hx => znm x (sub x hx), by omega, by omega, fun q t xs st ts H4 drw K4 P4 hq ht hw => ?_⟩
        obtain ⟨F4, hv4⟩ := F2.draw nhp hv2 K4 P4
        have tuE : Tu H' H4 := (E.kp.tu F.pool).trans (K4.tu E.pool)
        have tu4 : Tu H4 (upd H4 hl (.lst (vs ++ [.ref q]))) := Tu.lst hv4
        have vl := Paired.length pv'
        refine ⟨hl, vs, .ref q, rfl, rfl, hv4, sz_lt (by omega), _, _, vs ++ [.ref q], hs ++ [(st, ts)], rfl, F4.put nhp nhl, upd_same, ?_, by rw [List.length_append, hsl]; rfl, ?_⟩
        · have h1 : Paired (HdT (upd H4 hl (.lst (vs ++ [.ref q])))) vs hs := Paired.mapP pv' fun _ _ z => (z.tu tuE).tu tu4
          have h2 : HdT (upd H4 hl (.lst (vs ++ [.ref q]))) (.ref q) (st, ts) := HdT.tu tu4 ⟨q, t, xs, rfl, hq, ht, hw⟩
          exact prd_snoc h1 h2
        · intro h hh
          rcases List.mem_append.mp hh with hh | hh
          · exact dr h hh
          · rw [List.mem_singleton.mp hh]
            exact drw.mono sub
    · rintro σ' H4 ⟨v6, v7, vs, hs, rfl, F, hv, pv', hsl, dr⟩
      have hsl2 : hs.length = ks.length := by simpa using hsl
      have hne : hs ≠ [] := fun z => by rw [z] at hsl2; simp at hsl2; omega
      have h3 : hs.length ≤ 3 := by omega
      have good : ∀ h ∈ hs, GoodRow h.2 := fun h m => (dr h m).row
      have h20 : ∀ h ∈ hs, h.2.length ≤ 20 := fun h m => (good h m).most
      refine ⟨.ref hl, rfl, ?_⟩
      dsimp only [tNil]
      refine tupof_go (K := K) (.inl hv) fun TH H5 e5 hTH => ?_
      have P5 := F.pool.ex e5
      have hds5 : HdsAt H5 TH hs := ⟨vs, hTH, Paired.mapP pv' fun _ _ z => z.tu (Tu.ex e5)⟩
      have K05 : Kp p H H5 := K03.trans (F.kp.trans (Kp.ex e5 F.pool))
      have vl := Paired.length pv'
      have kH : ∀ {H' : Hp}, Kp p H5 H' → HdsAt H' TH hs := fun K' => hds5.tu (K'.tu P5)
      have lH : ∀ {H' : Hp}, Kp p H5 H' → LenV K (.ref TH) H' hs.length := fun K' => .inr ⟨vs, st_of ((K'.tu P5) _ _ hTH), by omega⟩
      have dr' := dr
      clear hds5 e5 F hv pv' dr
      -- the gates
      refine ⟨Nat.zero_le _, fun gl ngl => ?_⟩
      obtain ⟨F0', ngp⟩ := Fil.new (o := .lst []) P5 ngl
      refine ⟨_, rfl, p, 3, rfl, F0'.pool, by decide, by decide, fun a1 Ha a10 a11 Ka Pa => ⟨_, rfl, p, 7, rfl, Pa, by decide, by decide, fun a2 Hb a20 a21 Kb Pb => ⟨(by show 2 ≤ sizeLine; decide), fun LL nLL => ?_⟩⟩⟩
      obtain ⟨Fa, ga⟩ := F0'.draw ngp upd_same Ka Pa
      obtain ⟨Fb, gb⟩ := Fa.draw ngp ga Kb Pb
      obtain ⟨Fc, gc⟩ := Fb.ex ngp gb (Ex.new (o := .lst [.int a1, .int a2]) nLL)
      have nLp : LL ≠ p := fun z => Pb.here (z ▸ nLL)
      refine ⟨_, rfl, p, 8, rfl, Fc.pool, by decide, by decide, fun e Hd e0 e1 Kd Pd => ⟨rfl, .inr ⟨_, rfl, ?_⟩⟩⟩
      have hLL := Kd.k LL _ nLp upd_same
      obtain ⟨Fd, gd⟩ := Fc.draw ngp gc Kd Pd
      obtain ⟨m, hat, hm12⟩ := two_atI (a := a1) (b := a2) (decide (V.int e = V.int 0))
      have m7 : 0 ≤ m ∧ m < 7 := by rcases hm12 with rfl | rfl <;> omega
      refine .inl ⟨LL, _, _, .int m, rfl, rfl, sq_of hLL, hat, m, rfl, by omega, by omega, for_range (fun i σ' H' => ∃ v6 v7 v10 gs, σ' = [some (.ref p), some (.int sz), some (.ref LS), some (.ref T), some (.ref wl), some (.ref TH), v6, v7, none, some (.ref gl), v10] ∧ Fil p gl H5 H' ∧ H' gl = some (.lst gs) ∧ gs.length ≤ i) ⟨v6, v7, none, [], rfl, Fd, gd, Nat.le_refl _⟩ ?_ ?_⟩
      · rintro i σ' H' hi ⟨w6, w7, w10, gs, rfl, F, hg, hgl⟩
        refine ⟨_, rfl, _, rfl, p, TH, hs, rfl, F.pool, kH F.kp, hne, h3, good, fun DD kvs H6 K6 P6 hDD nDD kne k4 pk hd6 => ?_⟩
        obtain ⟨F6, hg6⟩ := F.draw ngp hg K6 P6
        refine ⟨_, rfl, _, rfl, TH, hs, rfl, kH F6.kp, h3, fun T2 H7 e7 hT2 => ⟨DD, T2, kvs, hs.map (·.1), rfl, e7 _ _ hd6, by rw [List.length_map]; exact pk, by omega, hT2, fun b H8 e8 => ⟨b, rfl, ?_⟩⟩⟩
        obtain ⟨F8, hg8⟩ := F6.ex ngp hg6 (e7.trans e8)
        cases b with
        | true => exact iteF ⟨_, _, _, gs, rfl, F8, hg8, by omega⟩
        | false => exact iteT ⟨_, rfl, .inl ⟨rfl, _, sq_of hg8⟩, _, rfl, gl, gs, .ref DD, rfl, rfl, hg8, sz_lt (by omega), _, _, _, _, rfl, F8.put ngp ngl, upd_same, by rw [List.length_append, List.length_singleton]; omega⟩
      · rintro σ' H' ⟨w6, w7, w10, gs, rfl, F, hg, hgl⟩
        have wl60 : (wds hs).length ≤ 60 := by
          have gen : ∀ (l : List Hnd), (∀ h ∈ l, h.2.length ≤ 20) → (wds l).length ≤ 20 * l.length := by
            intro l
            induction l with
            | nil => intro _; exact Nat.le_refl _
            | cons a r ih =>
              intro hl'
              have h1 := hl' a List.mem_cons_self
              have h2 := ih fun h m => hl' h (List.mem_cons_of_mem _ m)
              unfold wds at h2 ⊢
              rw [List.flatMap_cons, List.length_append, List.length_map, List.length_cons]
              omega
          have := gen hs h20
          omega
        refine ⟨_, rfl, _, rfl, _, rfl, _, rfl, TH, hs, rfl, kH F.kp, h3, h20, fun W' ks' H6 e6 hn6 nd6 hm6 hW6 => ?_⟩
        have nWp : W' ≠ p := fun z => F.pool.here (z ▸ hn6)
        have P6 := F.pool.ex e6
        have kl : ks'.length ≤ 60 := Nat.le_trans (pigeon ks' (wds hs) nd6 fun x hx => (hm6 x).mp hx) wl60
        refine ⟨p, W', sortS ks', rfl, P6, nWp, hW6, by rw [sortS_len]; omega, fun v3 H7 K7 P7 _ => ?_⟩
        have K57 : Kp p H5 H7 := F.kp.trans ((Kp.ex e6 F.pool).trans K7)
        refine ⟨_, rfl, _, rfl, p, TH, hs, rfl, P7, kH K57, hne, h3, good, fun v4 H8 K8 P8 => ?_⟩
        have K58 := K57.trans K8
        refine ⟨_, rfl, .ref TH, hs.length, rfl, lH K58, (hs.length : Int), rfl, by omega, by omega, fun N hN => ?_⟩
        obtain ⟨E0, nNp⟩ := Fil.new (o := .lst []) P8 hN
        refine lc_range (fun j H2 => ∃ os : List V, H2 N = some (.lst os) ∧ Fil p N H8 H2 ∧ os.length ≤ j) ⟨[], upd_same, E0, Nat.le_refl _⟩ ?_ ?_
        · rintro j H2 hj ⟨os, hos, E, ol⟩
          refine ⟨rfl, _, rfl, p, 2, rfl, E.pool, by decide, by decide, fun e' H9 e0' e1' K9 P9 => ⟨rfl, _, rfl, ?_⟩⟩
          obtain ⟨E9, h9⟩ := E.draw nNp hos K9 P9
          have hj3 : j < 3 := by simp at hj; omega
          exact ite2 (fun _ => ⟨_, rfl, os, h9, sz_lt (by omega), _, upd_same, E9.put nNp hN, by rw [List.length_append, List.length_singleton]; omega⟩) (fun _ => ⟨os, h9, E9, by omega⟩)
        · rintro H2 ⟨os, hos, E, ol⟩
          refine ⟨N, os, rfl, sq_of hos, fun r nr => ⟨(by show 5 ≤ sizeLine; decide), fun TT nTT => ?_⟩⟩
          have er : Ex H2 (upd H2 r (.lst os.reverse)) := Ex.new nr
          have Pr := E.pool.ex er
          have eT : Ex (upd H2 r (.lst os.reverse)) (upd (upd H2 r (.lst os.reverse)) TT (.tup [.ref TH, .ref gl, v3, v4, .ref r])) := Ex.new nTT
          have K5e : Kp p H5 (upd (upd H2 r (.lst os.reverse)) TT (.tup [.ref TH, .ref gl, v3, v4, .ref r])) := K58.trans (E.kp.trans ((Kp.ex er E.pool).trans (Kp.ex eT Pr)))
          exact k TT TH _ _ _ _ hs zs _ (K05.trans K5e) (Pr.ex eT) upd_same (kH K5e) hne h3 dr' z35.2 znm znd
end
end WK

set_option Elab.async false
set_option linter.all false
set_option maxRecDepth 100000
set_option maxHeartbeats 4000000
/-! a or b, a anything whose truth is told. -/
namespace WW
open PySem PySem.Spec PyProof.Rows L2
def tOrT (K : PySem.W.Frag) (ta tb : TE) : TE := fun σ H Q => ta σ H fun x H1 => ∃ c, TruV K x H1 c ∧ if c = true then Q x H1 else tb σ H1 Q
theorem pe_orT {X : Cx} {a b : Expr} {rest : List Expr} {pos : Pos} {ta tb : TE} (ha : PE X a ta) (hb : PE X (.BoolOp .Or (b :: rest) pos) tb) : PE X (.BoolOp .Or (a :: b :: rest) pos) (tOrT X.K ta tb) := by
  refine ⟨fun pins s σ H Q I h => ?_⟩
  refine BoolOp_or (thn (ha.run pins s σ H _ I h) fun v s1 ⟨x, H1, I1, r1, c, hc, q1⟩ => ?_)
  refine thn (tru_ok pins s1 σ H1 x v (fun k H2 => k = c ∧ H2 = H1) I1 r1 ⟨c, hc, rfl, rfl⟩) fun k s2 ⟨H2, I2, ek, eh⟩ => ?_
  subst ek eh
  cases k with
  | false => exact hb.run pins s2 σ H2 Q I2 q1
  | true => exact ⟨x, H2, I2, r1, q1⟩
end WW

set_option Elab.async false
set_option linter.all false
set_option maxRecDepth 100000
set_option maxHeartbeats 4000000
namespace WK
open PySem PySem.Spec PyProof.Rows L2 WW Evl
/-- an instrument that is drawn: a lock holds ws, a sensor shows sg for ws -/
structure Ins where
  lk : Bool
  nm : Str
  po : Int
  ws : List Str
  sg : List Str
  co : Int
def kvsOf (ws sg : List Str) : List (Key × V) := (ws.zip sg).map fun q => (.inr q.1, .str q.2)
def Ins.thing (r : Ins) : HO := if r.lk = true then .lst (r.ws.map V.str) else .dK (kvsOf r.ws r.sg)
structure Ins.Ok (r : Ins) : Prop where
  nm : IsNm r.nm
  po : r.po = 0 ∨ r.po = 1
  co : 1 ≤ r.co ∧ r.co ≤ 1000
  ne : r.ws ≠ []
  le : r.ws.length ≤ 10
  nd : r.ws.Nodup
  ws : ∀ x ∈ r.ws, IsNm x
  sl : r.lk = false → r.sg.length = r.ws.length
  sg : ∀ x ∈ r.sg, IsNm x
def Ins.kind (r : Ins) : Str := if r.lk = true then "lock" else "sensor"
/-- the row of an instrument -/
def InsT (p : Addr) (H : Hp) (v : V) (r : Ins) : Prop := ∃ a b, v = .ref a ∧ b ≠ p ∧ H a = some (.tup [.str r.kind, .str r.nm, .int r.po, .ref b, .int r.co]) ∧ H b = some r.thing
theorem InsT.kp {p : Addr} {H H' : Hp} {v : V} {r : Ins} (hP : Pool H p) (K : Kp p H H') (h : InsT p H v r) : InsT p H' v r := by
  obtain ⟨a, b, rfl, n, h1, h2⟩ := h
  exact ⟨a, b, rfl, n, (K.tu hP) _ _ h1, K.k _ _ n h2⟩
theorem InsT.ex {p : Addr} {H H' : Hp} {v : V} {r : Ins} (e : Ex H H') (h : InsT p H v r) : InsT p H' v r := by
  obtain ⟨a, b, rfl, n, h1, h2⟩ := h
  exact ⟨a, b, rfl, n, e _ _ h1, e _ _ h2⟩
/-- the same, and what it holds is not at q -/
def InsQ (p q : Addr) (H : Hp) (v : V) (r : Ins) : Prop := ∃ a b, v = .ref a ∧ b ≠ p ∧ b ≠ q ∧ H a = some (.tup [.str r.kind, .str r.nm, .int r.po, .ref b, .int r.co]) ∧ H b = some r.thing
theorem InsQ.t {p q : Addr} {H : Hp} {v : V} {r : Ins} (h : InsQ p q H v r) : InsT p H v r := let ⟨a, b, h1, h2, _, h3, h4⟩ := h; ⟨a, b, h1, h2, h3, h4⟩
theorem InsQ.kp {p q : Addr} {H H' : Hp} {v : V} {r : Ins} (hP : Pool H p) (K : Kp p H H') (h : InsQ p q H v r) : InsQ p q H' v r := by
  obtain ⟨a, b, rfl, n, n2, h1, h2⟩ := h
  exact ⟨a, b, rfl, n, n2, (K.tu hP) _ _ h1, K.k _ _ n h2⟩
theorem InsQ.put {p q : Addr} {H : Hp} {v : V} {r : Ins} {xs : List V} {o : HO} (hq : H q = some (.lst xs)) (h : InsQ p q H v r) : InsQ p q (upd H q o) v r := by
  obtain ⟨a, b, rfl, n, n2, h1, h2⟩ := h
  exact ⟨a, b, rfl, n, n2, by rw [upd_ne (fun z => by rw [z, hq] at h1; cases h1)]; exact h1, by rw [upd_ne n2]; exact h2⟩
theorem kvs_put {ws sg : List Str} {x n : Str} (hl : sg.length = ws.length) (h : x ∉ ws) : putK (kvsOf ws sg) (.inr x) (.str n) = kvsOf (ws ++ [x]) (sg ++ [n]) := by
  have hv : valV (kvsOf ws sg) (.inr x : Key) = none := by
    cases e : valV (kvsOf ws sg) (.inr x : Key) with
    | none => rfl
    | some v =>
      exfalso
      have ha : ((kvsOf ws sg).any fun kv => decide (kv.1 = (Sum.inr x : Key))) = true := by rw [valV_any, e]; rfl
      obtain ⟨q, hq, eq⟩ := List.any_eq_true.mp ha
      obtain ⟨z, hz, rfl⟩ := List.mem_map.mp hq
      have e1 := of_decide_eq_true eq
      have e2 : z.1 = x := Sum.inr.inj e1
      exact h (e2 ▸ (List.of_mem_zip hz).1)
  rw [putK_new _ hv]
  unfold kvsOf
  rw [List.zip_append hl.symm, List.map_append]
  rfl
theorem wds_sub {zs : List Str} {hs : List Hnd} (h : ∀ q ∈ hs, Drawn zs q.1 q.2) : ∀ x ∈ wds hs, x ∈ zs := fun x hx => by
  unfold wds at hx
  obtain ⟨q, hq, hm⟩ := List.mem_flatMap.mp hx
  obtain ⟨t, ht, rfl⟩ := List.mem_map.mp hm
  exact (h q hq).word t ht
section
variable {P : Program} {w : World} {K : PySem.W.Frag} {mg : Str → Option Value} {base : Heap} {f : Addr} {fd : FuncData}
abbrev s__law_instruments : Stmt := top 52
theorem sc__law_instruments : FnScope ["_law_pool_here", "_law_plan_here", "_law_most", "_law_words_here", "_law_signs", "_law_rows", "_law_name_here", "_law_kind", "_law_post", "_law_cost", "_law_some", "_law_word", "_law_shown"] ["_law_pool_here", "_law_plan_here", "_law_most"] (defScope s__law_instruments) := ⟨rfl, rfl, rfl, by decide +kernel, rfl, by decide +kernel, by decide +kernel⟩
def spInstr : Sp := fun vs H Q _ => ∃ (p T : Addr) (most : Int) (hd : Addr) (a1 a2 a3 a4 : V) (hs : List Hnd) (zs : List Str), vs = [.ref p, .ref T, .int most] ∧ Pool H p ∧ 1 ≤ most ∧ most ≤ 6 ∧ H T = some (.tup [.ref hd, a1, a2, a3, a4]) ∧ HdsAt H hd hs ∧ hs ≠ [] ∧ hs.length ≤ 3 ∧ (∀ h ∈ hs, Drawn zs h.1 h.2) ∧ zs.length ≤ 5 ∧ (∀ z ∈ zs, IsNm z) ∧
  ∀ rl xs rs H', Kp p H H' → Pool H' p → rl ≠ p → H' rl = some (.lst xs) → Paired (InsT p H') xs rs → (∀ r ∈ rs, r.Ok) → (rs.map (·.nm)).Nodup → 1 ≤ rs.length → rs.length ≤ 6 → Q (.ref rl) H'
theorem ok_instruments (G : Gz mg) (D : Df K mg "_law_instruments" s__law_instruments f fd ["_law_pool_here", "_law_plan_here", "_law_most"]) (c__law_draw : Callee P w K mg base CXn 1 "_law_draw" 2 spDraw) (c__law_pick : Callee P w K mg base CXn 2 "_law_pick" 2 spPick) (c__law_name : Callee P w K mg base CXn 2 "_law_name" 2 spName) (c__law_names : Callee P w K mg base CXn 3 "_law_names" 2 spNames)
    (c__law_words : Callee P w K mg base CXn 1 "_law_words" 1 spWordsP) : Callee P w K mg base CXn 4 "_law_instruments" 3 spInstr := by
  refine D.callee (D.fn.ok sc__law_instruments (fun vs H Q E h => ?_) (fun cdv A outer s H vs Q E hr h => ⟨_, PSs.nox (pss_cons (ps_set (i := 3) sc__law_instruments.nd rfl (Or.inl rfl) (pe_cl (E := En) c__law_words (hr.mono (by decide)) rfl passN (pa_cons (pe_ix (ixK (K := K) rfl) (pv 1) pe_int (fun _ _ => rfl)) pa_nil))) (pss_cons (ps_set (i := 3) sc__law_instruments.nd rfl (Or.inl rfl) (pe_op op_cat (pv 3) (pe_lst (pa_cons (pe_cl (E := En) c__law_name (hr.mono (by decide)) rfl passN (pa_cons (pv 0) (pa_cons (pv 3) pa_nil))) pa_nil)))) (pss_cons (ps_set (i := 4) sc__law_instruments.nd rfl (Or.inl rfl) (pe_cl (E := En) c__law_names (hr.mono (by decide)) rfl passN (pa_cons (pv 0) (pa_cons (pe_op op_add pe_int (pe_cl (E := En) c__law_draw (hr.mono (by decide)) rfl passN (pa_cons (pv 0) (pa_cons pe_int pa_nil)))) pa_nil)))) (pss_cons (ps_set (i := 5) sc__law_instruments.nd rfl (Or.inl rfl) (pe_lst pa_nil)) (pss_cons (ps_for PassesOwn.never rfl (pi_list (pe_cl (E := En) c__law_names (hr.mono (by decide)) rfl passN (pa_cons (pv 0) (pa_cons (pe_op op_add pe_int (pe_cl (E := En) c__law_draw (hr.mono (by decide)) rfl passN (pa_cons (pv 0) (pa_cons (pv 2) pa_nil)))) pa_nil)))) (pg_name (i := 6) sc__law_instruments.nd rfl (Or.inl rfl)) (pss_cons (ps_par (i := 7) (j := 8) rfl sc__law_instruments.nd rfl rfl (by decide) rfl rfl (pa_cons (pe_cl (E := En) c__law_draw (hr.mono (by decide)) rfl passN (pa_cons (pv 0) (pa_cons pe_int pa_nil))) (pa_cons (pe_cl (E := En) c__law_draw (hr.mono (by decide)) rfl passN (pa_cons (pv 0) (pa_cons pe_int pa_nil))) pa_nil)) rfl) (pss_cons (ps_set (i := 9) sc__law_instruments.nd rfl (Or.inl rfl) (pe_op op_add pe_int (pe_ix (ixK (K := K) rfl) (pe_lst (pa_cons (pe_cl (E := En) c__law_draw (hr.mono (by decide)) rfl passN (pa_cons (pv 0) (pa_cons pe_int pa_nil))) (pa_cons (pe_cl (E := En) c__law_draw (hr.mono (by decide)) rfl passN (pa_cons (pv 0) (pa_cons pe_int pa_nil))) pa_nil))) (pe_callTy call_int1 rfl G.g_int (by rfl) (pa_cons (pe_cmpR op_eq (pe_cl (E := En) c__law_draw (hr.mono (by decide)) rfl passN (pa_cons (pv 0) (pa_cons pe_int pa_nil))) pe_int (nomark _)) pa_nil)) (fun _ _ => rfl)))) (pss_cut (ps_set (i := 10) sc__law_instruments.nd rfl (Or.inl rfl) (pe_orT (pe_lc (own := [("_law_word", 11)]) rfl sc__law_instruments.nd (pi_list (pv 3)) (BlkOk.mk (N := ["_law_pool_here", "_law_plan_here", "_law_most", "_law_words_here", "_law_signs", "_law_rows", "_law_name_here", "_law_kind", "_law_post", "_law_cost", "_law_some", "_law_word", "_law_shown"]) (sc := defScope s__law_instruments) rfl (by decide +kernel) (by decide +kernel) (by decide +kernel) (by decide +kernel)) (fun _ _ _ _ _ => (pg_name (i := 11) sc__law_instruments.nd rfl (Or.inl rfl))) (fun _ _ _ _ _ => (pts_one (pt_cmpR op_eq (pe_cl (E := En) c__law_draw (hr.mono (by decide)) rfl passN (pa_cons (pv 0) (pa_cons pe_int pa_nil))) pe_int (nomark _)))) (fun _ _ _ _ _ => (pv 11))) (pe_one (pe_lst (pa_cons (pe_cl (E := En) c__law_pick (hr.mono (by decide)) rfl passN (pa_cons (pv 0) (pa_cons (pv 3) pa_nil))) pa_nil))))) (pss_one (ps_if (pt_cmpR op_eq (pv 7) pe_int (nomark _)) (pss_one (ps_expr (pe_bm PySem.F.plainAttrs_list PySem.F.slot_list_append PySem.F.type_list_append mt_append (pv 5) (pa_cons (pe_tup (pa_cons pe_str (pa_cons (pv 6) (pa_cons (pv 8) (pa_cons (pv 10) (pa_cons (pv 9) pa_nil)))))) pa_nil)))) (pss_cons (ps_set (i := 12) sc__law_instruments.nd rfl (Or.inl rfl) pe_dnewK) (pss_cons (ps_for PassesOwn.never rfl (pi_list (pv 10)) (pg_name (i := 11) sc__law_instruments.nd rfl (Or.inl rfl)) (pss_one (ps_dput (room1 hr) (pv 12) (pv 11) (pe_cl (E := En) c__law_pick (hr.mono (by decide)) rfl passN (pa_cons (pv 0) (pa_cons (pv 4) pa_nil))) rfl))) (pss_one (ps_expr (pe_bm PySem.F.plainAttrs_list PySem.F.slot_list_append PySem.F.type_list_append mt_append (pv 5) (pa_cons (pe_tup (pa_cons pe_str (pa_cons (pv 6) (pa_cons (pv 8) (pa_cons (pv 12) (pa_cons (pv 9) pa_nil)))))) pa_nil)))))))))))) (pss_one (ps_ret (pv 5)))))))), ?_⟩))
  · obtain ⟨_, _, _, _, _, _, _, _, _, _, rfl, _⟩ := h
    rfl
  · obtain ⟨p, T, most, hd, b1, b2, b3, b4, hs, zs, rfl, hP, m1, m6, hT, hds, hne, h3, dr, z5, znm, k⟩ := h
    have h20 : ∀ h ∈ hs, h.2.length ≤ 20 := fun h m => (dr h m).row.most
    refine ⟨_, rfl, .inr (.inl ⟨T, _, 0, _, rfl, rfl, st_of hT, (by rfl), hd, hs, rfl, hds, h3, h20, fun W ks H1 e1 hnW nd hm hW => ?_⟩)⟩
    have nWp : W ≠ p := fun z => hP.here (z ▸ hnW)
    have P1 := hP.ex e1
    have K01 : Kp p H H1 := Kp.ex e1 hP
    have ksz : ∀ x ∈ ks, x ∈ zs := fun x hx => wds_sub dr x ((hm x).mp hx)
    have kl5 : ks.length ≤ 5 := Nat.le_trans (pigeon ks zs nd ksz) z5
    -- one more word
    refine ⟨_, rfl, _, rfl, _, rfl, p, W, sortS ks, rfl, P1, nWp, hW, by rw [sortS_len]; omega, fun z H2 zn zo K2 P2 => ⟨(by show 1 ≤ sizeLine; decide), fun l1 nl1 => ?_⟩⟩
    have hW2 := K2.k _ _ nWp hW
    have e2 : Ex H2 (upd H2 l1 (.lst [.str z])) := Ex.new nl1
    have hl1 : upd H2 l1 (.lst [.str z]) l1 = some (.lst [.str z]) := upd_same
    generalize upd H2 l1 (.lst [.str z]) = H3 at e2 hl1
    refine ⟨W, l1, _, _, rfl, rfl, e2 _ _ hW2, hl1, sz_of (by rw [List.length_map, sortS_len]; show _ + 1 ≤ 100000; omega), fun wl nwl => ?_⟩
    have P3 := P2.ex e2
    have nwp : wl ≠ p := fun q => P3.here (q ▸ nwl)
    have e3 : Ex H3 (upd H3 wl (.lst ((sortS ks).map V.str ++ [.str z]))) := Ex.new nwl
    obtain ⟨us, hus, ule, une, und, unm⟩ : ∃ us : List Str, (sortS ks).map V.str ++ [.str z] = us.map V.str ∧ us.length ≤ 6 ∧ us ≠ [] ∧ us.Nodup ∧ ∀ x ∈ us, IsNm x := by
      refine ⟨sortS ks ++ [z], by rw [List.map_append]; rfl, by rw [List.length_append, sortS_len]; show _ + 1 ≤ 6; omega, by simp, ?_, ?_⟩
      · rw [List.nodup_append]
        refine ⟨(sortS_perm ks).nodup_iff.mpr nd, by simp, fun x hx y hy => ?_⟩
        rw [List.mem_singleton.mp hy]
        exact fun q => zo (q ▸ hx)
      · intro x hx
        rcases List.mem_append.mp hx with hx | hx
        · exact znm x (ksz x (sortS_mem.mp hx))
        · rw [List.mem_singleton.mp hx]; exact zn
    have hwl : upd H3 wl (.lst ((sortS ks).map V.str ++ [.str z])) wl = some (.lst (us.map V.str)) := by rw [upd_same, hus]
    generalize upd H3 wl (.lst ((sortS ks).map V.str ++ [.str z])) = H4 at e3 hwl
    have P4 := P3.ex e3
    have K04 : Kp p H H4 := K01.trans (K2.trans ((Kp.ex e2 P2).trans (Kp.ex e3 P3)))
    clear hus hW hW2 hl1 e2 e3 K2 P2 nwl nl1 P3 zn zo hnW nWp
    -- the signs
    refine ⟨_, rfl, _, rfl, p, 3, rfl, P4, by decide, by decide, fun d H5 d0 d1 K5 P5 => ⟨1, d, rfl, rfl, p, 1 + d, rfl, P5, by omega, by omega, fun sl ss H6 ssl ssd ssn K6 P6 hsl nsp hss => ?_⟩⟩
    have K46 := K5.trans K6
    have hw6 := K46.k _ _ nwp hwl
    have ssl' : 1 ≤ ss.length ∧ ss.length ≤ 3 := by have : ss.length = (1 + d).toNat := ssl; omega
    have sne : ss.map V.str ≠ [] := fun z => by rw [List.map_eq_nil_iff] at z; rw [z] at ssl'; simp at ssl'
    have une' : us.map V.str ≠ [] := fun z => by rw [List.map_eq_nil_iff] at z; exact une z
    -- the rows
    refine ⟨Nat.zero_le _, fun rl nrl => ?_⟩
    obtain ⟨F0, nrp⟩ := Fil.new (o := .lst []) P6 nrl
    refine ⟨_, rfl, _, rfl, _, rfl, p, most, rfl, F0.pool, by omega, by omega, fun e H7 e0 e1' K7 P7 => ⟨1, e, rfl, rfl, p, 1 + e, rfl, P7, by omega, by omega, fun nl ns H8 nsl nsd nsn K8 P8 hnl nnl hns => ?_⟩⟩
    obtain ⟨F7, hr7⟩ := F0.draw nrp upd_same K7 P7
    obtain ⟨F8, hr8⟩ := F7.draw nrp hr7 K8 P8
    have nrn : nl ≠ rl := fun z => by rw [z, hr7] at hnl; cases hnl
    have nsl' : ns.length = (1 + e).toNat := nsl
    have kS : ∀ {H' : Hp}, Kp p H6 H' → H' sl = some (.lst (ss.map V.str)) := fun K' => K'.k _ _ nsp hss
    have kW : ∀ {H' : Hp}, Kp p H6 H' → H' wl = some (.lst (us.map V.str)) := fun K' => K'.k _ _ nwp hw6
    refine ⟨nl, rfl, ⟨_, sq_of hns⟩, for_list (fun i σ' H' => ∃ v6 v7 v8 v9 v10 v11 v12 xs rs, σ' = [some (.ref p), some (.ref T), some (.int most), some (.ref wl), some (.ref sl), some (.ref rl), v6, v7, v8, v9, v10, v11, v12] ∧ Fil p rl H6 H' ∧ H' nl = some (.lst (ns.map V.str)) ∧ H' rl = some (.lst xs) ∧ Paired (InsQ p rl H') xs rs ∧ (∀ r ∈ rs, r.Ok) ∧ rs.map (·.nm) = ns.take i)
      ⟨none, none, none, none, none, none, none, [], [], rfl, F8, hns, hr8, .nil, (fun _ z => nomatch z), by simp⟩ (fun i σ' H' _ ⟨_, _, _, _, _, _, _, _, _, _, _, h, _⟩ => sq_of h) ?_ ?_⟩
    · rintro i x σ' H' hx ⟨v6, v7, v8, v9, v10, v11, v12, xs, rs, rfl, F, hn', hr', pr, ok, nms⟩
      rw [List.getElem?_map] at hx
      obtain ⟨nme, hnme, rfl⟩ := Option.map_eq_some_iff.mp hx
      have i6 : i < 6 := by
        have := (List.getElem?_eq_some_iff.mp hnme).1
        omega
      have nmok := nsn nme (List.mem_of_getElem? hnme)
      have rl6 : rs.length ≤ 6 := by
        have := congrArg List.length nms
        rw [List.length_map, List.length_take] at this
        omega
      -- what stays at each turn
      have stay : ∀ {H2 : Hp}, Kp p H' H2 → Pool H2 p → Fil p rl H6 H2 ∧ H2 nl = some (.lst (ns.map V.str)) ∧ H2 rl = some (.lst xs) ∧ Paired (InsQ p rl H2) xs rs := fun {H2} K' P' =>
        ⟨(F.draw nrp hr' K' P').1, K'.k _ _ nnl hn', (F.draw nrp hr' K' P').2, Paired.mapP pr fun _ _ z => z.kp F.pool K'⟩
      refine ⟨_, rfl, p, 3, rfl, F.pool, by decide, by decide, fun kd Ha a0 a1 Ka Pa => ⟨_, rfl, p, 2, rfl, Pa, by decide, by decide, fun po Hb p0 p1 Kb Pb => ⟨_, _, rfl, ?_⟩⟩⟩
      refine ⟨_, rfl, p, 9, rfl, Pb, by decide, by decide, fun c1 Hc c10 c11 Kc Pc => ⟨_, rfl, p, 1000, rfl, Pc, by decide, by decide, fun c2 Hd c20 c21 Kd Pd => ⟨(by show 2 ≤ sizeLine; decide), fun LL nLL => ⟨_, rfl, p, 5, rfl, Pd.ex (Ex.new nLL), by decide, by decide, fun c3 He c30 c31 Ke' Pe => ⟨rfl, .inr ⟨_, rfl, ?_⟩⟩⟩⟩⟩⟩
      have nLp : LL ≠ p := fun z => Pd.here (z ▸ nLL)
      have hLL := Ke'.k LL _ nLp upd_same
      have Ke : Kp p Hd He := (Kp.ex (Ex.new nLL) Pd).trans Ke'
      obtain ⟨cm, hat, hcm⟩ := two_atI (a := c1) (b := c2) (decide (V.int c3 = V.int 0))
      have cb : 0 ≤ cm ∧ cm < 1000 := by rcases hcm with rfl | rfl <;> omega
      refine .inl ⟨LL, _, _, .int cm, rfl, rfl, sq_of hLL, hat, 1, cm, rfl, rfl, ?_⟩
      have Kbe : Kp p H' He := Ka.trans (Kb.trans (Kc.trans (Kd.trans Ke)))
      clear hLL hat Ke Ke' Kd Kc Kb Ka Pd Pc Pb Pa hcm nLL nLp
      obtain ⟨Fe, hne', hre, pre⟩ := stay Kbe Pe
      have nma : ∀ {l : List Ins}, l.map (·.nm) = ns.take i → ∀ r : Ins, r.nm = nme → (l ++ [r]).map (·.nm) = ns.take (i + 1) := fun {l} q r e' => by
        rw [List.map_append, q, List.take_add_one, hnme]
        simp [e']
      -- some of the words
      refine ⟨fun σ2 H2 => ∃ so os v11' , σ2 = [some (.ref p), some (.ref T), some (.int most), some (.ref wl), some (.ref sl), some (.ref rl), some (.str nme), some (.int kd), some (.int po), some (.int (1 + cm)), some (.ref so), v11', v12] ∧ Kp p H' H2 ∧ Pool H2 p ∧ so ≠ p ∧ so ≠ rl ∧ H2 so = some (.lst (os.map V.str)) ∧ os ≠ [] ∧ os.Nodup ∧ (∀ x ∈ os, x ∈ us) ∧ os.length ≤ 6, ?_, ?_⟩
      · refine ⟨_, rfl, wl, rfl, ⟨_, sq_of (kW Fe.kp)⟩, fun N hN => ?_⟩
        obtain ⟨E0, nNp⟩ := Fil.new (o := .lst []) Pe hN
        refine lc_list (fun j H2 => ∃ os : List Str, H2 N = some (.lst (os.map V.str)) ∧ Fil p N He H2 ∧ os.Sublist (us.take j)) ⟨[], upd_same, E0, List.nil_sublist _⟩ (fun j H2 _ ⟨os, _, E, _⟩ => sq_of (kW (Fe.kp.trans E.kp))) ?_ ?_
        · rintro j y H2 hy ⟨os, hos, E, sub⟩
          rw [List.getElem?_map] at hy
          obtain ⟨u, hu, rfl⟩ := Option.map_eq_some_iff.mp hy
          have et : us.take (j + 1) = us.take j ++ [u] := by rw [List.take_add_one, hu]; rfl
          have ol : os.length ≤ 6 := Nat.le_trans sub.length_le (by rw [List.length_take]; omega)
          refine ⟨rfl, _, rfl, p, 2, rfl, E.pool, by decide, by decide, fun q Hf q0 q1 Kf Pf => ⟨rfl, _, rfl, ?_⟩⟩
          obtain ⟨E2, h2⟩ := E.draw nNp hos Kf Pf
          refine ite2 (fun _ => ⟨_, rfl, _, h2, by rw [List.length_map]; exact sz_lt (by omega), os ++ [u], by rw [upd_same, List.map_append]; rfl, E2.put nNp hN, by rw [et]; exact List.Sublist.append sub (List.Sublist.refl _)⟩) (fun _ => ⟨os, h2, E2, by rw [et]; exact sub.trans (List.sublist_append_left _ _)⟩)
        · rintro Hf ⟨os, hos, E, sub⟩
          have K2 : Kp p H' Hf := Kbe.trans E.kp
          have sub' : os.Sublist us := sub.trans (List.take_sublist _ _)
          have sq : SqL K Hf N (os.map V.str) := sq_of hos
          refine ⟨!(os.map V.str).isEmpty, .inl ⟨_, sq, rfl⟩, ?_⟩
          refine ite2 (fun hb => ?_) (fun _ => ?_)
          · exact ⟨N, os, _, rfl, K2, E.pool, nNp, (fun z => by rw [z, hre] at hN; cases hN), hos, (fun z => by rw [z] at hb; exact absurd hb (by decide)), und.sublist sub', fun x hx => sub'.subset hx, Nat.le_trans sub'.length_le ule⟩
          · refine ⟨_, rfl, _, rfl, p, wl, _, rfl, E.pool, nwp, .inl (kW (Fe.kp.trans E.kp)), une', by rw [List.length_map]; omega, fun x Hg hx Kg Pg => ⟨(by show 1 ≤ sizeLine; decide), fun L2' nL2 => ?_⟩⟩
            obtain ⟨u, hu, rfl⟩ := List.mem_map.mp hx
            have eL : Ex Hg (upd Hg L2' (.lst [.str u])) := Ex.new nL2
            exact ⟨L2', [u], _, rfl, K2.trans (Kg.trans (Kp.ex eL Pg)), Pg.ex eL, (fun z => Pg.here (z ▸ nL2)), (fun z => by rw [z, (stay (K2.trans Kg) Pg).2.2.1] at nL2; cases nL2), upd_same, by simp, by simp, fun x hx' => by rw [List.mem_singleton.mp hx']; exact hu, by show 1 ≤ 6; decide⟩
      rintro σ2 Hf ⟨so, os, v11', rfl, Kf, Pf, nsop, nsor, hso, one, ond, osu, ole⟩
      obtain ⟨Ff, hnf, hrf, prf⟩ := stay Kf Pf
      have okr : ∀ (b : Bool) (sg : List Str), (b = false → sg.length = os.length) → (∀ x ∈ sg, IsNm x) → (Ins.mk b nme po os sg (1 + cm)).Ok := fun b sg h1 h2 =>
        ⟨nmok, by show po = 0 ∨ po = 1; omega, by show 1 ≤ 1 + cm ∧ 1 + cm ≤ 1000; omega, one, by show os.length ≤ 10; omega, ond, fun x hx => unm x (osu x hx), h1, h2⟩
      refine ⟨_, rfl, rfl, _, rfl, ite2 (fun _ => ?_) (fun _ => ?_)⟩
      · refine ⟨_, rfl, .inl ⟨rfl, _, sq_of hrf⟩, _, rfl, _, rfl, _, rfl, _, rfl, (by show 5 ≤ sizeLine; decide), fun T5 nT5 => ?_⟩
        have eT : Ex Hf (upd Hf T5 (.tup [.str "lock", .str nme, .int po, .ref so, .int (1 + cm)])) := Ex.new nT5
        obtain ⟨Fg, hrg⟩ := Ff.ex nrp hrf eT
        have prg : Paired (InsQ p rl (upd Hf T5 (.tup [.str "lock", .str nme, .int po, .ref so, .int (1 + cm)]))) xs rs := Paired.mapP prf fun _ _ z => z.kp Pf (Kp.ex eT Pf)
        have new : InsQ p rl (upd Hf T5 (.tup [.str "lock", .str nme, .int po, .ref so, .int (1 + cm)])) (.ref T5) (Ins.mk true nme po os [] (1 + cm)) := ⟨T5, so, rfl, nsop, nsor, upd_same, eT _ _ hso⟩
        have hng := eT _ _ hnf
        generalize upd Hf T5 (.tup [.str "lock", .str nme, .int po, .ref so, .int (1 + cm)]) = Hg at Fg hrg prg new hng
        have xl := Paired.length pr
        refine ⟨rl, xs, .ref T5, rfl, rfl, hrg, sz_lt (by omega), _, _, _, _, _, _, _, xs ++ [.ref T5], rs ++ [Ins.mk true nme po os [] (1 + cm)], rfl, Fg.put nrp nrl, by rw [upd_ne nrn]; exact hng, upd_same, prd_snoc (Paired.mapP prg fun _ _ z => z.put hrg) (new.put hrg), fun r hr'' => ?_, nma nms _ rfl⟩
        rcases List.mem_append.mp hr'' with h | h
        · exact ok r h
        · rw [List.mem_singleton.mp h]
          exact okr true [] (fun z => nomatch z) (fun _ z => nomatch z)
      · intro D nD
        obtain ⟨G0, nDp⟩ := Fil.new (o := .dK []) Pf nD
        have kSo : ∀ {Hx : Hp}, Kp p Hf Hx → Hx so = some (.lst (os.map V.str)) := fun K' => K'.k _ _ nsop hso
        refine ⟨_, rfl, so, rfl, ⟨_, sq_of (kSo G0.kp)⟩, for_list (fun j σ3 H3 => ∃ v11 sg, σ3 = [some (.ref p), some (.ref T), some (.int most), some (.ref wl), some (.ref sl), some (.ref rl), some (.str nme), some (.int kd), some (.int po), some (.int (1 + cm)), some (.ref so), v11, some (.ref D)] ∧ Fil p D Hf H3 ∧ H3 D = some (.dK (kvsOf (os.take j) sg)) ∧ sg.length = (os.take j).length ∧ ∀ x ∈ sg, IsNm x)
          ⟨_, [], rfl, G0, upd_same, rfl, fun _ z => nomatch z⟩ (fun j σ3 H3 _ ⟨_, _, _, G, _⟩ => sq_of (kSo G.kp)) ?_ ?_⟩
        · rintro j y σ3 H3 hy ⟨w11, sg, rfl, G, hD, sgl, sgn⟩
          rw [List.getElem?_map] at hy
          obtain ⟨u, hu, rfl⟩ := Option.map_eq_some_iff.mp hy
          have et : os.take (j + 1) = os.take j ++ [u] := by rw [List.take_add_one, hu]; rfl
          have nu : u ∉ os.take j := fun z => by
            have q := ond.sublist (List.take_sublist (j + 1) os)
            rw [et, List.nodup_append] at q
            exact q.2.2 u z u (by simp) rfl
          have Ksl := kS (Ff.kp.trans G.kp)
          refine ⟨_, rfl, _, rfl, p, sl, _, rfl, G.pool, nsp, .inl Ksl, sne, by rw [List.length_map]; omega, fun x H4 hx K4 P4 => ?_⟩
          obtain ⟨n', hn'', rfl⟩ := List.mem_map.mp hx
          obtain ⟨G4, hD4⟩ := G.draw nDp hD K4 P4
          have kvl : (kvsOf (os.take j) sg).length < 100000 := by
            unfold kvsOf
            rw [List.length_map, List.length_zip, List.length_take]
            omega
          refine ⟨_, rfl, _, rfl, D, _, rfl, DPut.k (k := .inr u) hD4 (sz_lt kvl), ?_⟩
          refine ⟨_, sg ++ [n'], rfl, G4.put nDp nD, ?_, ?_, ?_⟩
          · rw [upd_same, kvs_put sgl nu, et]
          · rw [et, List.length_append, List.length_append, sgl]
            rfl
          · intro x hx
            rcases List.mem_append.mp hx with hx | hx
            · exact sgn x hx
            · rw [List.mem_singleton.mp hx]; exact ssn n' hn''
        · rintro σ3 H3 ⟨w11, sg, rfl, G, hD, sgl, sgn⟩
          have eo : os.take (os.map V.str).length = os := by rw [List.length_map]; exact List.take_length
          rw [eo] at hD sgl
          have K3 : Kp p H' H3 := Kf.trans G.kp
          obtain ⟨F3, hn3, hr3, pr3⟩ := stay K3 G.pool
          have nDr : D ≠ rl := fun z => by rw [z, hrf] at nD; cases nD
          refine ⟨_, rfl, .inl ⟨rfl, _, sq_of hr3⟩, _, rfl, _, rfl, _, rfl, _, rfl, (by show 5 ≤ sizeLine; decide), fun T5 nT5 => ?_⟩
          have eT : Ex H3 (upd H3 T5 (.tup [.str "sensor", .str nme, .int po, .ref D, .int (1 + cm)])) := Ex.new nT5
          obtain ⟨Fg, hrg⟩ := F3.ex nrp hr3 eT
          have prg : Paired (InsQ p rl (upd H3 T5 (.tup [.str "sensor", .str nme, .int po, .ref D, .int (1 + cm)]))) xs rs := Paired.mapP pr3 fun _ _ z => z.kp G.pool (Kp.ex eT G.pool)
          have new : InsQ p rl (upd H3 T5 (.tup [.str "sensor", .str nme, .int po, .ref D, .int (1 + cm)])) (.ref T5) (Ins.mk false nme po os sg (1 + cm)) := ⟨T5, D, rfl, nDp, nDr, upd_same, eT _ _ hD⟩
          have hng := eT _ _ hn3
          generalize upd H3 T5 (.tup [.str "sensor", .str nme, .int po, .ref D, .int (1 + cm)]) = Hg at Fg hrg prg new hng
          have xl := Paired.length pr
          refine ⟨rl, xs, .ref T5, rfl, rfl, hrg, sz_lt (by omega), _, _, _, _, _, _, _, xs ++ [.ref T5], rs ++ [Ins.mk false nme po os sg (1 + cm)], rfl, Fg.put nrp nrl, by rw [upd_ne nrn]; exact hng, upd_same, prd_snoc (Paired.mapP prg fun _ _ z => z.put hrg) (new.put hrg), fun r hr'' => ?_, nma nms _ rfl⟩
          rcases List.mem_append.mp hr'' with h | h
          · exact ok r h
          · rw [List.mem_singleton.mp h]
            exact okr false sg (fun _ => sgl) sgn
    · rintro σ' H' ⟨v6, v7, v8, v9, v10, v11, v12, xs, rs, rfl, F, hn', hr', pr, ok, nms⟩
      have et : ns.take (ns.map V.str).length = ns := by rw [List.length_map]; exact List.take_length
      rw [et] at nms
      have rsl : rs.length = ns.length := by rw [← nms, List.length_map]
      exact ⟨_, rfl, k rl xs rs H' (K04.trans (K46.trans F.kp)) F.pool nrp hr' (Paired.mapP pr fun _ _ z => z.t) ok (by rw [nms]; exact nsd) (by omega) (by omega)⟩
end
end WK

set_option Elab.async false
set_option linter.all false
set_option maxRecDepth 100000
set_option maxHeartbeats 4000000
/-! An own exception (over ValueError) whose __init__ says super().__init__(a text) and keeps its argument. -/
namespace WW
open PySem PySem.Spec PyProof.Rows L2

section
variable {prog : Program} {w : World} {A : Around} {E : Value → Shared → Prop} {h : Heap} {g : Array GenState} {d : Drawn} {t : Nat} {os : OsState}
variable {nm q : Str} {C N : Addr} {bs bm : List Value} {hdct : Bool} {sn : List Str} {sub : List Value} {ab : Bool} {col : Option Bool} {dd : Option Addr} {k0 k1 k2 k3 k5 : Option Value}
/-- the bound ValueError.__init__ called -/
theorem call_bwV {u e t0 : Addr} {rest : List Value} {Q : Value → Shared → Prop}
    (hC : h.get? C = some (excClassObj nm q C N bs bm hdct sn sub ab col dd k0 k1 k2 k3 k5 "ValueError.__new__")) (he : h.get? e = some (PySem.HandSPX.excO C t0)) (hu : h.get? u = some (PySem.W.kxs_mw "ValueError.__init__" e)) (hrest : rest.length ≤ sizeLine)
    (hq : ∀ h' t1, (∀ b o, b ≠ e → h.get? b = some o → h'.get? b = some o) → h'.get? e = some (PySem.HandSPX.excO C t1) → Q .none ⟨h', g, d, t, os⟩) :
    wpAny (model prog w) A (call (.ref u) rest) Q E ⟨h, g, d, t, os⟩ := by
  refine wpAny_call (codeAny_of_tree ?_)
  show wpAny _ A.in1 (callAny (.ref u) ⟨rest, []⟩) _ _ _
  simp only [callAny]
  refine wpAny_bind (wpAny_load hu ?_)
  simp only [PySem.W.kxs_mw, show (Value.type "method-wrapper" == Value.type "method" || Value.type "method-wrapper" == Value.type "builtin_function_or_method" || Value.type "method-wrapper" == Value.type "method-wrapper") = true by decide, if_true]
  refine PySem.W.KFB.if_so (by decide) ?_
  refine wpAny_bind (PySem.ESX.check_bound F.excBase_ValueError hC he rfl ?_)
  refine wpAny_bind (wpAny_pure (wpAny_pure ?_))
  refine ⟨Code.quiet_builtin _ (by decide +kernel), codeAny_builtin F.excBase_ValueError.initEntry ?_⟩
  rw [Around.under_plainId F.excBase_ValueError.init.plain _]
  wp_walk
  refine hq _ h.objs.size (fun b o hb ho => ?_) ?_
  · rw [Heap.get?_update_other _ _ (Ne.symm hb)]
    exact Heap.get?_push_of_some _ ho
  · rw [Heap.get?_update_self _ (Heap.get?_push_of_some _ he) rfl]
    rfl
end

/-- the context of such a body -/
def cxE (P : Program) (w : World) (K : PySem.W.Frag) (mg : Str → Option Value) (base : Heap) (par qual : Str) (scope : Scope) (f cc : Addr) (cd : Value) (A : Around) (outer : List Env) (s : Shared) (H : Hp) : Cx where
  prog := P
  w := w
  K := K
  mg := mg
  base := base
  A := A.deeper (PySem.W.ksEnv qual scope s.heap.objs.size f cd cc)
  N := ["self", par]
  s_0 := s
  H_0 := H
  env := PySem.W.ksEnv qual scope s.heap.objs.size f cd cc
  outer := outer
  stack := PySem.W.ksEnv qual scope s.heap.objs.size f cd cc :: outer
  ex := []
  calm := true
  fn := fun x => !(x == ("__class__" : Str))
  pn := []
  xe := fun _ _ => False

/-- what the written part says of such a class and its __init__ -/
structure ExD (P : Program) (K : PySem.W.Frag) (mg : Str → Option Value) (C f cc cda : Addr) (qual : Str) (params : Arguments) (body : List Stmt) (scope : Scope) (fd : FuncData) : Prop where
  T : OexC K C
  fdat : ∃ kV doc pm an ct, fd = PySem.W.ksFn "__init__" qual params body scope .none kV doc pm an (.ref cda) ct cc
  lk : ∃ oc od osl, K.lookup f = some ⟨oc, od, .func fd, osl⟩
  code : PySem.W.codeIn K (.ref cda) qual = true
  file : ∃ ccl cdd vs ccs fl tf, K.lookup cda = some ⟨ccl, cdd, .fields vs, ccs⟩ ∧ vs[2]? = some (.str fl tf) ∧ ((P.main.file : Str) == fl) = true
  cell : ∃ cl cld csl, K.lookup cc = some ⟨cl, cld, .cell (some (.ref C)), csl⟩
  cls : ∃ cd, PySem.W.clsIn K C = some cd ∧ PySem.W.alongIn K "__init__" ((cd.mro.dropWhile (· != .ref C)).drop 1) = some (some (.builtin "ValueError.__init__"))
  self : PySem.W.mroIn K C (.ref C) = some true
  ve : PySem.W.subIn K (.ref C) (.type "ValueError") = some true
  opq : PySem.W.nsIn K PySem.cStatics "thirdparty.any" = some none
  sup : mg "super" = none
  top : (P.main.scope.names.lookup ("super" : Str)).isSome = false

/-- .. of its text -/
structure ExT (par : Str) (params : Arguments) (scope : Scope) : Prop where
  arg : ∃ ar, (params.posonlyargs ++ params.args).head? = some ar ∧ ar.arg = "self"
  kind : scope.kind = .function
  co : scope.isCoroutine = false
  gen : scope.isGenerator = false
  nd : ("self" : Str) ≠ par
  sup : scope.names.lookup ("super" : Str) = some .globalImplicit
  clsn : scope.names.lookup ("__class__" : Str) = some .free
  s : scope.names.lookup ("self" : Str) = some .local
  p : scope.names.lookup par = some .local
  free : ∀ y ∈ scope.names, y.2 = .free → y.1 = "__class__"
  cell : ∀ y ∈ scope.names, y.2 ≠ .cell

section
variable {P : Program} {w : World} {K : PySem.W.Frag} {mg : Str → Option Value} {base : Heap} {C f cc cda : Addr} {qual par : Str} {params : Arguments} {body : List Stmt} {scope : Scope} {fd : FuncData} {A : Around} {outer : List Env} {s : Shared} {H : Hp}
theorem inv_startE (S : ExT par params scope) (D : ExD P K mg C f cc cda qual params body scope fd) (hd : A.handled = none) (e0 : Env0 P w K mg base A outer s H) {u0 u1 : Value} {v0 v1 : V} (r0 : RelV v0 u0) (r1 : RelV v1 u1) {h1 : Heap} {tk : Nat}
    (hns : h1.Ns s.heap.objs.size (fun x => ([(("self" : Str), u0), (par, u1)] : List (Str × Value)).reverse.lookup x)) (hk : ∀ b o, s.heap.get? b = some o → h1.get? b = some o) :
    Inv (cxE P w K mg base par qual scope f cc (.ref cda) A outer s H) [] [some v0, some v1] H { s with heap := h1, toks := tk } := by
  obtain ⟨cl, cld, csl, hcc⟩ := D.cell
  have hcb := e0.mod.kin _ _ hcc
  have hcs := e0.bs _ _ hcb
  have lkc : ∀ x c, (([(("__class__" : Str), cc)] : List (Str × Addr)).lookup x = some c) → x = "__class__" ∧ c = cc := fun x c e => by
    rw [List.lookup_cons] at e
    split at e
    · rename_i hx
      cases e
      exact ⟨beq_iff_eq.mp hx, rfl⟩
    · cases e
  have noA : ∀ b : Addr, b ∉ ([] : List Addr) := fun b z => absurd z (by simp)
  refine ⟨⟨e0.mod, S.kind, rfl, rfl, Nat.le_refl _, fun y z c h1 h2 => ?_, fun y hy => ?_, fun y c hf h => ?_, fun _ => hd, Around.frames_deeper e0.frames, .inr ⟨rfl, rfl⟩, fun b z => absurd z (noA b), e0.bs, e0.bsz, fun b _ _ => noA b, fun b z => absurd z (noA b), e0.funs, e0.frf⟩,
    rfl, e0.bare, Un.kept hk, ⟨_, hns, fun i y v h1 h2 h3 => ?_⟩, fun y c h => ?_, e0.hok.fresh (Nat.le_refl _), fun y c h => ?_, fun p hp => absurd (show p ∈ ([] : List (Addr × Obj)) from hp) (by simp), e0.hok.kept hk, rfl⟩
  · rw [(lkc _ _ h1).1, (lkc _ _ h2).1]
  · have hy : scope.names.lookup y = some .cell ∨ scope.names.lookup y = some .free := hy
    rcases hy with hy | hy
    · exact absurd rfl (S.cell _ (PySem.mem_of_lookup hy))
    · have e := S.free _ (PySem.mem_of_lookup hy) rfl
      have e : y = "__class__" := e
      subst e
      exact ⟨cc, by show ([(("__class__" : Str), cc)] : List (Str × Addr)).lookup _ = _; rw [List.lookup_cons_self]⟩
  · have e := (lkc _ _ h).1
    subst e
    have hf : (!(("__class__" : Str) == ("__class__" : Str))) = true := hf
    rw [beq_self_eq_true] at hf
    cases hf
  · match i, h1, h2 with
    | 0, h1, h2 =>
      cases h1
      cases h2
      refine ⟨u0, r0, .inl ⟨S.s, ?_⟩⟩
      show ([(par, u1), (("self" : Str), u0)] : List (Str × Value)).lookup ("self" : Str) = some u0
      rw [List.lookup_cons, show (("self" : Str) == par) = false from beq_eq_false_iff_ne.mpr S.nd]
      exact List.lookup_cons_self
    | 1, h1, h2 =>
      cases h1
      cases h2
      refine ⟨u1, r1, .inl ⟨S.p, ?_⟩⟩
      show ([(par, u1), (("self" : Str), u0)] : List (Str × Value)).lookup par = some u1
      exact List.lookup_cons_self
    | i + 2, h1, h2 => cases h1
  · obtain ⟨_, rfl⟩ := lkc _ _ h
    exact ⟨_, _, hk _ _ hcs.1, rfl⟩
  · obtain ⟨_, rfl⟩ := lkc _ _ h
    exact hcs.2

/-- its promise: the exception at a gets a dict with that one attribute -/
def spExc (C : Addr) (attr : Str) : Sp := fun vs H Q _ => ∃ a y, vs = [.ref a, y] ∧ H a = some (exo a C none) ∧ ∀ dx, H dx = none → dx ≠ a → Q .non (upd (upd H dx (exd dx [(attr, y)])) a (exo a C (some dx)))
theorem fn_exc {CX : CXT} {k : Nat} {attr msg : Str} {j : Nat} {p0 p1 p2 p3 p4 p5 p6 p7 p8 p9 : Pos} (S : ExT par params scope) (D : ExD P K mg C f cc cda qual params body scope fd)
    (hb : body = [.Expr (.Call (.Attribute (.Call (.Name "super" p0) [] [] p1) "__init__" p2) [.Constant (.str msg) j p3] [] p4) p5, .Assign [.Attribute (.Name "self" p6) attr p7] (.Name par p8) p9])
    (hno : PySem.W.findIn K (.ref C) attr = some none) (hdp : (par == ("__debug__" : Str)) = false) (hcp : (par == ("__classdict__" : Str)) = false)
    (hev : ∀ env : Env, ∃ pl : Sem Bool, eval (.Call (.Attribute (.Call (.Name "super" p0) [] [] p1) "__init__" p2) [.Constant (.str msg) j p3] [] p4) env = (do
      let ov ← attributeBase (.Call (.Name "super" p0) [] [] p1) "__init__" env (eval (.Call (.Name "super" p0) [] [] p1) env)
      standAt p2.atName
      let (f, first) ← holding [ov] (getMethod ov "__init__" pl)
      callWith p4 f first (backTo p4 (starEach [.Constant (.str msg) j p3] env)) []))
    (hsw : ∀ env, swapsWith (.Name par p8) (some (.Attribute (.Name "self" p6) attr p7)) p9.line env = pure false) :
    FnOk P w K mg base CX (k + 1) f fd ["self", par] (spExc C attr) := by
  refine ⟨fun vs H Q E h => ?_, fun A outer s H args us vs Q E hr e0 hbind r hsp => ?_⟩
  · obtain ⟨a, y, rfl, _⟩ := h
    rfl
  obtain ⟨a, y, rfl, ha, q⟩ := hsp
  obtain ⟨u1, rfl⟩ : ∃ u1, us = [.ref a, u1] := by
    match us, r with
    | [_, u1], .cons r0 (.cons _ .nil) => cases r0; exact ⟨u1, rfl⟩
  have r1 : RelV y u1 := by
    cases r with
    | cons _ rr => cases rr with
      | cons r1 _ => exact r1
  obtain ⟨oc, od, osl, lk⟩ := D.lk
  have KX : K.In s.heap := e0.mod.kin.keeps fun b o e => (e0.bs b o e).1
  have lim : s.heap.NoLimit := e0.mod.nolimit.keeps fun b o e => (e0.bs b o e).1
  obtain ⟨kV, doc, pm, an, ct, hfd⟩ := D.fdat
  subst hfd
  refine PySem.ks_codeAny_call_defAt (fd := PySem.W.ksFn "__init__" qual params body scope .none kV doc pm an (.ref cda) ct cc) (body := body) (binds := [("self", .ref a), (par, u1)]) hr.depth (KX _ _ lk) rfl lim (PySem.W.codeRec_of KX D.code) rfl hbind S.cell ?_ (fun h1 hns hk => ?_) S.co S.gen S.kind
  · intro x hx
    rcases List.mem_cons.mp hx with rfl | hx
    · exact S.s
    · rw [List.mem_singleton.mp hx]; exact S.p
  have I := inv_startE (tk := s.toks + 2) S D hr.hd e0 (u0 := .ref a) (v0 := .ref a) rfl r1 hns hk
  show PySem.wpAt (model P w) (cxE P w K mg base par qual scope f cc (.ref cda) A outer s H).A (.func body (cxE P w K mg base par qual scope f cc (.ref cda) A outer s H).env) (execs body (cxE P w K mg base par qual scope f cc (.ref cda) A outer s H).env) _ _ { s with heap := h1, toks := s.toks + 2 }
  -- the rest, from any state behind the first row
  have rest : ∀ s5, Inv (cxE P w K mg base par qual scope f cc (.ref cda) A outer s H) [] [some (.ref a), some y] H s5 → wpAny (model P w) (cxE P w K mg base par qual scope f cc (.ref cda) A outer s H).A (execs [.Assign [.Attribute (.Name "self" p6) attr p7] (.Name par p8) p9] (cxE P w K mg base par qual scope f cc (.ref cda) A outer s H).env)
      (fun fl s' => CR CX outer P w H s Q E (.ok (.ret (match fl with | .ret v => v | _ => .none))) s') (fun _ _ => False) s5 := fun s5 J => by
    have ps : PSs (cxE P w K mg base par qual scope f cc (.ref cda) A outer s H) [.Assign [.Attribute (.Name "self" p6) attr p7] (.Name par p8) p9] (tOst K attr (tVar 0) (tVar 1)) :=
      pss_one (ps_ost (pe_var (i := 0) rfl (.inl S.s)) (pe_var (i := 1) rfl (.inl S.p) hdp hcp) (hsw _))
    refine wpAny_mono (ps.run [] s5 [some (.ref a), some y] H { nx := fun _ H' => Q .non H', rt := fun _ _ => False, bk := fun _ _ => False, ct := fun _ _ => False } J ⟨y, rfl, .ref a, rfl, a, C, rfl, D.T, hno, .inl ⟨ha, fun dx n1 n2 => q dx n1 n2⟩⟩) (fun fl s' hs => ?_) fun _ _ z => z
    cases fl with
    | next =>
      obtain ⟨σ', H', J', q'⟩ := hs
      exact ⟨.non, H', J'.os, J'.bare, J'.base, J'.hok, rfl, q'⟩
    | ret u => obtain ⟨_, _, _, _, _, z⟩ := hs; exact z.elim
    | brk => obtain ⟨_, _, _, z⟩ := hs; exact z.elim
    | cont => obtain ⟨_, _, _, z⟩ := hs; exact z.elim
  obtain ⟨ar, har, hself⟩ := S.arg
  obtain ⟨ccl, cdd, vs, ccs, fl, tf, hcode, hvs, hfile⟩ := D.file
  obtain ⟨cl, cld, csl, hcell⟩ := D.cell
  obtain ⟨cd, hcd, halong⟩ := D.cls
  obtain ⟨mb, b1, b2⟩ := e0.mod.blt
  have K1 : K.In h1 := KX.keeps hk
  obtain ⟨oC, hC1, hC2⟩ : ∃ oC, h1.get? C = some oC ∧ oC.data = .cls cd := by
    unfold PySem.W.clsIn at hcd
    split at hcd
    · rename_i c d' cd' sl ho
      cases hcd
      exact ⟨_, K1 _ _ ho, rfl⟩
    · cases hcd
  obtain ⟨t0, hx⟩ := exo_at I.hok ha
  have hx : h1.get? a = some ({ cls := .ref C, dict := none, data := .fields #[.ref t0, .none, .none, .none, .bool false, .none] } : Obj) := hx
  subst hb
  have hnc : ∀ c, ({ cls := .ref C, dict := none, data := .fields #[.ref t0, .none, .none, .none, .bool false, .none] } : Obj).data ≠ .cls c := fun c z => nomatch z
  obtain ⟨pl, hpl⟩ := hev (cxE P w K mg base par qual scope f cc (.ref cda) A outer s H).env
  refine ks_wpAt_execs_cons (ks_wpAt_Expr_any (ks_wpAt_MethodCall (pl := pl) (ks_wpAt_super_base (f := f) (cc := cda) S.sup S.clsn (by decide) rfl (K1 _ _ lk) rfl har rfl (K1 _ _ hcode) rfl hvs hfile D.top ?_) hpl) I.quiet)
  refine PySem.W.ks_loadName_global S.kind S.sup (Calls.loadGlobal_builtin (e0.mod.glob.keeps I.bk) D.sup (b1.keeps I.bk) ((b2 "super" (by decide)).trans (by rfl)) ⟨rfl, ?_⟩)
  refine wpAny_loadName_free (c := cc) S.kind S.clsn rfl ⟨_, K1 _ _ hcell, rfl⟩ ?_
  rw [hself]
  refine wpAny_loadName_local S.kind S.s hns (v := .ref a) ?_ ?_
  · show ([(par, u1), (("self" : Str), Value.ref a)] : List (Str × Value)).lookup ("self" : Str) = some (.ref a)
    rw [List.lookup_cons, show (("self" : Str) == par) = false from beq_eq_false_iff_ne.mpr S.nd]
    exact List.lookup_cons_self
  refine ks_wpAny_isType_cls hC1 hC2 ⟨rfl, ?_⟩
  refine ks_wpAny_call_super hC1 hC2 hx rfl hnc (PySem.W.looks_mroIn K1 D.self) (fun h2 e2 k2 => ?_)
  have K2 : K.In h2 := K1.keeps k2
  have I2 := I.kept (t' := s.toks + 2) k2
  have hx2 := k2 _ _ hx
  have hI : PySem.W.Looks (model P w) h2 (isInstance (.ref a) (.type "ValueError")) true := (show PySem.W.InstAt h2 a _ C none from ⟨hx2, rfl, rfl, trivial⟩).type.andThen (PySem.W.looks_subIn K2 D.ve)
  have hxC : a ≠ C := fun z => by
    rw [z, hC1] at hx
    cases hx
    cases hC2
  refine PySem.W.kxs_getMethod PySem.W.kxs_ValueError e2 (PySem.W.looks_opaque K2 D.opq) (l₀ := cd.mro) (fun A Q E s k q => wpAny_bind ((PySem.W.looks_clsIn K2 hcd) A _ E s k (wpAny_pure q))) rfl K2 halong hI hxC (by decide) ?_
  have I3 := I2.kept (t' := s.toks + 2 + 1) (h' := h2.push (PySem.W.kxs_mw "ValueError.__init__" a)) fun b o e => Heap.get?_push_of_some _ e
  have hmw : (h2.push (PySem.W.kxs_mw "ValueError.__init__" a)).get? h2.objs.size = some (PySem.W.kxs_mw "ValueError.__init__" a) := Heap.get?_push_size _ rfl
  have I4 := I3.pins_of (pins' := [(h2.objs.size, PySem.W.kxs_mw "ValueError.__init__" a)]) fun p hp => by
    rw [List.mem_singleton.mp hp]
    exact ⟨hmw, I2.hok.fresh (Nat.le_refl _), Nat.ne_of_gt I2.lt, I2.nofs (Nat.le_refl _), fun v z => nomatch z⟩
  have hst : starEach [.Constant (.str msg) j p3] (cxE P w K mg base par qual scope f cc (.ref cda) A outer s H).env = (false, eval (.Constant (.str msg) j p3) (cxE P w K mg base par qual scope f cc (.ref cda) A outer s H).env) :: starEach [] (cxE P w K mg base par qual scope f cc (.ref cda) A outer s H).env := by rfl
  have pa : PA (cxE P w K mg base par qual scope f cc (.ref cda) A outer s H) [.Constant (.str msg) j p3] (tCons (tC (.str msg)) tNil) := pa_cons pe_str pa_nil
  have run := pa.run p4 _ _ _ _ (fun vs H1 => vs = [.str msg] ∧ H1 = H) I4 ⟨rfl, rfl⟩
  rw [hst] at run ⊢
  refine PySem.W.kxs_callWith (i := "ValueError.__init__") (x := a) (by rfl) ?_
  refine Calls.evalArgs_plain ?_
  refine wpAny_mono run (fun us s3 z => ?_) fun _ _ z => z.elim
  obtain ⟨vs3, H3, I5, r3, rfl, rfl⟩ := z
  have hpin := I5.pin _ (List.mem_append_right _ (List.mem_singleton.mpr rfl))
  refine ⟨hpin.1, ?_⟩
  obtain ⟨nm, q', N, bs, bm, sn, sub, ab, col, dd, k0, k1, k2', k3, k5, hCo, hbm⟩ := D.T.cls
  obtain ⟨t1, hx3⟩ := exo_at I5.hok ha
  have K5 : K.In s3.heap := I5.kIn
  obtain ⟨hp, g, d, t, os⟩ := s3
  have hlen : us.length ≤ sizeLine := by
    rw [← Paired.length r3]
    show 1 ≤ sizeLine
    decide
  refine call_bwV (K5 _ _ hCo) hx3 hpin.1 hlen fun h' t2 kk hx' => ?_
  have J := I5.write (t' := t) (x := a) (e := a) (o := exo a C none) (by rw [ha]; exact True.intro) (.inl rfl) kk ⟨_, hx'⟩ (exo_ok hx')
  have eu : upd H3 a (exo a C none) = H3 := by
    funext b
    by_cases hb : b = a
    · rw [hb, upd_same, ha]
    · rw [upd_ne hb]
  rw [eu] at J
  exact wpAt_of_wpAny (wpAny_mono (rest _ (J.pins_of (pins' := []) fun p hp => nomatch hp)) (fun _ _ z => z) fun _ _ z => z.elim)
end
end WW

set_option Elab.async false
set_option linter.all false
set_option maxRecDepth 100000
set_option maxHeartbeats 4000000
/-! raise of an own exception made with one argument that it keeps. -/
namespace WW
open PySem PySem.Spec PyProof.Rows L2
/-- the class x of the module's names can be raised with one argument, which it keeps as attr -/
structure ExR (P : Program) (w : World) (K : PySem.W.Frag) (mg : Str → Option Value) (base : Heap) (k : Nat) (x : Str) (C : Addr) (attr : Str) : Prop where
  T : OexC K C
  ini : ∃ fI fd par, PySem.W.findIn K (.ref C) "__init__" = some (some (.ref fI)) ∧ PySem.W.typeIn K (.ref fI) = some (.type "function") ∧ FnOk P w K mg base CXn k fI fd ["self", par] (spExc C attr) ∧ Binds K fd ["self", par] []
  g : mg x = some (.ref C)
/-- raise x(e) -/
def tRaiseE (C : Addr) (attr : Str) (W : WX) (te : TE) : TS := fun _ σ H => tMkO C (spExc C attr) [] (tCons te tNil) σ H fun cls d H' => W cls d σ H'
theorem ps_raiseE {X : Cx} {W : WX} {k : Nat} {x : Str} {C : Addr} {attr : Str} {e : Expr} {te : TE} {p pos pos2 : Pos} (D : ExR X.prog X.w X.K X.mg X.base k x C attr) (hc : X.calm = true) (hr : Room (k + 1) X.A) (tk : Takes X W) (hg : Gl X x) (he : PE X e te)
    (hdb : (x == ("__debug__" : Str)) = false := by decide) (hs : starEach [e] X.env = (false, eval e X.env) :: starEach [] X.env := by rfl) (hpl : (backTo pos (starEach [] X.env)).any (·.1) = false := by rfl) :
    PS X (.Raise (some (.Call (.Name x p) [e] [] pos)) none pos2) (tRaiseE C attr W te) := by
  obtain ⟨fI, fd, par, h1, h2, h3, h4⟩ := D.ini
  exact ps_raise hc tk (pmk_oex D.T h1 h2 h3 hr h4 .nil (fun _ _ _ _ _ _ _ h => h.elim) hg D.g (pa_cons he pa_nil hs) hdb hs hpl)
theorem raise_go {C : Addr} {attr : Str} {y : V} {H1 : Hp} {Q : XK} (h : ∀ d, H1 d = none → Q (.ref C) (some d) (upd H1 d (.xd [(attr, y)]))) :
    [y].length ≤ 1000 ∧ ∀ a, H1 a = none → spExc C attr (.ref a :: ([y] ++ [])) (upd H1 a (exo a C none)) (fun v H2 => v = .non ∧ ∃ (d : Addr) (fs : List (Str × V)), H2 a = some (exo a C (some d)) ∧ H2 d = some (exd d fs) ∧ H1 d = none ∧ Q (.ref C) (some d) (upd (del H2 a) d (.xd fs))) (fun _ _ _ => False) := by
  refine ⟨show 1 ≤ 1000 by decide, fun a ha => ⟨a, y, rfl, upd_same, fun dx hd hne => ⟨rfl, dx, [(attr, y)], upd_same, ?_, ?_, ?_⟩⟩⟩
  · rw [upd_ne hne, upd_same]
  · rw [upd_ne hne] at hd; exact hd
  · have e : upd (del (upd (upd (upd H1 a (exo a C none)) dx (exd dx [(attr, y)])) a (exo a C (some dx))) a) dx (.xd [(attr, y)]) = upd H1 dx (.xd [(attr, y)]) := by
      funext b
      by_cases hb : b = dx
      · subst hb; rw [upd_same, upd_same]
      · rw [upd_ne hb, upd_ne hb]
        by_cases hc : b = a
        · subst hc; rw [del_same, ha]
        · rw [del_ne hc, upd_ne hc, upd_ne hb, upd_ne hc]
    rw [e]
    exact h dx (by rw [upd_ne hne] at hd; exact hd)
end WW

set_option Elab.async false
set_option linter.all false
set_option maxRecDepth 100000
set_option maxHeartbeats 4000000
/-! try with several clauses «except x as n». -/
namespace WW
open PySem PySem.Spec PyProof.Rows L2
abbrev Suite : Type := Addr → Value → Option Addr → TS
/-- the clauses' wishes of an exception, from the first on; a clause is (class, slot of its name, suite) -/
def wAsM (K : PySem.W.Frag) (Wout : WX) (D : Ends) : List (Value × Nat × Suite) → WX
  | [] => Wout
  | (c, i, ts) :: r => wAs K c i ts (wAsM K Wout D r) D
inductive HdsAs (X : Cx) : List ExceptHandler → List (Value × Nat × Suite) → Prop
  | done : HdsAs X [] []
  | clause {x n : Str} {c : Value} {i : Nat} {ts : Suite} {b : Stmt} {bs : List Stmt} {p q : Pos} {hds : List ExceptHandler} {l : List (Value × Nat × Suite)} (hc : Names X x c) (hi : X.N[i]? = some n) (hk : X.env.kindOf n = some .local)
      (body : ∀ (a : Addr) (oe : Obj) (cls : Value) (d : Option Addr) (pn : List (Addr × Obj)), Zc cls d oe → (∃ vs, oe.data = .fields vs) → PSs (X.suite a ((a, oe) :: pn)) (b :: bs) (ts a cls d)) (more : HdsAs X hds l) :
      HdsAs X (.ExceptHandler (some (.Name x p)) (some n) (b :: bs) q :: hds) ((c, i, ts) :: l)
/-- the exception a has come to the clauses -/
structure Came (X : Cx) (pins : List (Addr × Obj)) (σ : L2.St) (H : Hp) (B : Heap) (a : Addr) (cls : Value) (d : Option Addr) (s : Shared) : Prop where
  fly : PySem.HandSPX.FlyingZ B (X.env :: X.outer) a (Zc cls d) s.heap
  inv : ∀ h, PySem.HandSPX.FlyingZ B (X.env :: X.outer) a (Zc cls d) h → s.heap.UpToSlots h → Inv X pins σ H { s with heap := h }
  na : H a = none
  nL : a ≠ X.env.locals
  nF : a ∉ X.fs
section
variable {X : Cx} {pins : List (Addr × Obj)} {σ : L2.St} {H : Hp} {B : Heap} {a : Addr} {cls : Value} {d : Option Addr} {s : Shared} {D : Ends} {Wout : WX}
/-- with the exception pinned, as the suite sees it -/
theorem Came.suite (Z : Came X pins σ H B a cls d s) {h : Heap} (f : PySem.HandSPX.FlyingZ B (X.env :: X.outer) a (Zc cls d) h) (u : s.heap.UpToSlots h) :
    ∃ oe, Zc cls d oe ∧ (∃ vs, oe.data = .fields vs) ∧ h.get? a = some oe ∧ Inv (X.suite a ((a, oe) :: (X.pn ++ pins))) [] σ H { s with heap := h } := by
  obtain ⟨oe, vs, e, z, dt⟩ := f.there
  exact ⟨oe, z, ⟨vs, dt⟩, e, (Z.inv h f u).suite e dt Z.na Z.nL Z.nF⟩
/-- no clause takes it -/
theorem Came.pass (Z : Came X pins σ H B a cls d s) (hf : X.env.frame = some X.env.locals) (out : ∀ h, PySem.HandSPX.HeldZ B (X.env :: X.outer) a (Zc cls d) X.env.locals h → s.heap.UpToSlots h → X.xe (.ref a) { s with heap := h }) :
    wpAny (model X.prog X.w) X.A (handleBy (.ref a) X.env []) (SP X pins D) X.xe s := by
  refine wpAny_handleBy_nil ?_
  have up : wpAny (model X.prog X.w) X.A (setFlight (.ref a) X.env.frame) (fun _ t => wpAny (model X.prog X.w) X.A (throw (.ref a) : Sem Flow) (SP X pins D) X.xe t) X.xe s := by
    rw [hf]
    exact PySem.HandSPX.setFlight_upZ Z.fly fun h hh u => wpAny_throw (out h hh u)
  obtain ⟨_, _, _, oe, vs, T, _, _, e, _, dt, v1, _⟩ := id Z.fly
  have nn : ¬ ((Value.ref T == Value.none) = true) := by simp
  unfold PySem.passOn
  refine wpAny_bind (wpAny_field e dt v1 ?_)
  rw [if_neg nn]
  first
    | exact wpAny_bind up
    | exact wpAny_bind (wpAny_pure (wpAny_bind up))
theorem Came.clauses (hN : X.N.Nodup) (ok : X.Ok) (hf : X.env.frame = some X.env.locals) : ∀ {hds : List ExceptHandler} {l : List (Value × Nat × Suite)}, HdsAs X hds l → Came X pins σ H B a cls d s →
    (Wout cls d σ H → ∀ h, PySem.HandSPX.HeldZ B (X.env :: X.outer) a (Zc cls d) X.env.locals h → s.heap.UpToSlots h → X.xe (.ref a) { s with heap := h }) → wAsM X.K Wout D l cls d σ H →
    wpAny (model X.prog X.w) X.A (handleBy (.ref a) X.env hds) (SP X pins D) X.xe s
  | _, _, .done, Z, out, w => Z.pass hf (out w)
  | _, _, .clause (x := x) (n := n) (c := c) (i := i) (ts := ts) (p := p) (q := q) hc hi hk body more, Z, out, w => by
    obtain ⟨yes, hm, wy, wn⟩ := w
    obtain ⟨oe, z, hd, e, S⟩ := Z.suite Z.fly (Heap.UpToSlots.refl _)
    have named : ∀ {R : Value → Shared → Prop} {F : Value → Shared → Prop}, R c s → wpAny (model X.prog X.w) (X.A.mark (some (.ref a))) (eval (.Name x p) X.env) R F s := fun {R F} r =>
      match hc with
      | ⟨g, nd, .inl m⟩ => ld_glob (X := X.suite a ((a, oe) :: (X.pn ++ pins))) S g m r nd
      | ⟨g, nd, .inr ⟨m, b, nn⟩⟩ => ld_blt (X := X.suite a ((a, oe) :: (X.pn ++ pins))) S g m b r nn nd
    have ofCls : PySem.W.Looks (model X.prog X.w) s.heap (typeOf (.ref a)) cls := fun _ _ _ _ k r => wpAny_typeOf_ref (k _ _ e) (by rw [z.1]; exact r)
    refine wpAny_handleBy_cons (codeAny_handlers_test (named ((PySem.W.exm_one (M := model X.prog X.w) S.kIn ofCls hm).here ?_))) (fun r => nomatch r)
    cases yes with
    | false => exact Came.clauses hN ok hf more Z out (wn rfl)
    | true =>
      refine codeAny_handlers_suite_as (PySem.HandSPX.lands_againZ Z.fly fun h f u => ?_)
      obtain ⟨ob, zb, hb, eb, Sb⟩ := Z.suite f u
      refine store_ok (X := X.suite a ((a, ob) :: (X.pn ++ pins))) (v := .ref a) Sb hN hi (.inl hk) rfl (fun t St => ?_) (.inr hk)
      refine wpAny_mono ((body a ob cls d (X.pn ++ pins) zb hb).run [] t _ H _ St (wy rfl a Z.na)) (fun fl t2 r => ?_) fun _ _ r => r.elim
      have gone : ∀ {σ2 : L2.St} {H2 : Hp} {R : Shared → Prop}, Inv (X.suite a ((a, ob) :: (X.pn ++ pins))) [] σ2 H2 t2 → (∀ t3, Inv X pins (σ2.set i none) H2 t3 → R t3) →
          wpAny (model X.prog X.w) X.A (do bindName X.env n .none; unbindBehindTheSuite X.env n q) (fun _ t3 => R t3) X.xe t2 := fun I2 k => gone_ok (I2.unsuite ok) hN hi hk k
      cases fl with
      | ret u =>
        obtain ⟨v2, σ2, H2, I2, rv, k⟩ := r
        exact gone I2 fun _ J => ⟨v2, _, H2, J, rv, k⟩
      | next =>
        obtain ⟨σ2, H2, I2, k⟩ := r
        exact gone I2 fun _ J => ⟨_, H2, J, k⟩
      | brk =>
        obtain ⟨σ2, H2, I2, k⟩ := r
        exact gone I2 fun _ J => ⟨_, H2, J, k⟩
      | cont =>
        obtain ⟨σ2, H2, I2, k⟩ := r
        exact gone I2 fun _ J => ⟨_, H2, J, k⟩
/-- try: body / except c1 as n1: .. / except c2 as n2: .. -/
theorem ps_try_asM {body : List Stmt} {h0 : ExceptHandler} {hds : List ExceptHandler} {l : List (Value × Nat × Suite)} {tb : WX → TS} {pos : Pos} (hs : X.stack = X.env :: X.outer) (hf : X.env.frame = some X.env.locals) (hN : X.N.Nodup) (tk : Takes X Wout)
    (hb : ∀ (W : WX) (pn : List (Addr × Obj)) (xe : Value → Shared → Prop), Takes (X.tr pn xe) W → PassesOwn (model X.prog X.w) X.A X.env xe → PSs (X.tr pn xe) body (tb W)) (hh : HdsAs X (h0 :: hds) l) :
    PS X (.Try body (h0 :: hds) [] [] pos) (fun D σ H => tb (wAsM X.K Wout D l) D σ H) := by
  refine ⟨fun pins s σ H D I h => wpAny_Try_except ?_⟩
  have caught : Takes (X.tr (X.pn ++ pins) fun e s1 => wpAny (model X.prog X.w) X.A (noteFrame e X.env) (fun _ s2 => wpAny (model X.prog X.w) X.A (setFlight e none) (fun _ s3 => wpAny (model X.prog X.w) X.A (handleBy e X.env (h0 :: hds)) (SP X pins D) X.xe s3) X.xe s2) X.xe s1) (wAsM X.K Wout D l) := by
    intro v t x
    obtain ⟨a, B, sI, pins2, σ2, H2, cls, d, rfl, J2, nb, up, sky, na, os, ag, w⟩ := x
    have J := J2.ofTry (pins := pins) I.ok
    have sk : Sky B (X.env :: X.outer) a (Zc cls d) X.env.locals t.heap := hs ▸ sky
    have fr : X.A.frames = some (X.env :: X.outer) := I.ok.frames.trans (congrArg some hs)
    show wpAny (model X.prog X.w) X.A (noteFrame (.ref a) X.env) _ _ _
    refine Sky.land Zc.steady fr hf sk fun h f u => ?_
    have far : a ∉ frs (X.env :: X.outer) := fun m => by
      obtain ⟨oe, vs, e, _, dt⟩ := f.there
      obtain ⟨_, oe2, e2, nf⟩ := PySem.Heap.FunFrames.mem f.2.2.1 m
      cases e.symm.trans e2
      exact nf _ dt
    have Z : Came X pins σ2 H2 B a cls d { t with heap := h } := {
      fly := f
      inv := fun h2 f2 u2 => J.landed nb f2.1 ((up.trans u).trans u2) os ag
      na := na
      nL := fun z => far (List.mem_filterMap.mpr ⟨X.env, List.mem_cons_self, hf.trans (congrArg some z.symm)⟩)
      nF := fun m => by
        obtain ⟨en, me, fe⟩ := List.mem_filterMap.mp m
        exact far (List.mem_filterMap.mpr ⟨en, List.mem_cons_of_mem _ me, fe⟩) }
    exact Z.clauses hN I.ok hf hh (fun w h2 held u2 => tk _ _ ⟨a, B, sI, pins, σ2, H2, cls, d, rfl, J, nb, (up.trans u).trans u2, .inr (.inr (hs ▸ held)), na, os, ag, w⟩) w
  refine wpAny_mono ((hb _ (X.pn ++ pins) _ caught PassesOwn.looking).run [] s σ H D (I.toTry _) h) (fun fl t r => ?_) fun _ _ z => z
  cases fl with
  | next =>
    obtain ⟨σ2, H2, J, k⟩ := r
    exact wpAny_execs_nil ⟨σ2, H2, J.ofTry I.ok, k⟩
  | ret u =>
    obtain ⟨v, σ2, H2, J, rv, k⟩ := r
    exact ⟨v, σ2, H2, J.ofTry I.ok, rv, k⟩
  | brk =>
    obtain ⟨σ2, H2, J, k⟩ := r
    exact ⟨σ2, H2, J.ofTry I.ok, k⟩
  | cont =>
    obtain ⟨σ2, H2, J, k⟩ := r
    exact ⟨σ2, H2, J.ofTry I.ok, k⟩
end
end WW

set_option Elab.async false
set_option linter.all false
set_option maxRecDepth 100000
set_option maxHeartbeats 4000000
/-! Calls of what may raise, inside a try: a def by its name, a class. -/
namespace WW
open PySem PySem.Spec PyProof.Rows L2
section
variable {X : Cx} {CX : CXT} {k n : Nat} {f C : Addr} {fd : FuncData} {ps : List Str} {sp : Sp} {E : L2.St → XK} {x : Str} {p pos : Pos} {e : Expr} {es : List Expr} {t : TA}
theorem pe_clS (c : Callee X.prog X.w X.K X.mg X.base CX k x n sp) (hr : Room k X.A) (hg : Gl X x) (hx : ∀ σ, PassesAt CX X σ (E σ)) (ha : PA X (e :: es) t)
    (hdb : (x == ("__debug__" : Str)) = false := by decide) (he : starEach (e :: es) X.env = (false, eval e X.env) :: starEach es X.env := by rfl) (hpl : (backTo pos (starEach es X.env)).any (·.1) = false := by rfl) :
    PE X (.Call (.Name x p) (e :: es) [] pos) (tCallS sp E t) := by
  obtain ⟨f, fd, ps, _, F, hm, hk, hb⟩ := c.ex
  exact pe_callS F hr hg hm hk hb hx ha hdb he hpl
/-- C(..), whose __init__ may raise -/
def tMakeS (C : Addr) (sp : Sp) (E : L2.St → XK) (t : TA) : TE := fun σ H Q => t σ H fun vs H1 => ∀ o m, H1 o = none → H1 m = none → m ≠ o → sp (.ref o :: vs) (upd (upd H1 m (.own o)) o (.ins C m [])) (fun v H2 => v = .non ∧ Q (.ref o) H2) (E σ)
theorem pe_makeS (M : Mk X.K C f) (F : FnOk X.prog X.w X.K X.mg X.base CX k f fd ps sp) (hr : Room (k + 1) X.A) (hg : Gl X x) (hm : X.mg x = some (.ref C)) (hb : Binds X.K fd ps []) (hx : ∀ σ, PassesAt CX X σ (E σ)) (ha : PA X (e :: es) t)
    (hdb : (x == ("__debug__" : Str)) = false := by decide) (he : starEach (e :: es) X.env = (false, eval e X.env) :: starEach es X.env := by rfl) (hpl : (backTo pos (starEach es X.env)).any (·.1) = false := by rfl) :
    PE X (.Call (.Name x p) (e :: es) [] pos) (tMakeS C sp E t) := by
  refine ⟨fun pins s σ H Q I h => wpAny_Call_Name_kw (ld_glob I hg hm (PySem.W.callWith_K (h₀ := X.base) I.ok.mod.kin M.kp (thn (ha.run pos pins s σ H _ I h) fun us s1 z => ?_) he hpl) hdb)⟩
  obtain ⟨vs, H1, I1, r, q⟩ := z
  refine ⟨I1.kIn, ?_⟩
  have low : s1.heap.objs.size ≤ s1.heap.objs.size + 1 := Nat.le_succ _
  have new := q (s1.heap.objs.size + 1) s1.heap.objs.size (I1.hok.fresh low) (I1.hok.fresh (Nat.le_refl _)) (Nat.ne_of_lt (Nat.lt_succ_self _))
  have rs : Vals (V.ref (s1.heap.objs.size + 1) :: vs) (Value.ref (s1.heap.objs.size + 1) :: us) := .cons rfl r
  have J := I1.made (C := C)
  have many : (Value.ref (s1.heap.objs.size + 1) :: us ++ []).length = ps.length := by rw [List.append_nil, ← rs.length, F.len _ _ _ _ new]
  have bs := hb _ (Value.ref (s1.heap.objs.size + 1) :: us) J.kIn many
  rw [List.append_nil] at bs
  refine wpAny_call (make_map (f := f) I1.kIn M.makes M.init (beq_iff_eq.mp M.fn) (codeAny_mono (F.run _ X.stack _ _ ⟨Value.ref (s1.heap.objs.size + 1) :: us, []⟩ _ _ _ (E σ) (hr.make C us []) (J.env0.make C us []) bs rs new) fun a t z => ?_))
  match a, z with
  | .error _, z => exact hx σ _ _ _ _ t J z
  | .ok (.ret u), z =>
    obtain ⟨v, H2, J2, rv, rfl, k2⟩ := J.after z
    exact ⟨rv, .ref (s1.heap.objs.size + 1), H2, J2, rfl, k2⟩
  | .ok .next, z => exact False.elim z
  | .ok .brk, z => exact False.elim z
  | .ok .cont, z => exact False.elim z
end
end WW

set_option Elab.async false
set_option linter.all false
set_option maxRecDepth 100000
set_option maxHeartbeats 4000000
/-! A head's facts: those of the layer, defs found anyhow, one more Bool. -/
namespace WW
open PySem PySem.Spec PyProof.Rows L2 He
def obsB (fa : List Fa) (fn : List He5.DefA) (ex : PySem.W.Frag → Bool) (K : PySem.W.Frag) : He.AlD := (((fa.all fun f => f.ok K) && ex K) && fn.all fun d => d.ok K, fn.map fun d => He5.fnA K (d.at_ K))
def SaysB (fa : List Fa) (fn : List He5.DefA) (ex : PySem.W.Frag → Bool) (K : PySem.W.Frag) : Prop := obsB fa fn ex K = He5.valA fn
def obsBG (n : Nat) (fa : List Fa) (fn : List He5.DefA) (ex : PySem.W.Frag → Bool) (g : Addr → Option Obj) : He.AlD := obsB fa fn ex (frG g (He5.asA g n))
def hookB (n : Nat) (fa : List Fa) (fn : List He5.DefA) (ex : PySem.W.Frag → Bool) : PySem.W.Hook where
  α := He.AlD
  obs := fun s => obsBG n fa fn ex s.heap.get?
  val := fun _ => He5.valA fn
  says := fun _ h => ∃ K : PySem.W.Frag, K.In h ∧ SaysB fa fn ex K
  of := fun _ _ e => ⟨_, frG_in, e⟩
  keeps := fun _ _ _ ⟨K, hK, c⟩ k => ⟨K, PySem.W.Frag.In.keeps hK k, c⟩
theorem obsBG_eq {n : Nat} {fa : List Fa} {fn : List He5.DefA} {ex : PySem.W.Frag → Bool} {g : Addr → Option Obj} {s : Shared} (h : ∀ a, g a = s.heap.get? a) : obsBG n fa fn ex g = (hookB n fa fn ex).obs s := by
  have e : g = s.heap.get? := funext h
  rw [e] <;> rfl
section
variable {fa : List Fa} {fn : List He5.DefA} {ex : PySem.W.Frag → Bool} {K : PySem.W.Frag}
theorem SaysB.fact (c : SaysB fa fn ex K) {f : Fa} (h : f ∈ fa) : f.ok K = true := by
  have c1 := (ba (ba (show (((fa.all fun f => f.ok K) && ex K) && fn.all fun d => d.ok K) = true from congrArg (fun z : He.AlD => z.1) c)).1).1
  exact List.all_eq_true.mp c1 f h
theorem SaysB.ext (c : SaysB fa fn ex K) : ex K = true :=
  (ba (ba (show (((fa.all fun f => f.ok K) && ex K) && fn.all fun d => d.ok K) = true from congrArg (fun z : He.AlD => z.1) c)).1).2
theorem SaysB.def_ (c : SaysB fa fn ex K) (i : Nat) {d : He5.DefA} (h : fn[i]? = some d := by rfl) : ∃ fd, L2.FunD K d.name d.qual d.params d.body d.scope (d.dvs K) (d.kws K) (d.at_ K) fd := by
  have c2 := (ba (show (((fa.all fun f => f.ok K) && ex K) && fn.all fun d => d.ok K) = true from congrArg (fun z : He.AlD => z.1) c)).2
  have e : fn.map (fun d => He5.fnA K (d.at_ K)) = fn.map He5.DefA.val := congrArg (fun z : He.AlD => z.2) c
  have e2 : (fn.map fun d => He5.fnA K (d.at_ K))[i]? = (fn.map He5.DefA.val)[i]? := by rw [e]
  rw [List.getElem?_map, List.getElem?_map, h] at e2
  exact He5.DefA.funD (Option.some.inj e2) (List.all_eq_true.mp c2 d (List.mem_of_getElem? h))
end
/-- the getter of a property -/
def getr (K : PySem.W.Frag) (C : Addr) (f : Str) : Addr := match PySem.W.recIn K (ma K C f) "property" with
  | some (.ref g :: _) => g
  | _ => 0
def propB (K : PySem.W.Frag) (C : Addr) (f : Str) : Bool := eqO (PySem.W.findIn K (.ref C) f) (some (some (.ref (ma K C f)))) && (eqO (PySem.W.specialIn K (.ref (ma K C f)) "__get__") (some (some (.builtin "property.__get__"))) &&
  (decide (PySem.W.takesIn K (.ref (ma K C f)) = some true) && (match PySem.W.recIn K (ma K C f) "property" with
    | some (.ref g :: _) => true
    | _ => false)))
theorem propB_ok {K : PySem.W.Frag} {C : Addr} {f : Str} (h : propB K C f = true) : PropOf K C f (ma K C f) (getr K C f) := by
  obtain ⟨h1, h⟩ := ba h
  obtain ⟨h2, h⟩ := ba h
  obtain ⟨h3, h4⟩ := ba h
  refine ⟨eqO_ok h1, eqO_ok h2, of_decide_eq_true h3, ?_⟩
  unfold getr
  cases e : PySem.W.recIn K (ma K C f) "property" with
  | none => rw [e] at h4; cases h4
  | some l =>
    cases l with
    | nil => rw [e] at h4; cases h4
    | cons v r =>
      cases v with
      | ref g => exact ⟨r, rfl⟩
      | _ => rw [e] at h4; cases h4
end WW

set_option Elab.async false
set_option linter.all false
set_option maxRecDepth 100000
set_option maxHeartbeats 4000000
/-! A head's facts of own exceptions whose __init__ says super(). -/
namespace WW
open PySem PySem.Spec PyProof.Rows L2 He
def oexB (K : PySem.W.Frag) (C : Addr) : Bool := (match K.lookup C with
  | some ⟨.type "type", _, .cls cd, sl⟩ => (match cd.mro, sl.toList with
    | .ref C' :: bm, [_, _, _, _, some (.builtin n), _] => decide (C' = C) && (decide (n = "ValueError.__new__") && (!cd.hasDel && (cd.hasDict && PySem.HandSPX.refsVE bm)))
    | _, _ => false)
  | _ => false) && (eqO (PySem.W.findIn K (.ref C) "__setattr__") (some (some (.builtin "object.__setattr__"))) && (decide (PySem.W.subIn K (.ref C) (.type "BaseException") = some true) && (decide (PySem.W.typeIn K (.ref C) = some (.type "type")) && PySem.W.keepIn K (.ref C))))
theorem oexB_ok {K : PySem.W.Frag} {C : Addr} (h : oexB K C = true) : OexC K C := by
  obtain ⟨q, h⟩ := ba h
  obtain ⟨h2, h⟩ := ba h
  obtain ⟨h3, h⟩ := ba h
  obtain ⟨h4, h5⟩ := ba h
  refine ⟨?_, eqO_ok h2, of_decide_eq_true h3, of_decide_eq_true h4, h5⟩
  split at q
  · rename_i dd cd sl ho
    split at q
    · rename_i C' bm k0 k1 k2 k3 n k5 hm hs
      simp only [Bool.and_eq_true, decide_eq_true_eq, Bool.not_eq_true'] at q
      obtain ⟨rfl, rfl, hdel, hdict, ht⟩ := q
      obtain ⟨nm, bs, mro, ns, qn, hd, sn, sub, ab, col, del⟩ := cd
      dsimp only at hm hdel hdict
      subst hm hdel hdict
      have hsl : sl = #[k0, k1, k2, k3, some (.builtin "ValueError.__new__"), k5] := by
        obtain ⟨l⟩ := sl
        simp only at hs
        rw [hs]
      subst hsl
      exact ⟨nm, qn, ns, bs, bm, sn, sub, ab, col, dd, k0, k1, k2, k3, k5, ho, ht⟩
    · cases q
  · cases q

abbrev FnE : Type := Option (Str × Str × Arguments × FuncBody × Scope × Addr × List Str × Addr)
def fnE (K : PySem.W.Frag) (a : Addr) : FnE := match K.lookup a with
  | some ⟨_, _, .func fd, _⟩ => some (fd.name, fd.qualname, fd.params, fd.body, fd.scope, fd.globals, fd.closure.map (·.1), fd.builtins)
  | _ => none
structure DefE where
  cls : Str
  qual : Str
  params : Arguments
  body : List Stmt
  scope : Scope
def DefE.val (d : DefE) : FnE := some ("__init__", d.qual, d.params, .stmts d.body, d.scope, mainGlobals, ["__class__"], builtinsNs)
def exI (K : PySem.W.Frag) (x : Str) : Addr := ma K (ga K x) "__init__"
def exCda (K : PySem.W.Frag) (x : Str) : Addr := match K.lookup (exI K x) with
  | some ⟨_, _, .func fd, _⟩ => (match fd.code with
    | .ref c => c
    | _ => 0)
  | _ => 0
def exCc (K : PySem.W.Frag) (x : Str) : Addr := match K.lookup (exI K x) with
  | some ⟨_, _, .func fd, _⟩ => (match fd.closure with
    | [(_, c)] => c
    | _ => 0)
  | _ => 0
def exdB (file : Str) (K : PySem.W.Frag) (d : DefE) : Bool := oexB K (ga K d.cls) && (PySem.W.codeIn K (.ref (exCda K d.cls)) d.qual && ((match K.lookup (exCda K d.cls) with
    | some ⟨_, _, .fields vs, _⟩ => (match (vs[2]? : Option Value) with
      | some (.str fl _) => file == fl
      | _ => false)
    | _ => false) && ((match K.lookup (exCc K d.cls) with
    | some ⟨_, _, .cell (some (.ref D)), _⟩ => decide (D = ga K d.cls)
    | _ => false) && ((match PySem.W.clsIn K (ga K d.cls) with
    | some cd => eqO (PySem.W.alongIn K "__init__" ((cd.mro.dropWhile (· != .ref (ga K d.cls))).drop 1)) (some (some (.builtin "ValueError.__init__")))
    | none => false) && (decide (PySem.W.mroIn K (ga K d.cls) (.ref (ga K d.cls)) = some true) && (decide (PySem.W.subIn K (.ref (ga K d.cls)) (.type "ValueError") = some true) && (eqO (PySem.W.nsIn K PySem.cStatics "thirdparty.any") (some none) && ((match K.lookup (exI K d.cls) with
    | some ⟨_, _, .func fd, _⟩ => decide (fd.code = .ref (exCda K d.cls)) && decide (fd.defaults = .none)
    | _ => false) && (eqO (PySem.W.findIn K (.ref (ga K d.cls)) "__init__") (some (some (.ref (exI K d.cls)))) && decide (PySem.W.typeIn K (.ref (exI K d.cls)) = some (.type "function")))))))))))
theorem exdB_ok {P : Program} {K : PySem.W.Frag} {mg : Str → Option Value} {d : DefE} (h : exdB P.main.file K d = true) (e : fnE K (exI K d.cls) = d.val) (hs : mg "super" = none) (ht : (P.main.scope.names.lookup ("super" : Str)).isSome = false) :
    ∃ fd, ExD P K mg (ga K d.cls) (exI K d.cls) (exCc K d.cls) (exCda K d.cls) d.qual d.params d.body d.scope fd ∧ PySem.W.findIn K (.ref (ga K d.cls)) "__init__" = some (some (.ref (exI K d.cls))) ∧ PySem.W.typeIn K (.ref (exI K d.cls)) = some (.type "function") := by
  obtain ⟨h1, h⟩ := ba h
  obtain ⟨h2, h⟩ := ba h
  obtain ⟨h3, h⟩ := ba h
  obtain ⟨h4, h⟩ := ba h
  obtain ⟨h5, h⟩ := ba h
  obtain ⟨h6, h⟩ := ba h
  obtain ⟨h7, h⟩ := ba h
  obtain ⟨h8, h⟩ := ba h
  obtain ⟨h9, h⟩ := ba h
  obtain ⟨h10, h11⟩ := ba h
  have hcc : exCc K d.cls = (match K.lookup (exI K d.cls) with
    | some ⟨_, _, .func fd, _⟩ => (match fd.closure with
      | [(_, c)] => c
      | _ => 0)
    | _ => 0) := rfl
  cases q : K.lookup (exI K d.cls) with
  | none => rw [q] at h9; cases h9
  | some o =>
    obtain ⟨oc, od, dt, osl⟩ := o
    rw [q] at h9 hcc
    unfold fnE at e
    rw [q] at e
    cases dt with
    | func fd =>
      obtain ⟨n1, n2, n3, n4, n5, n6, n7, n8, n9, n10, n11, n12, n13, n14, n15⟩ := fd
      have e2 : (some (n1, n2, n3, n4, n5, n6, n7.map (·.1), n15) : FnE) = some (("__init__" : Str), d.qual, d.params, FuncBody.stmts d.body, d.scope, mainGlobals, [("__class__" : Str)], builtinsNs) := e
      simp only [Option.some.injEq, Prod.mk.injEq] at e2
      obtain ⟨e1, e2, e3, e4, e5, e6, e7, e8⟩ := e2
      obtain ⟨g1, g2⟩ := ba h9
      have g3 : n13 = .ref (exCda K d.cls) := of_decide_eq_true g1
      have g4 : n8 = .none := of_decide_eq_true g2
      match n7, e7, hcc with
      | [(x, c)], e7, hcc =>
        have ex : x = "__class__" := by simpa using e7
        have hc2 : exCc K d.cls = c := hcc
        subst ex
        rw [← hc2] at q
        refine ⟨_, ⟨oexB_ok h1, ⟨n9, n10, n11, n12, n14, rfl⟩, ⟨oc, od, osl, ?_⟩, h2, ?_, ?_, ?_, of_decide_eq_true h6, of_decide_eq_true h7, eqO_ok h8, hs, ht⟩, eqO_ok h10, of_decide_eq_true h11⟩
        · rw [q, e1, e2, e3, e4, e5, e6, e8, g3, g4]
        · cases z : K.lookup (exCda K d.cls) with
          | none => rw [z] at h3; cases h3
          | some o3 =>
            obtain ⟨a1, a2, a3, a4⟩ := o3
            rw [z] at h3
            cases a3 with
            | fields vs =>
              have h3 : (match (vs[2]? : Option Value) with
                | some (.str fl _) => P.main.file == fl
                | _ => false) = true := h3
              split at h3
              · rename_i fl tf hv
                exact ⟨_, _, vs, _, fl, tf, rfl, hv, h3⟩
              · cases h3
            | _ => cases h3
        · cases z : K.lookup (exCc K d.cls) with
          | none => rw [z] at h4; cases h4
          | some o4 =>
            rw [z] at h4
            split at h4
            · rename_i D a4 hq
              cases hq
              have hD := of_decide_eq_true h4
              subst hD
              exact ⟨_, _, _, rfl⟩
            · cases h4
        · cases z : PySem.W.clsIn K (ga K d.cls) with
          | none => rw [z] at h5; cases h5
          | some cd =>
            rw [z] at h5
            exact ⟨cd, rfl, eqO_ok h5⟩
      | [], e7, _ => cases e7
      | _ :: _ :: _, e7, _ => exact absurd (congrArg List.length e7) (by simp)
    | _ => cases h9
end WW

set_option Elab.async false
set_option linter.all false
set_option maxRecDepth 100000
set_option maxHeartbeats 4000000
/-! A head's facts with the __init__s of own exceptions. -/
namespace WW
open PySem PySem.Spec PyProof.Rows L2 He
abbrev AlE : Type := He.AlD × List FnE
def obsE (fa : List Fa) (fn : List He5.DefA) (fe : List DefE) (ex : PySem.W.Frag → Bool) (K : PySem.W.Frag) : AlE := (obsB fa fn ex K, fe.map fun d => fnE K (exI K d.cls))
def valE (fn : List He5.DefA) (fe : List DefE) : AlE := (He5.valA fn, fe.map DefE.val)
def SaysE (fa : List Fa) (fn : List He5.DefA) (fe : List DefE) (ex : PySem.W.Frag → Bool) (K : PySem.W.Frag) : Prop := obsE fa fn fe ex K = valE fn fe
def obsEG (n : Nat) (fa : List Fa) (fn : List He5.DefA) (fe : List DefE) (ex : PySem.W.Frag → Bool) (g : Addr → Option Obj) : AlE := obsE fa fn fe ex (frG g (He5.asA g n))
def hookE (n : Nat) (fa : List Fa) (fn : List He5.DefA) (fe : List DefE) (ex : PySem.W.Frag → Bool) : PySem.W.Hook where
  α := AlE
  obs := fun s => obsEG n fa fn fe ex s.heap.get?
  val := fun _ => valE fn fe
  says := fun _ h => ∃ K : PySem.W.Frag, K.In h ∧ SaysE fa fn fe ex K
  of := fun _ _ e => ⟨_, frG_in, e⟩
  keeps := fun _ _ _ ⟨K, hK, c⟩ k => ⟨K, PySem.W.Frag.In.keeps hK k, c⟩
theorem obsEG_eq {n : Nat} {fa : List Fa} {fn : List He5.DefA} {fe : List DefE} {ex : PySem.W.Frag → Bool} {g : Addr → Option Obj} {s : Shared} (h : ∀ a, g a = s.heap.get? a) : obsEG n fa fn fe ex g = (hookE n fa fn fe ex).obs s := by
  have e : g = s.heap.get? := funext h
  rw [e] <;> rfl
section
variable {fa : List Fa} {fn : List He5.DefA} {fe : List DefE} {ex : PySem.W.Frag → Bool} {K : PySem.W.Frag}
theorem SaysE.b (c : SaysE fa fn fe ex K) : SaysB fa fn ex K := congrArg (fun z : AlE => z.1) c
theorem SaysE.exc (c : SaysE fa fn fe ex K) (i : Nat) {d : DefE} (h : fe[i]? = some d := by rfl) : fnE K (exI K d.cls) = d.val := by
  have e : fe.map (fun d => fnE K (exI K d.cls)) = fe.map DefE.val := congrArg (fun z : AlE => z.2) c
  have e2 : (fe.map fun d => fnE K (exI K d.cls))[i]? = (fe.map DefE.val)[i]? := by rw [e]
  rw [List.getElem?_map, List.getElem?_map, h] at e2
  exact Option.some.inj e2
end
theorem all_at {l : List Bool} {b : Bool} (h : l.all id = true) (i : Nat) (e : l[i]? = some b) : b = true := List.all_eq_true.mp h b (List.mem_of_getElem? e)
theorem ExD.binds {P : Program} {K : PySem.W.Frag} {mg : Str → Option Value} {C f cc cda : Addr} {qual par : Str} {params : Arguments} {body : List Stmt} {scope : Scope} {fd : FuncData} (D : ExD P K mg C f cc cda qual params body scope fd)
    (h : ∀ (kV doc pm : Value) (an : Option Addr) (ct : Value) (us : List Value), us.length = 2 → bindArgs (PySem.W.ksFn "__init__" qual params body scope .none kV doc pm an (.ref cda) ct cc) ⟨us, []⟩ = pure ((["self", par] : List Str).zip us)) : Binds K fd ["self", par] [] := by
  obtain ⟨kV, doc, pm, an, ct, rfl⟩ := D.fdat
  exact .all fun us hl => h kV doc pm an ct us hl
/-- a promise that never speaks of what is raised: nothing is -/
theorem fn_none {P : Program} {w : World} {K : PySem.W.Frag} {mg : Str → Option Value} {base : Heap} {k : Nat} {f : Addr} {fd : FuncData} {ps : List Str} {sp : Sp} (F : FnOk P w K mg base (L2.CX P w) k f fd ps sp) (h : ∀ vs H Q E, sp vs H Q E → sp vs H Q En) : FnOk P w K mg base CXn k f fd ps sp := by
  refine ⟨F.len, fun A outer s H args us vs Q E hr e0 hbind r hsp => codeAny_mono (F.run A outer s H args us vs Q En hr e0 hbind r (h _ _ _ _ hsp)) fun a t z => ?_⟩
  match a, z with
  | .error _, z =>
    obtain ⟨_, _, _, _, _, _, _, _, _, _, _, _, q⟩ := z
    exact q.elim
  | .ok (.ret u), z => exact z
  | .ok .next, z => exact z
  | .ok .brk, z => exact z
  | .ok .cont, z => exact z
end WW

set_option Elab.async false
set_option linter.all false
set_option maxRecDepth 100000
set_option maxHeartbeats 4000000
/-! o[i] by a class's own __getitem__; o.m(..) that may raise, inside a try. -/
namespace WW
open PySem PySem.Spec PyProof.Rows L2
/-- the def at f is what answers o[i] -/
structure OwnIx (K : PySem.W.Frag) (C f : Addr) : Prop where
  at_ : PySem.W.findIn K (.ref C) "__getitem__" = some (some (.ref f))
  def_ : PySem.W.fnIn K f = true
  fn : PySem.W.isFn K (.ref f) = true
def rOwnIx (C : Addr) (sp : Sp) (E : XK) : R2 := fun x y H Q => ∃ a dx fs, x = .ref a ∧ H a = some (.ins C dx fs) ∧ sp [x, y] H Q E
section
variable {X : Cx} {CX : CXT} {C f : Addr} {fd : FuncData} {ps : List Str} {sp : Sp} {E : XK} {n : Nat} {a b : Expr} {ta tb : TE} {pos : Pos}
theorem pe_ownIx (O : OwnIx X.K C f) (F : FnOk X.prog X.w X.K X.mg X.base CX n f fd ps sp) (hr : Room (n + 1) X.A) (hb : Binds X.K fd ps []) (hx : Passes CX X E) (pa : PE X a ta) (pb : PE X b tb)
    (hsl : ∀ o i, subscripted b true (.ref o) i = runValue (.builtin "lifetime.subscript" ⟨[.ref o, i], []⟩)) : PE X (.Subscript a b pos) (tOp (rOwnIx C sp E) ta tb) := by
  refine ⟨fun pins s σ H Q I h => ?_⟩
  refine Subscript_ (binT pa pb I h fun v u s2 x y H2 I2 rx ry q => ?_)
  obtain ⟨o, dx, fs, rfl, ho, q⟩ := q
  cases rx
  obtain ⟨mA, J, _⟩ := ins_get I2.hok ho
  obtain ⟨od, J, _⟩ := J.look
  obtain ⟨m, hF⟩ := I2.fr
  refine PySem.W.sub_K hF I2.ok.mod.kin J O.at_ O.def_ O.fn ?_ (hsl _ _)
  have hl := F.len _ _ _ _ q
  have bd : BindsTo s2 fd ⟨[.ref o, u], []⟩ (ps.zip [.ref o, u]) := by
    have z := hb s2 [.ref o, u] I2.kIn (by simpa using hl)
    simpa using z
  refine wpAny_call (codeAny_mono (F.run X.A.in1 X.stack s2 H2 ⟨[.ref o, u], []⟩ [.ref o, u] [.ref o, y] _ E hr.in1 I2.env0.in1 bd (.cons rfl (.cons ry .nil)) q) fun r s' hq => ?_)
  cases r with
  | error e => exact hx pins σ H2 s2 e s' I2 hq
  | ok fl =>
    cases fl with
    | ret u => exact I2.after hq
    | next => exact False.elim hq
    | brk => exact False.elim hq
    | cont => exact False.elim hq
end
section
variable {X : Cx} {CX : CXT} {k : Nat} {f C : Addr} {fd : FuncData} {ps : List Str} {sp : Sp} {E : L2.St → XK} {x m : Str} {p pos apos : Pos} {e o : Expr} {es : List Expr} {ta : TE} {t : TA}
def tMethS (C : Addr) (m : Str) (sp : Sp) (E : L2.St → XK) (ta : TE) (t : TA) : TE := fun σ H Q => ta σ H fun x H1 => ∃ a dx fs, x = .ref a ∧ H1 a = some (.ins C dx fs) ∧ fs.lookup m = none ∧ t σ H1 fun vs H2 => sp (x :: vs) H2 Q (E σ)
theorem pe_methS {pl : Sem Bool} (he : PE X o ta) (c : Cls X.K C) (hm : Meth X.K C m f) (F : FnOk X.prog X.w X.K X.mg X.base CX k f fd ps sp) (hr : Room k X.A) (hb : Binds X.K fd ps []) (hx : ∀ σ, PassesAt CX X σ (E σ)) (ha : PA X (e :: es) t)
    (hst : starEach (e :: es) X.env = (false, eval e X.env) :: starEach es X.env := by rfl) (hpl : (backTo pos (starEach es X.env)).any (·.1) = false := by rfl)
    (ht : eval (.Call (.Attribute o m apos) (e :: es) [] pos) X.env = (do
      let ov ← eval o X.env
      standAt apos.atName
      let (f, first) ← holding [ov] (getMethod ov m pl)
      callWith pos f first (backTo pos (starEach (e :: es) X.env)) (backToKw pos (keywordEach [] X.env))) := by rfl) :
    PE X (.Call (.Attribute o m apos) (e :: es) [] pos) (tMethS C m sp E ta t) := by
  refine ⟨fun pins s σ H Q I h => ?_⟩
  refine PySem.W.methodCall_KW (pl := pl) (thn (he.run pins s σ H _ I h) fun u s1 ⟨x, H1, I1, rx, a, dx, fs, ex, ea, l, q⟩ => ?_) ht
  subst ex
  obtain rfl : u = Value.ref a := rx
  refine getmeth_ok I1 ea c hm l ?_
  refine PySem.W.callWith_K (first := [.ref a]) (h₀ := X.base) I.ok.mod.kin hm.kp (thn (ha.run pos pins s1 σ H1 _ I1 q) fun us s2 ⟨vs, H2, I2, r, q2⟩ => ⟨I2.kIn, ?_⟩) hst hpl
  exact run_fnS (us := .ref a :: us) (vs := .ref a :: vs) F hr hb (hx σ) I2 (.cons rfl r) q2
end
end WW

set_option Elab.async false
set_option linter.all false
set_option maxRecDepth 100000
set_option maxHeartbeats 4000000
/-! sorted of a list or a dict of texts; len of a set of texts; walks that only make things. -/
namespace WW
open PySem PySem.Spec PyProof.Rows L2 Evl
theorem leS_of_lt {a b : Str} (h : ltCps b.cps.toList a.cps.toList = false) : leS a b = true := by
  rw [ltCps_eq] at h
  unfold leS
  exact decide_eq_true (List.not_lt.mp (of_decide_eq_false h))
theorem rising_pw : ∀ {p : Str} {l : List Str}, risingS p l = true → (p :: l).Pairwise (fun a b => leS a b = true)
  | p, [], _ => List.pairwise_singleton _ _
  | p, x :: r, h => by
    have h2 : (!ltCps x.cps.toList p.cps.toList && risingS x r) = true := h
    rw [Bool.and_eq_true, Bool.not_eq_true'] at h2
    have ih := rising_pw h2.2
    have px := leS_of_lt h2.1
    refine List.pairwise_cons.mpr ⟨fun y hy => ?_, ih⟩
    rcases List.mem_cons.mp hy with rfl | hy
    · exact px
    · exact leS_trans _ _ _ px ((List.pairwise_cons.mp ih).1 y hy)
theorem sortS_of {ys ks : List Str} (p : ys.Perm ks) (h : sortedS ys = true) : ys = sortS ks := by
  have pw : ys.Pairwise (fun a b => leS a b = true) := by
    cases ys with
    | nil => exact .nil
    | cons x r => exact rising_pw h
  exact List.Perm.eq_of_pairwise (fun a b _ _ => leS_anti a b) pw (sortS_sorted ks) (p.trans (sortS_perm ks).symm)
section
variable {X : Cx} {K : PySem.W.Frag}
/-- sorted of a list or a tuple of texts -/
def rSortL (K : PySem.W.Frag) : List V → Hp → VK → Prop := fun vs H Q => ∃ (a : Addr) (xs : List Str), vs = [V.ref a] ∧ SqL K H a (xs.map V.str) ∧ xs.length < 64 ∧ ∀ p, H p = none → Q (.ref p) (upd H p (.lst ((sortS xs).map V.str)))
theorem cr_sortL (h : X.K = K) : CallR X (.builtin "sorted") (rSortL K) := by
  intro pins s σ H vs us Q I r q
  obtain ⟨a, xs, e, hs, h64, q⟩ := q
  exact cr_sortedS pins s σ H vs us Q I r ⟨a, xs, e, h ▸ hs, h64, fun ys p hp hy hn => by rw [sortS_of hp hy]; exact q p hn⟩
/-- sorted of a dict -/
def rSortK : List V → Hp → VK → Prop := fun vs H Q => ∃ (a : Addr) (kvs : List (Key × V)) (ks : List Str), vs = [.ref a] ∧ Rd H a (.dK kvs) ∧ kvs.map (·.1) = ks.map Sum.inr ∧ ks.length < 64 ∧ ∀ p, H p = none → Q (.ref p) (upd H p (.lst ((sortS ks).map V.str)))
theorem cr_sortK (hc : X.calm = true) : CallR X (.builtin "sorted") rSortK := by
  intro pins s σ H vs us Q I r q
  obtain ⟨a, kvs, ks, e, hd, hk, h64, q⟩ := q
  exact call_sortedD hc pins s σ H vs us Q I r ⟨a, kvs, ks, e, hd, hk, h64, fun ys p hp hy hn => by rw [sortS_of hp hy]; exact q p hn⟩
/-- len of a set of texts -/
def rLenS (P : Program) (w : World) : List V → Hp → VK → Prop := fun vs H Q => ∃ (a : Addr) (ks : List Str), vs = [.ref a] ∧ H a = some (SSO P w a ks) ∧ Q (.int ks.length) H
theorem cr_lenS : CallR X (.builtin "len") (rLenS X.prog X.w) := by
  intro pins s σ H vs us Q I r q
  obtain ⟨a, ks, rfl, ha, q⟩ := q
  rw [Vals.ref1 r]
  obtain ⟨o, es, ep, t, ho, hex, hd, nd, pr, hz, hf, _⟩ := sso_get I ha
  have hl : ks.length = es.size := by rw [Paired.length pr]; simp
  refine call_len_set ho hex hd hf (by unfold scanBound at hz; omega) ⟨.int ks.length, H, I.tok _, ⟨_, by rw [hl]⟩, q⟩
end
section
variable {J : It} {H : Hp} {xs : List V} {D : Addr} {σ : L2.St} {vs : List Nat} {j n : Nat} {g : TG} {tt : TT} {te tk tv : TE} {Q : Hp → Prop}
/-- a comprehension that only makes things, and puts all in -/
theorem lc_walk (v : Nat → V) (hn : n < 100000) (go : ∀ i H', Ex H H' → i < n → J.go i H') (stop : ∀ H', Ex H H' → J.stop n H') (hD : H D = none)
    (step : ∀ i H' x H'', Ex H H' → i < n → J.yld i H' x H'' → ∀ (N : V → Hp → Prop) (M : Hp → Prop), (∀ H4, Ex H' H4 → N (v i) H4) → g x (wipe σ vs) H'' fun σ2 H2 => wipe σ2 vs = wipe σ vs ∧ tt σ2 H2 fun b H3 => if b = true then te σ2 H3 fun y H4 => N y H4 else M H3)
    (q : ∀ H', Ex H H' → H' D = some (.lst ((List.range n).map v)) → Q H') :
    ∃ W : Nat → Nat → Hp → Prop, (∃ m, W 0 m (upd H D (.lst []))) ∧ ∀ i m H, W i m H →
      (J.stop i H ∧ Q H) ∨ (J.go i H ∧ ∃ Nx : Hp → Prop, (∀ H', Nx H' → ∃ m', m' < m ∧ W (i + 1) m' H') ∧ ∀ x H', J.yld i H x H' → g x (wipe σ vs) H' fun σ2 H2 => wipe σ2 vs = wipe σ vs ∧ tt σ2 H2 fun b H3 =>
        if b = true then te σ2 H3 fun y H4 => ∃ acc, H4 D = some (.lst acc) ∧ acc.length < sizeLine ∧ Nx (upd H4 D (.lst (acc ++ [y]))) else Nx H3) := by
  refine ⟨fun i m H' => m = n - i ∧ i ≤ n ∧ Ex H H' ∧ H' D = some (.lst ((List.range i).map v)), ⟨n, by simp, Nat.zero_le _, Ex.new hD, upd_same⟩, ?_⟩
  rintro i m H' ⟨rfl, hi, e, hd⟩
  by_cases hlt : i < n
  · refine .inr ⟨go i H' e hlt, fun H' => Ex H H' ∧ H' D = some (.lst ((List.range (i + 1)).map v)), fun H'' p' => ⟨n - (i + 1), by omega, rfl, hlt, p'⟩, fun x H'' y => ?_⟩
    refine step i H' x H'' e hlt y (fun y H4 => ∃ acc, H4 D = some (.lst acc) ∧ acc.length < sizeLine ∧ (Ex H (upd H4 D (.lst (acc ++ [y]))) ∧ (upd H4 D (.lst (acc ++ [y]))) D = some (.lst ((List.range (i + 1)).map v)))) _ fun H4 e4 => ⟨_, e4 _ _ hd, ?_, (e.trans e4).mut hD, ?_⟩
    · rw [List.length_map, List.length_range]
      exact sz_lt (by omega)
    · rw [upd_same, List.range_succ, List.map_append]
      rfl
  · have e1 : i = n := by omega
    subst e1
    exact .inl ⟨stop H' e, q H' e hd⟩
/-- {k: v for x in ..}, no key twice, that only makes things -/
theorem dc_ev {u : V → Str} {v : V → V} (S : Steady J H xs) (hz : xs.length < 100000) (nd : (xs.map u).Nodup) (hw : ∀ x, wipe ((wipe σ vs).set j (some x)) vs = wipe σ vs) (hD : H D = none)
    (hk : ∀ x ∈ xs, Ev tk ((wipe σ vs).set j (some x)) H (.str (u x))) (hv : ∀ x ∈ xs, Ev tv ((wipe σ vs).set j (some x)) H (v x))
    (q : ∀ H', Ex H H' → H' D = some (.dK (xs.map fun x => (.inr (u x), v x))) → Q H') :
    ∃ W : Nat → Nat → Hp → Prop, (∃ m, W 0 m (upd H D (.dK []))) ∧ ∀ i m H, W i m H →
      (J.stop i H ∧ Q H) ∨ (J.go i H ∧ ∃ Nx : Hp → Prop, (∀ H', Nx H' → ∃ m', m' < m ∧ W (i + 1) m' H') ∧ ∀ x H', J.yld i H x H' → gName j x (wipe σ vs) H' fun σ2 H2 => wipe σ2 vs = wipe σ vs ∧ tYes σ2 H2 fun b H3 =>
        if b = true then tk σ2 H3 fun y H4 => tv σ2 H4 fun z H5 => ∃ kvs k, y = kV k ∧ H5 D = some (.dK kvs) ∧ kvs.length < sizeLine ∧ Nx (upd H5 D (.dK (putK kvs k z))) else Nx H3) := by
  refine ⟨fun i m H' => m = xs.length - i ∧ i ≤ xs.length ∧ Ex H H' ∧ H' D = some (.dK ((xs.take i).map fun x => (.inr (u x), v x))), ⟨xs.length, by simp, Nat.zero_le _, Ex.new hD, upd_same⟩, ?_⟩
  rintro i m H' ⟨rfl, hi, e, hd⟩
  by_cases hlt : i < xs.length
  · refine .inr ⟨S.go i H' e hlt, fun H' => Ex H H' ∧ H' D = some (.dK ((xs.take (i + 1)).map fun x => (.inr (u x), v x))), fun H'' p' => ⟨xs.length - (i + 1), by omega, rfl, hlt, p'⟩, fun x H'' y => ?_⟩
    obtain ⟨e1, hx⟩ := S.yld i H' x H'' e hlt y
    subst e1
    have mx : x ∈ xs := List.mem_of_getElem? hx
    refine ⟨hw x, ?_⟩
    unfold tYes
    refine hk x mx _ e _ fun H2 e2 => hv x mx H2 (e.trans e2) _ fun H3 e3 => ⟨_, .inr (u x), rfl, e3 _ _ (e2 _ _ hd), ?_, (e.trans e2 |>.trans e3).mut hD, ?_⟩
    · rw [List.length_map, List.length_take]
      exact sz_lt (by omega)
    · rw [upd_same, putK_new, take_snoc hx, List.map_append]
      · rfl
      · cases ev : valV ((xs.take i).map fun x => ((.inr (u x) : Key), v x)) (.inr (u x)) with
        | none => rfl
        | some z =>
          exfalso
          have ha : (((xs.take i).map fun x => ((.inr (u x) : Key), v x)).any fun kv => decide (kv.1 = (Sum.inr (u x) : Key))) = true := by rw [valV_any, ev]; rfl
          obtain ⟨q2, hq, eq⟩ := List.any_eq_true.mp ha
          obtain ⟨z2, hz2, rfl⟩ := List.mem_map.mp hq
          have e2 : u z2 = u x := Sum.inr.inj (of_decide_eq_true eq)
          have nd2 := nd.sublist ((List.take_sublist (i + 1) xs).map u)
          rw [take_snoc hx, List.map_append, List.nodup_append] at nd2
          exact nd2.2.2 (u z2) (List.mem_map_of_mem hz2) (u x) (by simp) e2
  · have e1 : i = xs.length := by omega
    subst e1
    rw [List.take_length] at hd
    exact .inl ⟨S.stop H' e, q H' e hd⟩
end
end WW

set_option Elab.async false
set_option linter.all false
set_option maxRecDepth 100000
set_option maxHeartbeats 4000000
namespace WK
open PySem PySem.Spec PyProof.Rows L2 WW Evl
/-- a promise that holds of good ones alone: nothing is raised -/
theorem calm {P : Program} {w : World} {K : PySem.W.Frag} {mg : Str → Option Value} {base : Heap} {k : Nat} {f : Addr} {fd : FuncData} {ps : List Str} {sp sp0 : Sp} (F : FnOk P w K mg base (L2.CX P w) k f fd ps sp) (h : ∀ vs H Q E, sp0 vs H Q E → sp vs H Q E) (h2 : ∀ vs H Q E, sp0 vs H Q E → sp0 vs H Q En) : FnOk P w K mg base CXn k f fd ps sp0 :=
  fn_none (F.imp h) h2
theorem Callee.calm {P : Program} {w : World} {K : PySem.W.Frag} {mg : Str → Option Value} {base : Heap} {k n : Nat} {x : Str} {sp sp0 : Sp} (c : Callee P w K mg base (L2.CX P w) k x n sp) (h : ∀ vs H Q E, sp0 vs H Q E → sp vs H Q E) (h2 : ∀ vs H Q E, sp0 vs H Q E → sp0 vs H Q En) : Callee P w K mg base CXn k x n sp0 := by
  obtain ⟨f, fd, ps, l, F, r⟩ := c
  exact ⟨f, fd, ps, l, WK.calm F h h2, r⟩
theorem nmB_of {z : Str} (h : IsNm z) : nmB (.str z) = true := by
  rw [nmB_str, decide_eq_true (show (1 : Int) ≤ z.length by have := h.1; omega), decide_eq_true (show (z.length : Int) ≤ 10 by have := h.2.1; omega)]
  simp only [Bool.true_and]
  refine List.all_eq_true.mpr fun c hc => ?_
  have := h.2.2 c hc
  unfold ltB
  rw [decide_eq_true this.1, decide_eq_true this.2]
  rfl
section
variable {P : Program} {w : World} {K : PySem.W.Frag} {mg : Str → Option Value} {base : Heap} {f : Addr} {fd : FuncData}
theorem nmz {x : Str} (h : IsNm x) : ∀ z, V.str x = .str z → z.length ≤ 1000 := fun z e => by cases e; have := h.2.1; omega
def inB (m : Int) : V → Bool
  | .int i => decide (0 ≤ i) && decide (i < m)
  | _ => false
theorem inB_no {m : Int} {v : V} (h : isI v = false) : inB m v = false := by cases v <;> first | rfl | exact nomatch (show true = false from h)
abbrev s_is_index : Stmt := top 17
theorem sc_is_index : FnScope ["thing", "many"] ["thing", "many"] (defScope s_is_index) := ⟨rfl, rfl, rfl, by decide +kernel, rfl, by decide +kernel, by decide +kernel⟩
def spIsIndexG : Sp := fun vs H Q _ => ∃ v m, vs = [v, .int m] ∧ Pl H v ∧ ∀ H', Ex H H' → Q (.bl (inB m v)) H'
theorem okg_is_index (D : Df K mg "is_index" s_is_index f fd ["thing", "many"]) (c_is_integer : Callee P w K mg base CXn 1 "is_integer" 1 spIsIntegerG) : Callee P w K mg base CXn 2 "is_index" 2 spIsIndexG := by
  refine D.callee (D.fn.ok sc_is_index (fun vs H Q E h => ?_) (fun cdv A outer s H vs Q E hr h => ⟨_, PSs.nox (pss_one (ps_ret (L2.pe_and (pe_cl (E := En) c_is_integer (hr.mono (by decide)) rfl passN (pa_cons (pv 0) pa_nil)) (pe_one (pe_chain op_le op_lt pe_int (pv 0) (pv 1)))))), ?_⟩))
  · obtain ⟨_, _, rfl, _⟩ := h
    rfl
  · obtain ⟨v, m, rfl, hv, k⟩ := h
    refine ⟨_, rfl, v, rfl, hv, fun H1 e1 => ⟨_, rfl, ?_⟩⟩
    have q := k H1 e1
    cases hi : isI v with
    | false =>
      rw [inB_no hi] at q
      exact q
    | true =>
      cases v with
      | int i =>
        have e : inB m (.int i) = (decide (0 ≤ i) && decide (i < m)) := rfl
        rw [e] at q
        refine ⟨_, rfl, 0, i, rfl, rfl, decide ((0 : Int) ≤ i), rfl, ?_⟩
        cases hd : decide ((0 : Int) ≤ i) with
        | false =>
          rw [hd] at q
          exact q
        | true =>
          rw [hd] at q
          exact ⟨_, rfl, i, m, rfl, rfl, q⟩
      | _ => exact nomatch (show false = true from hi)
abbrev s_is_post : Stmt := top 16
theorem sc_is_post : FnScope ["thing"] ["thing"] (defScope s_is_post) := ⟨rfl, rfl, rfl, by decide +kernel, rfl, by decide +kernel, by decide +kernel⟩
def spIsPostG : Sp := fun vs H Q _ => ∃ v, vs = [v] ∧ Pl H v ∧ ∀ H', Ex H H' → Q (.bl (inB 2 v)) H'
theorem okg_is_post (D : Df K mg "is_post" s_is_post f fd ["thing"]) (c_is_index : Callee P w K mg base CXn 2 "is_index" 2 spIsIndexG) : Callee P w K mg base CXn 3 "is_post" 1 spIsPostG := by
  refine D.callee (D.fn.ok sc_is_post (fun vs H Q E h => ?_) (fun cdv A outer s H vs Q E hr h => ⟨_, PSs.nox (pss_one (ps_ret (pe_cl (E := En) c_is_index (hr.mono (by decide)) rfl passN (pa_cons (pv 0) (pa_cons pe_int pa_nil))))), ?_⟩))
  · obtain ⟨_, rfl, _⟩ := h
    rfl
  · obtain ⟨v, rfl, hv, k⟩ := h
    exact ⟨_, rfl, v, 2, rfl, hv, fun H1 e1 => k H1 e1⟩
abbrev s_check_name : Stmt := top 23
theorem sc_check_name : FnScope ["name"] ["name"] (defScope s_check_name) := ⟨rfl, rfl, rfl, by decide +kernel, rfl, by decide +kernel, by decide +kernel⟩
def spCkNameG (C : Addr) : Sp := fun vs H Q E => ∃ v, vs = [v] ∧ Pl H v ∧ (∀ z, v = .str z → z.length ≤ 1000) ∧ (nmB v = false → ∀ H' d, Ex H H' → H' d = none → E (.ref C) (some d) (upd H' d (.xd [("value", v)]))) ∧ (nmB v = true → ∀ H', Ex H H' → Q .non H')
theorem okg_check_name {C_BadName : Addr} (D : Df K mg "check_name" s_check_name f fd ["name"]) (X_BadName : ExR P w K mg base 1 "BadName" C_BadName "value") (c_is_name : Callee P w K mg base CXn 1 "is_name" 1 spIsNameG) : Callee P w K mg base (L2.CX P w) 3 "check_name" 1 (spCkNameG C_BadName) := by
  refine D.callee (D.fn.ok sc_check_name (fun vs H Q E h => ?_) (fun cdv A outer s H vs Q E hr h => ⟨_, (pss_one (ps_if (pt_not (pt_val (pe_cl (E := En) c_is_name (hr.mono (by decide)) rfl passN (pa_cons (pv 0) pa_nil)))) (pss_one (ps_raiseE X_BadName rfl (hr.mono (by decide)) (takes_of rfl rfl rfl rfl) rfl (pv 0))) pss_nil)), ?_⟩))
  · obtain ⟨_, rfl, _⟩ := h
    rfl
  · obtain ⟨v, rfl, hv, hz, bad, good⟩ := h
    refine ⟨_, rfl, v, rfl, hv, hz, fun H1 e1 => ⟨nmB v, rfl, ?_⟩⟩
    cases hb : nmB v with
    | false =>
      refine iteT ⟨_, rfl, ?_⟩
      exact raise_go fun d hd => bad hb H1 d e1 hd
    | true => exact iteF (good hb H1 e1)
/-- of a name -/
def spCkName0 : Sp := fun vs H Q _ => ∃ z, vs = [.str z] ∧ IsNm z ∧ ∀ H', Ex H H' → Q .non H'
theorem ckName0 {C : Addr} (vs : List V) (H : Hp) (Q : VK) (E : XK) (h : spCkName0 vs H Q E) : spCkNameG C vs H Q E := by
  obtain ⟨z, rfl, hz, k⟩ := h
  exact ⟨_, rfl, .str z, (fun y e => by cases e; have := hz.2.1; omega), fun n => absurd ((nmB_of hz).symm.trans n) (by decide), fun _ => k⟩
abbrev s_check_post : Stmt := top 24
theorem sc_check_post : FnScope ["post"] ["post"] (defScope s_check_post) := ⟨rfl, rfl, rfl, by decide +kernel, rfl, by decide +kernel, by decide +kernel⟩
def spCkPostG (C : Addr) : Sp := fun vs H Q E => ∃ v, vs = [v] ∧ Pl H v ∧ (inB 2 v = false → ∀ H' d, Ex H H' → H' d = none → E (.ref C) (some d) (upd H' d (.xd [("value", v)]))) ∧ (inB 2 v = true → ∀ H', Ex H H' → Q .non H')
theorem okg_check_post {C_BadPost : Addr} (D : Df K mg "check_post" s_check_post f fd ["post"]) (X_BadPost : ExR P w K mg base 1 "BadPost" C_BadPost "value") (c_is_post : Callee P w K mg base CXn 3 "is_post" 1 spIsPostG) : Callee P w K mg base (L2.CX P w) 4 "check_post" 1 (spCkPostG C_BadPost) := by
  refine D.callee (D.fn.ok sc_check_post (fun vs H Q E h => ?_) (fun cdv A outer s H vs Q E hr h => ⟨_, (pss_one (ps_if (pt_not (pt_val (pe_cl (E := En) c_is_post (hr.mono (by decide)) rfl passN (pa_cons (pv 0) pa_nil)))) (pss_one (ps_raiseE X_BadPost rfl (hr.mono (by decide)) (takes_of rfl rfl rfl rfl) rfl (pv 0))) pss_nil)), ?_⟩))
  · obtain ⟨_, rfl, _⟩ := h
    rfl
  · obtain ⟨v, rfl, hv, bad, good⟩ := h
    refine ⟨_, rfl, v, rfl, hv, fun H1 e1 => ⟨inB 2 v, rfl, ?_⟩⟩
    cases hb : inB 2 v with
    | false =>
      refine iteT ⟨_, rfl, ?_⟩
      exact raise_go fun d hd => bad hb H1 d e1 hd
    | true => exact iteF (good hb H1 e1)
def IsPo (i : Int) : Prop := i = 0 ∨ i = 1
theorem inB_of {i : Int} (h : IsPo i) : inB 2 (.int i) = true := by rcases h with rfl | rfl <;> rfl
def spCkPost0 : Sp := fun vs H Q _ => ∃ i, vs = [.int i] ∧ IsPo i ∧ ∀ H', Ex H H' → Q .non H'
theorem ckPost0 {C : Addr} (vs : List V) (H : Hp) (Q : VK) (E : XK) (h : spCkPost0 vs H Q E) : spCkPostG C vs H Q E := by
  obtain ⟨i, rfl, hi, k⟩ := h
  exact ⟨_, rfl, .int i, fun n => absurd ((inB_of hi).symm.trans n) (by decide), fun _ => k⟩
abbrev s_check_cost : Stmt := top 25
theorem sc_check_cost : FnScope ["cost"] ["cost"] (defScope s_check_cost) := ⟨rfl, rfl, rfl, by decide +kernel, rfl, by decide +kernel, by decide +kernel⟩
def spCkCost0 : Sp := fun vs H Q _ => ∃ i : Int, vs = [.int i] ∧ 1 ≤ i ∧ i ≤ 1000 ∧ ∀ H', Ex H H' → Q .non H'
theorem ok_check_cost (gc : ∃ t, mg "MOST_COST" = some (.int 1000 t)) (D : Df K mg "check_cost" s_check_cost f fd ["cost"]) (c_is_integer : Callee P w K mg base CXn 1 "is_integer" 1 spIsIntegerG) : Callee P w K mg base CXn 2 "check_cost" 1 spCkCost0 := by
  obtain ⟨tc, g_MOST_COST⟩ := gc
  have r_MOST_COST : RelV (.int 1000) (.int 1000 tc) := ⟨_, rfl⟩
  refine D.callee (D.fn.ok sc_check_cost (fun vs H Q E h => ?_) (fun cdv A outer s H vs Q E hr h => ⟨_, PSs.nox (pss_one (ps_if (PW.pt (pw_or (pt_not (pt_val (pe_cl (E := En) c_is_integer (hr.mono (by decide)) rfl passN (pa_cons (pv 0) pa_nil)))) (pw_or1 (pt_not (pt_chain op_le op_le pe_int (pv 0) (pe_glob rfl g_MOST_COST r_MOST_COST)))))) (pss_one ps_never) pss_nil)), ?_⟩))
  · obtain ⟨_, rfl, _⟩ := h
    rfl
  · obtain ⟨i, rfl, h1, h2, k⟩ := h
    refine ⟨_, rfl, .int i, rfl, .int i, fun H1 e1 => ⟨true, rfl, iteF ?_⟩⟩
    refine ⟨_, rfl, 1, i, rfl, rfl, decide ((1 : Int) ≤ i), rfl, ?_⟩
    rw [decide_eq_true h1]
    refine ⟨i, 1000, rfl, rfl, decide (i ≤ (1000 : Int)), rfl, ?_⟩
    rw [decide_eq_true h2]
    exact iteF (k H1 e1)
abbrev s_is_table_of_sights : Stmt := top 26
theorem sc_is_table_of_sights : FnScope ["thing", "word", "sight"] ["thing"] (defScope s_is_table_of_sights) := ⟨rfl, rfl, rfl, by decide +kernel, rfl, by decide +kernel, by decide +kernel⟩
/-- a dict of names -/
structure TabS (kvs : List (Key × V)) : Prop where
  least : 1 ≤ kvs.length
  most : kvs.length ≤ 10
  each : ∀ q ∈ kvs, ∃ x y : Str, q = (.inr x, .str y) ∧ IsNm x ∧ IsNm y
def spIsTable0 : Sp := fun vs H Q _ => ∃ D kvs, vs = [.ref D] ∧ H D = some (.dK kvs) ∧ TabS kvs ∧ ∀ H', Ex H H' → Q (.bl true) H'
theorem ok_is_table (G : Gz mg) (gc : ∃ t, mg "MOST_WORDS_OF_AN_INSTRUMENT" = some (.int 10 t)) (D : Df K mg "is_table_of_sights" s_is_table_of_sights f fd ["thing"]) (c_is_name : Callee P w K mg base CXn 1 "is_name" 1 spIsNameG) : Callee P w K mg base CXn 2 "is_table_of_sights" 1 spIsTable0 := by
  obtain ⟨tc, g_MOST_WORDS_OF_AN_INSTRUMENT⟩ := gc
  have r_MOST_WORDS_OF_AN_INSTRUMENT : RelV (.int 10) (.int 10 tc) := ⟨_, rfl⟩
  refine D.callee (D.fn.ok sc_is_table_of_sights (fun vs H Q E h => ?_) (fun cdv A outer s H vs Q E hr h => ⟨_, PSs.nox (pss_cons (ps_if (PW.pt (pw_or (pt_not (pt_val (pe_callB (isiK (K := K) rfl) rfl G.g_isinstance (by rfl) (pa_cons (pv 0) (pa_cons (pe_bltn (v := .ty "dict") rfl G.g_dict (by rfl) rfl) pa_nil))))) (pw_or1 (pt_not (pt_chain op_le op_le pe_int (pe_callB call_lenD rfl G.g_len PySem.boot_len (pa_cons (pv 0) pa_nil)) (pe_glob rfl g_MOST_WORDS_OF_AN_INSTRUMENT r_MOST_WORDS_OF_AN_INSTRUMENT)))))) (pss_one (ps_ret pe_bl)) pss_nil) (pss_one (ps_ret (pe_callB (cr_all rfl) rfl G.g_all (by rfl) (pa_cons (pe_lock (pe_lc (own := [("word", 1), ("sight", 2)]) rfl sc_is_table_of_sights.nd (pi_items (pv 0)) (BlkOk.mk (N := ["thing", "word", "sight"]) (sc := defScope s_is_table_of_sights) rfl (by decide +kernel) (by decide +kernel) (by decide +kernel) (by decide +kernel)) (fun _ _ _ _ _ => (show PG _ _ (gTup K 2 (gCons (gName 1) (gCons (gName 2) gNil))) from pg_tup (n := 2) rfl (pgs_cons (pg_name (i := 1) sc_is_table_of_sights.nd rfl (Or.inl rfl)) (pgs_cons (pg_name (i := 2) sc_is_table_of_sights.nd rfl (Or.inl rfl)) pgs_nil)))) (fun _ _ _ _ _ => pts_nil) (fun _ _ _ _ _ => (L2.pe_and (pe_cl (E := En) c_is_name (hr.mono (by decide)) rfl passN (pa_cons (pv 1) pa_nil)) (pe_one (pe_cl (E := En) c_is_name (hr.mono (by decide)) rfl passN (pa_cons (pv 2) pa_nil))))))) pa_nil))))), ?_⟩))
  · obtain ⟨_, _, rfl, _⟩ := h
    rfl
  · obtain ⟨D, kvs, rfl, hD, ok, k⟩ := h
    have ol := ok.least
    have om := ok.most
    refine ⟨_, rfl, .ref D, .ty "dict", .type "dict", .type "dict", true, rfl, .ty _, .base (.dK hD), kit_ty (r := true) (by decide +kernel), true, rfl, iteF ?_⟩
    refine ⟨_, rfl, D, kvs, rfl, hD, 1, (kvs.length : Int), rfl, rfl, decide ((1 : Int) ≤ (kvs.length : Int)), rfl, ?_⟩
    rw [decide_eq_true (show (1 : Int) ≤ (kvs.length : Int) by omega)]
    refine ⟨(kvs.length : Int), 10, rfl, rfl, decide ((kvs.length : Int) ≤ 10), rfl, ?_⟩
    rw [decide_eq_true (show (kvs.length : Int) ≤ (10 : Int) by omega)]
    refine iteF ?_
    refine ⟨D, .dK kvs, hD, trivial, fun od => ?_⟩
    have hf : upd H D (.frz od (.dK kvs)) D = some (.frz od (.dK kvs)) := upd_same
    refine ⟨_, rfl, D, od, kvs, rfl, hf, fun N hN => ?_⟩
    refine lc_walk (n := kvs.length) (fun _ => .bl true) (by omega) (fun i H' e hi => ⟨e _ _ hf, hi⟩) (fun H' e => ⟨e _ _ hf, Nat.le_refl _⟩) hN (fun i H' x H'' e hi y N M q => ?_) (fun H' e hd => ⟨e _ _ hf, ?_⟩)
    · obtain ⟨T, ky, v, hk, rfl, hT, rfl⟩ := y
      obtain ⟨x, y, e1, hx, hy⟩ := ok.each _ (List.mem_of_getElem? hk)
      cases e1
      have e2 : Ex H' (upd H' T (.tup [.str x, .str y])) := Ex.new hT
      refine ⟨T, _, rfl, st_of upd_same, rfl, _, _, rfl, _, _, rfl, rfl, rfl, ?_⟩
      refine ⟨_, rfl, .str x, rfl, .str x, nmz hx, fun H3 e3 => ⟨_, rfl, ?_⟩⟩
      rw [nmB_of hx]
      refine ⟨_, rfl, .str y, rfl, .str y, nmz hy, fun H4 e4 => ?_⟩
      rw [nmB_of hy]
      exact q H4 (e2.trans (e3.trans e4))
    · have ex := unlock_ex hD e
      have nND : N ≠ D := fun z => by rw [z, hf] at hN; cases hN
      refine ⟨N, (List.range kvs.length).map fun _ => true, rfl, sq_of ?_, ?_⟩
      · rw [upd_ne nND, hd, List.map_map]
        rfl
      · have e3 : ((List.range kvs.length).map fun _ => true).all id = true := List.all_eq_true.mpr fun b hb => by
          obtain ⟨_, _, rfl⟩ := List.mem_map.mp hb
          rfl
        rw [e3]
        exact k _ ex
abbrev s_is_row_of_words : Stmt := top 27
theorem sc_is_row_of_words : FnScope ["thing", "word"] ["thing"] (defScope s_is_row_of_words) := ⟨rfl, rfl, rfl, by decide +kernel, rfl, by decide +kernel, by decide +kernel⟩
/-- a row of words -/
structure RowW (ws : List Str) : Prop where
  least : 1 ≤ ws.length
  most : ws.length ≤ 10
  nd : ws.Nodup
  each : ∀ x ∈ ws, IsNm x
def spIsRowW0 : Sp := fun vs H Q _ => ∃ a ws, vs = [.ref a] ∧ H a = some (.lst (ws.map V.str)) ∧ RowW ws ∧ ∀ H', Ex H H' → Q (.bl true) H'
theorem ok_is_rowW (G : Gz mg) (gc : ∃ t, mg "MOST_WORDS_OF_AN_INSTRUMENT" = some (.int 10 t)) (D : Df K mg "is_row_of_words" s_is_row_of_words f fd ["thing"]) (c_is_name : Callee P w K mg base CXn 1 "is_name" 1 spIsNameG) (c_is_row_of : Callee P w K mg base CXn 2 "is_row_of" 3 spIsRowOfG) : Callee P w K mg base CXn 3 "is_row_of_words" 1 spIsRowW0 := by
  obtain ⟨tc, g_MOST_WORDS_OF_AN_INSTRUMENT⟩ := gc
  have r_MOST_WORDS_OF_AN_INSTRUMENT : RelV (.int 10) (.int 10 tc) := ⟨_, rfl⟩
  refine D.callee (D.fn.ok sc_is_row_of_words (fun vs H Q E h => ?_) (fun cdv A outer s H vs Q E hr h => ⟨_, PSs.nox (pss_cons (ps_if (PW.pt (pw_or (pt_not (pt_val (pe_cl (E := En) c_is_row_of (hr.mono (by decide)) rfl passN (pa_cons (pv 0) (pa_cons pe_int (pa_cons (pe_glob rfl g_MOST_WORDS_OF_AN_INSTRUMENT r_MOST_WORDS_OF_AN_INSTRUMENT) pa_nil)))))) (pw_or1 (pt_not (pt_val (pe_callB (cr_all rfl) rfl G.g_all (by rfl) (pa_cons (pe_lc (own := [("word", 1)]) rfl sc_is_row_of_words.nd (pi_list (pv 0)) (BlkOk.mk (N := ["thing", "word"]) (sc := defScope s_is_row_of_words) rfl (by decide +kernel) (by decide +kernel) (by decide +kernel) (by decide +kernel)) (fun _ _ _ _ _ => (pg_name (i := 1) sc_is_row_of_words.nd rfl (Or.inl rfl))) (fun _ _ _ _ _ => pts_nil) (fun _ _ _ _ _ => (pe_cl (E := En) c_is_name (hr.mono (by decide)) rfl passN (pa_cons (pv 1) pa_nil)))) pa_nil))))))) (pss_one (ps_ret pe_bl)) pss_nil) (pss_one (ps_ret (pe_cmpR op_eq (pe_callB cr_lenS rfl G.g_len PySem.boot_len (pa_cons (pe_callTy (cr_setOfS rfl) rfl G.g_set (by rfl) (pa_cons (pv 0) pa_nil)) pa_nil)) (pe_callB (lenK (K := K) rfl) rfl G.g_len PySem.boot_len (pa_cons (pv 0) pa_nil)) (nomark _))))), ?_⟩))
  · obtain ⟨_, _, rfl, _⟩ := h
    rfl
  · obtain ⟨a, ws, rfl, ha, ok, k⟩ := h
    have ol := ok.least
    have om := ok.most
    have hrow : rowB H (.ref a) 1 10 = true := by
      unfold rowB
      rw [rlen_at ha]
      show (decide ((1 : Int) ≤ ((ws.map V.str).length : Int)) && decide (((ws.map V.str).length : Int) ≤ 10)) = true
      rw [List.length_map, decide_eq_true (show (1 : Int) ≤ (ws.length : Int) by omega), decide_eq_true (show (ws.length : Int) ≤ (10 : Int) by omega)]
      rfl
    refine ⟨_, rfl, .ref a, 1, 10, rfl, .lst ha, fun H1 e1 => ?_⟩
    rw [hrow]
    refine ⟨true, rfl, iteF ?_⟩
    refine ⟨_, rfl, a, rfl, ⟨_, sq_of (e1 _ _ ha)⟩, fun N hN => ?_⟩
    refine lc_ev (f := fun _ => true) (v := fun _ => .bl true) (st_l (K := K) (sq_of (e1 _ _ ha))) (by rw [List.length_map]; omega) (fun x => rfl) hN (fun x _ H2 e Q q => q H2 (Ex.refl _)) (fun x hx _ H2 e Q q => ?_) (fun H2 e hd => ?_)
    · obtain ⟨z, hz, rfl⟩ := List.mem_map.mp hx
      refine ⟨_, rfl, .str z, rfl, .str z, nmz (ok.each z hz), fun H3 e3 => ?_⟩
      rw [nmB_of (ok.each z hz)]
      exact q H3 e3
    · refine ⟨N, ws.map fun _ => true, rfl, sq_of ?_, ?_⟩
      · rw [hd, List.filter_eq_self.mpr (fun _ _ => rfl), List.map_map, List.map_map]
        rfl
      · have e3 : (ws.map fun _ => true).all id = true := List.all_eq_true.mpr fun b hb => by
          obtain ⟨_, _, rfl⟩ := List.mem_map.mp hb
          rfl
        rw [e3]
        have e2 := e1.trans e
        refine ⟨true, rfl, iteF ?_⟩
        refine ⟨_, rfl, a, ws, rfl, sq_of (e2 _ _ ha), ?_, fun S ks hS nd hm => ⟨S, ks, rfl, upd_same, ?_⟩⟩
        · have : (1002 : Nat) ≤ scanBound := by decide
          omega
        · have e4 := e2.trans (Ex.new hS (o := SSO P w S ks))
          have hlen : ks.length = ws.length := Nat.le_antisymm (pigeon ks ws nd fun x hx => (hm x).mp hx) (pigeon ws ks ok.nd fun x hx => (hm x).mpr hx)
          refine ⟨_, rfl, .ref a, ws.length, rfl, .inl ⟨_, sq_of (e4 _ _ ha), by rw [List.length_map]⟩, ?_⟩
          rw [hlen]
          have q := k _ e4
          have q2 : Q (.bl (decide (V.int ((ws.length : Nat) : Int) = V.int ((ws.length : Nat) : Int)))) (upd H2 S (SSO P w S ks)) := by rw [decide_eq_true rfl]; exact q
          exact ⟨rfl, q2⟩
end
end WK

set_option Elab.async false
set_option linter.all false
set_option maxRecDepth 100000
set_option maxHeartbeats 4000000
namespace WK
open PySem PySem.Spec PyProof.Rows L2 WW Evl
/-! ### what is in a sensor, in a lock -/
def sf (nm : Str) (po : Int) (d : Addr) (co : Int) : List (Str × V) := putF "_cost" (.int co) (putF "_sights" (.ref d) (putF "_post" (.int po) (putF "_name" (.str nm) [])))
def lf (nm : Str) (po : Int) (d : Addr) (co : Int) : List (Str × V) := putF "_cost" (.int co) (putF "_words" (.ref d) (putF "_post" (.int po) (putF "_name" (.str nm) [])))
theorem i12 : ¬ (("_name" : Str) = "_post") := by decide +kernel
theorem i13 : ¬ (("_name" : Str) = "_sights") := by decide +kernel
theorem i13' : ¬ (("_name" : Str) = "_words") := by decide +kernel
theorem i14 : ¬ (("_name" : Str) = "_cost") := by decide +kernel
theorem i23 : ¬ (("_post" : Str) = "_sights") := by decide +kernel
theorem i23' : ¬ (("_post" : Str) = "_words") := by decide +kernel
theorem i24 : ¬ (("_post" : Str) = "_cost") := by decide +kernel
theorem i34 : ¬ (("_sights" : Str) = "_cost") := by decide +kernel
theorem i34' : ¬ (("_words" : Str) = "_cost") := by decide +kernel
section
variable {nm : Str} {po co : Int} {d : Addr}
theorem sf1 : (sf nm po d co).lookup ("_name" : Str) = some (.str nm) := by unfold sf; rw [lookup_putF, if_neg i14, lookup_putF, if_neg i13, lookup_putF, if_neg i12, lookup_putF, if_pos rfl]
theorem sf2 : (sf nm po d co).lookup ("_post" : Str) = some (.int po) := by unfold sf; rw [lookup_putF, if_neg i24, lookup_putF, if_neg i23, lookup_putF, if_pos rfl]
theorem sf3 : (sf nm po d co).lookup ("_sights" : Str) = some (.ref d) := by unfold sf; rw [lookup_putF, if_neg i34, lookup_putF, if_pos rfl]
theorem lf1 : (lf nm po d co).lookup ("_name" : Str) = some (.str nm) := by unfold lf; rw [lookup_putF, if_neg i14, lookup_putF, if_neg i13', lookup_putF, if_neg i12, lookup_putF, if_pos rfl]
theorem lf2 : (lf nm po d co).lookup ("_post" : Str) = some (.int po) := by unfold lf; rw [lookup_putF, if_neg i24, lookup_putF, if_neg i23', lookup_putF, if_pos rfl]
theorem lf3 : (lf nm po d co).lookup ("_words" : Str) = some (.ref d) := by unfold lf; rw [lookup_putF, if_neg i34', lookup_putF, if_pos rfl]
end
/-- a sensor's words and sights, looked up -/
def Ins.tab (r : Ins) : List (Key × V) := kvsOf r.ws r.sg
def strOf : V → Str | .str x => x | _ => Str.empty
/-- the value at a text -/
def valAt (kvs : List (Key × V)) : V → V | .str x => (valV kvs (.inr x)).getD .non | _ => .non
/-- what a sensor keeps -/
def Ins.tabX (r : Ins) : List (Key × V) := ((sortS r.ws).map V.str).map fun x => ((.inr (strOf x) : Key), valAt r.tab x)
/-- what stands of an instrument -/
def InsAtD (CS CL : Addr) (H : Hp) (v : V) (r : Ins) (d : Addr) : Prop := ∃ a dx, v = .ref a ∧
  ((r.lk = true ∧ H a = some (.ins CL dx (lf r.nm r.po d r.co)) ∧ H d = some (.lst ((sortS r.ws).map V.str))) ∨
   (r.lk = false ∧ H a = some (.ins CS dx (sf r.nm r.po d r.co)) ∧ H d = some (.dK r.tabX)))
def InsAt (CS CL : Addr) (H : Hp) (v : V) (r : Ins) : Prop := ∃ a dx d, v = .ref a ∧
  ((r.lk = true ∧ H a = some (.ins CL dx (lf r.nm r.po d r.co)) ∧ H d = some (.lst ((sortS r.ws).map V.str))) ∨
   (r.lk = false ∧ H a = some (.ins CS dx (sf r.nm r.po d r.co)) ∧ H d = some (.dK r.tabX)))
theorem InsAtD.at {CS CL : Addr} {H : Hp} {v : V} {r : Ins} {d : Addr} (h : InsAtD CS CL H v r d) : InsAt CS CL H v r := let ⟨a, dx, e, z⟩ := h; ⟨a, dx, d, e, z⟩
theorem InsAt.ex {CS CL : Addr} {H H' : Hp} {v : V} {r : Ins} (e : Ex H H') (h : InsAt CS CL H v r) : InsAt CS CL H' v r := by
  obtain ⟨a, dx, d, rfl, ⟨h0, h1, h2⟩ | ⟨h0, h1, h2⟩⟩ := h
  · exact ⟨a, dx, d, rfl, .inl ⟨h0, e _ _ h1, e _ _ h2⟩⟩
  · exact ⟨a, dx, d, rfl, .inr ⟨h0, e _ _ h1, e _ _ h2⟩⟩
/-- the classes of instruments -/
structure ICl (K : PySem.W.Frag) (mg : Str → Option Value) (CS CL : Addr) : Prop where
  clS : Cls K CS
  clL : Cls K CL
  atS : mg "Sensor" = some (.ref CS)
  atL : mg "Lock" = some (.ref CL)
  s1 : NoAttr K CS "_name"
  s2 : NoAttr K CS "_post"
  s3 : NoAttr K CS "_sights"
  s4 : NoAttr K CS "_cost"
  l1 : NoAttr K CL "_name"
  l2 : NoAttr K CL "_post"
  l3 : NoAttr K CL "_words"
  l4 : NoAttr K CL "_cost"
  isaS : ∀ (H : Hp) (a dx : Addr) (fs : List (Str × V)), H a = some (.ins CS dx fs) → TyOf K H (.ref a) (.ref CS)
  isaL : ∀ (H : Hp) (a dx : Addr) (fs : List (Str × V)), H a = some (.ins CL dx fs) → TyOf K H (.ref a) (.ref CL)
  kSS : PySem.W.kitOne K (.ref CS) (.ref CS) = some true
  kSL : PySem.W.kitOne K (.ref CS) (.ref CL) = some false
  kLS : PySem.W.kitOne K (.ref CL) (.ref CS) = some false
  kLL : PySem.W.kitOne K (.ref CL) (.ref CL) = some true
theorem valV_fn (g : Str → V) : ∀ (l : List Str) (x : Str), valV (l.map fun y => ((.inr y : Key), g y)) (.inr x) = if x ∈ l then some (g x) else none
  | [], x => by simp; rfl
  | y :: l, x => by
    rw [List.map_cons]
    by_cases z : y = x
    · rw [valV_pos (by rw [z]), if_pos (by rw [z]; exact List.mem_cons_self), z]
    · rw [valV_neg (by intro q; exact z (Sum.inr.inj q)), valV_fn g l x]
      by_cases m : x ∈ l
      · rw [if_pos m, if_pos (List.mem_cons_of_mem _ m)]
      · rw [if_neg m, if_neg (fun q => (List.mem_cons.mp q).elim (fun q => z q.symm) m)]
theorem kvs_keys : ∀ {ws sg : List Str}, sg.length = ws.length → (kvsOf ws sg).map (·.1) = ws.map Sum.inr
  | [], _, _ => by simp [kvsOf]
  | w :: ws, [], h => by simp at h
  | w :: ws, g :: sg, h => by
    have ih := kvs_keys (ws := ws) (sg := sg) (by simpa using h)
    unfold kvsOf at *
    simp only [List.zip_cons_cons, List.map_cons, ih]
theorem val_some {κ : Type} [DecidableEq κ] {kvs : List (κ × V)} {k : κ} : (∃ v, valV kvs k = some v) ↔ k ∈ kvs.map (·.1) := by
  constructor
  · rintro ⟨v, h⟩
    have ha : (kvs.any fun kv => decide (kv.1 = k)) = true := by rw [valV_any, h]; rfl
    obtain ⟨q, hq, e⟩ := List.any_eq_true.mp ha
    exact of_decide_eq_true e ▸ List.mem_map_of_mem hq
  · intro h
    obtain ⟨q, hq, rfl⟩ := List.mem_map.mp h
    cases e : valV kvs q.1 with
    | some v => exact ⟨v, rfl⟩
    | none =>
      have ha : (kvs.any fun kv => decide (kv.1 = q.1)) = true := List.any_eq_true.mpr ⟨q, hq, by simp⟩
      rw [valV_any, e] at ha
      cases ha
theorem Ins.Ok.row {r : Ins} (h : r.Ok) : RowW r.ws := ⟨by have := h.ne; cases e : r.ws with | nil => exact absurd e this | cons _ _ => simp, h.le, h.nd, h.ws⟩
theorem Ins.Ok.keys {r : Ins} (h : r.Ok) (s : r.lk = false) : r.tab.map (·.1) = r.ws.map Sum.inr := kvs_keys (h.sl s)
theorem Ins.Ok.tabLen {r : Ins} (h : r.Ok) (s : r.lk = false) : r.tab.length = r.ws.length := by
  have := congrArg List.length (h.keys s)
  simpa using this
theorem Ins.Ok.tabS {r : Ins} (h : r.Ok) (s : r.lk = false) : TabS r.tab := by
  refine ⟨by rw [h.tabLen s]; exact h.row.least, by rw [h.tabLen s]; exact h.le, fun q hq => ?_⟩
  unfold Ins.tab kvsOf at hq
  obtain ⟨z, hz, rfl⟩ := List.mem_map.mp hq
  exact ⟨z.1, z.2, rfl, h.ws _ (List.of_mem_zip hz).1, h.sg _ (List.of_mem_zip hz).2⟩
theorem Ins.Ok.isPo {r : Ins} (h : r.Ok) : IsPo r.po := h.po
section
variable {P : Program} {w : World} {K : PySem.W.Frag} {mg : Str → Option Value} {base : Heap} {f : Addr} {fd : FuncData}
abbrev s_Sensor___init__ : Stmt := inClass (top 21) 0
theorem sc_Sensor___init__ : FnScope ["self", "name", "post", "sights", "cost", "word"] ["self", "name", "post", "sights", "cost"] (defScope s_Sensor___init__) := ⟨rfl, rfl, rfl, by decide +kernel, rfl, by decide +kernel, by decide +kernel⟩
def spInitS (CS CL : Addr) : Sp := fun vs H Q _ => ∃ (H0 : Hp) (p dx d : Addr) (r : Ins), vs = [.ref p, .str r.nm, .int r.po, .ref d, .int r.co] ∧ Ex H0 H ∧ H0 p = none ∧ H p = some (.ins CS dx []) ∧ r.lk = false ∧ r.Ok ∧ H0 d = some (.dK r.tab) ∧
  ∀ H' d', Ex H0 H' → InsAtD CS CL H' (.ref p) r d' → H0 d' = none → Q .non H'
theorem ok_initS {CS CL : Addr} (G : Gz mg) (T : ICl K mg CS CL) (D : FunD K "__init__" "Sensor.__init__" (defArgs s_Sensor___init__) (defBody s_Sensor___init__) (defScope s_Sensor___init__) [] [] f fd)
    (c_check_name : Callee P w K mg base CXn 3 "check_name" 1 spCkName0) (c_check_post : Callee P w K mg base CXn 4 "check_post" 1 spCkPost0) (c_is_table_of_sights : Callee P w K mg base CXn 2 "is_table_of_sights" 1 spIsTable0) (c_check_cost : Callee P w K mg base CXn 2 "check_cost" 1 spCkCost0) :
    FnOk P w K mg base CXn 5 f fd ["self", "name", "post", "sights", "cost"] (spInitS CS CL) := by
  refine D.ok sc_Sensor___init__ (fun vs H Q E h => ?_) (fun cdv A outer s H vs Q E hr h => ⟨_, PSs.nox (pss_cons (ps_expr (pe_cl (E := En) c_check_name (hr.mono (by decide)) rfl passN (pa_cons (pv 1) pa_nil))) (pss_cons (ps_expr (pe_cl (E := En) c_check_post (hr.mono (by decide)) rfl passN (pa_cons (pv 2) pa_nil))) (pss_cons (ps_if (pt_not (pt_val (pe_cl (E := En) c_is_table_of_sights (hr.mono (by decide)) rfl passN (pa_cons (pv 3) pa_nil)))) (pss_one ps_never) pss_nil) (pss_cons (ps_expr (pe_cl (E := En) c_check_cost (hr.mono (by decide)) rfl passN (pa_cons (pv 4) pa_nil))) (pss_cons (ps_fld (pv 0) (pv 1) rfl) (pss_cons (ps_fld (pv 0) (pv 2) rfl) (pss_cons (ps_fld (pv 0) (pe_dc (own := [("word", 5)]) rfl sc_Sensor___init__.nd (pi_list (pe_callB (cr_sortK rfl) rfl G.g_sorted (by rfl) (pa_cons (pv 3) pa_nil))) (BlkOk.mk (N := ["self", "name", "post", "sights", "cost", "word"]) (sc := defScope s_Sensor___init__) rfl (by decide +kernel) (by decide +kernel) (by decide +kernel) (by decide +kernel)) (fun _ _ _ _ _ => (pg_name (i := 5) sc_Sensor___init__.nd rfl (Or.inl rfl))) (fun _ _ _ _ _ => pts_nil) (fun _ _ _ _ _ => (pv 5)) (fun _ _ _ _ _ => (pe_dget (room1 hr) (pv 3) (pv 5) (fun _ _ => rfl)))) rfl) (pss_one (ps_fld (pv 0) (pv 4) rfl))))))))), ?_⟩)
  · obtain ⟨_, _, _, _, _, rfl, _⟩ := h
    rfl
  · obtain ⟨H0, p, dx, d, r, rfl, e0, p0, hp, lk, ok, hd, k⟩ := h
    refine ⟨_, rfl, r.nm, rfl, ok.nm, fun H1 e1 => ?_⟩
    refine ⟨_, rfl, r.po, rfl, ok.isPo, fun H2 e2 => ?_⟩
    refine ⟨_, rfl, d, r.tab, rfl, (e0.trans (e1.trans e2)) _ _ hd, ok.tabS lk, fun H3 e3 => ⟨true, rfl, iteF ?_⟩⟩
    refine ⟨_, rfl, r.co, rfl, ok.co.1, ok.co.2, fun H4 e4 => ?_⟩
    have E4 : Ex H0 H4 := e0.trans (e1.trans (e2.trans (e3.trans e4)))
    have P4 := (e1.trans (e2.trans (e3.trans e4))) _ _ hp
    clear e1 e2 e3 e4 hp e0
    refine ⟨_, rfl, _, rfl, p, CS, dx, [], rfl, P4, T.clS, T.s1, (by decide), ?_⟩
    have E5 := E4.mut (o := .ins CS dx (putF "_name" (.str r.nm) [])) p0
    refine ⟨_, rfl, _, rfl, p, CS, dx, _, rfl, upd_same, T.clS, T.s2, (Nat.lt_of_le_of_lt (putF_le _) (by show 1 < 1000; decide)), ?_⟩
    generalize hf2e : putF "_post" (.int r.po) (putF "_name" (.str r.nm) []) = f2
    have l2 : f2.length ≤ 2 := by
      rw [← hf2e]
      have h1 := putF_le (f := "_post") (y := .int r.po) (putF "_name" (.str r.nm) [])
      have h2 := putF_le (f := "_name") (y := .str r.nm) []
      simp at h2
      omega
    have E6 := E5.mut (o := .ins CS dx f2) p0
    have P6 : upd (upd H4 p (.ins CS dx (putF "_name" (.str r.nm) []))) p (.ins CS dx f2) p = some (.ins CS dx f2) := upd_same
    generalize upd (upd H4 p (.ins CS dx (putF "_name" (.str r.nm) []))) p (.ins CS dx f2) = H6 at E6 P6
    clear E4 E5 P4
    have h64 : r.ws.length < 64 := by have := ok.le; omega
    refine ⟨_, rfl, d, r.tab, r.ws, rfl, .inl (E6 _ _ hd), ok.keys lk, h64, fun L hL => ?_⟩
    have e7 : Ex H6 (upd H6 L (.lst ((sortS r.ws).map V.str))) := Ex.new hL
    have hL7 : upd H6 L (.lst ((sortS r.ws).map V.str)) L = some (.lst ((sortS r.ws).map V.str)) := upd_same
    generalize upd H6 L (.lst ((sortS r.ws).map V.str)) = H7 at e7 hL7
    have E7 := E6.trans e7
    have P7 := e7 _ _ P6
    refine ⟨L, rfl, ⟨_, sq_of hL7⟩, fun N hN => ?_⟩
    refine dc_ev (u := strOf) (v := valAt r.tab) (st_l (K := K) (sq_of hL7)) (by rw [List.length_map, sortS_len]; omega) ?_ (fun x => rfl) hN (fun x hx H8 e8 Q q => ?_) (fun x hx H8 e8 Q q => ?_) (fun H8 e8 hN8 => ?_)
    · rw [List.map_map, show (strOf ∘ V.str) = (fun x : Str => x) from rfl, List.map_id']
      exact (sortS_perm _).nodup_iff.mpr ok.nd
    · obtain ⟨z, _, rfl⟩ := List.mem_map.mp hx
      exact ⟨_, rfl, q H8 (Ex.refl _)⟩
    · obtain ⟨z, hz, rfl⟩ := List.mem_map.mp hx
      obtain ⟨vz, hvz⟩ := val_some.mpr (show (Sum.inr z : Key) ∈ r.tab.map (·.1) by rw [ok.keys lk]; exact List.mem_map_of_mem (sortS_mem.mp hz))
      have q1 := q H8 (Ex.refl _)
      rw [show valAt r.tab (.str z) = vz by show (valV r.tab (.inr z)).getD .non = vz; rw [hvz]; rfl] at q1
      exact ⟨_, rfl, _, rfl, d, vz, rfl, .inl ⟨r.tab, .inr z, .inl ((E7.trans e8) _ _ hd), rfl, hvz.symm⟩, q1⟩
    have P8 := e8 _ _ P7
    have E8 := E7.trans e8
    have nNp : N ≠ p := fun z => by rw [z, P7] at hN; cases hN
    refine ⟨_, rfl, p, CS, dx, _, rfl, P8, T.clS, T.s3, (by omega), ?_⟩
    have E9 := E8.mut (o := .ins CS dx (putF "_sights" (.ref N) f2)) p0
    refine ⟨_, rfl, _, rfl, p, CS, dx, _, rfl, upd_same, T.clS, T.s4, (by have := putF_le (f := "_sights") (y := .ref N) f2; omega), ?_⟩
    refine k _ N (E9.mut p0) ⟨p, dx, rfl, .inr ⟨lk, by rw [upd_same, ← hf2e]; rfl, by rw [upd_ne nNp, upd_ne nNp]; exact hN8⟩⟩ (fresh_back E7 hN)
abbrev s_Lock___init__ : Stmt := inClass (top 22) 0
theorem sc_Lock___init__ : FnScope ["self", "name", "post", "words", "cost"] ["self", "name", "post", "words", "cost"] (defScope s_Lock___init__) := ⟨rfl, rfl, rfl, by decide +kernel, rfl, by decide +kernel, by decide +kernel⟩
def spInitL (CS CL : Addr) : Sp := fun vs H Q _ => ∃ (H0 : Hp) (p dx d : Addr) (r : Ins), vs = [.ref p, .str r.nm, .int r.po, .ref d, .int r.co] ∧ Ex H0 H ∧ H0 p = none ∧ H p = some (.ins CL dx []) ∧ r.lk = true ∧ r.Ok ∧ H0 d = some (.lst (r.ws.map V.str)) ∧
  ∀ H' d', Ex H0 H' → InsAtD CS CL H' (.ref p) r d' → H0 d' = none → Q .non H'
theorem ok_initL {CS CL : Addr} (G : Gz mg) (T : ICl K mg CS CL) (D : FunD K "__init__" "Lock.__init__" (defArgs s_Lock___init__) (defBody s_Lock___init__) (defScope s_Lock___init__) [] [] f fd)
    (c_check_name : Callee P w K mg base CXn 3 "check_name" 1 spCkName0) (c_check_post : Callee P w K mg base CXn 4 "check_post" 1 spCkPost0) (c_is_row_of_words : Callee P w K mg base CXn 3 "is_row_of_words" 1 spIsRowW0) (c_check_cost : Callee P w K mg base CXn 2 "check_cost" 1 spCkCost0) :
    FnOk P w K mg base CXn 5 f fd ["self", "name", "post", "words", "cost"] (spInitL CS CL) := by
  refine D.ok sc_Lock___init__ (fun vs H Q E h => ?_) (fun cdv A outer s H vs Q E hr h => ⟨_, PSs.nox (pss_cons (ps_expr (pe_cl (E := En) c_check_name (hr.mono (by decide)) rfl passN (pa_cons (pv 1) pa_nil))) (pss_cons (ps_expr (pe_cl (E := En) c_check_post (hr.mono (by decide)) rfl passN (pa_cons (pv 2) pa_nil))) (pss_cons (ps_if (pt_not (pt_val (pe_cl (E := En) c_is_row_of_words (hr.mono (by decide)) rfl passN (pa_cons (pv 3) pa_nil)))) (pss_one ps_never) pss_nil) (pss_cons (ps_expr (pe_cl (E := En) c_check_cost (hr.mono (by decide)) rfl passN (pa_cons (pv 4) pa_nil))) (pss_cons (ps_fld (pv 0) (pv 1) rfl) (pss_cons (ps_fld (pv 0) (pv 2) rfl) (pss_cons (ps_fld (pv 0) (pe_callB (cr_sortL rfl) rfl G.g_sorted (by rfl) (pa_cons (pv 3) pa_nil)) rfl) (pss_one (ps_fld (pv 0) (pv 4) rfl))))))))), ?_⟩)
  · obtain ⟨_, _, _, _, _, rfl, _⟩ := h
    rfl
  · obtain ⟨H0, p, dx, d, r, rfl, e0, p0, hp, lk, ok, hd, k⟩ := h
    refine ⟨_, rfl, r.nm, rfl, ok.nm, fun H1 e1 => ?_⟩
    refine ⟨_, rfl, r.po, rfl, ok.isPo, fun H2 e2 => ?_⟩
    refine ⟨_, rfl, d, r.ws, rfl, (e0.trans (e1.trans e2)) _ _ hd, ok.row, fun H3 e3 => ⟨true, rfl, iteF ?_⟩⟩
    refine ⟨_, rfl, r.co, rfl, ok.co.1, ok.co.2, fun H4 e4 => ?_⟩
    have E4 : Ex H0 H4 := e0.trans (e1.trans (e2.trans (e3.trans e4)))
    have P4 := (e1.trans (e2.trans (e3.trans e4))) _ _ hp
    clear e1 e2 e3 e4 hp e0
    refine ⟨_, rfl, _, rfl, p, CL, dx, [], rfl, P4, T.clL, T.l1, (by decide), ?_⟩
    have E5 := E4.mut (o := .ins CL dx (putF "_name" (.str r.nm) [])) p0
    refine ⟨_, rfl, _, rfl, p, CL, dx, _, rfl, upd_same, T.clL, T.l2, (Nat.lt_of_le_of_lt (putF_le _) (by show 1 < 1000; decide)), ?_⟩
    generalize hf2e : putF "_post" (.int r.po) (putF "_name" (.str r.nm) []) = f2
    have l2 : f2.length ≤ 2 := by
      rw [← hf2e]
      have h1 := putF_le (f := "_post") (y := .int r.po) (putF "_name" (.str r.nm) [])
      have h2 := putF_le (f := "_name") (y := .str r.nm) []
      simp at h2
      omega
    have E6 := E5.mut (o := .ins CL dx f2) p0
    have P6 : upd (upd H4 p (.ins CL dx (putF "_name" (.str r.nm) []))) p (.ins CL dx f2) p = some (.ins CL dx f2) := upd_same
    generalize upd (upd H4 p (.ins CL dx (putF "_name" (.str r.nm) []))) p (.ins CL dx f2) = H6 at E6 P6
    clear E4 E5 P4
    have h64 : r.ws.length < 64 := by have := ok.le; omega
    refine ⟨_, rfl, d, r.ws, rfl, sq_of (E6 _ _ hd), h64, fun L hL => ?_⟩
    have e7 : Ex H6 (upd H6 L (.lst ((sortS r.ws).map V.str))) := Ex.new hL
    have hL7 : upd H6 L (.lst ((sortS r.ws).map V.str)) L = some (.lst ((sortS r.ws).map V.str)) := upd_same
    have nLp : L ≠ p := fun z => by rw [z, P6] at hL; cases hL
    generalize upd H6 L (.lst ((sortS r.ws).map V.str)) = H7 at e7 hL7
    have E7 := E6.trans e7
    have P7 := e7 _ _ P6
    refine ⟨_, rfl, p, CL, dx, _, rfl, P7, T.clL, T.l3, (by omega), ?_⟩
    have E9 := E7.mut (o := .ins CL dx (putF "_words" (.ref L) f2)) p0
    refine ⟨_, rfl, _, rfl, p, CL, dx, _, rfl, upd_same, T.clL, T.l4, (by have := putF_le (f := "_words") (y := .ref L) f2; omega), ?_⟩
    exact k _ L (E9.mut p0) ⟨p, dx, rfl, .inl ⟨lk, by rw [upd_same, ← hf2e]; rfl, by rw [upd_ne nLp, upd_ne nLp]; exact hL7⟩⟩ (fresh_back E6 hL)
end
end WK

set_option Elab.async false
set_option linter.all false
set_option maxRecDepth 100000
set_option maxHeartbeats 4000000
/-! len(o) and o op x by a class's own defs, whatever x is. -/
namespace WW
open PySem PySem.Spec PyProof.Rows L2
section
variable {prog : Program} {w : World} {A : Around} {E : Value → Shared → Prop} {s : Shared} {K : PySem.W.Frag} {x C f : Addr} {ox : Obj} {od : Option Obj}
open PySem.W in
theorem looks_numPy {M : Model} {h : Heap} {nm : String} (X : K.In h) (hs : findIn K (.ref C) (PySem.dunder nm) = some (some (.ref f))) (hr : findIn K (.ref C) (PySem.dunderR nm) = some none) : Looks M h (numberSlotInPython (.ref C) nm) true := by
  intro A Q E s k q
  unfold numberSlotInPython
  refine wpAny_bind (looks_findIn X hs A _ E s k ?_)
  refine wpAny_bind (wpAny_pure ?_)
  refine wpAny_bind (looks_findIn X hr A _ E s k ?_)
  refine wpAny_bind (wpAny_pure ?_)
  simp only [Bool.or_false, if_true]
  exact wpAny_pure q
open PySem.W in
/-- x op b, where the class of x has op alone; b's type tb, another one, fills the slot or not -/
theorem binop_left {op : Operator} {b tb : Value} {r : Bool} {t0 : Option Value} {Q : Value → Shared → Prop} (X : K.In s.heap) (I : InstAt s.heap x ox C od) (hb : Looks (model prog w) s.heap (typeOf b) tb) (hne : (Value.ref C == tb) = false) (hc : selfFirst K C = true)
    (hs : findIn K (.ref C) (PySem.dunder op.info.2) = some (some (.ref f))) (hr : findIn K (.ref C) (PySem.dunderR op.info.2) = some none) (hf : isFn K (.ref f) = true)
    (hright : Looks (model prog w) s.heap (fillsNumberSlot tb op.info.2) r) (htb : r = true → isSubtype tb (.ref C) = pure false ∧ numberSlotInPython tb op.info.2 = pure false ∧ typeLookup tb (PySem.dunderR op.info.2) = pure t0)
    (h : wpAny (model prog w) A (call (.ref f) [.ref x, b]) (PySem.W.CmpBack Q) E s) : wpAny (model prog w) A (binaryOp op (.ref x) b) Q E s := by
  obtain ⟨cd, hcd, hm⟩ := any_some hc
  obtain ⟨rest, hm⟩ : ∃ rest, cd.mro = .ref C :: rest := by
    cases q : cd.mro with
    | nil => rw [q] at hm; cases hm
    | cons a r => rw [q] at hm; exact ⟨r, by rw [List.head?_cons] at hm; cases (beq_iff_eq.mp hm); rfl⟩
  unfold binaryOp
  refine wpAny_holding (wpAny_bind ?_)
  unfold binaryOp1
  refine wpAny_bind (I.type.here (wpAny_bind (hb.here (wpAny_bind ((fills_K X hcd hm hs).here ?_)))))
  rw [hne]
  simp only [Bool.false_eq_true, if_false]
  refine wpAny_bind (hright.here ?_)
  have last : wpAny (model prog w) A (tryMethod (.ref x) (PySem.dunder op.info.2) b) (fun v s' => ∃ u, v = some u ∧ Q u s') E s := by
    unfold tryMethod
    refine wpAny_bind (special_fn X I hs (beq_iff_eq.mp hf) (wpAny_mono h (fun v s' hv => ?_) fun _ _ e => e))
    cases v <;> first | exact hv.elim | exact wpAny_pure ⟨_, rfl, hv⟩
  cases r with
  | false =>
    simp only [Bool.and_false, Bool.false_eq_true, if_false, Bool.false_and]
    refine wpAny_bind (wpAny_pure ?_)
    simp only [Bool.false_eq_true, if_false]
    refine wpAny_bind (wpAny_mono last (fun v s' hv => ?_) fun _ _ e => e)
    obtain ⟨u, rfl, hq⟩ := hv
    exact wpAny_pure (wpAny_pure hq)
  | true =>
    obtain ⟨h1, h2, h3⟩ := htb rfl
    simp only [Bool.and_self, if_true]
    rw [h1]
    refine wpAny_bind (wpAny_pure ?_)
    simp only [Bool.false_eq_true, if_false, Bool.not_false, Bool.and_self, if_true]
    refine wpAny_bind ((looks_numPy X hs hr).here ?_)
    simp only [if_true]
    refine wpAny_bind (wpAny_of_eq h2 ?_)
    simp only [Bool.not_false, if_true]
    refine wpAny_bind (wpAny_of_eq h3 ?_)
    refine wpAny_bind (wpAny_mono last (fun v s' hv => ?_) fun _ _ e => e)
    obtain ⟨u, rfl, hq⟩ := hv
    exact wpAny_pure (wpAny_pure hq)
end
end WW

set_option Elab.async false
set_option linter.all false
set_option maxRecDepth 100000
set_option maxHeartbeats 4000000
/-! o op x, o[i], len(o) by a class's own defs, which may raise. -/
namespace WW
open PySem PySem.Spec PyProof.Rows L2
/-- the type t says nothing against C's own operator nm -/
def NumT (K : PySem.W.Frag) (C : Addr) (nm : String) (t : Value) : Prop :=
  (∃ T fo ro, t = .type T ∧ PySem.fastLookup T (PySem.dunder nm) = some fo ∧ PySem.fastLookup T (PySem.dunderR nm) = some ro ∧ PySem.W.subIn K (.type T) (.ref C) = some false) ∨
  (∃ C' cd, t = .ref C' ∧ C' ≠ C ∧ PySem.W.clsIn K C' = some cd ∧ cd.mro = [.ref C', .type "object"] ∧ PySem.W.findIn K (.ref C') (PySem.dunder nm) = some none ∧ PySem.W.findIn K (.ref C') (PySem.dunderR nm) = some none)
theorem noSub {K : PySem.W.Frag} {C : Addr} {T : String} {l : List String} (h : PySem.fastBuiltinMro T = some (l.map Value.type)) : PySem.W.subIn K (.type T) (.ref C) = some false := by
  show (PySem.fastBuiltinMro T).map _ = _
  rw [h]
  show some ((l.map Value.type).contains (Value.ref C)) = some false
  congr 1
  rw [Bool.eq_false_iff]
  intro q
  have q2 := List.contains_iff_mem.mp q
  obtain ⟨x, _, hx⟩ := List.mem_map.mp q2
  cases hx
section
variable {K : PySem.W.Frag} {C : Addr}
theorem num_or : ∀ T ∈ ["NoneType", "bool", "int", "str", "list", "tuple", "dict"], NumT K C "or" (.type T) := by
  intro T h
  have fin : ∀ T (fo ro : Option Value) (l : List String), PySem.fastLookup T (PySem.dunder "or") = some fo → PySem.fastLookup T (PySem.dunderR "or") = some ro → PySem.fastBuiltinMro T = some (l.map Value.type) → NumT K C "or" (.type T) := fun T fo ro l h1 h2 h3 => .inl ⟨T, fo, ro, rfl, h1, h2, noSub h3⟩
  simp only [List.mem_cons, List.not_mem_nil, or_false] at h
  rcases h with rfl | rfl | rfl | rfl | rfl | rfl | rfl
  · exact fin _ none none ["NoneType", "object"] (by kernel_rfl) (by kernel_rfl) (by kernel_rfl)
  · exact fin _ (some (.builtin "bool.__or__")) (some (.builtin "bool.__ror__")) ["bool", "int", "object"] (by kernel_rfl) (by kernel_rfl) (by kernel_rfl)
  · exact fin _ (some (.builtin "int.__or__")) (some (.builtin "int.__ror__")) ["int", "object"] (by kernel_rfl) (by kernel_rfl) (by kernel_rfl)
  · exact fin _ none none ["str", "object"] (by kernel_rfl) (by kernel_rfl) (by kernel_rfl)
  · exact fin _ none none ["list", "object"] (by kernel_rfl) (by kernel_rfl) (by kernel_rfl)
  · exact fin _ none none ["tuple", "object"] (by kernel_rfl) (by kernel_rfl) (by kernel_rfl)
  · exact fin _ (some (.builtin "dict.__or__")) (some (.builtin "dict.__ror__")) ["dict", "object"] (by kernel_rfl) (by kernel_rfl) (by kernel_rfl)
theorem num_sub : ∀ T ∈ ["NoneType", "bool", "int", "str", "list", "tuple", "dict"], NumT K C "sub" (.type T) := by
  intro T h
  have fin : ∀ T (fo ro : Option Value) (l : List String), PySem.fastLookup T (PySem.dunder "sub") = some fo → PySem.fastLookup T (PySem.dunderR "sub") = some ro → PySem.fastBuiltinMro T = some (l.map Value.type) → NumT K C "sub" (.type T) := fun T fo ro l h1 h2 h3 => .inl ⟨T, fo, ro, rfl, h1, h2, noSub h3⟩
  simp only [List.mem_cons, List.not_mem_nil, or_false] at h
  rcases h with rfl | rfl | rfl | rfl | rfl | rfl | rfl
  · exact fin _ none none ["NoneType", "object"] (by kernel_rfl) (by kernel_rfl) (by kernel_rfl)
  · exact fin _ (some (.builtin "int.__sub__")) (some (.builtin "int.__rsub__")) ["bool", "int", "object"] (by kernel_rfl) (by kernel_rfl) (by kernel_rfl)
  · exact fin _ (some (.builtin "int.__sub__")) (some (.builtin "int.__rsub__")) ["int", "object"] (by kernel_rfl) (by kernel_rfl) (by kernel_rfl)
  · exact fin _ none none ["str", "object"] (by kernel_rfl) (by kernel_rfl) (by kernel_rfl)
  · exact fin _ none none ["list", "object"] (by kernel_rfl) (by kernel_rfl) (by kernel_rfl)
  · exact fin _ none none ["tuple", "object"] (by kernel_rfl) (by kernel_rfl) (by kernel_rfl)
  · exact fin _ none none ["dict", "object"] (by kernel_rfl) (by kernel_rfl) (by kernel_rfl)
/-- a plain value's type -/
theorem Pl.numT {H : Hp} {v : V} (h : Pl H v) : ∃ T ∈ ["NoneType", "bool", "int", "str", "list", "tuple", "dict"], TyX K H v (.type T) := by
  cases h with
  | non => exact ⟨_, by simp, .base .non⟩
  | bl b => exact ⟨"bool", by simp, .base (.bl b)⟩
  | int i => exact ⟨"int", by simp, .base (.int i)⟩
  | str z => exact ⟨"str", by simp, .base (.str z)⟩
  | lst h => exact ⟨"list", by simp, .base (.lst h)⟩
  | tup h => exact ⟨"tuple", by simp, .base (.tup h)⟩
  | dct h => exact ⟨"dict", by simp, .base (.dK h)⟩
end
section
variable {M : Model} {h : Heap} {K : PySem.W.Frag} {C C' : Addr} {nm : String}
open PySem.W in
theorem fillsNot {cd : ClassData} (X : K.In h) (hc : PySem.W.clsIn K C' = some cd) (hm : cd.mro = [.ref C', .type "object"]) (h1 : PySem.W.findIn K (.ref C') (PySem.dunder nm) = some none) (h2 : PySem.W.findIn K (.ref C') (PySem.dunderR nm) = some none)
    (o1 : PySem.fastLookup "object" (PySem.dunder nm) = some none) (o2 : PySem.fastLookup "object" (PySem.dunderR nm) = some none) : Looks M h (fillsNumberSlot (.ref C') nm) false := by
  intro A Q E s k q
  unfold fillsNumberSlot
  refine wpAny_bind ((PySem.W.looks_clsIn X hc).andThen (f := fun cd => pure cd.mro) .now A _ E s k ?_)
  rw [hm, List.anyM_cons]
  refine wpAny_bind ?_
  show wpAny M A (List.anyM _ [PySem.dunder nm, dunderR nm]) _ _ _
  rw [List.anyM_cons]
  refine wpAny_bind (wpAny_bind (PySem.W.looks_findIn X h1 A _ E s k ?_))
  refine wpAny_pure ?_
  simp only [Bool.false_eq_true, if_false]
  rw [List.anyM_cons]
  refine wpAny_bind (wpAny_bind (PySem.W.looks_findIn X h2 A _ E s k ?_))
  refine wpAny_pure ?_
  simp only [Bool.false_eq_true, if_false]
  refine wpAny_pure ?_
  simp only [Bool.false_eq_true, if_false]
  rw [List.anyM_cons]
  refine wpAny_bind ?_
  refine wpAny_bind (m := typeLookup (.type "object") (PySem.dunder nm)) (PySem.W.looks_findIn (K := K) (t := .type "object") X o1 A _ E s k ?_)
  refine wpAny_bind (m := typeLookup (.type "object") (dunderR nm)) (PySem.W.looks_findIn (K := K) (t := .type "object") X o2 A _ E s k ?_)
  refine wpAny_pure ?_
  simp only [Option.isSome_none, Bool.false_and, Bool.or_self, Bool.false_eq_true, if_false]
  exact wpAny_pure q
end
/-- x op y by the def sp, whatever y is -/
def tOwnBin (K : PySem.W.Frag) (C : Addr) (nm : String) (sp : Sp) (E : L2.St → XK) (ta tb : TE) : TE := fun σ H Q => ta σ H fun x H1 => tb σ H1 fun y H2 => ∃ a dx fs t, x = .ref a ∧ H2 a = some (.ins C dx fs) ∧ TyX K H2 y t ∧ NumT K C nm t ∧ sp [x, y] H2 Q (E σ)
/-- the def at f is what answers x op y -/
structure OwnOp (K : PySem.W.Frag) (C f : Addr) (nm : String) : Prop where
  at_ : PySem.W.findIn K (.ref C) (PySem.dunder nm) = some (some (.ref f))
  none_ : PySem.W.findIn K (.ref C) (PySem.dunderR nm) = some none
  first : PySem.W.selfFirst K C = true
  fn : PySem.W.isFn K (.ref f) = true
section
variable {X : Cx} {CX : CXT} {C f : Addr} {fd : FuncData} {ps : List Str} {sp : Sp} {E : L2.St → XK} {n : Nat} {a b : Expr} {ta tb : TE} {pos : Pos} {op : Operator}
theorem pe_ownBinS {nm : String} (hop : op.info.2 = nm) (O : OwnOp X.K C f nm) (o1 : PySem.fastLookup "object" (PySem.dunder nm) = some none) (o2 : PySem.fastLookup "object" (PySem.dunderR nm) = some none)
    (F : FnOk X.prog X.w X.K X.mg X.base CX n f fd ps sp) (hr : Room n X.A) (hb : Binds X.K fd ps []) (hx : ∀ σ, PassesAt CX X σ (E σ)) (pa : PE X a ta) (pb : PE X b tb) : PE X (.BinOp a op b pos) (tOwnBin X.K C nm sp E ta tb) := by
  refine ⟨fun pins s σ H Q I h => ?_⟩
  subst hop
  refine wpAny_BinOp (binT pa pb I h fun v u s2 x y H2 I2 rx ry q => ?_)
  obtain ⟨o, dx, fs, t, rfl, ho, ty, nt, q⟩ := q
  cases rx
  obtain ⟨mA, J, _⟩ := ins_get I2.hok ho
  obtain ⟨od, J, _⟩ := J.look
  obtain ⟨Pk, kx, hpk, _⟩ := kit_of I2 ry ty
  have L1 := kx.ty (model X.prog X.w) s2.heap I2.kIn hpk
  have run : wpAny (model X.prog X.w) X.A (call (.ref f) [.ref o, u]) (PySem.W.CmpBack (EP X pins σ Q)) X.xe s2 :=
    wpAny_mono (run_fnS (us := [.ref o, u]) (vs := [.ref o, y]) F hr hb (hx σ) I2 (.cons rfl (.cons ry .nil)) q) (fun w s' z => let ⟨z', H', I', rz, qz⟩ := z; cmpOf rz ⟨z', H', I', rz, qz⟩) fun _ _ e => e
  rcases nt with ⟨T, fo, ro, rfl, h1, h2, hs⟩ | ⟨C', cd, rfl, ne, hc, hm, h1, h2⟩
  · refine binop_left (tb := .type T) (t0 := ro) I2.kIn J L1 (Bool.eq_false_iff.mpr fun q => by cases beq_iff_eq.mp q) O.first O.at_ O.none_ O.fn (PySem.W.ksp_fillsT (fo := fo) (ro := ro) I2.kIn h1 h2) (fun _ => ⟨?_, rfl, ?_⟩) run
    · obtain ⟨l, e1, e2⟩ := Option.map_eq_some_iff.mp hs
      rw [isSubtype_type, e1]
      exact congrArg pure e2
    · rw [typeLookup_type, builtinLookup_eq_fast, h2]
  · exact binop_left (tb := .ref C') (t0 := none) I2.kIn J L1 (Bool.eq_false_iff.mpr fun q => ne (by have := beq_iff_eq.mp q; cases this; rfl)) O.first O.at_ O.none_ O.fn (fillsNot I2.kIn hc hm h1 h2 o1 o2) (fun z => by cases z) run
theorem pe_ownBinK {K : PySem.W.Frag} (hk : X.K = K) {nm : String} (hop : op.info.2 = nm) (O : OwnOp K C f nm) (o1 : PySem.fastLookup "object" (PySem.dunder nm) = some none) (o2 : PySem.fastLookup "object" (PySem.dunderR nm) = some none)
    (F : FnOk X.prog X.w X.K X.mg X.base CX n f fd ps sp) (hr : Room n X.A) (hb : Binds X.K fd ps []) (hx : ∀ σ, PassesAt CX X σ (E σ)) (pa : PE X a ta) (pb : PE X b tb) : PE X (.BinOp a op b pos) (tOwnBin K C nm sp E ta tb) := by
  subst hk
  exact pe_ownBinS hop O o1 o2 F hr hb hx pa pb
/-- o[i] by the def sp, which may raise -/
def tOwnIxS (C : Addr) (sp : Sp) (E : L2.St → XK) (ta tb : TE) : TE := fun σ H Q => ta σ H fun x H1 => tb σ H1 fun y H2 => ∃ a dx fs, x = .ref a ∧ H2 a = some (.ins C dx fs) ∧ sp [x, y] H2 Q (E σ)
theorem pe_ownIxS (O : OwnIx X.K C f) (F : FnOk X.prog X.w X.K X.mg X.base CX n f fd ps sp) (hr : Room (n + 1) X.A) (hb : Binds X.K fd ps []) (hx : ∀ σ, PassesAt CX X σ (E σ)) (pa : PE X a ta) (pb : PE X b tb)
    (hsl : ∀ o i, subscripted b true (.ref o) i = runValue (.builtin "lifetime.subscript" ⟨[.ref o, i], []⟩)) : PE X (.Subscript a b pos) (tOwnIxS C sp E ta tb) := by
  refine ⟨fun pins s σ H Q I h => ?_⟩
  refine Subscript_ (binT pa pb I h fun v u s2 x y H2 I2 rx ry q => ?_)
  obtain ⟨o, dx, fs, rfl, ho, q⟩ := q
  cases rx
  obtain ⟨mA, J, _⟩ := ins_get I2.hok ho
  obtain ⟨od, J, _⟩ := J.look
  obtain ⟨m, hF⟩ := I2.fr
  refine PySem.W.sub_K hF I2.ok.mod.kin J O.at_ O.def_ O.fn ?_ (hsl _ _)
  have hl := F.len _ _ _ _ q
  have bd : BindsTo s2 fd ⟨[.ref o, u], []⟩ (ps.zip [.ref o, u]) := by
    have z := hb s2 [.ref o, u] I2.kIn (by simpa using hl)
    simpa using z
  refine wpAny_call (codeAny_mono (F.run X.A.in1 X.stack s2 H2 ⟨[.ref o, u], []⟩ [.ref o, u] [.ref o, y] _ (E σ) hr.in1 I2.env0.in1 bd (.cons rfl (.cons ry .nil)) q) fun r s' hq => ?_)
  cases r with
  | error e => exact hx σ pins H2 s2 e s' I2 hq
  | ok fl =>
    cases fl with
    | ret u => exact I2.after hq
    | next => exact False.elim hq
    | brk => exact False.elim hq
    | cont => exact False.elim hq
end
/-- len(o) by the def sp -/
def rLenOwn (C : Addr) (sp : Sp) (E : XK) : List V → Hp → VK → Prop := fun xs H Q => ∃ a dx fs, xs = [.ref a] ∧ H a = some (.ins C dx fs) ∧ sp xs H (fun v H' => ∃ i : Int, v = .int i ∧ 0 ≤ i ∧ i < 2 ^ 62 ∧ Q v H') E
section
variable {X : Cx} {CX : CXT} {C f : Addr} {fd : FuncData} {ps : List Str} {sp : Sp} {E : XK} {n : Nat}
theorem cr_lenOwn (hs : PySem.W.findIn X.K (.ref C) "__len__" = some (some (.ref f))) (hf : PySem.W.isFn X.K (.ref f) = true) (F : FnOk X.prog X.w X.K X.mg X.base CX n f fd ps sp) (hr : Room (n + 1) X.A) (hb : Binds X.K fd ps []) (hx : Passes CX X E) :
    CallR X (.builtin "len") (rLenOwn C sp E) := by
  intro pins s σ H xs us Q I r h
  obtain ⟨o, dx, fs, rfl, ho, q⟩ := h
  cases r with
  | cons r1 r2 =>
    cases r2
    cases r1
    obtain ⟨mA, J, _⟩ := ins_get I.hok ho
    obtain ⟨od, J, _⟩ := J.look
    obtain ⟨m, hF⟩ := I.fr
    refine PySem.W.len_K hF I.ok.mod.kin J hs hf ?_
    have hl := F.len _ _ _ _ q
    have bd : BindsTo s fd ⟨[.ref o], []⟩ (ps.zip [.ref o]) := by
      have z := hb s [.ref o] I.kIn (by simpa using hl)
      simpa using z
    refine wpAny_call (codeAny_mono (F.run X.A.in1 X.stack s H ⟨[.ref o], []⟩ [.ref o] [.ref o] _ E hr.in1 I.env0.in1 bd (.cons rfl .nil) q) fun r s' hq => ?_)
    cases r with
    | error e => exact hx pins σ H s e s' I hq
    | ok fl =>
      cases fl with
      | ret u =>
        obtain ⟨z', H', I', rz, i, rfl, i0, i1, qz⟩ := I.after hq
        obtain ⟨t, rfl⟩ := rz
        exact ⟨⟨by omega, by omega⟩, .int i, H', I'.tok _, ⟨_, rfl⟩, qz⟩
      | next => exact False.elim hq
      | brk => exact False.elim hq
      | cont => exact False.elim hq
end
end WW

set_option Elab.async false
set_option linter.all false
set_option maxRecDepth 100000
set_option maxHeartbeats 4000000
namespace WK
open PySem PySem.Spec PyProof.Rows L2 WW Evl
/-- the plain types' names -/
abbrev plainTs : List String := ["NoneType", "bool", "int", "str", "list", "tuple", "dict"]
/-- what isinstance tells of things that are no instruments, and of instruments -/
structure ITh (K : PySem.W.Frag) (CS CL : Addr) : Prop where
  pS : ∀ T ∈ plainTs, PySem.W.kitOne K (.type T) (.ref CS) = some false
  pL : ∀ T ∈ plainTs, PySem.W.kitOne K (.type T) (.ref CL) = some false
  sLi : PySem.W.kitOne K (.ref CS) (.type "list") = some false
  sTu : PySem.W.kitOne K (.ref CS) (.type "tuple") = some false
  lLi : PySem.W.kitOne K (.ref CL) (.type "list") = some false
  lTu : PySem.W.kitOne K (.ref CL) (.type "tuple") = some false
/-- a plain thing or an instrument -/
def Th (CS CL : Addr) (H : Hp) (v : V) : Prop := Pl H v ∨ ∃ r, InsAt CS CL H v r
theorem Th.ex {CS CL : Addr} {H H' : Hp} {v : V} (e : Ex H H') (h : Th CS CL H v) : Th CS CL H' v := h.imp (Pl.ex e) fun ⟨r, z⟩ => ⟨r, z.ex e⟩
theorem InsAt.flat {CS CL : Addr} {H : Hp} {v : V} {r : Ins} (h : InsAt CS CL H v r) : isL H v = false ∧ isT H v = false := by
  obtain ⟨a, dx, d, rfl, ⟨_, h1, _⟩ | ⟨_, h1, _⟩⟩ := h
  · exact ⟨isL_at h1, isT_at h1⟩
  · exact ⟨isL_at h1, isT_at h1⟩
theorem Pl.same {H H' : Hp} {v : V} (e1 : Ex H H') (h : Pl H v) : isL H' v = isL H v ∧ isT H' v = isT H v := by
  cases h with
  | lst h => exact ⟨(isL_at (e1 _ _ h)).trans (isL_at h).symm, (isT_at (e1 _ _ h)).trans (isT_at h).symm⟩
  | tup h => exact ⟨(isL_at (e1 _ _ h)).trans (isL_at h).symm, (isT_at (e1 _ _ h)).trans (isT_at h).symm⟩
  | dct h => exact ⟨(isL_at (e1 _ _ h)).trans (isL_at h).symm, (isT_at (e1 _ _ h)).trans (isT_at h).symm⟩
  | _ => exact ⟨rfl, rfl⟩
theorem Th.same {CS CL : Addr} {H H' : Hp} {v : V} (e : Ex H H') (h : Th CS CL H v) : isL H' v = isL H v ∧ isT H' v = isT H v := by
  rcases h with h | ⟨r, h⟩
  · exact Pl.same e h
  · exact ⟨(h.ex e).flat.1.trans h.flat.1.symm, (h.ex e).flat.2.trans h.flat.2.symm⟩
section
variable {P : Program} {w : World} {K : PySem.W.Frag} {mg : Str → Option Value} {base : Heap} {f : Addr} {fd : FuncData} {CS CL : Addr}
theorem Th.kin {H : Hp} {v : V} (T : ICl K mg CS CL) (Z : ITh K CS CL) (h : Th CS CL H v) : ∃ t, TyX K H v t ∧ PySem.W.kitOne K t (.type "list") = some (isL H v) ∧ PySem.W.kitOne K t (.type "tuple") = some (isT H v) := by
  rcases h with h | ⟨r, h⟩
  · obtain ⟨t, g⟩ := h.kin (K := K)
    exact ⟨t, g.ty, g.list, g.tuple⟩
  · have fl := h.flat
    obtain ⟨a, dx, d, rfl, ⟨_, h1, _⟩ | ⟨_, h1, _⟩⟩ := h
    · rw [fl.1, fl.2]
      exact ⟨_, .base (T.isaL _ _ _ _ h1), Z.lLi, Z.lTu⟩
    · rw [fl.1, fl.2]
      exact ⟨_, .base (T.isaS _ _ _ _ h1), Z.sLi, Z.sTu⟩
def spIsRowT (CS CL : Addr) : Sp := fun vs H Q _ => ∃ v, vs = [v] ∧ Th CS CL H v ∧ ∀ H', Ex H H' → Q (.bl (isL H v || isT H v)) H'
theorem okt_is_row (G : Gz mg) (T : ICl K mg CS CL) (Z : ITh K CS CL) (D : Df K mg "is_row" s_is_row f fd ["thing"]) : Callee P w K mg base CXn 1 "is_row" 1 (spIsRowT CS CL) := by
  refine D.callee (D.fn.ok sc_is_row (fun vs H Q E h => ?_) (fun cdv A outer s H vs Q E hr h => ⟨_, PSs.nox (pss_one (ps_ret (pe_callB call_isiT rfl G.g_isinstance (by rfl) (pa_cons (pv 0) (pa_cons (pe_tup (pa_cons (pe_bltn (v := .ty "list") rfl G.g_list (by rfl) rfl) (pa_cons (pe_bltn (v := .ty "tuple") rfl G.g_tuple (by rfl) rfl) pa_nil))) pa_nil))))), ?_⟩))
  · obtain ⟨i, rfl, _⟩ := h
    rfl
  · obtain ⟨v, rfl, hv, k⟩ := h
    refine ⟨_, rfl, (by decide), fun p hp => ?_⟩
    have e1 : Ex H (upd H p (.tup [.ty "list", .ty "tuple"])) := Ex.new hp
    obtain ⟨t, gt, gl, gu⟩ := (hv.ex e1).kin T Z
    have q := k _ e1
    have same := hv.same e1
    rw [← same.1, ← same.2] at q
    exact ⟨v, p, _, t, [.type "list", .type "tuple"], _, rfl, upd_same, .cons (.ty _) (.cons (.ty _) .nil), gt,
      kitAny_cons gl (fun z => by rw [z]; exact kitAny_cons gu (fun z2 => by rw [z2]; rfl) (fun z2 => by rw [z2]; rfl)) (fun z => by rw [z]; rfl), q⟩
def spIsRowOfT (CS CL : Addr) : Sp := fun vs H Q _ => ∃ v l m, vs = [v, .int l, .int m] ∧ Th CS CL H v ∧ ∀ H', Ex H H' → Q (.bl (rowB H v l m)) H'
theorem okt_is_row_of (G : Gz mg) (D : Df K mg "is_row_of" s_is_row_of f fd ["thing", "least", "most"]) (c_is_row : Callee P w K mg base CXn 1 "is_row" 1 (spIsRowT CS CL)) : Callee P w K mg base CXn 2 "is_row_of" 3 (spIsRowOfT CS CL) := by
  refine D.callee (D.fn.ok sc_is_row_of (fun vs H Q E h => ?_) (fun cdv A outer s H vs Q E hr h => ⟨_, PSs.nox (pss_one (ps_ret (L2.pe_and (pe_cl (E := En) c_is_row (hr.mono (by decide)) rfl passN (pa_cons (pv 0) pa_nil)) (pe_one (pe_chain op_le op_le (pv 1) (pe_callB (lenK (K := K) rfl) rfl G.g_len PySem.boot_len (pa_cons (pv 0) pa_nil)) (pv 2)))))), ?_⟩))
  · obtain ⟨i, _, _, rfl, _⟩ := h
    rfl
  · obtain ⟨v, l, m, rfl, hv, k⟩ := h
    refine ⟨_, rfl, v, rfl, hv, fun H1 e1 => ⟨_, rfl, ?_⟩⟩
    have q := k H1 e1
    have noRow : ∀ {a : Addr} {o : HO}, H a = some o → rlo (some o) = none → isLo (some o) = false → isTo (some o) = false → v = .ref a → rowB H v l m = false ∧ (isL H v || isT H v) = false := fun {a o} h h1 h2 h3 e => by
      subst e
      refine ⟨by unfold rowB; rw [rlen_at h, h1], ?_⟩
      rw [show isL H (.ref a) = false from (isL_at h).trans h2, show isT H (.ref a) = false from (isT_at h).trans h3]; rfl
    rcases hv with hv | ⟨r, a, dx, d, rfl, h⟩
    · cases hv with
      | lst h =>
        rename_i a xs
        have e : rowB H (.ref a) l m = (decide (l ≤ (xs.length : Int)) && decide ((xs.length : Int) ≤ m)) := by unfold rowB; rw [rlen_at h]; rfl
        rw [e] at q
        rw [show (isL H (.ref a) || isT H (.ref a)) = true by rw [show isL H (.ref a) = true from isL_at h]; rfl]
        have hx1 : LenV K (.ref a) H1 xs.length := .inl ⟨xs, sq_of (e1 _ _ h), rfl⟩
        refine ⟨_, rfl, _, rfl, _, _, rfl, hx1, l, _, rfl, rfl, decide (l ≤ (xs.length : Int)), rfl, ?_⟩
        cases hd : decide (l ≤ (xs.length : Int)) with
        | false =>
          rw [hd] at q
          exact q
        | true =>
          rw [hd] at q
          exact ⟨_, rfl, _, _, rfl, rfl, q⟩
      | tup h =>
        rename_i a xs
        have e : rowB H (.ref a) l m = (decide (l ≤ (xs.length : Int)) && decide ((xs.length : Int) ≤ m)) := by unfold rowB; rw [rlen_at h]; rfl
        rw [e] at q
        rw [show (isL H (.ref a) || isT H (.ref a)) = true by rw [show isL H (.ref a) = false from isL_at h, show isT H (.ref a) = true from isT_at h]; rfl]
        have hx1 : LenV K (.ref a) H1 xs.length := .inr ⟨xs, st_of (e1 _ _ h), rfl⟩
        refine ⟨_, rfl, _, rfl, _, _, rfl, hx1, l, _, rfl, rfl, decide (l ≤ (xs.length : Int)), rfl, ?_⟩
        cases hd : decide (l ≤ (xs.length : Int)) with
        | false =>
          rw [hd] at q
          exact q
        | true =>
          rw [hd] at q
          exact ⟨_, rfl, _, _, rfl, rfl, q⟩
      | dct h =>
        obtain ⟨z1, z2⟩ := noRow h rfl rfl rfl rfl
        rw [z1] at q
        rw [z2]
        exact q
      | _ => exact q
    · rcases h with ⟨_, h, _⟩ | ⟨_, h, _⟩
      · obtain ⟨z1, z2⟩ := noRow h rfl rfl rfl rfl
        rw [z1] at q
        rw [z2]
        exact q
      · obtain ⟨z1, z2⟩ := noRow h rfl rfl rfl rfl
        rw [z1] at q
        rw [z2]
        exact q
abbrev s_is_instrument : Stmt := top 28
theorem sc_is_instrument : FnScope ["thing"] ["thing"] (defScope s_is_instrument) := ⟨rfl, rfl, rfl, by decide +kernel, rfl, by decide +kernel, by decide +kernel⟩
def spIsInsT (CS CL : Addr) : Sp := fun vs H Q _ => ∃ v, vs = [v] ∧ ((Pl H v ∧ Q (.bl false) H) ∨ ∃ r, InsAt CS CL H v r ∧ Q (.bl true) H)
theorem okt_is_ins {C_Sensor C_Lock : Addr} (G : Gz mg) (T : ICl K mg C_Sensor C_Lock) (Z : ITh K C_Sensor C_Lock) (D : Df K mg "is_instrument" s_is_instrument f fd ["thing"]) : Callee P w K mg base CXn 1 "is_instrument" 1 (spIsInsT C_Sensor C_Lock) := by
  have g_Sensor := T.atS
  have g_Lock := T.atL
  refine D.callee (D.fn.ok sc_is_instrument (fun vs H Q E h => ?_) (fun cdv A outer s H vs Q E hr h => ⟨_, PSs.nox (pss_one (ps_ret (L2.pe_or (pe_callB (isiK (K := K) rfl) rfl G.g_isinstance (by rfl) (pa_cons (pv 0) (pa_cons (pe_glob (v := .ref C_Sensor) rfl g_Sensor rfl) pa_nil))) (pe_one (pe_callB (isiK (K := K) rfl) rfl G.g_isinstance (by rfl) (pa_cons (pv 0) (pa_cons (pe_glob (v := .ref C_Lock) rfl g_Lock rfl) pa_nil))))))), ?_⟩))
  · obtain ⟨_, rfl, _⟩ := h
    rfl
  · obtain ⟨v, rfl, ⟨hp, k⟩ | ⟨r, ⟨a, dx, d, rfl, ⟨_, h1, _⟩ | ⟨_, h1, _⟩⟩, k⟩⟩ := h
    · obtain ⟨t, ht, ty⟩ := Pl.numT (K := K) hp
      refine ⟨_, rfl, v, .ref C_Sensor, .type t, .ref C_Sensor, false, rfl, .own _, ty, Z.pS t ht, false, rfl, ?_⟩
      exact ⟨_, rfl, v, .ref C_Lock, .type t, .ref C_Lock, false, rfl, .own _, ty, Z.pL t ht, k⟩
    · refine ⟨_, rfl, .ref a, .ref C_Sensor, .ref C_Lock, .ref C_Sensor, false, rfl, .own _, .base (T.isaL _ _ _ _ h1), T.kLS, false, rfl, ?_⟩
      exact ⟨_, rfl, .ref a, .ref C_Lock, .ref C_Lock, .ref C_Lock, true, rfl, .own _, .base (T.isaL _ _ _ _ h1), T.kLL, k⟩
    · exact ⟨_, rfl, .ref a, .ref C_Sensor, .ref C_Sensor, .ref C_Sensor, true, rfl, .own _, .base (T.isaS _ _ _ _ h1), T.kSS, true, rfl, k⟩
abbrev s_Sensor_name : Stmt := inClass (top 21) 2
theorem sc_Sensor_name : FnScope ["self"] ["self"] (defScope s_Sensor_name) := ⟨rfl, rfl, rfl, by decide +kernel, rfl, by decide +kernel, by decide +kernel⟩
theorem ok_nameS {CS : Addr} (cl : Cls K CS) (n : NoAttr K CS "_name") (D : FunD K "name" "Sensor.name" (defArgs s_Sensor_name) (defBody s_Sensor_name) (defScope s_Sensor_name) [] [] f fd) : FnOk P w K mg base CXn 1 f fd ["self"] (getSp CS "_name") := by
  refine D.ok sc_Sensor_name (fun vs H Q E h => ?_) (fun cdv A outer s H vs Q E hr h => ⟨_, PSs.nox (pss_one (ps_ret (pe_fld (pv 0) rfl))), ?_⟩)
  · obtain ⟨_, _, _, _, rfl, _⟩ := h
    rfl
  · obtain ⟨a, dx, fs, v, rfl, ha, hl, k⟩ := h
    exact ⟨_, rfl, a, CS, dx, fs, v, rfl, ha, cl, n, hl, k⟩
abbrev s_Lock_name : Stmt := inClass (top 22) 2
theorem sc_Lock_name : FnScope ["self"] ["self"] (defScope s_Lock_name) := ⟨rfl, rfl, rfl, by decide +kernel, rfl, by decide +kernel, by decide +kernel⟩
theorem ok_nameL {CL : Addr} (cl : Cls K CL) (n : NoAttr K CL "_name") (D : FunD K "name" "Lock.name" (defArgs s_Lock_name) (defBody s_Lock_name) (defScope s_Lock_name) [] [] f fd) : FnOk P w K mg base CXn 1 f fd ["self"] (getSp CL "_name") := by
  refine D.ok sc_Lock_name (fun vs H Q E h => ?_) (fun cdv A outer s H vs Q E hr h => ⟨_, PSs.nox (pss_one (ps_ret (pe_fld (pv 0) rfl))), ?_⟩)
  · obtain ⟨_, _, _, _, rfl, _⟩ := h
    rfl
  · obtain ⟨a, dx, fs, v, rfl, ha, hl, k⟩ := h
    exact ⟨_, rfl, a, CL, dx, fs, v, rfl, ha, cl, n, hl, k⟩
/-- the property that both kinds have -/
structure IPr (P : Program) (w : World) (K : PySem.W.Frag) (mg : Str → Option Value) (base : Heap) (CS CL : Addr) : Prop where
  nameS : ∃ p g fd, PropOf K CS "name" p g ∧ FnOk P w K mg base CXn 1 g fd ["self"] (getSp CS "_name") ∧ Binds K fd ["self"] []
  nameL : ∃ p g fd, PropOf K CL "name" p g ∧ FnOk P w K mg base CXn 1 g fd ["self"] (getSp CL "_name") ∧ Binds K fd ["self"] []
theorem name_or {CS CL : Addr} {H : Hp} {v : V} {r : Ins} {Q : VK} {σ : L2.St} {i : Nat} (hv : σ[i]? = some (some v)) (h : InsAt CS CL H v r) (q : Q (.str r.nm) H) :
    tProp CS (getSp CS "_name") [] En (tVar i) σ H Q ∨ tProp CL (getSp CL "_name") [] En (tVar i) σ H Q := by
  obtain ⟨a, dx, d, rfl, ⟨_, h1, _⟩ | ⟨_, h1, _⟩⟩ := h
  · exact .inr ⟨_, hv, a, dx, _, rfl, h1, a, dx, _, _, rfl, h1, lf1, q⟩
  · exact .inl ⟨_, hv, a, dx, _, rfl, h1, a, dx, _, _, rfl, h1, sf1, q⟩
end
end WK

set_option Elab.async false
set_option linter.all false
set_option maxRecDepth 100000
set_option maxHeartbeats 4000000
/-! list(d.values()). -/
namespace WW
open PySem PySem.Spec PyProof.Rows L2
theorem kv_vals {κ : Type} : ∀ {kvs : List (κ × V)} {vs : List (κ × Value)}, KV kvs vs → Vals (kvs.map (·.2)) (vs.map (·.2))
  | _, _, .nil => .nil
  | _, _, .cons h t => .cons h.2 (kv_vals t)
def rListVals : V → Hp → VK → Prop := fun x H Q => ∃ (d : Addr) (kvs : List (Key × V)), x = .ref d ∧ H d = some (.dK kvs) ∧ ∀ p, H p = none → Q (.ref p) (upd H p (.lst (kvs.map (·.2))))
def tListVals (te : TE) : TE := fun σ H Q => te σ H fun x H1 => rListVals x H1 Q
section
variable {X : Cx} {e : Expr} {te : TE} {p apos cpos pos : Pos}
theorem pe_listVals (hc : X.calm = true) (he : PE X e te) (hg : Gl X "list") (hm : X.mg "list" = none) (hv : bootBuiltins "list" = some (.type "list")) (hbase : attributeBase e "values" X.env (eval e X.env) = eval e X.env := by rfl) (hline : (apos.endLine == cpos.line) = true := by rfl)
    (hs : starEach [.Call (.Attribute e "values" apos) [] [] cpos] X.env = (false, eval (.Call (.Attribute e "values" apos) [] [] cpos) X.env) :: starEach [] X.env := by rfl) :
    PE X (.Call (.Name "list" p) [.Call (.Attribute e "values" apos) [] [] cpos] [] pos) (tListVals te) := by
  refine ⟨fun pins s σ H Q I hq => ?_⟩
  refine wpAny_Call_Name_kw (ld_blt I hg hm hv ?_)
  refine PyProof.Rows.callWith_type1 ?_ hs rfl
  rw [hs]
  show wpAny _ _ (spliced ((false, eval (.Call (.Attribute e "values" apos) [] [] cpos) X.env) :: backTo pos (starEach [] X.env))) _ _ s
  refine Calls.spliced_cons ?_
  refine wpAny_Call_method (T := "dict") (id := "dict.values") hbase rfl hline F.plainAttrs_dict F.slot_dict_values F.type_dict_values (thn (he.run pins s σ H _ I hq) fun u s1 ⟨x, H1, I1, rx, d, kvs, ex, hd, q⟩ => ?_)
  subst ex
  obtain rfl : u = Value.ref d := rx
  obtain ⟨hz, hs0, vs, kv, hdo⟩ := I1.hok d _ hd
  obtain ⟨ep, hat⟩ := hdo.dictAt
  have lk : kvs.length = vs.length := Paired.length kv
  have I2 : Inv X pins σ H1 { s1 with heap := s1.heap.push { cls := .type "dict_values", data := .fields #[.ref d] } } := I1.kept (t' := s1.toks) fun b ob q => Heap.get?_push_of_some _ q
  refine ⟨hdo.typeIs, hdo.mapOf.noDict, ?_⟩
  show wpAny _ _ (callWith cpos (.builtin "dict.values") [.ref d] [] []) _ X.xe s1
  refine method_meetsIn F.slot_dict_values F.entry_dict_values rfl (PySem.evalArgs_none ⟨rfl, hdo.typeIs, F.args_dict_values_1 _, _, meets_dict_values (mixKind X.prog X.w) d hs0, ⟨vs, hdo⟩, ?_⟩)
  refine Calls.spliced_nil ?_
  refine PySem.W.kdl_call (PySem.W.kdl_values (knd := mixKind X.prog X.w) (kvs := vs) (ep := ep)) (I1.ok.hd hc) ⟨⟨_, Heap.get?_push_size _ rfl, rfl, rfl⟩, hat.push _⟩ (by omega) fun h' tk acc c hk hD hacc => ?_
  have ev : acc.toList = vs.map (·.2) := PySem.W.kdl_vals_eq _ (by rw [Array.length_toList]; exact hacc.1) fun j v e => hacc.2 j v (by rw [← Array.getElem?_toList]; exact e)
  refine ⟨.ref _, upd H1 _ (.lst (kvs.map (·.2))), I2.laid (t' := tk) hk (Nat.le_refl _)
    (show ObjOk X.prog X.w _ _ _ (.lst (kvs.map (·.2))) from ⟨by rw [List.length_map]; exact hz, acc.toList, c, by rw [ev]; exact kv_vals kv, by rw [Array.toArray_toList]; exact hD⟩), rfl, q _ (I2.hok.fresh (Nat.le_refl _))⟩
end
end WW

set_option Elab.async false
set_option linter.all false
set_option maxRecDepth 100000
set_option maxHeartbeats 4000000
namespace WK
open PySem PySem.Spec PyProof.Rows L2 WW Evl
/-- the name of an instrument -/
def nmOf (H : Hp) : V → Str
  | .ref a => (match H a with
    | some (.ins _ _ fs) => strOf ((fs.lookup ("_name" : Str)).getD .non)
    | _ => Str.empty)
  | _ => Str.empty
theorem nmOf_at {CS CL : Addr} {H : Hp} {v : V} {r : Ins} (h : InsAt CS CL H v r) : nmOf H v = r.nm := by
  obtain ⟨a, dx, d, rfl, ⟨_, h1, _⟩ | ⟨_, h1, _⟩⟩ := h
  · show (match H a with
    | some (.ins _ _ fs) => strOf ((fs.lookup ("_name" : Str)).getD .non)
    | _ => Str.empty) = r.nm
    rw [h1]
    show strOf (((lf r.nm r.po d r.co).lookup ("_name" : Str)).getD .non) = r.nm
    rw [lf1]
    rfl
  · show (match H a with
    | some (.ins _ _ fs) => strOf ((fs.lookup ("_name" : Str)).getD .non)
    | _ => Str.empty) = r.nm
    rw [h1]
    show strOf (((sf r.nm r.po d r.co).lookup ("_name" : Str)).getD .non) = r.nm
    rw [sf1]
    rfl
theorem nmOf_map {CS CL : Addr} {H : Hp} : ∀ {vs : List V} {rs : List Ins}, Paired (InsAt CS CL H) vs rs → vs.map (nmOf H) = rs.map (·.nm)
  | _, _, .nil => rfl
  | _, _, .cons g r => by rw [List.map_cons, List.map_cons, nmOf_at g, nmOf_map r]
/-- what a box keeps -/
def tabB : List V → List Ins → List (Key × V)
  | v :: vs, r :: rs => (.inr r.nm, v) :: tabB vs rs
  | _, _ => []
theorem tabB_keys : ∀ {vs : List V} {rs : List Ins}, vs.length = rs.length → (tabB vs rs).map (·.1) = (rs.map (·.nm)).map Sum.inr
  | [], [], _ => rfl
  | v :: vs, r :: rs, h => by
    show Sum.inr r.nm :: (tabB vs rs).map (·.1) = _
    rw [tabB_keys (Nat.succ.inj h)]
    rfl
  | [], _ :: _, h => by cases h
  | _ :: _, [], h => by cases h
theorem tabB_vals : ∀ {vs : List V} {rs : List Ins}, vs.length = rs.length → (tabB vs rs).map (·.2) = vs
  | [], [], _ => rfl
  | v :: vs, r :: rs, h => by
    show v :: (tabB vs rs).map (·.2) = _
    rw [tabB_vals (Nat.succ.inj h)]
  | [], _ :: _, h => by cases h
  | _ :: _, [], h => by cases h
theorem tabB_len {vs : List V} {rs : List Ins} (h : vs.length = rs.length) : (tabB vs rs).length = rs.length := by
  have := congrArg List.length (tabB_keys h)
  simpa using this
theorem tabB_of {CS CL : Addr} {H : Hp} : ∀ {vs : List V} {rs : List Ins}, Paired (InsAt CS CL H) vs rs → vs.map (fun x => ((.inr (nmOf H x) : Key), x)) = tabB vs rs
  | _, _, .nil => rfl
  | _, _, .cons g t => by
    rw [List.map_cons, nmOf_at g, tabB_of t]
    rfl
/-- at a name -/
theorem tabB_at : ∀ {vs : List V} {rs : List Ins} {i : Nat} {v : V} {r : Ins}, (rs.map (·.nm)).Nodup → vs[i]? = some v → rs[i]? = some r → valV (tabB vs rs) (.inr r.nm) = some v
  | v :: vs, r :: rs, 0, _, _, nd, h1, h2 => by
    simp at h1 h2
    subst h1
    subst h2
    exact valV_pos rfl
  | v :: vs, r :: rs, i + 1, x, q, nd, h1, h2 => by
    rw [List.map_cons, List.nodup_cons] at nd
    have h2' : rs[i]? = some q := by simpa using h2
    have ne : r.nm ≠ q.nm := fun z => nd.1 (z ▸ List.mem_map_of_mem (List.mem_of_getElem? h2'))
    show valV ((Sum.inr r.nm, v) :: tabB vs rs) (.inr q.nm) = _
    rw [valV_neg (fun z => ne (Sum.inr.inj z))]
    exact tabB_at nd.2 (by simpa using h1) h2'
  | [], _, _, _, _, _, h1, _ => by simp at h1
  | _ :: _, [], _, _, _, _, _, h2 => by simp at h2
theorem tabB_no {vs : List V} {rs : List Ins} (h : vs.length = rs.length) {n : Str} (no : n ∉ rs.map (·.nm)) : valV (tabB vs rs) (.inr n) = none := by
  cases e : valV (tabB vs rs) (.inr n : Key) with
  | none => rfl
  | some v =>
    have := val_some.mp ⟨v, e⟩
    rw [tabB_keys h] at this
    obtain ⟨y, hy, e2⟩ := List.mem_map.mp this
    exact absurd (Sum.inr.inj e2 ▸ hy) no
/-- what stands of a box: its table at t, its instruments vs -/
def BoxT (CB CS CL : Addr) (H : Hp) (b t : Addr) (vs : List V) (rs : List Ins) : Prop := ∃ dx, H b = some (.ins CB dx (putF "_table" (.ref t) [])) ∧ H t = some (.dK (tabB vs rs)) ∧ Paired (InsAt CS CL H) vs rs
theorem BoxT.ex {CB CS CL : Addr} {H H' : Hp} {b t : Addr} {vs : List V} {rs : List Ins} (e : Ex H H') (h : BoxT CB CS CL H b t vs rs) : BoxT CB CS CL H' b t vs rs := by
  obtain ⟨dx, h1, h2, h3⟩ := h
  exact ⟨dx, e _ _ h1, e _ _ h2, Paired.mapP h3 fun _ _ z => z.ex e⟩
/-- as many instruments as a box has, with names of their own -/
structure Few (rs : List Ins) : Prop where
  nd : (rs.map (·.nm)).Nodup
  least : 1 ≤ rs.length
  most : rs.length ≤ 6
theorem tb1 {t : Addr} : (putF "_table" (.ref t) [] : List (Str × V)).lookup ("_table" : Str) = some (.ref t) := by rw [lookup_putF, if_pos rfl]
structure BCl (K : PySem.W.Frag) (mg : Str → Option Value) (CB : Addr) : Prop where
  cl : Cls K CB
  at_ : mg "Box" = some (.ref CB)
  n1 : NoAttr K CB "_table"
/-- a row of 1 to 6 things, of which those of rs come first, with names of their own; a further one is none, or has a name that is there -/
structure Pre (CS CL : Addr) (H : Hp) (a : Addr) (xs : List V) (rs : List Ins) : Prop where
  sq : SqX H a xs
  least : 1 ≤ xs.length
  most : xs.length ≤ 6
  pr : Paired (InsAt CS CL H) (xs.take rs.length) rs
  nd : (rs.map (·.nm)).Nodup
  bad : ∀ x, xs[rs.length]? = some x → Pl H x ∨ ∃ r, InsAt CS CL H x r ∧ r.nm ∈ rs.map (·.nm)
theorem Pre.ex {CS CL : Addr} {H H' : Hp} {a : Addr} {xs : List V} {rs : List Ins} (e : Ex H H') (h : Pre CS CL H a xs rs) : Pre CS CL H' a xs rs :=
  ⟨h.sq.ex e, h.least, h.most, Paired.mapP h.pr fun _ _ z => z.ex e, h.nd, fun x hx => (h.bad x hx).imp (Pl.ex e) fun ⟨r, z, m⟩ => ⟨r, z.ex e, m⟩⟩
theorem Pre.len {CS CL : Addr} {H : Hp} {a : Addr} {xs : List V} {rs : List Ins} (h : Pre CS CL H a xs rs) : rs.length ≤ xs.length := by
  have := Paired.length h.pr
  rw [List.length_take] at this
  omega
/-- an error with an index -/
def RaiseAt (E : XK) (C : Addr) (H : Hp) (i : Int) : Prop := ∀ H' d, Ex H H' → H' d = none → E (.ref C) (some d) (upd H' d (.xd [("at", .int i)]))
def RaiseV (E : XK) (C : Addr) (H : Hp) (v : V) : Prop := ∀ H' d, Ex H H' → H' d = none → E (.ref C) (some d) (upd H' d (.xd [("value", v)]))
theorem ienum_goX {K : PySem.W.Frag} {H H2 : Hp} {a : Addr} {xs : List V} {σ : L2.St} {i : Nat} {R : It → Hp → Prop} (h : σ[i]? = some (some (.ref a))) (hx : SqX H a xs) (e : Ex H H2) (k : ∀ J, EnumS J H xs → R J H2) : iOr (iEnum K (tCons (tVar i) tNil)) (iEnumT K (tCons (tVar i) tNil)) σ H2 R := by
  rcases hx with hx | hx
  · exact .inl ⟨_, h, a, xs, rfl, sq_of (e _ _ hx), k _ (en_l (sq_of hx))⟩
  · exact .inr ⟨_, h, a, xs, rfl, st_of (e _ _ hx), k _ (en_t (st_of hx))⟩
theorem iseq_goX {K : PySem.W.Frag} {H H2 : Hp} {a : Addr} {xs : List V} {σ : L2.St} {i : Nat} {R : It → Hp → Prop} (h : σ[i]? = some (some (.ref a))) (hx : SqX H a xs) (e : Ex H H2) (k : ∀ J, Steady J H xs → R J H2) : iOr (iList K (tVar i)) (iTup K (tVar i)) σ H2 R := by
  rcases hx with hx | hx
  · exact .inl ⟨_, h, a, rfl, ⟨xs, sq_of (e _ _ hx)⟩, k _ (st_l (sq_of hx))⟩
  · exact .inr ⟨_, h, a, rfl, ⟨xs, st_of (e _ _ hx)⟩, k _ (st_t (st_of hx))⟩
/-- what comes of things that are asked to be a box -/
def KitOut (CS CL CE : Addr) (H : Hp) (v : V) (E : XK) (good : List V → List Ins → Prop) : Prop :=
  (Th CS CL H v ∧ rowB H v 1 6 = false ∧ RaiseAt E CE H (-1)) ∨ ∃ a xs rs, v = .ref a ∧ Pre CS CL H a xs rs ∧ (xs.length = rs.length → good xs rs) ∧ (rs.length < xs.length → RaiseAt E CE H (rs.length : Int))
section
variable {P : Program} {w : World} {K : PySem.W.Frag} {mg : Str → Option Value} {base : Heap} {f : Addr} {fd : FuncData}
abbrev s_check_instruments : Stmt := top 36
theorem sc_check_instruments : FnScope ["instruments", "names", "at", "thing"] ["instruments"] (defScope s_check_instruments) := ⟨rfl, rfl, rfl, by decide +kernel, rfl, by decide +kernel, by decide +kernel⟩
def spCkInsT (CS CL CE : Addr) : Sp := fun vs H Q E => ∃ v, vs = [v] ∧ KitOut CS CL CE H v E fun _ _ => ∀ H', Ex H H' → Q .non H'
theorem okt_ck_ins {C_Sensor C_Lock C_BadInstrument : Addr} (G : Gz mg) (gc : ∃ t, mg "MOST_INSTRUMENTS" = some (.int 6 t)) (T : ICl K mg C_Sensor C_Lock) (I : IPr P w K mg base C_Sensor C_Lock) (D : Df K mg "check_instruments" s_check_instruments f fd ["instruments"])
    (X_BadInstrument : ExR P w K mg base 1 "BadInstrument" C_BadInstrument "at") (c_is_row_of : Callee P w K mg base CXn 2 "is_row_of" 3 (spIsRowOfT C_Sensor C_Lock)) (c_is_instrument : Callee P w K mg base CXn 1 "is_instrument" 1 (spIsInsT C_Sensor C_Lock)) : Callee P w K mg base (L2.CX P w) 3 "check_instruments" 1 (spCkInsT C_Sensor C_Lock C_BadInstrument) := by
  obtain ⟨tc, g_MOST_INSTRUMENTS⟩ := gc
  have r_MOST_INSTRUMENTS : RelV (.int 6) (.int 6 tc) := ⟨_, rfl⟩
  have cls_Sensor := T.clS
  have cls_Lock := T.clL
  obtain ⟨p1, f1, fd1, p_name, F_name, b_name⟩ := I.nameS
  obtain ⟨p2, f2, fd2, p_nameL, F_nameL, b_nameL⟩ := I.nameL
  refine D.callee (D.fn.ok sc_check_instruments (fun vs H Q E h => ?_) (fun cdv A outer s H vs Q E hr h => ⟨_, (pss_cons (ps_if (pt_not (pt_val (pe_cl (E := En) c_is_row_of (hr.mono (by decide)) rfl passN (pa_cons (pv 0) (pa_cons pe_int (pa_cons (pe_glob rfl g_MOST_INSTRUMENTS r_MOST_INSTRUMENTS) pa_nil)))))) (pss_one (ps_raiseE X_BadInstrument rfl (hr.mono (by decide)) (takes_of rfl rfl rfl rfl) rfl (pe_un un_neg pe_int))) pss_nil) (pss_cons (ps_set (i := 1) sc_check_instruments.nd rfl (Or.inl rfl) (pe_lst pa_nil)) (pss_one (ps_for (passes_of rfl) rfl (pi_or (pi_enum rfl G.g_enumerate (pa_cons (pv 0) pa_nil)) (pi_enumT rfl G.g_enumerate (pa_cons (pv 0) pa_nil))) (pg_tup rfl (pgs_cons (pg_name (i := 2) sc_check_instruments.nd rfl (Or.inl rfl)) (pgs_cons (pg_name (i := 3) sc_check_instruments.nd rfl (Or.inl rfl)) pgs_nil))) (pss_cons (ps_if (PW.pt (pw_or (pt_not (pt_val (pe_cl (E := En) c_is_instrument (hr.mono (by decide)) rfl passN (pa_cons (pv 3) pa_nil)))) (pw_or1 (pt_cmpR (inK (K := K) rfl) (WW.pe_or (pe_prop (E := En) (pv 3) cls_Sensor p_name F_name (hr.mono (by decide)) b_name .nil passN rfl) (pe_prop (E := En) (pv 3) cls_Lock p_nameL F_nameL (hr.mono (by decide)) b_nameL .nil passN rfl)) (pv 1) (by rfl))))) (pss_one (ps_raiseE X_BadInstrument rfl (hr.mono (by decide)) (takes_of rfl rfl rfl rfl) rfl (pv 2))) pss_nil) (pss_one (ps_expr (pe_bm PySem.F.plainAttrs_list PySem.F.slot_list_append PySem.F.type_list_append mt_append (pv 1) (pa_cons (WW.pe_or (pe_prop (E := En) (pv 3) cls_Sensor p_name F_name (hr.mono (by decide)) b_name .nil passN rfl) (pe_prop (E := En) (pv 3) cls_Lock p_nameL F_nameL (hr.mono (by decide)) b_nameL .nil passN rfl)) pa_nil))))))))), ?_⟩))
  · obtain ⟨_, rfl, _⟩ := h
    rfl
  · obtain ⟨v, rfl, ⟨th, hrow, bad⟩ | ⟨a, xs, rs, rfl, Pr, good, bad⟩⟩ := h
    · refine ⟨_, rfl, v, 1, 6, rfl, th, fun H1 e1 => ?_⟩
      rw [hrow]
      refine ⟨false, rfl, iteT ⟨_, rfl, ?_⟩⟩
      exact raise_go fun d hd => bad H1 d e1 hd
    have hl := Pr.least
    have hm := Pr.most
    have rl := Pr.len
    have hrow : rowB H (.ref a) 1 6 = true := by
      have e : rlen H (.ref a) = some xs.length := Pr.sq.elim (fun z => rlen_at z) fun z => rlen_at z
      unfold rowB
      rw [e]
      show (decide ((1 : Int) ≤ (xs.length : Int)) && decide ((xs.length : Int) ≤ 6)) = true
      rw [decide_eq_true (show (1 : Int) ≤ (xs.length : Int) by omega), decide_eq_true (show (xs.length : Int) ≤ (6 : Int) by omega)]
      rfl
    refine ⟨_, rfl, .ref a, 1, 6, rfl, .inl (Pr.sq.elim .lst .tup), fun H1 e1 => ?_⟩
    rw [hrow]
    refine ⟨true, rfl, iteF ?_⟩
    refine ⟨Nat.zero_le _, fun l nl => ?_⟩
    have e2 : Ex H (upd H1 l (.lst [])) := e1.trans (Ex.new nl)
    have l0 : H l = none := fresh_back e1 nl
    have hl2 : upd H1 l (.lst []) l = some (.lst []) := upd_same
    generalize upd H1 l (.lst []) = H2 at e2 hl2
    refine ienum_goX rfl Pr.sq e2 fun J S => ?_
    refine for_go (n := xs.length) (fun i σ' H' => ∃ v2 v3, σ' = [some (.ref a), some (.ref l), v2, v3] ∧ i ≤ rs.length ∧ Ex H H' ∧ H' l = some (.lst (((rs.map (·.nm)).take i).map V.str)))
      ⟨none, none, rfl, Nat.zero_le _, e2, hl2⟩ (fun i σ' H' hi ⟨_, _, _, _, e, _⟩ => S.go i H' e hi) (fun σ' H' ⟨_, _, _, _, e, _⟩ => S.stop H' e) ?_ (fun σ' H' ⟨_, _, _, li, e, _⟩ => good (by omega) H' e)
    rintro i σ' H' v H'' hi ⟨v2, v3, rfl, li, e, hl'⟩ y
    obtain ⟨T5, x, rfl, hT, rfl, hxi⟩ := S.yld i H' v H'' e hi y
    have e3 : Ex H (upd H' T5 (.tup [.int (i : Nat), x])) := e.trans (Ex.new hT)
    have hl3 := Ex.new (o := .tup [.int (i : Nat), x]) hT _ _ hl'
    refine ⟨T5, _, rfl, st_of upd_same, rfl, _, _, rfl, _, _, rfl, rfl, ?_⟩
    generalize upd H' T5 (.tup [.int (i : Nat), x]) = H3 at e3 hl3
    have fl : ((((rs.map (·.nm)).take i).map V.str)).all flatV = true := List.all_eq_true.mpr (fun y hy => by obtain ⟨z, _, rfl⟩ := List.mem_map.mp hy; rfl)
    by_cases hlt : i < rs.length
    · obtain ⟨r, hr0, hx⟩ := prd_at Pr.pr (i := i) (x := x) (by rw [List.getElem?_take, if_pos hlt]; exact hxi)
      have hx3 := hx.ex e3
      have hn : (rs.map (·.nm))[i]? = some r.nm := by rw [List.getElem?_map, hr0]; rfl
      refine ⟨_, rfl, x, rfl, .inr ⟨r, hx3, true, rfl, iteF ?_⟩⟩
      refine name_or rfl hx3 ?_
      refine ⟨_, rfl, l, _, rfl, .inl (sq_of hl3), rfl, fl, ?_⟩
      have nin : r.nm ∉ (rs.map (·.nm)).take i := fun z => by
        have q := Pr.nd.sublist (List.take_sublist (i + 1) _)
        rw [List.take_add_one, hn, List.nodup_append] at q
        exact q.2.2 r.nm z r.nm (by simp) rfl
      have ei : (inV (.str r.nm) (((rs.map (·.nm)).take i).map V.str)) = false := by rw [inV_str]; exact decide_eq_false nin
      refine ⟨false, (by show V.bl (inV (.str r.nm) (((rs.map (·.nm)).take i).map V.str)) = _; rw [ei]), iteF ?_⟩
      have lt6 : ((rs.map (·.nm)).take i).length ≤ 6 := by rw [List.length_take, List.length_map]; omega
      refine ⟨_, rfl, .inl ⟨rfl, _, sq_of hl3⟩, ?_⟩
      refine name_or rfl hx3 ?_
      refine ⟨l, _, .str r.nm, rfl, rfl, hl3, by rw [List.length_map]; exact sz_lt (by omega), _, _, rfl, hlt, e3.mut l0, ?_⟩
      rw [upd_same, List.take_add_one, hn, List.map_append]
      rfl
    · have ei : i = rs.length := by omega
      subst ei
      have rz := bad hi
      have raise : ∀ {H4 : Hp}, Ex H H4 → ∀ d, H4 d = none → E (.ref C_BadInstrument) (some d) (upd H4 d (.xd [("at", .int (rs.length : Nat))])) := fun e4 d hd => rz _ d e4 hd
      rcases Pr.bad x hxi with hp | ⟨r, hx, mem⟩
      · refine ⟨_, rfl, x, rfl, .inl ⟨hp.ex e3, false, rfl, iteT ⟨_, rfl, ?_⟩⟩⟩
        exact raise_go fun d hd => raise e3 d hd
      · have hx3 := hx.ex e3
        refine ⟨_, rfl, x, rfl, .inr ⟨r, hx3, true, rfl, iteF ?_⟩⟩
        refine name_or rfl hx3 ?_
        refine ⟨_, rfl, l, _, rfl, .inl (sq_of hl3), rfl, fl, ?_⟩
        have ei : (inV (.str r.nm) (((rs.map (·.nm)).take rs.length).map V.str)) = true := by
          rw [inV_str, List.take_of_length_le (by rw [List.length_map]; omega)]
          exact decide_eq_true mem
        refine ⟨true, (by show V.bl (inV (.str r.nm) (((rs.map (·.nm)).take rs.length).map V.str)) = _; rw [ei]), iteT ⟨_, rfl, ?_⟩⟩
        exact raise_go fun d hd => raise e3 d hd
end
end WK

set_option Elab.async false
set_option linter.all false
set_option maxRecDepth 100000
set_option maxHeartbeats 4000000
namespace WK
open PySem PySem.Spec PyProof.Rows L2 WW Evl
theorem Th.rowB {CS CL : Addr} {H H' : Hp} {v : V} {l m : Int} (e : Ex H H') (h : Th CS CL H v) : WK.rowB H' v l m = WK.rowB H v l m := by
  have at_ : ∀ {a : Addr} {o : HO}, H a = some o → rlen H' (.ref a) = rlen H (.ref a) := fun {a o} h => (rlen_at (e _ _ h)).trans (rlen_at h).symm
  have go : rlen H' v = rlen H v := by
    rcases h with h | ⟨r, a, dx, d, rfl, ⟨_, h, _⟩ | ⟨_, h, _⟩⟩
    · cases h with
      | lst h => exact at_ h
      | tup h => exact at_ h
      | dct h => exact at_ h
      | _ => rfl
    · exact at_ h
    · exact at_ h
  unfold WK.rowB
  rw [go]
theorem RaiseAt.ex {E : XK} {C : Addr} {H H' : Hp} {i : Int} (e : Ex H H') (h : RaiseAt E C H i) : RaiseAt E C H' i := fun H2 d e2 hd => h H2 d (e.trans e2) hd
theorem RaiseV.ex {E : XK} {C : Addr} {H H' : Hp} {v : V} (e : Ex H H') (h : RaiseV E C H v) : RaiseV E C H' v := fun H2 d e2 hd => h H2 d (e.trans e2) hd
theorem KitOut.ex {CS CL CE : Addr} {H H' : Hp} {v : V} {E : XK} {g g' : List V → List Ins → Prop} (e : Ex H H') (h : KitOut CS CL CE H v E g) (hg : ∀ a xs rs, v = .ref a → Pre CS CL H a xs rs → xs.length = rs.length → g xs rs → g' xs rs) : KitOut CS CL CE H' v E g' := by
  rcases h with ⟨th, hr, bad⟩ | ⟨a, xs, rs, rfl, Pr, good, bad⟩
  · exact .inl ⟨th.ex e, by rw [th.rowB e]; exact hr, bad.ex e⟩
  · exact .inr ⟨a, xs, rs, rfl, Pr.ex e, fun z => hg a xs rs rfl Pr z (good z), fun z => (bad z).ex e⟩
theorem prd_appW {α β : Type} {R : α → β → Prop} : ∀ {xs : List α} {os : List β} {ys : List α} {ps : List β}, Paired R xs os → Paired R ys ps → Paired R (xs ++ ys) (os ++ ps)
  | _, _, _, _, .nil, h => h
  | _, _, _, _, .cons g t, h => .cons g (prd_appW t h)
/-- the instruments without that of a name -/
def dropV (n : Str) : List V → List Ins → List V
  | v :: vs, r :: rs => if r.nm = n then dropV n vs rs else v :: dropV n vs rs
  | _, _ => []
def dropI (n : Str) (rs : List Ins) : List Ins := rs.filter fun (r : Ins) => !decide (r.nm = n)
theorem drop_pr {R : V → Ins → Prop} {n : Str} : ∀ {vs : List V} {rs : List Ins}, Paired R vs rs → Paired R (dropV n vs rs) (dropI n rs)
  | _, _, .nil => .nil
  | v :: vs, r :: rs, .cons g t => by
    unfold dropV dropI
    by_cases z : r.nm = n
    · rw [if_pos z, List.filter_cons_of_neg (by simp [z])]
      exact drop_pr t
    · rw [if_neg z, List.filter_cons_of_pos (by simp [z])]
      exact .cons g (drop_pr t)
def isnt (n : Str) : V → Bool | .str x => !decide (x = n) | _ => true
theorem drop_of {n : Str} {T : List (Key × V)} : ∀ {vs : List V} {rs : List Ins}, vs.length = rs.length → (∀ (i : Nat) (v : V) (r : Ins), vs[i]? = some v → rs[i]? = some r → valV T (.inr r.nm) = some v) →
    ((((tabB vs rs).map fun q => kV q.1).filter (isnt n)).map (valAt T)) = dropV n vs rs
  | [], [], _, _ => rfl
  | v :: vs, r :: rs, h, hT => by
    have ih := drop_of (n := n) (T := T) (vs := vs) (rs := rs) (Nat.succ.inj h) (fun i x q h1 h2 => hT (i + 1) x q (by simpa using h1) (by simpa using h2))
    have h0 := hT 0 v r rfl rfl
    show ((V.str r.nm :: (tabB vs rs).map fun q => kV q.1).filter (isnt n)).map (valAt T) = _
    unfold dropV
    by_cases z : r.nm = n
    · rw [if_pos z, List.filter_cons_of_neg (by show ¬ (!decide (r.nm = n)) = true; simp [z])]
      exact ih
    · rw [if_neg z, List.filter_cons_of_pos (by show (!decide (r.nm = n)) = true; simp [z]), List.map_cons, ih]
      show (valV T (.inr r.nm)).getD .non :: _ = _
      rw [h0]
      rfl
  | [], _ :: _, h, _ => by cases h
  | _ :: _, [], h, _ => by cases h
theorem dropI_names {n : Str} {rs : List Ins} (nd : (rs.map (·.nm)).Nodup) : ((dropI n rs).map (·.nm)).Nodup := nd.sublist (List.Sublist.map _ List.filter_sublist)
theorem dropI_least {n : Str} : ∀ {rs : List Ins}, (rs.map (·.nm)).Nodup → rs.length ≤ (dropI n rs).length + 1
  | [], _ => by simp
  | r :: rs, nd => by
    rw [List.map_cons, List.nodup_cons] at nd
    unfold dropI
    by_cases z : r.nm = n
    · rw [List.filter_cons_of_neg (by simp [z])]
      have : rs.filter (fun (r : Ins) => !decide (r.nm = n)) = rs := List.filter_eq_self.mpr fun q hq => by
        have ne : q.nm ≠ n := fun e => nd.1 (by rw [z, ← e]; exact List.mem_map_of_mem hq)
        simp [ne]
      rw [this]
      simp
    · rw [List.filter_cons_of_pos (by simp [z])]
      have := dropI_least (n := n) nd.2
      unfold dropI at this
      simp only [List.length_cons]
      omega
section
variable {P : Program} {w : World} {K : PySem.W.Frag} {mg : Str → Option Value} {base : Heap} {f : Addr} {fd : FuncData}
abbrev s_Box___init__ : Stmt := inClass (top 35) 0
theorem sc_Box___init__ : FnScope ["self", "instruments", "instrument"] ["self", "instruments"] (defScope s_Box___init__) := ⟨rfl, rfl, rfl, by decide +kernel, rfl, by decide +kernel, by decide +kernel⟩
def spInitBG (CB CS CL CE : Addr) : Sp := fun vs H Q E => ∃ (H0 : Hp) (p dx : Addr) (v : V), vs = [.ref p, v] ∧ Ex H0 H ∧ H0 p = none ∧ H p = some (.ins CB dx []) ∧ KitOut CS CL CE H0 v E fun xs rs => ∀ H' t, Ex H0 H' → BoxT CB CS CL H' p t xs rs → H0 t = none → Q .non H'
theorem okt_initB {C_Box C_Sensor C_Lock C_BadInstrument : Addr} (T : ICl K mg C_Sensor C_Lock) (B : BCl K mg C_Box) (I : IPr P w K mg base C_Sensor C_Lock) (D : FunD K "__init__" "Box.__init__" (defArgs s_Box___init__) (defBody s_Box___init__) (defScope s_Box___init__) [] [] f fd)
    (c_check_instruments : Callee P w K mg base (L2.CX P w) 3 "check_instruments" 1 (spCkInsT C_Sensor C_Lock C_BadInstrument)) : FnOk P w K mg base (L2.CX P w) 4 f fd ["self", "instruments"] (spInitBG C_Box C_Sensor C_Lock C_BadInstrument) := by
  have cls_Sensor := T.clS
  have cls_Lock := T.clL
  obtain ⟨p1, f1, fd1, p_name, F_name, b_name⟩ := I.nameS
  obtain ⟨p2, f2, fd2, p_nameL, F_nameL, b_nameL⟩ := I.nameL
  refine D.ok sc_Box___init__ (fun vs H Q E h => ?_) (fun cdv A outer s H vs Q E hr h => ⟨_, (pss_cons (ps_expr (pe_clS c_check_instruments (hr.mono (by decide)) rfl (fun σ => passAt (takes_of rfl rfl rfl rfl) σ) (pa_cons (pv 1) pa_nil))) (pss_one (ps_fld (pv 0) (pe_dc (own := [("instrument", 2)]) rfl sc_Box___init__.nd (pi_or (pi_list (pv 1)) (pi_tup (pv 1))) (BlkOk.mk (N := ["self", "instruments", "instrument"]) (sc := defScope s_Box___init__) rfl (by decide +kernel) (by decide +kernel) (by decide +kernel) (by decide +kernel)) (fun _ _ _ _ _ => (pg_name (i := 2) sc_Box___init__.nd rfl (Or.inl rfl))) (fun _ _ _ _ _ => pts_nil) (fun _ _ _ _ _ => (WW.pe_or (pe_prop (E := En) (pv 2) cls_Sensor p_name F_name (hr.mono (by decide)) b_name .nil passN rfl) (pe_prop (E := En) (pv 2) cls_Lock p_nameL F_nameL (hr.mono (by decide)) b_nameL .nil passN rfl))) (fun _ _ _ _ _ => (pv 2))) rfl))), ?_⟩)
  · obtain ⟨_, _, _, _, rfl, _⟩ := h
    rfl
  · obtain ⟨H0, p, dx, v, rfl, e0, p0, hp, out⟩ := h
    refine ⟨_, rfl, v, rfl, out.ex e0 fun a xs rs ev Pr z k H1 e1 => ?_⟩
    subst ev
    have pr : Paired (InsAt C_Sensor C_Lock H0) xs rs := by
      have q := Pr.pr
      rw [← z, List.take_length] at q
      exact q
    have hm := Pr.most
    have E1 := e0.trans e1
    have P1 := e1 _ _ hp
    refine iseq_go rfl (Pr.sq.ex E1) fun J S N hN => ?_
    refine dc_ev (tk := fun σ H Q => tProp C_Sensor (getSp C_Sensor "_name") [] En (tVar 2) σ H Q ∨ tProp C_Lock (getSp C_Lock "_name") [] En (tVar 2) σ H Q) (u := nmOf H0) (v := fun x => x) S (by omega) (by rw [nmOf_map pr]; exact Pr.nd) (fun x => rfl) hN (fun x hx2 H8 e8 Q q => ?_) (fun x _ H8 e8 Q q => ⟨_, rfl, q H8 (Ex.refl _)⟩) (fun H8 e8 hN8 => ?_)
    · obtain ⟨i, hi⟩ := List.getElem?_of_mem hx2
      obtain ⟨r, hr0, g⟩ := prd_at pr hi
      rw [nmOf_at g] at q
      exact name_or rfl (g.ex (E1.trans e8)) (q H8 (Ex.refl _))
    have P8 := e8 _ _ P1
    have E8 := E1.trans e8
    have nNp : N ≠ p := fun z => by rw [z, P1] at hN; cases hN
    refine ⟨_, rfl, p, C_Box, dx, _, rfl, P8, B.cl, B.n1, (by decide), ?_⟩
    have E9 := E8.mut (o := .ins C_Box dx (putF "_table" (.ref N) [])) p0
    refine k _ N E9 ⟨dx, upd_same, by rw [upd_ne nNp, ← tabB_of pr]; exact hN8, Paired.mapP pr fun _ _ g => g.ex E9⟩ (fresh_back E1 hN)
abbrev s_Box_names : Stmt := inClass (top 35) 7
theorem sc_Box_names : FnScope ["self"] ["self"] (defScope s_Box_names) := ⟨rfl, rfl, rfl, by decide +kernel, rfl, by decide +kernel, by decide +kernel⟩
def spNamesB (CB CS CL : Addr) : Sp := fun vs H Q _ => ∃ (b t : Addr) (xs : List V) (rs : List Ins), vs = [.ref b] ∧ BoxT CB CS CL H b t xs rs ∧ Few rs ∧ ∀ (L : Addr) H', Ex H H' → H L = none → H' L = some (.lst ((sortS (rs.map (·.nm))).map V.str)) → Q (.ref L) H'
theorem okt_namesB {C_Box C_Sensor C_Lock : Addr} (G : Gz mg) (B : BCl K mg C_Box) (D : FunD K "names" "Box.names" (defArgs s_Box_names) (defBody s_Box_names) (defScope s_Box_names) [] [] f fd) : FnOk P w K mg base CXn 1 f fd ["self"] (spNamesB C_Box C_Sensor C_Lock) := by
  refine D.ok sc_Box_names (fun vs H Q E h => ?_) (fun cdv A outer s H vs Q E hr h => ⟨_, PSs.nox (pss_one (ps_ret (pe_callB (cr_sortK rfl) rfl G.g_sorted (by rfl) (pa_cons (pe_fld (pv 0) rfl) pa_nil)))), ?_⟩)
  · obtain ⟨_, _, _, _, rfl, _⟩ := h
    rfl
  · obtain ⟨b, t, xs, rs, rfl, ⟨dx, h1, h2, h3⟩, R, k⟩ := h
    have hm := R.most
    exact ⟨_, rfl, b, C_Box, dx, _, _, rfl, h1, B.cl, B.n1, tb1, t, _, rs.map (·.nm), rfl, .inl h2, tabB_keys (Paired.length h3), by rw [List.length_map]; omega, fun p hp => k p _ (Ex.new hp) hp upd_same⟩
abbrev s_Box___len__ : Stmt := inClass (top 35) 2
theorem sc_Box___len__ : FnScope ["self"] ["self"] (defScope s_Box___len__) := ⟨rfl, rfl, rfl, by decide +kernel, rfl, by decide +kernel, by decide +kernel⟩
def spLenB (CB CS CL : Addr) : Sp := fun vs H Q _ => ∃ (b t : Addr) (xs : List V) (rs : List Ins), vs = [.ref b] ∧ BoxT CB CS CL H b t xs rs ∧ Q (.int (rs.length : Nat)) H
theorem okt_lenB {C_Box C_Sensor C_Lock : Addr} (G : Gz mg) (B : BCl K mg C_Box) (D : FunD K "__len__" "Box.__len__" (defArgs s_Box___len__) (defBody s_Box___len__) (defScope s_Box___len__) [] [] f fd) : FnOk P w K mg base CXn 1 f fd ["self"] (spLenB C_Box C_Sensor C_Lock) := by
  refine D.ok sc_Box___len__ (fun vs H Q E h => ?_) (fun cdv A outer s H vs Q E hr h => ⟨_, PSs.nox (pss_one (ps_ret (pe_callB call_lenD rfl G.g_len PySem.boot_len (pa_cons (pe_fld (pv 0) rfl) pa_nil)))), ?_⟩)
  · obtain ⟨_, _, _, _, rfl, _⟩ := h
    rfl
  · obtain ⟨b, t, xs, rs, rfl, ⟨dx, h1, h2, h3⟩, k⟩ := h
    have e := tabB_len (Paired.length h3)
    refine ⟨_, rfl, b, C_Box, dx, _, _, rfl, h1, B.cl, B.n1, tb1, t, _, rfl, h2, ?_⟩
    rw [e]
    exact k
abbrev s_Box___getitem__ : Stmt := inClass (top 35) 3
theorem sc_Box___getitem__ : FnScope ["self", "name"] ["self", "name"] (defScope s_Box___getitem__) := ⟨rfl, rfl, rfl, by decide +kernel, rfl, by decide +kernel, by decide +kernel⟩
def spItemG (CB CS CL CN : Addr) : Sp := fun vs H Q E => ∃ (b t : Addr) (y : V) (xs : List V) (rs : List Ins), vs = [.ref b, y] ∧ BoxT CB CS CL H b t xs rs ∧ Few rs ∧ Pl H y ∧ (∀ z, y = .str z → z.length ≤ 1000) ∧
  (((nmB y = false ∨ ∃ n, y = .str n ∧ n ∉ rs.map (·.nm)) ∧ RaiseV E CN H y) ∨ ∃ (i : Nat) (r : Ins) (v : V), y = .str r.nm ∧ IsNm r.nm ∧ xs[i]? = some v ∧ rs[i]? = some r ∧ ∀ H', Ex H H' → Q v H')
theorem okt_itemB {C_Box C_Sensor C_Lock C_BadName : Addr} (B : BCl K mg C_Box) (D : FunD K "__getitem__" "Box.__getitem__" (defArgs s_Box___getitem__) (defBody s_Box___getitem__) (defScope s_Box___getitem__) [] [] f fd) (X_BadName : ExR P w K mg base 1 "BadName" C_BadName "value") (c_is_name : Callee P w K mg base CXn 1 "is_name" 1 spIsNameG) :
    FnOk P w K mg base (L2.CX P w) 3 f fd ["self", "name"] (spItemG C_Box C_Sensor C_Lock C_BadName) := by
  refine D.ok sc_Box___getitem__ (fun vs H Q E h => ?_) (fun cdv A outer s H vs Q E hr h => ⟨_, (pss_cons (ps_if (PW.pt (pw_or (pt_not (pt_val (pe_cl (E := En) c_is_name (hr.mono (by decide)) rfl passN (pa_cons (pv 1) pa_nil)))) (pw_or1 (pt_cmp (pc_dnotin (room1 hr) (pv 1) (pe_fld (pv 0) rfl)))))) (pss_one (ps_raiseE X_BadName rfl (hr.mono (by decide)) (takes_of rfl rfl rfl rfl) rfl (pv 1))) pss_nil) (pss_one (ps_ret (pe_dget (room1 hr) (pe_fld (pv 0) rfl) (pv 1) (fun _ _ => rfl))))), ?_⟩)
  · obtain ⟨_, _, _, _, _, rfl, _⟩ := h
    rfl
  · obtain ⟨b, t, y, xs, rs, rfl, ⟨dx, h1, h2, h3⟩, R, py, hz, out⟩ := h
    refine ⟨_, rfl, y, rfl, py, hz, fun H1 e1 => ?_⟩
    cases hb : nmB y with
    | false =>
      rcases out with ⟨_, bad⟩ | ⟨i, r, v, rfl, nm, _⟩
      · exact ⟨false, rfl, iteT ⟨_, rfl, raise_go fun d hd => bad H1 d e1 hd⟩⟩
      · rw [nmB_of nm] at hb
        cases hb
    | true =>
      refine ⟨true, rfl, iteF ?_⟩
      rcases out with ⟨no | ⟨n, rfl, no⟩, bad⟩ | ⟨i, r, v, rfl, nm, hi, hr0, k⟩
      · rw [no] at hb
        cases hb
      · have hv := tabB_no (Paired.length h3) no
        refine ⟨_, rfl, _, rfl, b, C_Box, dx, _, _, rfl, e1 _ _ h1, B.cl, B.n1, tb1, t, none, rfl, .inl ⟨_, .inr n, .inl (e1 _ _ h2), rfl, hv.symm⟩, true, rfl, iteT ?_⟩
        exact ⟨_, rfl, raise_go fun d hd => bad H1 d e1 hd⟩
      · have hv := tabB_at R.nd hi hr0
        refine ⟨_, rfl, _, rfl, b, C_Box, dx, _, _, rfl, e1 _ _ h1, B.cl, B.n1, tb1, t, some v, rfl, .inl ⟨_, .inr r.nm, .inl (e1 _ _ h2), rfl, hv.symm⟩, false, rfl, iteF ?_⟩
        exact ⟨_, rfl, b, C_Box, dx, _, _, rfl, e1 _ _ h1, B.cl, B.n1, tb1, _, rfl, t, v, rfl, .inl ⟨_, .inr r.nm, .inl (e1 _ _ h2), rfl, hv.symm⟩, k H1 e1⟩
abbrev s_Box___or__ : Stmt := inClass (top 35) 5
theorem sc_Box___or__ : FnScope ["self", "instrument", "many"] ["self", "instrument"] (defScope s_Box___or__) := ⟨rfl, rfl, rfl, by decide +kernel, rfl, by decide +kernel, by decide +kernel⟩
def spOrG (CB CS CL CE : Addr) : Sp := fun vs H Q E => ∃ (b t : Addr) (y : V) (xs : List V) (rs : List Ins), vs = [.ref b, y] ∧ BoxT CB CS CL H b t xs rs ∧ Few rs ∧
  ((RaiseAt E CE H (rs.length : Nat) ∧ (Th CS CL H y ∧ rs.length = 6 ∨ Pl H y ∨ ∃ r, InsAt CS CL H y r ∧ r.nm ∈ rs.map (·.nm))) ∨
   ∃ r, InsAt CS CL H y r ∧ r.nm ∉ rs.map (·.nm) ∧ rs.length < 6 ∧ ∀ H' b' t', Ex H H' → H t' = none → H b' = none → BoxT CB CS CL H' b' t' (xs ++ [y]) (rs ++ [r]) → Q (.ref b') H')
theorem okt_orB {C_Box C_Sensor C_Lock C_BadInstrument fB : Addr} {fdB : FuncData} (G : Gz mg) (B : BCl K mg C_Box) (gc : ∃ t, mg "MOST_INSTRUMENTS" = some (.int 6 t)) (D : FunD K "__or__" "Box.__or__" (defArgs s_Box___or__) (defBody s_Box___or__) (defScope s_Box___or__) [] [] f fd) (X_BadInstrument : ExR P w K mg base 1 "BadInstrument" C_BadInstrument "at")
    (M_Box : Mk K C_Box fB) (F_Box : FnOk P w K mg base (L2.CX P w) 4 fB fdB ["self", "instruments"] (spInitBG C_Box C_Sensor C_Lock C_BadInstrument)) (b_Box : Binds K fdB ["self", "instruments"] []) :
    FnOk P w K mg base (L2.CX P w) 6 f fd ["self", "instrument"] (spOrG C_Box C_Sensor C_Lock C_BadInstrument) := by
  obtain ⟨tc, g_MOST_INSTRUMENTS⟩ := gc
  have r_MOST_INSTRUMENTS : RelV (.int 6) (.int 6 tc) := ⟨_, rfl⟩
  have g_Box := B.at_
  refine D.ok sc_Box___or__ (fun vs H Q E h => ?_) (fun cdv A outer s H vs Q E hr h => ⟨_, (pss_cons (ps_set (i := 2) sc_Box___or__.nd rfl (Or.inl rfl) (pe_callB call_lenD rfl G.g_len PySem.boot_len (pa_cons (pe_fld (pv 0) rfl) pa_nil))) (pss_cons (ps_if (pt_cmpR op_eq (pv 2) (pe_glob rfl g_MOST_INSTRUMENTS r_MOST_INSTRUMENTS) (nomark _)) (pss_one (ps_raiseE X_BadInstrument rfl (hr.mono (by decide)) (takes_of rfl rfl rfl rfl) rfl (pv 2))) pss_nil) (pss_one (ps_ret (pe_makeS M_Box F_Box (hr.mono (by decide)) rfl g_Box b_Box (fun σ => passAt (takes_of rfl rfl rfl rfl) σ) (pa_cons (pe_op op_cat (pe_listVals rfl (pe_fld (pv 0) rfl) rfl G.g_list (by rfl)) (pe_lst (pa_cons (pv 1) pa_nil))) pa_nil)))))), ?_⟩)
  · obtain ⟨_, _, _, _, _, rfl, _⟩ := h
    rfl
  · obtain ⟨b, t, y, xs, rs, rfl, ⟨dx, h1, h2, h3⟩, R, out⟩ := h
    have xl := Paired.length h3
    have rm := R.most
    have rl := R.least
    have e := tabB_len xl
    refine ⟨_, rfl, b, C_Box, dx, _, _, rfl, h1, B.cl, B.n1, tb1, t, _, rfl, h2, ?_⟩
    rw [e]
    have pre : ∀ {H1 : Hp} {l : Addr}, Ex H H1 → H1 l = some (.lst (xs ++ [y])) → rs.length < 6 → (Pl H1 y ∨ ∃ r, InsAt C_Sensor C_Lock H1 y r ∧ r.nm ∈ rs.map (·.nm)) → Pre C_Sensor C_Lock H1 l (xs ++ [y]) rs := fun {H1 l} e1 hl h6 hy =>
      ⟨.inl hl, by simp, by rw [List.length_append, xl]; show _ + 1 ≤ 6; omega, by rw [← xl, List.take_left]; exact Paired.mapP h3 fun _ _ z => z.ex e1, R.nd, fun x hx => by
        rw [← xl, List.getElem?_append_right (Nat.le_refl _), Nat.sub_self] at hx
        cases hx
        exact hy⟩
    by_cases h6 : rs.length = 6
    · rcases out with ⟨bad, _⟩ | ⟨r, _, _, lt, _⟩
      · refine ⟨_, rfl, rfl, true, (by rw [decide_eq_true (show V.int (rs.length : Nat) = V.int 6 by rw [h6]; rfl)]), iteT ⟨_, rfl, ?_⟩⟩
        exact raise_go fun d hd => bad H d (Ex.refl _) hd
      · omega
    · have lt6 : rs.length < 6 := by omega
      refine ⟨_, rfl, rfl, false, (by rw [decide_eq_false (show ¬ V.int (rs.length : Nat) = V.int 6 from fun z => h6 (by have := V.int.inj z; omega))]), iteF ?_⟩
      refine ⟨_, rfl, b, C_Box, dx, _, _, rfl, h1, B.cl, B.n1, tb1, t, _, rfl, h2, fun l1 n1 => ?_⟩
      rw [tabB_vals xl]
      refine ⟨_, rfl, (by show 1 ≤ sizeLine; decide), fun l2 n2 => ?_⟩
      have e1 : Ex H (upd H l1 (.lst xs)) := Ex.new n1
      have hl1 : upd H l1 (.lst xs) l1 = some (.lst xs) := upd_same
      generalize upd H l1 (.lst xs) = H1 at e1 hl1 n2
      have e2 : Ex H1 (upd H1 l2 (.lst [y])) := Ex.new n2
      have hl2 : upd H1 l2 (.lst [y]) l2 = some (.lst [y]) := upd_same
      have hl12 := e2 _ _ hl1
      generalize upd H1 l2 (.lst [y]) = H2 at e2 hl2 hl12
      refine ⟨l1, l2, xs, [y], rfl, rfl, hl12, hl2, sz_of (by show xs.length + 1 ≤ 100000; omega), fun l3 n3 => ?_⟩
      have e3 : Ex H2 (upd H2 l3 (.lst (xs ++ [y]))) := Ex.new n3
      have hl3 : upd H2 l3 (.lst (xs ++ [y])) l3 = some (.lst (xs ++ [y])) := upd_same
      generalize upd H2 l3 (.lst (xs ++ [y])) = H3 at e3 hl3
      have E3 := e1.trans (e2.trans e3)
      intro o m ho hm' hne
      refine ⟨H3, o, m, .ref l3, rfl, (Ex.new hm').trans (Ex.new (by rw [upd_ne hne.symm]; exact ho)), ho, upd_same, ?_⟩
      rcases out with ⟨bad, no⟩ | ⟨r, hy, nin, _, good⟩
      · refine .inr ⟨l3, xs ++ [y], rs, rfl, pre E3 hl3 lt6 ?_, fun z => ?_, fun _ => bad.ex E3⟩
        · rcases no with ⟨_, z⟩ | hp | ⟨r, hy, hm2⟩
          · exact absurd z h6
          · exact .inl (hp.ex E3)
          · exact .inr ⟨r, hy.ex E3, hm2⟩
        · rw [List.length_append, xl] at z
          simp at z
      · have pr : Paired (InsAt C_Sensor C_Lock H3) (xs ++ [y]) (rs ++ [r]) := prd_appW (Paired.mapP h3 fun _ _ z => z.ex E3) (.cons (hy.ex E3) .nil)
        refine .inr ⟨l3, xs ++ [y], rs ++ [r], rfl, ⟨.inl hl3, by simp, by rw [List.length_append, xl]; show _ + 1 ≤ 6; omega, by rw [List.take_of_length_le (by rw [List.length_append, List.length_append, xl]; exact Nat.le_refl _)]; exact pr, ?_, fun x hx => ?_⟩, fun _ => fun H' t' e' hb ht => ⟨rfl, good H' o t' (E3.trans e') (fresh_back E3 ht) (fresh_back E3 ho) hb⟩, fun z => ?_⟩
        · rw [List.map_append, List.nodup_append]
          exact ⟨R.nd, by simp, fun a ha c hc => by rw [List.mem_singleton.mp hc]; exact fun z => nin (by rw [show r.nm = a from z.symm]; exact ha)⟩
        · rw [List.getElem?_eq_none (by rw [List.length_append, List.length_append, xl]; exact Nat.le_refl _)] at hx
          cases hx
        · rw [List.length_append, List.length_append, xl] at z
          exact absurd z (Nat.lt_irrefl _)
abbrev s_Box___sub__ : Stmt := inClass (top 35) 6
theorem sc_Box___sub__ : FnScope ["self", "name", "other"] ["self", "name"] (defScope s_Box___sub__) := ⟨rfl, rfl, rfl, by decide +kernel, rfl, by decide +kernel, by decide +kernel⟩
def spSubG (CB CS CL CN : Addr) : Sp := fun vs H Q E => ∃ (b t : Addr) (y : V) (xs : List V) (rs : List Ins), vs = [.ref b, y] ∧ BoxT CB CS CL H b t xs rs ∧ Few rs ∧ Pl H y ∧ (∀ z, y = .str z → z.length ≤ 1000) ∧
  ((RaiseV E CN H y ∧ (nmB y = false ∨ ∃ n, y = .str n ∧ (n ∉ rs.map (·.nm) ∨ rs.length = 1))) ∨
   ∃ n, y = .str n ∧ IsNm n ∧ n ∈ rs.map (·.nm) ∧ 1 < rs.length ∧ ∀ H' b' t', Ex H H' → H t' = none → H b' = none → BoxT CB CS CL H' b' t' (dropV n xs rs) (dropI n rs) → Q (.ref b') H')
theorem okt_subB {C_Box C_Sensor C_Lock C_BadInstrument C_BadName fB : Addr} {fdB : FuncData} (G : Gz mg) (B : BCl K mg C_Box) (D : FunD K "__sub__" "Box.__sub__" (defArgs s_Box___sub__) (defBody s_Box___sub__) (defScope s_Box___sub__) [] [] f fd) (X_BadName : ExR P w K mg base 1 "BadName" C_BadName "value") (c_is_name : Callee P w K mg base CXn 1 "is_name" 1 spIsNameG)
    (M_Box : Mk K C_Box fB) (F_Box : FnOk P w K mg base (L2.CX P w) 4 fB fdB ["self", "instruments"] (spInitBG C_Box C_Sensor C_Lock C_BadInstrument)) (b_Box : Binds K fdB ["self", "instruments"] []) :
    FnOk P w K mg base (L2.CX P w) 6 f fd ["self", "name"] (spSubG C_Box C_Sensor C_Lock C_BadName) := by
  have g_Box := B.at_
  refine D.ok sc_Box___sub__ (fun vs H Q E h => ?_) (fun cdv A outer s H vs Q E hr h => ⟨_, (pss_cons (ps_if (PW.pt (pw_or (pt_not (pt_val (pe_cl (E := En) c_is_name (hr.mono (by decide)) rfl passN (pa_cons (pv 1) pa_nil)))) (pw_or (pt_cmp (pc_dnotin (room1 hr) (pv 1) (pe_fld (pv 0) rfl))) (pw_or1 (pt_cmpR op_eq (pe_callB call_lenD rfl G.g_len PySem.boot_len (pa_cons (pe_fld (pv 0) rfl) pa_nil)) pe_int (nomark _)))))) (pss_one (ps_raiseE X_BadName rfl (hr.mono (by decide)) (takes_of rfl rfl rfl rfl) rfl (pv 1))) pss_nil) (pss_one (ps_ret (pe_makeS M_Box F_Box (hr.mono (by decide)) rfl g_Box b_Box (fun σ => passAt (takes_of rfl rfl rfl rfl) σ) (pa_cons (pe_lock (pe_lc (own := [("other", 2)]) rfl sc_Box___sub__.nd (pi_keys (pe_fld (pv 0) rfl)) (BlkOk.mk (N := ["self", "name", "other"]) (sc := defScope s_Box___sub__) rfl (by decide +kernel) (by decide +kernel) (by decide +kernel) (by decide +kernel)) (fun _ _ _ _ _ => (pg_name (i := 2) sc_Box___sub__.nd rfl (Or.inl rfl))) (fun _ _ _ _ _ => (pts_one (pt_cmpR op_ne (pv 2) (pv 1) (nomark _)))) (fun _ _ _ _ _ => (by exact (pe_dget (td := tFld K (tVar 0) "_table") (room1 hr) (by exact (pe_fld (pv 0) (by rfl))) (pv 2) (fun _ _ => rfl)))))) pa_nil))))), ?_⟩)
  · obtain ⟨_, _, _, _, _, rfl, _⟩ := h
    rfl
  · obtain ⟨b, t, y, xs, rs, rfl, ⟨dx, h1, h2, h3⟩, R, py, hz, out⟩ := h
    have xl := Paired.length h3
    have rm := R.most
    have rl := R.least
    have e := tabB_len xl
    refine ⟨_, rfl, y, rfl, py, hz, fun H1 e1 => ?_⟩
    cases hb : nmB y with
    | false =>
      rcases out with ⟨bad, _⟩ | ⟨n, rfl, nm, _⟩
      · exact ⟨false, rfl, iteT ⟨_, rfl, raise_go fun d hd => bad H1 d e1 hd⟩⟩
      · rw [nmB_of nm] at hb
        cases hb
    | true =>
      refine ⟨true, rfl, iteF ?_⟩
      obtain ⟨n, rfl⟩ : ∃ n, y = .str n := by
        cases y <;> first | exact ⟨_, rfl⟩ | exact nomatch (show false = true from hb)
      by_cases hin : n ∈ rs.map (·.nm)
      · obtain ⟨r0, hr0, hn0⟩ := List.mem_map.mp hin
        obtain ⟨i, hi⟩ := List.getElem?_of_mem hr0
        have il := (List.getElem?_eq_some_iff.mp hi).1
        obtain ⟨v, hv⟩ : ∃ v, xs[i]? = some v := ⟨_, List.getElem?_eq_getElem (by omega)⟩
        have hval := tabB_at R.nd hv hi
        rw [hn0] at hval
        refine ⟨_, rfl, _, rfl, b, C_Box, dx, _, _, rfl, e1 _ _ h1, B.cl, B.n1, tb1, t, some v, rfl, .inl ⟨_, .inr n, .inl (e1 _ _ h2), rfl, hval.symm⟩, false, rfl, iteF ?_⟩
        by_cases one : rs.length = 1
        · rcases out with ⟨bad, _⟩ | ⟨_, _, _, _, lt, _⟩
          · refine ⟨_, rfl, b, C_Box, dx, _, _, rfl, e1 _ _ h1, B.cl, B.n1, tb1, t, _, rfl, e1 _ _ h2, rfl, true, (by rw [e, one]; rfl), iteT ⟨_, rfl, raise_go fun d hd => bad H1 d e1 hd⟩⟩
          · omega
        · refine ⟨_, rfl, b, C_Box, dx, _, _, rfl, e1 _ _ h1, B.cl, B.n1, tb1, t, _, rfl, e1 _ _ h2, rfl, false, (by rw [e]; exact congrArg V.bl (decide_eq_false (fun z => one (by have := V.int.inj z; omega)))), iteF ?_⟩
          rcases out with ⟨_, no | ⟨n', en, no⟩⟩ | ⟨n', en, nm, _, lt, good⟩
          · rw [no] at hb
            cases hb
          · cases en
            exact (no.elim (fun z => z hin) one).elim
          cases en
          have hT1 := e1 _ _ h2
          refine ⟨t, .dK (tabB xs rs), hT1, trivial, fun od => ?_⟩
          have hf : upd H1 t (.frz od (.dK (tabB xs rs))) t = some (.frz od (.dK (tabB xs rs))) := upd_same
          have nbt : b ≠ t := fun z => by rw [z, h2] at h1; cases h1
          have hb2 : upd H1 t (.frz od (.dK (tabB xs rs))) b = some (.ins C_Box dx (putF "_table" (.ref t) [])) := by rw [upd_ne nbt]; exact e1 _ _ h1
          have keyOf : ∀ x ∈ (tabB xs rs).map (fun q => kV q.1), ∃ (j : Nat) (v : V) (r : Ins), x = .str r.nm ∧ xs[j]? = some v ∧ rs[j]? = some r := fun x hx => by
            have e1 : (tabB xs rs).map (fun q => kV q.1) = ((rs.map (·.nm)).map Sum.inr).map kV := by rw [← tabB_keys xl, List.map_map]; rfl
            rw [e1] at hx
            obtain ⟨k1, hk1, rfl⟩ := List.mem_map.mp hx
            obtain ⟨k2, hk2, rfl⟩ := List.mem_map.mp hk1
            obtain ⟨r, hr1, rfl⟩ := List.mem_map.mp hk2
            obtain ⟨j, hj⟩ := List.getElem?_of_mem hr1
            have jl := (List.getElem?_eq_some_iff.mp hj).1
            exact ⟨j, _, r, rfl, List.getElem?_eq_getElem (by omega), hj⟩
          refine ⟨_, rfl, b, C_Box, dx, _, _, rfl, hb2, B.cl, B.n1, tb1, t, od, rfl, .inl ⟨tabB xs rs, hf, fun N hN => ?_⟩⟩
          refine lc_ev (f := isnt n) (v := valAt (tabB xs rs)) (st_k hf) (by rw [List.length_map]; omega) (fun x => rfl) hN (fun x hx H5 e5 Q q => ?_) (fun x hx _ H5 e5 Q q => ?_) (fun H' e' hd => ⟨e' _ _ hf, ?_⟩)
          · obtain ⟨j, v, r, rfl, hj, hj2⟩ := keyOf x hx
            have q1 := q H5 (Ex.refl _)
            rw [show isnt n (.str r.nm) = !decide (V.str r.nm = V.str n) by show (!decide (r.nm = n)) = _; congr 1; rw [Bool.eq_iff_iff]; simp] at q1
            exact ⟨_, rfl, _, rfl, rfl, _, rfl, q1⟩
          · obtain ⟨j, v, r, rfl, hj, hj2⟩ := keyOf x hx
            have hv2 := tabB_at R.nd hj hj2
            have q1 := q H5 (Ex.refl _)
            rw [show valAt (tabB xs rs) (.str r.nm) = v by show (valV (tabB xs rs) (.inr r.nm)).getD .non = v; rw [hv2]; rfl] at q1
            refine ⟨_, rfl, b, C_Box, dx, _, _, rfl, e5 _ _ hb2, B.cl, B.n1, tb1, _, rfl, t, v, rfl, ?_, q1⟩
            rw [← hv2]
            exact frz_get (H' := H5) (k := .inr r.nm) (e5 _ _ hf)
          have ex := unlock_ex hT1 e'
          have nNt : N ≠ t := fun z => by rw [z, hf] at hN; cases hN
          have hN2 : upd H' t (.dK (tabB xs rs)) N = some (.lst (dropV n xs rs)) := by
            rw [upd_ne nNt, hd, drop_of xl (fun i v r h1 h2 => tabB_at R.nd h1 h2)]
          generalize upd H' t (.dK (tabB xs rs)) = H3 at ex hN2
          have E3 := e1.trans ex
          intro o m ho hm' hne
          refine ⟨H3, o, m, .ref N, rfl, (Ex.new hm').trans (Ex.new (by rw [upd_ne hne.symm]; exact ho)), ho, upd_same, ?_⟩
          have pr := drop_pr (n := n) (Paired.mapP h3 fun _ _ z => InsAt.ex E3 z)
          have dl := dropI_least (n := n) R.nd
          have dm : (dropI n rs).length ≤ rs.length := List.length_filter_le _ _
          have xl2 := Paired.length pr
          refine .inr ⟨N, dropV n xs rs, dropI n rs, rfl, ⟨.inl hN2, by omega, by omega, by rw [← xl2, List.take_length]; exact pr, dropI_names R.nd, fun x hx => ?_⟩, fun _ => fun H' t' e' hb ht => ⟨rfl, good H' o t' (E3.trans e') (fresh_back E3 ht) (fresh_back E3 ho) hb⟩, fun z => by omega⟩
          rw [List.getElem?_eq_none (by omega)] at hx
          cases hx
      · have hval := tabB_no xl hin
        rcases out with ⟨bad, _⟩ | ⟨n', en, _, hin', _⟩
        · refine ⟨_, rfl, _, rfl, b, C_Box, dx, _, _, rfl, e1 _ _ h1, B.cl, B.n1, tb1, t, none, rfl, .inl ⟨_, .inr n, .inl (e1 _ _ h2), rfl, hval.symm⟩, true, rfl, iteT ⟨_, rfl, raise_go fun d hd => bad H1 d e1 hd⟩⟩
        · cases en
          exact absurd hin' hin
end
end WK

set_option Elab.async false
set_option linter.all false
set_option maxRecDepth 100000
set_option maxHeartbeats 4000000
/-! ==, !=, in of data whose texts may hold any signs. -/
namespace WW
open PySem PySem.Spec PyProof.Rows L2
/-- no dict within, not too deep -/
def okP (d : PyData) : Bool := d.plain && decide (d.depth ≤ 60)
section
variable {X : Cx}
def rEqP (K : PySem.W.Frag) : R2 := fun x y H Q => ∃ d e, Dp K H x d ∧ Dp K H y e ∧ okP d = true ∧ okP e = true ∧ Q (.bl (PyData.eqv d e)) H
def rNeP (K : PySem.W.Frag) : R2 := fun x y H Q => ∃ d e, Dp K H x d ∧ Dp K H y e ∧ okP d = true ∧ okP e = true ∧ Q (.bl (!PyData.eqv d e)) H
def rInP (K : PySem.W.Frag) : R2 := fun x y H Q => ∃ d ds, Dp K H x d ∧ Dp K H y (.list ds) ∧ okP d = true ∧ okP (.list ds) = true ∧ Q (.bl (ds.any fun z => PyData.eqv z d)) H
theorem okP_p {d : PyData} (h : okP d = true) : d.plain = true ∧ d.depth ≤ 60 := by
  unfold okP at h
  rw [Bool.and_eq_true, decide_eq_true_eq] at h
  exact h
theorem op_eqP (hu : X.A.units + 64 < cLine) : OpR X (compareOp .Eq) (rEqP X.K) := by
  intro pins s σ H x y v u Q I rx ry h
  obtain ⟨d, e, hd, he, sd, se, q⟩ := h
  obtain ⟨as, r1⟩ := Dp.reads I d x v hd rx
  obtain ⟨bs, r2⟩ := Dp.reads I e y u he ry
  have h1 := (okP_p sd).2
  have h2 : min d.depth e.depth ≤ d.depth := Nat.min_le_left _ _
  exact SeqAt.eq_plain r1 r2 (okP_p sd).1 (okP_p se).1 (by omega) ⟨.bl _, H, I, rfl, q⟩
theorem op_neP (hu : X.A.units + 64 < cLine) : OpR X (compareOp .NotEq) (rNeP X.K) := by
  intro pins s σ H x y v u Q I rx ry h
  obtain ⟨d, e, hd, he, sd, se, q⟩ := h
  obtain ⟨as, r1⟩ := Dp.reads I d x v hd rx
  obtain ⟨bs, r2⟩ := Dp.reads I e y u he ry
  have h1 := (okP_p sd).2
  have h2 : min d.depth e.depth ≤ d.depth := Nat.min_le_left _ _
  exact SeqAt.ne_plain r1 r2 (okP_p sd).1 (okP_p se).1 (by omega) ⟨.bl _, H, I, rfl, q⟩
theorem op_inP (hu : X.A.units + 64 < cLine) : OpR X (compareOp .In) (rInP X.K) := by
  intro pins s σ H x y v u Q I rx ry h
  obtain ⟨d, ds, hd, he, sd, se, q⟩ := h
  obtain ⟨as, r1⟩ := Dp.reads I d x v hd rx
  obtain ⟨bs, r2⟩ := Dp.reads I (.list ds) y u he ry
  have h1 := (okP_p sd).2
  have h2 : min (PyData.depthAll ds) d.depth ≤ d.depth := Nat.min_le_right _ _
  exact SeqAt.in_list_data r2 r1 (okP_p se).1 (okP_p sd).1 (by omega) ⟨.bl _, H, I, rfl, q⟩
end
end WW

set_option Elab.async false
set_option linter.all false
set_option maxRecDepth 100000
set_option maxHeartbeats 4000000
/-! == of two dicts whose values are compared by a class's own __eq__ (which only makes things), whatever it answers. -/
namespace WW
open PySem PySem.Spec PyProof.Rows L2
section
variable {prog : Program} {w : World} {κ : Type} [DecidableEq κ] {knd : KeyKind prog w κ} {A : Around} {E : Value → Shared → Prop} {s : Shared}
/-- entry by entry, while both dicts stay just what they are and J holds on -/
theorem dict_pairsJ {nm : String} {a b : Addr} {ka kb : List (κ × Value)} {oa ob : Obj} {es es' : Array DictEntry} {ep ep' : Nat} {ok : Nat → Bool} {Q : Bool → Shared → Prop} (J : Shared → Prop)
    (na : (a == sysModules) = false) (nb : (b == sysModules) = false) (ia : ∀ t, J t → t.heap.get? a = some oa) (ib : ∀ t, J t → t.heap.get? b = some ob)
    (ea : oa.data = .dict es ep) (eb : ob.data = .dict es' ep') (hka : KeysOf knd es) (hkb : KeysOf knd es') (pa : Pairs knd es.toList ka) (pb : Pairs knd es'.toList kb) (same : ka.length = kb.length)
    (turn : ∀ i k v, ka[i]? = some (k, v) → ∃ y, valueAt kb k = some y ∧ ∀ t, J t → wpAny (model prog w) A (eqBool v y) (fun r t' => r = ok i ∧ J t') E t)
    (start : J s) (fin : ∀ t, J t → Q ((List.range ka.length).all ok) t) : wpAny (model prog w) A (Builtin.Dict.samePairs nm a b) Q E s := by
  have la : ka.length = es.size := by rw [← pa.length]; exact Array.length_toList
  have lb : kb.length = es'.size := by rw [← pb.length]; exact Array.length_toList
  have sz : es.size = es'.size := by rw [← la, ← lb]; exact same
  have look : ∀ k, findBy knd.is es' k = valueAt kb k := fun k => by
    rw [← pb.find k]
    clear lb pb hkb eb sz
    obtain ⟨l⟩ := es'
    simp [findBy]
  have stop : ∀ i, i < ka.length → ok i = false → (List.range ka.length).all ok = false := fun i hi h => by
    rw [List.all_eq_false]
    exact ⟨i, List.mem_range.mpr hi, by rw [h]; decide⟩
  unfold Builtin.Dict.samePairs Builtin.Dict.showsAll
  rw [if_neg (show ¬ (a == sysModules) = true by rw [na]; exact Bool.false_ne_true), if_neg (show ¬ (b == sysModules) = true by rw [nb]; exact Bool.false_ne_true)]
  refine wpAny_bind (wpAny_pure (wpAny_bind (wpAny_pure ?_)))
  refine wpAny_bind (wpAny_dictEntries (ia s start) ea ?_)
  dsimp only
  refine wpAny_bind (wpAny_dictEntries (ib s start) eb ?_)
  rw [if_neg (by rw [sz]; simp)]
  refine wpAny_bind (wpAny_dictEpoch (ia s start) ea ?_)
  refine wpAny_bind ?_
  rw [Std.Legacy.Range.forIn_eq_forIn_range']
  simp only [Std.Legacy.Range.size, Nat.sub_zero, Nat.add_sub_cancel, Nat.div_one]
  refine wpAny_forIn_list _ (fun rest q t => J t ∧ q = (none, ()) ∧ ∃ i, rest = List.range' i (es.size - i) ∧ i ≤ es.size ∧ ∀ j, j < i → ok j = true) _ ?_ ?_ _ _ ⟨start, rfl, 0, by simp, Nat.zero_le _, fun j h => absurd h (Nat.not_lt_zero j)⟩
  · rintro x rest q t ⟨hJ, rfl, i, hr, hi, before⟩
    have hlt : i < es.size := by
      rcases Nat.lt_or_ge i es.size with h | h
      · exact h
      · rw [Nat.sub_eq_zero_of_le h] at hr; simp at hr
    obtain ⟨rfl, hrest⟩ : x = i ∧ rest = List.range' (i + 1) (es.size - (i + 1)) := by
      have e : es.size - i = (es.size - (i + 1)) + 1 := by omega
      rw [e, List.range'_succ] at hr
      injection hr with h1 h2
      exact ⟨h1, h2⟩
    refine wpAny_bind (wpAny_dictEntries (ia t hJ) ea ?_)
    rw [Array.getElem?_eq_getElem hlt]
    have hlt' : x < ka.length := by rw [la]; exact hlt
    obtain ⟨k, v, hkv⟩ : ∃ k v, ka[x]? = some (k, v) := ⟨_, _, List.getElem?_eq_getElem hlt'⟩
    obtain ⟨hkey, hval⟩ := pa.get? (i := x) (e := es[x]) (k := k) (v := v) (by rw [Array.getElem?_toList]; exact Array.getElem?_eq_getElem hlt) hkv
    obtain ⟨k', hk', hh⟩ := hka es[x] (Array.getElem_mem hlt)
    have ekk : k' = k := knd.inj _ _ _ hk' hkey
    rw [ekk] at hh
    obtain ⟨y, hy, step⟩ := turn x k v hkv
    show wpAny _ _ (holding [es[x].key, es[x].val] _ >>= _) _ _ _
    rw [hh]
    refine wpAny_bind (wpAny_holding (wpAny_bind (wpAny_dictFind_of hkey (ib t hJ) eb hkb ?_)))
    cases hj : es'.findIdx? fun e => knd.is k e.key with
    | none =>
      have hn : valueAt kb k = none := by rw [← look k, findBy_of_findIdx?, hj]
      rw [hn] at hy
      exact nomatch hy
    | some j =>
      obtain ⟨hjlt, _, _⟩ := Array.findIdx?_eq_some_iff_getElem.mp hj
      have hv' : valueAt kb k = some es'[j].val := by
        rw [← look k, findBy_of_findIdx?, hj]
        simp [Array.getElem?_eq_getElem hjlt]
      refine wpAny_bind (wpAny_dictEntries (ib t hJ) eb ?_)
      rw [Array.getElem?_eq_getElem hjlt]
      have ey : es'[j].val = y := Option.some.inj (hv'.symm.trans hy)
      have st := step t hJ
      rw [← ey, ← hval] at st
      refine wpAny_holding (wpAny_mono st (fun r t' hr' => ?_) fun _ _ z => z)
      obtain ⟨rfl, hJ'⟩ := hr'
      cases hok : ok x with
      | false =>
        have q := fin t' hJ'
        rw [stop x hlt' hok] at q
        show wpAny _ _ (if (!false) = true then _ else _) _ _ _
        rw [if_pos (by decide)]
        exact wpAny_pure (wpAny_pure q)
      | true =>
        show wpAny _ _ (if (!true) = true then _ else _) _ _ _
        rw [if_neg (by decide)]
        refine wpAny_bind (wpAny_dictEpoch (ia t' hJ') ea ?_)
        rw [if_neg (by simp)]
        refine wpAny_pure ⟨hJ', rfl, x + 1, hrest, hlt, fun j h => ?_⟩
        rcases Nat.lt_succ_iff_lt_or_eq.mp h with h | rfl
        · exact before j h
        · exact hok
  · rintro q t ⟨hJ, rfl, i, hr, hi, before⟩
    have hin : i = es.size := by
      rcases Nat.lt_or_ge i es.size with h | h
      · have e : es.size - i = (es.size - (i + 1)) + 1 := by omega
        rw [e, List.range'_succ] at hr; exact nomatch hr
      · exact Nat.le_antisymm hi h
    have q := fin t hJ
    rw [List.all_eq_true.mpr (fun j h => before j (by rw [hin, ← la]; exact List.mem_range.mp h))] at q
    exact wpAny_pure q
/-- the same as == -/
theorem dict_eqJ {a b : Addr} {ka kb : List (κ × Value)} {oa ob : Obj} {es es' : Array DictEntry} {ep ep' : Nat} {ok : Nat → Bool} {Q : Value → Shared → Prop} (J : Shared → Prop)
    (na : (a == sysModules) = false) (nb : (b == sysModules) = false) (ia : ∀ t, J t → t.heap.get? a = some oa) (ib : ∀ t, J t → t.heap.get? b = some ob)
    (ta : s.TypeIs (.ref a) "dict") (tb : s.TypeIs (.ref b) "dict")
    (ea : oa.data = .dict es ep) (eb : ob.data = .dict es' ep') (hka : KeysOf knd es) (hkb : KeysOf knd es') (pa : Pairs knd es.toList ka) (pb : Pairs knd es'.toList kb) (same : ka.length = kb.length)
    (turn : ∀ i k v, ka[i]? = some (k, v) → ∃ y, valueAt kb k = some y ∧ ∀ t, J t → wpAny (model prog w) A.in1 (eqBool v y) (fun r t' => r = ok i ∧ J t') E t)
    (hu : A.units < cLine) (start : J s) (fin : ∀ t, J t → Q (.bool ((List.range ka.length).all ok)) t) : wpAny (model prog w) A (richCompare .Eq (.ref a) (.ref b)) Q E s := by
  refine wpAny_richCompare_same_room (op := .Eq) ta tb PySem.F.slot_dict_eq (wpAny_call_entry PySem.F.slot_dict_eq ta PySem.F.entry_dict_eq ?_ (PySem.F.args_dict_eq_2 _ _)) hu
  show wpAny _ _ (Builtin.Dict.dictSlotArgs "__eq__" ⟨[.ref a, .ref b], []⟩ >>= _) _ _ s
  refine wpAny_bind ?_
  unfold Builtin.Dict.dictSlotArgs
  refine wpAny_bind (wpAny_notOrdered_dict ta ?_)
  show wpAny _ _ (pure (Value.ref a, Value.ref b)) _ _ s
  refine wpAny_pure ?_
  refine wpAny_bind (wpAny_isInstance (T := "dict") tb PySem.F.sub_dict_dict ?_)
  simp only [Bool.not_true, Bool.false_eq_true, if_false]
  refine wpAny_bind (wpAny_pure (wpAny_bind (wpAny_pure ?_)))
  exact wpAny_bind (dict_pairsJ J na nb ia ib ea eb hka hkb pa pb same turn start fun t h => wpAny_pure ⟨_, rfl, (fun x => nomatch x), by simpa using fin t h⟩)
end
theorem prd_atW {α β : Type} {R : α → β → Prop} : ∀ {xs : List α} {os : List β} {i : Nat} {x : α}, Paired R xs os → xs[i]? = some x → ∃ o, os[i]? = some o ∧ R x o
  | _, _, _, _, .nil, e => by simp at e
  | _, _, 0, _, .cons h _, e => by
    simp at e
    subst e
    exact ⟨_, rfl, h⟩
  | _, _, i + 1, _, .cons _ r, e => by simpa using prd_atW r (by simpa using e)
/-- how two values compare, by the abstract heap -/
abbrev EqvB := V → V → Bool → Hp → Prop
def EqB (X : Cx) (n : Nat) (D : EqvB) : Prop :=
  ∀ (A : Around) (pins : List (Addr × Obj)) (s : Shared) (σ : L2.St) (H : Hp) (x y : V) (u v : Value) (r : Bool), Sub X n A → Inv X pins σ H s → RelV x u → RelV y v → D x y r H →
    wpAny (model X.prog X.w) A (eqBool u v) (fun r' s' => r' = r ∧ ∃ H', Inv X pins σ H' s' ∧ Ext H H') X.xe s
def rEqOwnD (D : EqvB) : R2 := fun x y H Q => ∃ (a b : Addr) (ks ls : List (Key × V)) (e : Nat → Bool), x = .ref a ∧ y = .ref b ∧ a ≠ b ∧ H a = some (.dK ks) ∧ H b = some (.dK ls) ∧ ks.length = ls.length ∧
  (∀ oa ob i k v, ks[i]? = some (k, v) → ∃ y, valV ls k = some y ∧ ∀ H', Ext (upd (upd H a (.frz oa (.dK ks))) b (.frz ob (.dK ls))) H' → D v y (e i) H') ∧
  ∀ H', Ext H H' → Q (.bl ((List.range ks.length).all e)) H'
section
variable {X : Cx} {n : Nat} {D : EqvB}
theorem op_eqOwnD (h : EqB X n D) (hr : Room (n + 1) X.A) : OpR X (compareOp .Eq) (rEqOwnD D) := by
  intro pins s σ H x y v u Q I rx ry hq
  obtain ⟨a, b, ks, ls, e, rfl, rfl, nab, ha, hb, hl, hp, q⟩ := hq
  cases rx
  cases ry
  show wpAny (model X.prog X.w) X.A (richCompare .Eq (.ref a) (.ref b)) (EP X pins σ Q) X.xe s
  have muA : Mut (some (HO.dK ks)) := trivial
  have muB : Mut (some (HO.dK ls)) := trivial
  obtain ⟨oa, I1⟩ := I.lock ha muA
  have hb1 : upd H a (.frz oa (.dK ks)) b = some (.dK ls) := by rw [upd_ne (Ne.symm nab)]; exact hb
  have nfA := I.nofrz ha muA
  have nfB := I.nofrz hb muB
  obtain ⟨ob, I2⟩ := I1.lock hb1 muB
  have la : upd (upd H a (.frz oa (.dK ks))) b (.frz ob (.dK ls)) a = some (.frz oa (.dK ks)) := by rw [upd_ne nab, upd_same]
  have lb : upd (upd H a (.frz oa (.dK ks))) b (.frz ob (.dK ls)) b = some (.frz ob (.dK ls)) := upd_same
  have hp' := hp oa ob
  have e12 : ∀ H', Ext (upd (upd H a (.frz oa (.dK ks))) b (.frz ob (.dK ls))) H' → Ext H (upd (upd H' a (.dK ks)) b (.dK ls)) := fun H' ex c o hc => by
    by_cases c2 : c = b
    · rw [c2, upd_same, ← hb, ← c2, hc]
    · rw [upd_ne c2]
      by_cases c1 : c = a
      · rw [c1, upd_same, ← ha, ← c1, hc]
      · rw [upd_ne c1]
        exact ex c o (by rw [upd_ne c2, upd_ne c1]; exact hc)
  clear hp
  generalize upd (upd H a (.frz oa (.dK ks))) b (.frz ob (.dK ls)) = H2 at I2 la lb hp' e12
  obtain ⟨na, ga, xa, es, ep, va, da, _, ra, fa⟩ := I2.frzK la
  obtain ⟨nb, gb, xb, es', ep', vb, db, _, rb, fb⟩ := I2.frzK lb
  obtain ⟨oa', es1, ga', xa', da', ka, pa, _⟩ := fa
  obtain ⟨ob', es2, gb', xb', db', kb, pb, _⟩ := fb
  have t1 : s.heap.get? a = some oa := ga
  rw [ga] at ga'; cases ga'
  rw [gb] at gb'; cases gb'
  have z1 := da.symm.trans da'
  have z2 := db.symm.trans db'
  cases z1
  cases z2
  have stay : ∀ t, (∃ H', Inv X pins σ H' t ∧ Ext H2 H') → t.heap.get? a = some oa ∧ t.heap.get? b = some ob := fun t ⟨H', I', ex⟩ => ⟨(I'.frzK (ex _ _ la)).2.1, (I'.frzK (ex _ _ lb)).2.1⟩
  refine dict_eqJ (knd := mixKind X.prog X.w) (ok := e) (fun t => ∃ H', Inv X pins σ H' t ∧ Ext H2 H') na nb (fun t h => (stay t h).1) (fun t h => (stay t h).2) ⟨oa, ga, xa.1⟩ ⟨ob, gb, xb.1⟩ da db ka kb pa pb (by rw [← ra.length, ← rb.length]; exact hl) ?_ hr.units0 ⟨H2, I2, Ext.rfl'⟩ ?_
  · intro i k v hi
    have k1 : i < ks.length := by rw [ra.length]; exact (List.getElem?_eq_some_iff.mp hi).1
    obtain ⟨⟨kk, vv⟩, hkv⟩ : ∃ q : Key × V, ks[i]? = some q := ⟨_, List.getElem?_eq_getElem k1⟩
    obtain ⟨q2, hq2, rk, rv⟩ := prd_atW ra hkv
    rw [hi] at hq2
    cases hq2
    obtain rfl : kk = k := rk
    obtain ⟨y, hy, hD⟩ := hp' i _ _ hkv
    have rr : RelO (some y) (valueAt vb kk) := by rw [← hy]; exact rb.val kk
    obtain ⟨y', hy', ry⟩ := rr.some_of
    refine ⟨y', hy', fun t ⟨H', I', ex⟩ => ?_⟩
    refine wpAny_mono (h X.A.in1 pins t σ H' _ _ v y' (e i) ⟨hr.in1, rfl⟩ I' rv ry (hD H' ex)) (fun r t' z => ?_) fun _ _ z => z
    obtain ⟨z1, H'', I'', ex'⟩ := z
    exact ⟨z1, H'', I'', ex.trans ex'⟩
  · rintro t ⟨H', I', ex⟩
    have I3 := I'.unlock (ex _ _ la) nfA
    have I4 := I3.unlock (d := b) (by rw [upd_ne (Ne.symm nab)]; exact ex _ _ lb) nfB
    rw [← ra.length]
    exact ⟨.bl _, _, I4, rfl, q _ (e12 H' ex)⟩
end
/-- instances of the class at C, compared by its own __eq__ -/
def DInsB (K : PySem.W.Frag) (C : Addr) (R : EqvB) : EqvB := fun x y r H => ∃ a dx fs b C' dy gs, x = .ref a ∧ y = .ref b ∧ (a = b → r = true) ∧ H a = some (.ins C dx fs) ∧ H b = some (.ins C' dy gs) ∧ PySem.W.notFirst K C (.ref C') = true ∧ R x y r H
def spEqB (R : EqvB) : Sp := fun vs H Q _ => ∃ x y r, vs = [x, y] ∧ R x y r H ∧ ∀ H', Ext H H' → Q (.bl r) H'
section
variable {X : Cx} {n : Nat} {D D' : EqvB}
theorem EqB.mono {m : Nat} (h : EqB X n D) (hn : n ≤ m) : EqB X m D := fun A pins s σ H x y u v r sb => h A pins s σ H x y u v r (sb.mono hn)
theorem EqB.or (h : EqB X n D) (h' : EqB X n D') : EqB X n (fun x y r H => D x y r H ∨ D' x y r H) := fun A pins s σ H x y u v r sb I rx ry d => by
  rcases d with d | d
  · exact h A pins s σ H x y u v r sb I rx ry d
  · exact h' A pins s σ H x y u v r sb I rx ry d
theorem eqB_ins {CX : CXT} {C f : Addr} {fd : FuncData} {ps : List Str} {R : EqvB} {E : XK} (F : FnOk X.prog X.w X.K X.mg X.base CX n f fd ps (spEqB R))
    (hs : PySem.W.findIn X.K (.ref C) "__eq__" = some (some (.ref f))) (hf : PySem.W.isFn X.K (.ref f) = true) (hb : Binds X.K fd ps []) (hx : Passes CX X E) : EqB X n (DInsB X.K C R) := by
  intro A pins s σ H x y u v r sb I rx ry d
  obtain ⟨a, dx, fs, b, C', dy, gs, rfl, rfl, nab, ha, hb', hn, hr⟩ := d
  cases rx
  cases ry
  by_cases hab : a = b
  · rw [nab hab]
    subst hab
    exact SeqAt.EqAt.same (A := A) (s := s) (.ref a) X.prog X.w X.xe _ ⟨rfl, H, I, Ext.rfl'⟩
  refine GQ.eqBool_refG hab ?_
  obtain ⟨mA, J, _⟩ := ins_get I.hok ha
  obtain ⟨mB, J', _⟩ := ins_get I.hok hb'
  obtain ⟨od, J, _⟩ := J.look
  obtain ⟨od', J', _⟩ := J'.look
  obtain ⟨m, hF⟩ := I.fr
  refine PySem.W.cmp_K (op := .Eq) (tb := .ref C') sb.room.units0 hF I.ok.mod.kin J J'.type hn hs hf ?_
  have hsp : spEqB R [.ref a, .ref b] H (fun v H' => v = .bl r ∧ Ext H H') E := ⟨_, _, r, rfl, hr, fun H' e => ⟨rfl, e⟩⟩
  have e0 : Env0 X.prog X.w X.K X.mg X.base A X.stack s H := by
    have e := I.env0
    exact ⟨by rw [sb.fr]; exact e.frames, e.mod, e.bs, e.bsz, e.funs, e.frf, e.hok, e.bare⟩
  have hl := F.len _ _ _ _ hsp
  have r2 : Vals [V.ref a, V.ref b] [Value.ref a, Value.ref b] := .cons rfl (.cons rfl .nil)
  refine wpAny_call (codeAny_mono (F.run A X.stack s H ⟨[.ref a, .ref b], []⟩ [.ref a, .ref b] [.ref a, .ref b] _ E sb.room e0 (by
    have := hb s [.ref a, .ref b] I.kIn (by simpa using hl)
    simpa using this) r2 hsp) fun r' s' hq => ?_)
  cases r' with
  | error e => exact hx pins σ H s e s' I hq
  | ok fl =>
    cases fl with
    | ret w =>
      obtain ⟨z, H', I', rz, ez, ex⟩ := I.after hq
      subst ez
      cases rz
      exact ⟨r, rfl, rfl, H', I', ex⟩
    | next => exact False.elim hq
    | brk => exact False.elim hq
    | cont => exact False.elim hq
end
end WW

set_option Elab.async false
set_option linter.all false
set_option maxRecDepth 100000
set_option maxHeartbeats 4000000
namespace WK
open PySem PySem.Spec PyProof.Rows L2 WW Evl
theorem eqv_refl {d : PyData} (h : okP d = true) : PyData.eqv d d = true := SeqAt.eqv_refl_plain d (okP_p h).1
theorem eqvA_str : ∀ xs ys : List Str, PyData.eqvAll (xs.map PyData.str) (ys.map PyData.str) = decide (xs = ys)
  | [], [] => by simp [PyData.eqvAll]
  | [], _ :: _ => by simp [PyData.eqvAll]
  | _ :: _, [] => by simp [PyData.eqvAll]
  | x :: xs, y :: ys => by
    rw [List.map_cons, List.map_cons, PyData.eqvAll, eqvA_str xs ys, PyData.eqv, Bool.eq_iff_iff]
    simp
theorem eqvL_str (xs ys : List Str) : PyData.eqv (.list (xs.map PyData.str)) (.list (ys.map PyData.str)) = decide (xs = ys) := by
  rw [PyData.eqv, eqvA_str]
theorem plnA_str : ∀ xs : List Str, PyData.plainAll (xs.map PyData.str) = true ∧ PyData.depthAll (xs.map PyData.str) = 0
  | [] => ⟨rfl, rfl⟩
  | x :: xs => by
    obtain ⟨h1, h2⟩ := plnA_str xs
    refine ⟨by rw [List.map_cons, PyData.plainAll, h1]; rfl, ?_⟩
    rw [List.map_cons, PyData.depthAll, h2]
    rfl
theorem okP_strs (xs : List Str) : okP (.list (xs.map PyData.str)) = true := by
  obtain ⟨h1, h2⟩ := plnA_str xs
  unfold okP
  rw [show (PyData.list (xs.map PyData.str)).plain = true from h1, decide_eq_true (by rw [PyData.depth, h2]; decide)]
  rfl
theorem dpA_str {K : PySem.W.Frag} {H : Hp} : ∀ xs : List Str, DpAll K H (xs.map V.str) (xs.map PyData.str)
  | [] => .nil
  | x :: xs => .cons (.str x) (dpA_str xs)
theorem dp_strs {K : PySem.W.Frag} {H : Hp} {l : Addr} {xs : List Str} (h : H l = some (.lst (xs.map V.str))) : Dp K H (.ref l) (.list (xs.map PyData.str)) := .lst (sq_of h) (dpA_str xs)
theorem sf4 {nm : Str} {po co : Int} {d : Addr} : (sf nm po d co).lookup ("_cost" : Str) = some (.int co) := by unfold sf; rw [lookup_putF, if_pos rfl]
theorem lf4 {nm : Str} {po co : Int} {d : Addr} : (lf nm po d co).lookup ("_cost" : Str) = some (.int co) := by unfold lf; rw [lookup_putF, if_pos rfl]
/-- the same at another cost -/
def Ins.cost (r : Ins) (c : Int) : Ins := { r with co := c }
theorem cost_of {CS CL : Addr} {H : Hp} {v : V} {i : Ins} {c : Int} (h1 : InsAt CS CL H v i) (h2 : InsAt CS CL H v (i.cost c)) : i.co = c := by
  obtain ⟨a, dx, d, rfl, ⟨lk, h1, _⟩ | ⟨lk, h1, _⟩⟩ := h1
  · obtain ⟨a', dx', d', e, ⟨_, h2, _⟩ | ⟨lk', _⟩⟩ := h2
    · cases e
      rw [h1] at h2
      have e3 : lf i.nm i.po d i.co = lf (i.cost c).nm (i.cost c).po d' (i.cost c).co := (HO.ins.inj (Option.some.inj h2)).2.2
      have e4 := congrArg (fun l => List.lookup ("_cost" : Str) l) e3
      simp only [lf4] at e4
      exact V.int.inj (Option.some.inj e4)
    · have : i.lk = false := lk'
      rw [lk] at this
      cases this
  · obtain ⟨a', dx', d', e, ⟨lk', _⟩ | ⟨_, h2, _⟩⟩ := h2
    · have : i.lk = true := lk'
      rw [lk] at this
      cases this
    · cases e
      rw [h1] at h2
      have e3 : sf i.nm i.po d i.co = sf (i.cost c).nm (i.cost c).po d' (i.cost c).co := (HO.ins.inj (Option.some.inj h2)).2.2
      have e4 := congrArg (fun l => List.lookup ("_cost" : Str) l) e3
      simp only [sf4] at e4
      exact V.int.inj (Option.some.inj e4)
theorem tabX_keys (r : Ins) : r.tabX.map (·.1) = (sortS r.ws).map Sum.inr := by
  unfold Ins.tabX
  rw [List.map_map, List.map_map]
  rfl
theorem tabX_ok {r : Ins} (ok : r.Ok) (lk : r.lk = false) : ∀ p ∈ r.tabX, valV r.tabX p.1 = some p.2 ∧ flatB p.2 = true := by
  have nd : (r.tabX.map (·.1)).Nodup := by
    rw [tabX_keys]
    exact List.pairwise_map.mpr (List.Pairwise.imp (fun h e => h (Sum.inr.inj e)) ((sortS_perm _).nodup_iff.mpr ok.nd))
  intro p hp
  refine ⟨val_nodup nd p hp, ?_⟩
  unfold Ins.tabX at hp
  obtain ⟨x, hx, rfl⟩ := List.mem_map.mp hp
  obtain ⟨z, hz, rfl⟩ := List.mem_map.mp hx
  obtain ⟨vz, hvz⟩ := val_some.mpr (show (Sum.inr z : Key) ∈ r.tab.map (·.1) by rw [ok.keys lk]; exact List.mem_map_of_mem (sortS_mem.mp hz))
  show flatB ((valV r.tab (.inr z)).getD .non) = true
  rw [hvz]
  have mem : ∀ {l : List (Key × V)} {k : Key} {v : V}, valV l k = some v → (k, v) ∈ l := by
    intro l
    induction l with
    | nil => intro k v h; cases h
    | cons q l ih =>
      intro k v h
      by_cases e : q.1 = k
      · rw [valV_pos e] at h
        cases h
        rw [← e]
        exact List.mem_cons_self
      · rw [valV_neg e] at h
        exact List.mem_cons_of_mem _ (ih h)
  obtain ⟨x, y, e, _, _⟩ := (ok.tabS lk).each _ (mem hvz)
  cases e
  rfl
theorem tabX_len {r : Ins} (ok : r.Ok) : r.tabX ≠ [] := by
  intro z
  have := congrArg List.length (tabX_keys r)
  rw [z, List.map_nil, List.length_map, sortS_len] at this
  have h1 := ok.row.least
  simp at this
  omega
/-- a table that is no sensor's -/
theorem InsAt.put {CS CL : Addr} {H : Hp} {v : V} {r : Ins} {t : Addr} {T : List (Key × V)} {o : HO} (ok : r.Ok) (h : InsAt CS CL H v r) (ht : H t = some (.dK T)) (hT : ∀ p ∈ T, flatB p.2 = false) : InsAt CS CL (upd H t o) v r := by
  obtain ⟨a, dx, d, rfl, ⟨lk, h1, h2⟩ | ⟨lk, h1, h2⟩⟩ := h
  · exact ⟨a, dx, d, rfl, .inl ⟨lk, by rw [upd_ne (fun z => by rw [z, ht] at h1; cases h1)]; exact h1, by rw [upd_ne (fun z => by rw [z, ht] at h2; cases h2)]; exact h2⟩⟩
  · refine ⟨a, dx, d, rfl, .inr ⟨lk, by rw [upd_ne (fun z => by rw [z, ht] at h1; cases h1)]; exact h1, ?_⟩⟩
    rw [upd_ne (fun z => ?_)]
    · exact h2
    · rw [z, ht] at h2
      have e : T = r.tabX := HO.dK.inj (Option.some.inj h2)
      cases hx : r.tabX with
      | nil => exact tabX_len ok hx
      | cons p l =>
        have m : p ∈ r.tabX := by rw [hx]; exact List.mem_cons_self
        have f1 := (tabX_ok ok lk p m).2
        have f2 := hT p (by rw [e]; exact m)
        rw [f1] at f2
        cases f2
theorem tabB_refs {CS CL : Addr} {H : Hp} : ∀ {vs : List V} {rs : List Ins}, Paired (InsAt CS CL H) vs rs → ∀ p ∈ tabB vs rs, flatB p.2 = false
  | _, _, .nil, p, hp => by cases hp
  | _, _, .cons g t, p, hp => by
    rcases List.mem_cons.mp hp with rfl | hp
    · obtain ⟨a, dx, d, rfl, _⟩ := g
      rfl
    · exact tabB_refs t p hp
/-- how instruments compare that differ at most in their cost -/
def RIns (b : Bool) (CS CL : Addr) : EqvB := fun v u r H => ∃ i c, InsAt CS CL H v i ∧ InsAt CS CL H u (i.cost c) ∧ i.Ok ∧ i.lk = b ∧ r = decide (i.co = c)
section
variable {P : Program} {w : World} {K : PySem.W.Frag} {mg : Str → Option Value} {base : Heap} {f : Addr} {fd : FuncData}
abbrev s_Sensor___eq__ : Stmt := inClass (top 21) 1
theorem sc_Sensor___eq__ : FnScope ["self", "other"] ["self", "other"] (defScope s_Sensor___eq__) := ⟨rfl, rfl, rfl, by decide +kernel, rfl, by decide +kernel, by decide +kernel⟩
theorem ok_eqS {C_Sensor C_Lock : Addr} (G : Gz mg) (T : ICl K mg C_Sensor C_Lock) (D : FunD K "__eq__" "Sensor.__eq__" (defArgs s_Sensor___eq__) (defBody s_Sensor___eq__) (defScope s_Sensor___eq__) [] [] f fd) : FnOk P w K mg base CXn 1 f fd ["self", "other"] (spEqB (RIns false C_Sensor C_Lock)) := by
  have g_Sensor := T.atS
  refine D.ok sc_Sensor___eq__ (fun vs H Q E h => ?_) (fun cdv A outer s H vs Q E hr h => ⟨_, PSs.nox (pss_one (ps_ret (L2.pe_and (pe_callB (isiK (K := K) rfl) rfl G.g_isinstance (by rfl) (pa_cons (pv 1) (pa_cons (pe_glob (v := .ref C_Sensor) rfl g_Sensor rfl) pa_nil))) (L2.pe_and (pe_cmpR op_eq (pe_fld (pv 0) rfl) (pe_fld (pv 1) rfl) (nomark _)) (L2.pe_and (pe_cmpR op_eq (pe_fld (pv 0) rfl) (pe_fld (pv 1) rfl) (nomark _)) (L2.pe_and (pe_cmpR (op_eq_dictA hr.units0) (pe_fld (pv 0) rfl) (pe_fld (pv 1) rfl) (nomark _)) (pe_one (pe_cmpR op_eq (pe_fld (pv 0) rfl) (pe_fld (pv 1) rfl) (nomark _))))))))), ?_⟩)
  · obtain ⟨_, _, _, rfl, _⟩ := h
    rfl
  · obtain ⟨v, u, r, rfl, ⟨i, c, h1, h2, ok, lk, rfl⟩, k⟩ := h
    obtain ⟨a, dx, d, rfl, ⟨z, _⟩ | ⟨_, ha, hd⟩⟩ := h1
    · rw [lk] at z
      cases z
    obtain ⟨b, dy, d', rfl, ⟨z, _⟩ | ⟨_, hb, hd'⟩⟩ := h2
    · rw [show (i.cost c).lk = i.lk from rfl, lk] at z
      cases z
    refine ⟨_, rfl, .ref b, .ref C_Sensor, .ref C_Sensor, .ref C_Sensor, true, rfl, .own _, .base (T.isaS _ _ _ _ hb), T.kSS, true, rfl, ?_⟩
    refine ⟨_, rfl, a, C_Sensor, dx, _, _, rfl, ha, T.clS, T.s1, sf1, _, rfl, b, C_Sensor, dy, _, _, rfl, hb, T.clS, T.s1, sf1, rfl, true, congrArg V.bl (decide_eq_true (show V.str i.nm = V.str (i.cost c).nm from rfl)), ?_⟩
    refine ⟨_, rfl, a, C_Sensor, dx, _, _, rfl, ha, T.clS, T.s2, sf2, _, rfl, b, C_Sensor, dy, _, _, rfl, hb, T.clS, T.s2, sf2, rfl, true, congrArg V.bl (decide_eq_true (show V.int i.po = V.int (i.cost c).po from rfl)), ?_⟩
    refine ⟨_, rfl, a, C_Sensor, dx, _, _, rfl, ha, T.clS, T.s3, sf3, _, rfl, b, C_Sensor, dy, _, _, rfl, hb, T.clS, T.s3, sf3, d, d', i.tabX, i.tabX, rfl, rfl, hd, hd', rfl, tabX_ok ok lk, true, rfl, ?_⟩
    refine ⟨_, rfl, a, C_Sensor, dx, _, _, rfl, ha, T.clS, T.s4, sf4, _, rfl, b, C_Sensor, dy, _, _, rfl, hb, T.clS, T.s4, sf4, rfl, ?_⟩
    have q := k H (Ex.refl _)
    rw [show decide (i.co = c) = decide (V.int i.co = V.int c) by rw [Bool.eq_iff_iff]; simp] at q
    exact q
abbrev s_Lock___eq__ : Stmt := inClass (top 22) 1
theorem sc_Lock___eq__ : FnScope ["self", "other"] ["self", "other"] (defScope s_Lock___eq__) := ⟨rfl, rfl, rfl, by decide +kernel, rfl, by decide +kernel, by decide +kernel⟩
theorem ok_eqL {C_Sensor C_Lock : Addr} (G : Gz mg) (T : ICl K mg C_Sensor C_Lock) (D : FunD K "__eq__" "Lock.__eq__" (defArgs s_Lock___eq__) (defBody s_Lock___eq__) (defScope s_Lock___eq__) [] [] f fd) : FnOk P w K mg base CXn 1 f fd ["self", "other"] (spEqB (RIns true C_Sensor C_Lock)) := by
  have g_Lock := T.atL
  refine D.ok sc_Lock___eq__ (fun vs H Q E h => ?_) (fun cdv A outer s H vs Q E hr h => ⟨_, PSs.nox (pss_one (ps_ret (L2.pe_and (pe_callB (isiK (K := K) rfl) rfl G.g_isinstance (by rfl) (pa_cons (pv 1) (pa_cons (pe_glob (v := .ref C_Lock) rfl g_Lock rfl) pa_nil))) (L2.pe_and (pe_cmpR op_eq (pe_fld (pv 0) rfl) (pe_fld (pv 1) rfl) (nomark _)) (L2.pe_and (pe_cmpR op_eq (pe_fld (pv 0) rfl) (pe_fld (pv 1) rfl) (nomark _)) (L2.pe_and (pe_cmpR (op_eqP hr.units) (pe_fld (pv 0) rfl) (pe_fld (pv 1) rfl) (nomark _)) (pe_one (pe_cmpR op_eq (pe_fld (pv 0) rfl) (pe_fld (pv 1) rfl) (nomark _))))))))), ?_⟩)
  · obtain ⟨_, _, _, rfl, _⟩ := h
    rfl
  · obtain ⟨v, u, r, rfl, ⟨i, c, h1, h2, ok, lk, rfl⟩, k⟩ := h
    obtain ⟨a, dx, d, rfl, ⟨_, ha, hd⟩ | ⟨z, _⟩⟩ := h1
    rotate_left
    · rw [lk] at z
      cases z
    obtain ⟨b, dy, d', rfl, ⟨_, hb, hd'⟩ | ⟨z, _⟩⟩ := h2
    rotate_left
    · rw [show (i.cost c).lk = i.lk from rfl, lk] at z
      cases z
    refine ⟨_, rfl, .ref b, .ref C_Lock, .ref C_Lock, .ref C_Lock, true, rfl, .own _, .base (T.isaL _ _ _ _ hb), T.kLL, true, rfl, ?_⟩
    refine ⟨_, rfl, a, C_Lock, dx, _, _, rfl, ha, T.clL, T.l1, lf1, _, rfl, b, C_Lock, dy, _, _, rfl, hb, T.clL, T.l1, lf1, rfl, true, congrArg V.bl (decide_eq_true (show V.str i.nm = V.str (i.cost c).nm from rfl)), ?_⟩
    refine ⟨_, rfl, a, C_Lock, dx, _, _, rfl, ha, T.clL, T.l2, lf2, _, rfl, b, C_Lock, dy, _, _, rfl, hb, T.clL, T.l2, lf2, rfl, true, congrArg V.bl (decide_eq_true (show V.int i.po = V.int (i.cost c).po from rfl)), ?_⟩
    refine ⟨_, rfl, a, C_Lock, dx, _, _, rfl, ha, T.clL, T.l3, lf3, _, rfl, b, C_Lock, dy, _, _, rfl, hb, T.clL, T.l3, lf3, _, _, dp_strs hd, dp_strs hd', okP_strs _, okP_strs _, true, (by rw [show PyData.eqv (.list ((sortS i.ws).map PyData.str)) (.list ((sortS (i.cost c).ws).map PyData.str)) = true from eqv_refl (okP_strs _)]), ?_⟩
    refine ⟨_, rfl, a, C_Lock, dx, _, _, rfl, ha, T.clL, T.l4, lf4, _, rfl, b, C_Lock, dy, _, _, rfl, hb, T.clL, T.l4, lf4, rfl, ?_⟩
    have q := k H (Ex.refl _)
    rw [show decide (i.co = c) = decide (V.int i.co = V.int c) by rw [Bool.eq_iff_iff]; simp] at q
    exact q
abbrev s_Box___eq__ : Stmt := inClass (top 35) 1
theorem sc_Box___eq__ : FnScope ["self", "other"] ["self", "other"] (defScope s_Box___eq__) := ⟨rfl, rfl, rfl, by decide +kernel, rfl, by decide +kernel, by decide +kernel⟩
/-- two boxes whose instruments differ at most in their costs: g tells those of the second one -/
def RBox (CB CS CL : Addr) : EqvB := fun v u r H => ∃ (b t : Addr) (xs : List V) (rs : List Ins) (b' t' : Addr) (ys : List V) (ss : List Ins) (g : Ins → Int), v = .ref b ∧ u = .ref b' ∧ t ≠ t' ∧ BoxT CB CS CL H b t xs rs ∧ BoxT CB CS CL H b' t' ys ss ∧ Few rs ∧ rs.length = ss.length ∧ (ss.map (·.nm)).Nodup ∧
  (∀ q ∈ rs, q.Ok ∧ (q.cost (g q)).Ok ∧ ∃ j : Nat, ss[j]? = some (q.cost (g q))) ∧ r = rs.all fun q => decide (q.co = g q)
theorem all_ix {α : Type} {f : α → Bool} (rs : List α) : (List.range rs.length).all (fun i => ((rs[i]?).map f).getD true) = rs.all f := by
  rw [Bool.eq_iff_iff, List.all_eq_true, List.all_eq_true]
  constructor
  · intro h x hx
    obtain ⟨i, hi⟩ := List.getElem?_of_mem hx
    have := h i (List.mem_range.mpr (List.getElem?_eq_some_iff.mp hi).1)
    rw [hi] at this
    exact this
  · intro h i hi
    have hl := List.mem_range.mp hi
    rw [List.getElem?_eq_getElem hl]
    exact h _ (List.getElem_mem hl)
/-- what == asks of the classes -/
structure ICe (K : PySem.W.Frag) (CS CL : Addr) : Prop where
  nSS : PySem.W.notFirst K CS (.ref CS) = true
  nLL : PySem.W.notFirst K CL (.ref CL) = true
theorem ok_eqB {C_Box C_Sensor C_Lock fS fL : Addr} {fdS fdL : FuncData} (G : Gz mg) (T : ICl K mg C_Sensor C_Lock) (N : ICe K C_Sensor C_Lock) (B : BCl K mg C_Box) (kBB : PySem.W.kitOne K (.ref C_Box) (.ref C_Box) = some true) (isaB : ∀ (H : Hp) (a dx : Addr) (fs : List (Str × V)), H a = some (.ins C_Box dx fs) → TyOf K H (.ref a) (.ref C_Box))
    (F_eqS : FnOk P w K mg base CXn 1 fS fdS ["self", "other"] (spEqB (RIns false C_Sensor C_Lock))) (e_eqS : PySem.W.findIn K (.ref C_Sensor) "__eq__" = some (some (.ref fS))) (i_eqS : PySem.W.isFn K (.ref fS) = true) (b_eqS : Binds K fdS ["self", "other"] [])
    (F_eqL : FnOk P w K mg base CXn 1 fL fdL ["self", "other"] (spEqB (RIns true C_Sensor C_Lock))) (e_eqL : PySem.W.findIn K (.ref C_Lock) "__eq__" = some (some (.ref fL))) (i_eqL : PySem.W.isFn K (.ref fL) = true) (b_eqL : Binds K fdL ["self", "other"] [])
    (D : FunD K "__eq__" "Box.__eq__" (defArgs s_Box___eq__) (defBody s_Box___eq__) (defScope s_Box___eq__) [] [] f fd) : FnOk P w K mg base CXn 3 f fd ["self", "other"] (spEqB (RBox C_Box C_Sensor C_Lock)) := by
  have g_Box := B.at_
  refine D.ok sc_Box___eq__ (fun vs H Q E h => ?_) (fun cdv A outer s H vs Q E hr h => ⟨_, PSs.nox (pss_one (ps_ret (L2.pe_and (pe_callB (isiK (K := K) rfl) rfl G.g_isinstance (by rfl) (pa_cons (pv 1) (pa_cons (pe_glob (v := .ref C_Box) rfl g_Box rfl) pa_nil))) (pe_one (pe_cmpR (op_eqOwnD (EqB.or (eqB_ins (E := En) F_eqS e_eqS i_eqS b_eqS passN) (eqB_ins (E := En) F_eqL e_eqL i_eqL b_eqL passN)) (hr.mono (by decide))) (pe_fld (pv 0) rfl) (pe_fld (pv 1) rfl) (nomark _)))))), ?_⟩)
  · obtain ⟨_, _, _, rfl, _⟩ := h
    rfl
  · obtain ⟨v, u, r, rfl, ⟨b, t, xs, rs, b', t', ys, ss, g, rfl, rfl, nt, ⟨dx, h1, h2, h3⟩, ⟨dy, h1', h2', h3'⟩, R, len, nd', each, rfl⟩, k⟩ := h
    have xl := Paired.length h3
    have yl := Paired.length h3'
    refine ⟨_, rfl, .ref b', .ref C_Box, .ref C_Box, .ref C_Box, true, rfl, .own _, .base (isaB _ _ _ _ h1'), kBB, true, rfl, ?_⟩
    refine ⟨_, rfl, b, C_Box, dx, _, _, rfl, h1, B.cl, B.n1, tb1, _, rfl, b', C_Box, dy, _, _, rfl, h1', B.cl, B.n1, tb1, t, t', tabB xs rs, tabB ys ss, fun i => ((rs[i]?).map fun q => decide (q.co = g q)).getD true, rfl, rfl, nt, h2, h2', by rw [tabB_len xl, tabB_len yl, len], fun oa ob i ky v hi => ?_, fun H' e => ?_⟩
    · have il : i < rs.length := by
        have := (List.getElem?_eq_some_iff.mp hi).1
        rw [tabB_len xl] at this
        exact this
      obtain ⟨q, hq⟩ : ∃ q, rs[i]? = some q := ⟨_, List.getElem?_eq_getElem il⟩
      obtain ⟨x, hx⟩ : ∃ x, xs[i]? = some x := ⟨_, List.getElem?_eq_getElem (by omega)⟩
      have ei : (ky, v) = (.inr q.nm, x) := by
        have m1 : ((tabB xs rs).map (·.1))[i]? = some ky := by rw [List.getElem?_map, hi]; rfl
        have m2 : ((tabB xs rs).map (·.2))[i]? = some v := by rw [List.getElem?_map, hi]; rfl
        rw [tabB_keys xl, List.getElem?_map, List.getElem?_map, hq] at m1
        rw [tabB_vals xl, hx] at m2
        cases m1
        cases m2
        rfl
      cases ei
      obtain ⟨okq, okc, j, hj⟩ := each q (List.mem_of_getElem? hq)
      have jl := (List.getElem?_eq_some_iff.mp hj).1
      obtain ⟨y, hy⟩ : ∃ y, ys[j]? = some y := ⟨_, List.getElem?_eq_getElem (by omega)⟩
      obtain ⟨q', hq', ix⟩ := prd_at h3 hx
      rw [hq] at hq'
      cases hq'
      obtain ⟨q', hq', iy⟩ := prd_at h3' hy
      rw [hj] at hq'
      cases hq'
      refine ⟨y, (tabB_at nd' hy hj : valV (tabB ys ss) (.inr (q.cost (g q)).nm) = some y), fun H' ex => ?_⟩
      have ix2 := ((ix.put (o := .frz oa (.dK (tabB xs rs))) okq h2 (tabB_refs h3)).put (t := t') (T := tabB ys ss) (o := .frz ob (.dK (tabB ys ss))) okq (by rw [upd_ne (Ne.symm nt)]; exact h2') (tabB_refs h3')).ex ex
      have iy2 := ((iy.put (o := .frz oa (.dK (tabB xs rs))) okc h2 (tabB_refs h3)).put (t := t') (T := tabB ys ss) (o := .frz ob (.dK (tabB ys ss))) okc (by rw [upd_ne (Ne.symm nt)]; exact h2') (tabB_refs h3')).ex ex
      show DInsB K C_Sensor _ v y (((rs[i]?).map fun q => decide (q.co = g q)).getD true) H' ∨ DInsB K C_Lock _ v y (((rs[i]?).map fun q => decide (q.co = g q)).getD true) H'
      rw [show ((rs[i]?).map fun q => decide (q.co = g q)).getD true = decide (q.co = g q) by rw [hq]; rfl]
      cases lk : q.lk with
      | true =>
        refine .inr ?_
        obtain ⟨ax, dxx, d1, rfl, ⟨_, hax, _⟩ | ⟨z, _⟩⟩ := id ix2
        rotate_left
        · rw [lk] at z
          cases z
        obtain ⟨ay, dyy, d2, rfl, ⟨_, hay, _⟩ | ⟨z, _⟩⟩ := id iy2
        rotate_left
        · rw [show (q.cost (g q)).lk = q.lk from rfl, lk] at z
          cases z
        exact ⟨ax, dxx, _, ay, C_Lock, dyy, _, rfl, rfl, fun z => (by subst z; exact decide_eq_true (cost_of ix2 iy2)), hax, hay, N.nLL, q, g q, ix2, iy2, okq, lk, rfl⟩
      | false =>
        refine .inl ?_
        obtain ⟨ax, dxx, d1, rfl, ⟨z, _⟩ | ⟨_, hax, _⟩⟩ := id ix2
        · rw [lk] at z
          cases z
        obtain ⟨ay, dyy, d2, rfl, ⟨z, _⟩ | ⟨_, hay, _⟩⟩ := id iy2
        · rw [show (q.cost (g q)).lk = q.lk from rfl, lk] at z
          cases z
        exact ⟨ax, dxx, _, ay, C_Sensor, dyy, _, rfl, rfl, fun z => (by subst z; exact decide_eq_true (cost_of ix2 iy2)), hax, hay, N.nSS, q, g q, ix2, iy2, okq, lk, rfl⟩
    · have q := k H' e
      rw [← all_ix (f := fun q : Ins => decide (q.co = g q)) rs, ← tabB_len xl] at q
      exact q
end
end WK

set_option Elab.async false
set_option linter.all false
set_option maxRecDepth 100000
set_option maxHeartbeats 4000000
/-! d.copy() -/
namespace WW
open PySem PySem.Spec PyProof.Rows L2
def rDCopy : V → List V → Hp → VK → Prop := fun x vs H Q => ∃ (a : Addr) (kvs : List (Key × V)), x = .ref a ∧ vs = [] ∧ H a = some (.dK kvs) ∧ ∀ p, H p = none → Q (.ref p) (upd H p (.dK kvs))
theorem pairs_byValue {P : Program} {w : World} {s : Shared} {fs : Array DictEntry} : ∀ {es : List DictEntry} {vs : List (Key × Value)}, Pairs (mixKind P w) es vs → ∀ e ∈ es, KeyApart s fs e
  | _, _, .nil, e, he => by cases he
  | _, _, .cons h1 _ r, e, he => by
    rcases List.mem_cons.mp he with rfl | he
    · exact .inl ((mixKind P w).byValue _ _ h1)
    · exact pairs_byValue r e he
theorem mtd_copy {X : Cx} : MtR X "dict.copy" rDCopy := by
  intro pins s σ H x vs v us Q I rx rv h
  obtain ⟨a, kvs, rfl, rfl, ha, q⟩ := h
  obtain rfl : v = Value.ref a := rx
  obtain rfl := rv.zero
  obtain ⟨z, ns, ws, rel, o, es, ep, ho, hex, hd, kf, pr, nd⟩ := dk_of I.hok ha
  have hl : es.size = kvs.length := by rw [← Array.length_toList, pr.length, rel.length]
  refine call_copy_raw ns ⟨o, ho, hex, hd⟩ (by omega) (pairs_byValue pr) fun h' raw keep => ?_
  obtain ⟨o2, h2, x2, d2⟩ := raw
  refine ⟨.ref _, upd H s.heap.objs.size (.dK kvs), I.laid (a := s.heap.objs.size) (o := .dK kvs) (t' := s.toks) keep (Nat.le_refl _) (dk_new z (beq_eq_false_iff_ne.mpr (Ne.symm (Nat.ne_of_lt I.big))) rel ⟨o2, es, 0, h2, x2, d2, kf, pr, nd⟩), rfl, q _ (I.hok.fresh (Nat.le_refl _))⟩
/-- d.copy(), told at K -/
theorem pe_copyK {X : Cx} {K : PySem.W.Frag} {o : Expr} {to : TE} {apos cpos : Pos} (h : X.K = K) (ho : PE X o to) (base : attributeBase o "copy" X.env (eval o X.env) = eval o X.env := by rfl) (line : (apos.endLine == cpos.line) = true := by rfl) :
    PE X (.Call (.Attribute o "copy" apos) [] [] cpos) (tBM0 K "dict" rDCopy to) := by
  subst h
  exact pe_bm0 PySem.F.plainAttrs_dict PySem.F.slot_dict_copy PySem.F.type_dict_copy mtd_copy ho base line
end WW

set_option Elab.async false
set_option linter.all false
set_option maxRecDepth 100000
set_option maxHeartbeats 4000000
namespace WK
open PySem PySem.Spec PyProof.Rows L2 WW Evl
theorem lock_ne : ¬ (("sensor" : Str) = "lock") := by decide +kernel
/-- a class of the module's that is made -/
structure MkC (P : Program) (w : World) (K : PySem.W.Frag) (mg : Str → Option Value) (base : Heap) (CX : CXT) (x : Str) (C : Addr) (k : Nat) (ps : List Str) (sp : Sp) : Prop where
  ex : ∃ f fd, Mk K C f ∧ FnOk P w K mg base CX k f fd ps sp ∧ Binds K fd ps [] ∧ mg x = some (.ref C)
/-- a row of the law's -/
def RowT (H : Hp) (v : V) (r : Ins) : Prop := ∃ a b, v = .ref a ∧ H a = some (.tup [.str r.kind, .str r.nm, .int r.po, .ref b, .int r.co]) ∧ H b = some r.thing
theorem InsT.row {p : Addr} {H : Hp} {v : V} {r : Ins} (h : InsT p H v r) : RowT H v r := let ⟨a, b, e, _, h1, h2⟩ := h; ⟨a, b, e, h1, h2⟩
section
variable {P : Program} {w : World} {K : PySem.W.Frag} {mg : Str → Option Value} {base : Heap} {f : Addr} {fd : FuncData}
abbrev s__law_one : Stmt := top 54
theorem sc__law_one : FnScope ["_law_row"] ["_law_row"] (defScope s__law_one) := ⟨rfl, rfl, rfl, by decide +kernel, rfl, by decide +kernel, by decide +kernel⟩
def spOne (CS CL : Addr) : Sp := fun vs H Q _ => ∃ v r, vs = [v] ∧ RowT H v r ∧ r.Ok ∧ ∀ o H', Ex H H' → H o = none → InsAt CS CL H' (.ref o) r → Q (.ref o) H'
theorem ok_one {C_Sensor C_Lock : Addr} (G : Gz mg) (mS : MkC P w K mg base CXn "Sensor" C_Sensor 5 ["self", "name", "post", "sights", "cost"] (spInitS C_Sensor C_Lock)) (mL : MkC P w K mg base CXn "Lock" C_Lock 5 ["self", "name", "post", "words", "cost"] (spInitL C_Sensor C_Lock))
    (D : Df K mg "_law_one" s__law_one f fd ["_law_row"]) : Callee P w K mg base CXn 7 "_law_one" 1 (spOne C_Sensor C_Lock) := by
  obtain ⟨f1, fd1, M_Sensor, F_Sensor, b_Sensor, g_Sensor⟩ := mS.ex
  obtain ⟨f2, fd2, M_Lock, F_Lock, b_Lock, g_Lock⟩ := mL.ex
  refine D.callee (D.fn.ok sc__law_one (fun vs H Q E h => ?_) (fun cdv A outer s H vs Q E hr h => ⟨_, PSs.nox (pss_cons (ps_if (pt_cmpR op_eq (pe_ix (ixK (K := K) rfl) (pv 0) pe_int (fun _ _ => rfl)) pe_str (nomark _)) (pss_one (ps_ret (pe_make (E := En) M_Lock F_Lock (hr.mono (by decide)) rfl g_Lock b_Lock .nil passN (pa_cons (pe_ix (ixK (K := K) rfl) (pv 0) pe_int (fun _ _ => rfl)) (pa_cons (pe_ix (ixK (K := K) rfl) (pv 0) pe_int (fun _ _ => rfl)) (pa_cons (pe_callTy (listOfK (K := K) rfl) rfl G.g_list (by rfl) (pa_cons (pe_ix (ixK (K := K) rfl) (pv 0) pe_int (fun _ _ => rfl)) pa_nil)) (pa_cons (pe_ix (ixK (K := K) rfl) (pv 0) pe_int (fun _ _ => rfl)) pa_nil))))))) pss_nil) (pss_one (ps_ret (pe_make (E := En) M_Sensor F_Sensor (hr.mono (by decide)) rfl g_Sensor b_Sensor .nil passN (pa_cons (pe_ix (ixK (K := K) rfl) (pv 0) pe_int (fun _ _ => rfl)) (pa_cons (pe_ix (ixK (K := K) rfl) (pv 0) pe_int (fun _ _ => rfl)) (pa_cons (pe_copyK (K := K) rfl (pe_ix (ixK (K := K) rfl) (pv 0) pe_int (fun _ _ => rfl))) (pa_cons (pe_ix (ixK (K := K) rfl) (pv 0) pe_int (fun _ _ => rfl)) pa_nil)))))))), ?_⟩))
  · obtain ⟨_, _, rfl, _⟩ := h
    rfl
  · obtain ⟨v, r, rfl, ⟨a, d, rfl, ha, hd⟩, ok, k⟩ := h
    refine ⟨_, rfl, .inr (.inl ⟨a, _, 0, _, rfl, rfl, st_of ha, (by rfl), rfl, ?_⟩)⟩
    cases lk : r.lk with
    | true =>
      have ek : r.kind = "lock" := by unfold Ins.kind; rw [lk]; rfl
      have et : r.thing = .lst (r.ws.map V.str) := by unfold Ins.thing; rw [lk]; rfl
      rw [et] at hd
      refine ⟨true, congrArg V.bl (decide_eq_true (by rw [ek])), iteT ?_⟩
      refine ⟨_, rfl, .inr (.inl ⟨a, _, 1, _, rfl, rfl, st_of ha, (by rfl), _, rfl, .inr (.inl ⟨a, _, 2, _, rfl, rfl, st_of ha, (by rfl), ?_⟩)⟩)⟩
      refine ⟨_, rfl, .inr (.inl ⟨a, _, 3, _, rfl, rfl, st_of ha, (by rfl), d, _, rfl, .inl (sq_of hd), fun l hl => ?_⟩)⟩
      have e1 : Ex H (upd H l (.lst (r.ws.map V.str))) := Ex.new hl
      have hl1 : upd H l (.lst (r.ws.map V.str)) l = some (.lst (r.ws.map V.str)) := upd_same
      generalize upd H l (.lst (r.ws.map V.str)) = H1 at e1 hl1
      refine ⟨_, rfl, .inr (.inl ⟨a, _, 4, _, rfl, rfl, st_of (e1 _ _ ha), (by rfl), fun o m ho hm hne => ?_⟩)⟩
      exact ⟨H1, o, m, l, r, rfl, (Ex.new hm).trans (Ex.new (by rw [upd_ne hne.symm]; exact ho)), ho, upd_same, lk, ok, hl1, fun H2 d' e2 g fr => ⟨rfl, k o H2 (e1.trans e2) (fresh_back e1 ho) g.at⟩⟩
    | false =>
      have ek : r.kind = "sensor" := by unfold Ins.kind; rw [lk]; rfl
      have et : r.thing = .dK r.tab := by unfold Ins.thing; rw [lk]; rfl
      rw [et] at hd
      refine ⟨false, congrArg V.bl (decide_eq_false (by rw [ek]; exact fun z => lock_ne (V.str.inj z))), iteF ?_⟩
      refine ⟨_, rfl, .inr (.inl ⟨a, _, 1, _, rfl, rfl, st_of ha, (by rfl), _, rfl, .inr (.inl ⟨a, _, 2, _, rfl, rfl, st_of ha, (by rfl), ?_⟩)⟩)⟩
      refine ⟨_, rfl, .inr (.inl ⟨a, _, 3, .ref d, rfl, rfl, st_of ha, (by rfl), (show tyV K "dict" (.ref d) H from .inr (.inr (.inl ⟨rfl, .inl ⟨_, hd⟩⟩))), d, _, rfl, rfl, hd, fun l hl => ?_⟩)⟩
      have e1 : Ex H (upd H l (.dK r.tab)) := Ex.new hl
      have hl1 : upd H l (.dK r.tab) l = some (.dK r.tab) := upd_same
      generalize upd H l (.dK r.tab) = H1 at e1 hl1
      refine ⟨_, rfl, .inr (.inl ⟨a, _, 4, _, rfl, rfl, st_of (e1 _ _ ha), (by rfl), fun o m ho hm hne => ?_⟩)⟩
      exact ⟨H1, o, m, l, r, rfl, (Ex.new hm).trans (Ex.new (by rw [upd_ne hne.symm]; exact ho)), ho, upd_same, lk, ok, hl1, fun H2 d' e2 g fr => ⟨rfl, k o H2 (e1.trans e2) (fresh_back e1 ho) g.at⟩⟩
abbrev s__law_seven : Stmt := top 55
theorem sc__law_seven : FnScope ["_law_pool_here", "_law_plan_here", "_law_rows", "_law_k", "_law_line", "_law_row"] ["_law_pool_here"] (defScope s__law_seven) := ⟨rfl, rfl, rfl, by decide +kernel, rfl, by decide +kernel, by decide +kernel⟩
/-- the name in a row -/
def rowNm (H : Hp) : V → V
  | .ref a => (match H a with
    | some (.tup [_, n, _, _, _]) => n
    | _ => .non)
  | _ => .non
theorem rowNm_at {H : Hp} {v : V} {r : Ins} (h : RowT H v r) : rowNm H v = .str r.nm := by
  obtain ⟨a, b, rfl, h1, _⟩ := h
  show (match H a with
    | some (.tup [_, n, _, _, _]) => n
    | _ => .non) = _
  rw [h1]
theorem rowNm_map {p q : Addr} {H : Hp} : ∀ {xs : List V} {rs : List Ins}, Paired (InsQ p q H) xs rs → xs.map (rowNm H) = (rs.map (·.nm)).map V.str
  | _, _, .nil => rfl
  | _, _, .cons g t => by rw [List.map_cons, List.map_cons, List.map_cons, rowNm_at g.t.row, rowNm_map t]
def Ins.name (r : Ins) (z : Str) : Ins := { r with nm := z }
theorem InsT.away {p rl : Addr} {H : Hp} {v : V} {r : Ins} {xs : List V} {rs : List Ins} (h : InsT p H v r) (ok : r.Ok) (hr : H rl = some (.lst xs)) (px : Paired (InsQ p rl H) xs rs) : InsQ p rl H v r := by
  obtain ⟨a, b, rfl, n, h1, h2⟩ := h
  refine ⟨a, b, rfl, n, fun z => ?_, h1, h2⟩
  rw [z, hr] at h2
  have e := Option.some.inj h2
  unfold Ins.thing at e
  by_cases lk : r.lk = true
  · rw [if_pos lk] at e
    have e2 : xs = r.ws.map V.str := HO.lst.inj e
    cases hw : r.ws with
    | nil => exact ok.ne hw
    | cons w ws =>
      rw [hw] at e2
      cases px with
      | nil => cases e2
      | cons g t =>
        obtain ⟨_, _, e3, _⟩ := g
        rw [e3] at e2
        cases e2
  · rw [if_neg lk] at e
    cases e
def spSeven : Sp := fun vs H Q _ => ∃ (p : Addr), vs = [.ref p] ∧ Pool H p ∧
  ∀ rl xs rs H', Kp p H H' → Pool H' p → rl ≠ p → H' rl = some (.lst xs) → Paired (InsT p H') xs rs → (∀ r ∈ rs, r.Ok) → (rs.map (·.nm)).Nodup → rs.length = 7 → Q (.ref rl) H'
theorem ok_seven (G : Gz mg) (D : Df K mg "_law_seven" s__law_seven f fd ["_law_pool_here"]) (c__law_plan : Callee P w K mg base CXn 5 "_law_plan" 2 spPlan) (c__law_instruments : Callee P w K mg base CXn 4 "_law_instruments" 3 spInstr) (c__law_name : Callee P w K mg base CXn 2 "_law_name" 2 spName) : Callee P w K mg base CXn 6 "_law_seven" 1 spSeven := by
  refine D.callee (D.fn.ok sc__law_seven (fun vs H Q E h => ?_) (fun cdv A outer s H vs Q E hr h => ⟨_, PSs.nox (pss_cons (ps_set (i := 1) sc__law_seven.nd rfl (Or.inl rfl) (pe_cl (E := En) c__law_plan (hr.mono (by decide)) rfl passN (pa_cons (pv 0) (pa_cons pe_int pa_nil)))) (pss_cons (ps_set (i := 2) sc__law_seven.nd rfl (Or.inl rfl) (pe_lst pa_nil)) (pss_cons (ps_for PassesOwn.never rfl (pi_range1 rfl G.g_range (pa_cons pe_int pa_nil)) (pg_name (i := 3) sc__law_seven.nd rfl (Or.inl rfl)) (pss_cons (ps_set (i := 4) sc__law_seven.nd rfl (Or.inl rfl) (pe_ix (ixK (K := K) rfl) (pe_cl (E := En) c__law_instruments (hr.mono (by decide)) rfl passN (pa_cons (pv 0) (pa_cons (pv 1) (pa_cons pe_int pa_nil)))) pe_int (fun _ _ => rfl))) (pss_one (ps_expr (pe_bm PySem.F.plainAttrs_list PySem.F.slot_list_append PySem.F.type_list_append mt_append (pv 2) (pa_cons (pe_op op_catT (pe_tup (pa_cons (pe_ix (ixK (K := K) rfl) (pv 4) pe_int (fun _ _ => rfl)) (pa_cons (pe_cl (E := En) c__law_name (hr.mono (by decide)) rfl passN (pa_cons (pv 0) (pa_cons (pe_lc (own := [("_law_row", 5)]) rfl sc__law_seven.nd (pi_list (pv 2)) (BlkOk.mk (N := ["_law_pool_here", "_law_plan_here", "_law_rows", "_law_k", "_law_line", "_law_row"]) (sc := defScope s__law_seven) rfl (by decide +kernel) (by decide +kernel) (by decide +kernel) (by decide +kernel)) (fun _ _ _ _ _ => (pg_name (i := 5) sc__law_seven.nd rfl (Or.inl rfl))) (fun _ _ _ _ _ => pts_nil) (fun _ _ _ _ _ => (pe_ix (ixK (K := K) rfl) (pv 5) pe_int (fun _ _ => rfl)))) pa_nil))) pa_nil))) (pe_slice sl_tupA (pv 4) (po_some pe_int) po_none)) pa_nil)))))) (pss_one (ps_ret (pv 2)))))), ?_⟩))
  · obtain ⟨_, rfl, _⟩ := h
    rfl
  · obtain ⟨p, rfl, hP, k⟩ := h
    refine ⟨_, rfl, p, 0, rfl, hP, by decide, by decide, fun T hd a1 a2 a3 a4 hs zs H1 K1 P1 hT hds hne h3 dr z5 znm znd => ?_⟩
    refine ⟨Nat.zero_le _, fun rl nrl => ?_⟩
    obtain ⟨F0, nrp⟩ := Fil.new (o := .lst []) P1 nrl
    refine ⟨7, rfl, by omega, by omega, for_range (fun i σ' H' => ∃ v3 v4 v5 xs rs, σ' = [some (.ref p), some (.ref T), some (.ref rl), v3, v4, v5] ∧ Fil p rl H1 H' ∧ H' rl = some (.lst xs) ∧ Paired (InsQ p rl H') xs rs ∧ (∀ r ∈ rs, r.Ok) ∧ (rs.map (·.nm)).Nodup ∧ rs.length = i) ?_ ?_ ?_⟩
    · exact ⟨none, none, none, [], [], rfl, F0, upd_same, .nil, (fun _ z => nomatch z), List.nodup_nil, rfl⟩
    · rintro i σ' H' hi ⟨v3, v4, v5, xs, rs, rfl, F, hrl, px, ok, nd, len⟩
      have hi7 : i < 7 := by simpa using hi
      have hT' := (F.kp.tu P1) _ _ hT
      refine ⟨_, rfl, _, rfl, p, T, 1, hd, a1, a2, a3, a4, hs, zs, rfl, F.pool, by decide, by decide, hT', hds.tu (F.kp.tu P1), hne, h3, dr, z5, znm, fun l2 ys ss H2 K2 P2 nlp hl2 py oks _ l1 l6 => ?_⟩
      obtain ⟨F2, hrl2⟩ := F.draw nrp hrl K2 P2
      have px2 : Paired (InsQ p rl H2) xs rs := Paired.mapP px fun _ _ z => z.kp F.pool K2
      have pl2 := Paired.length py
      obtain ⟨r, hr0⟩ : ∃ r, ss[0]? = some r := ⟨_, List.getElem?_eq_getElem (by omega)⟩
      obtain ⟨x, hx0⟩ : ∃ x, ys[0]? = some x := ⟨_, List.getElem?_eq_getElem (by omega)⟩
      obtain ⟨r', hr', ix⟩ := prd_at py hx0
      rw [hr0] at hr'
      cases hr'
      have okr := oks r (List.mem_of_getElem? hr0)
      obtain ⟨a, b, rfl, nbp, nbr, ha, hb⟩ := ix.away okr hrl2 px2
      refine .inl ⟨l2, _, 0, .ref a, rfl, rfl, sq_of hl2, at_of (j := 0) rfl hx0, ?_⟩
      refine ⟨_, rfl, .inl ⟨rfl, _, sq_of hrl2⟩, ?_⟩
      refine ⟨_, rfl, .inr (.inl ⟨a, _, 0, _, rfl, rfl, st_of ha, (by rfl), ?_⟩)⟩
      refine ⟨_, rfl, _, rfl, rl, rfl, ⟨_, sq_of hrl2⟩, fun N hN => ?_⟩
      have xl := Paired.length px2
      refine lc_ev (f := fun _ => true) (v := rowNm H2) (st_l (K := K) (sq_of hrl2)) (by omega) (fun x => rfl) hN (fun x hx H5 e5 Q q => q H5 (Ex.refl _)) (fun x hx _ H5 e5 Q q => ?_) (fun H3 e3 hN3 => ?_)
      · obtain ⟨j, hj⟩ := List.getElem?_of_mem hx
        obtain ⟨q1, hq1, g⟩ := prd_at px2 hj
        have q2 := q H5 (Ex.refl _)
        rw [rowNm_at g.t.row] at q2
        obtain ⟨a1, b1, rfl, _, _, g1, _⟩ := g
        exact ⟨_, rfl, .inr (.inl ⟨a1, _, 1, _, rfl, rfl, st_of (e5 _ _ g1), (by rfl), q2⟩)⟩
      rw [List.filter_eq_self.mpr (fun _ _ => rfl), rowNm_map px2] at hN3
      obtain ⟨F3, hrl3⟩ := F2.ex nrp hrl2 e3
      have nNp : N ≠ p := fun z => F2.pool.here (z ▸ hN)
      refine ⟨p, N, rs.map (·.nm), rfl, F3.pool, nNp, hN3, by rw [List.length_map]; omega, fun z H4 zn zo K4 P4 => ?_⟩
      obtain ⟨F4, hrl4⟩ := F3.draw nrp hrl3 K4 P4
      have ha4 := (K4.tu F3.pool) _ _ (e3 _ _ ha)
      have hb4 := K4.k _ _ nbp (e3 _ _ hb)
      refine ⟨(by show 2 ≤ sizeLine; decide), fun T2 nT2 => ?_⟩
      have e5 : Ex H4 (upd H4 T2 (.tup [.str r.kind, .str z])) := Ex.new nT2
      have hT2 : upd H4 T2 (.tup [.str r.kind, .str z]) T2 = some (.tup [.str r.kind, .str z]) := upd_same
      generalize upd H4 T2 (.tup [.str r.kind, .str z]) = H5 at e5 hT2
      refine ⟨_, rfl, _, rfl, a, _, rfl, st_of (e5 _ _ ha4), (fun w => absurd w.1 (by show ¬ HT.sIx 5 0 (some 2) = 0; decide)), fun _ T3 nT3 => ?_⟩
      have ec : cutV [V.str r.kind, .str r.nm, .int r.po, .ref b, .int r.co] (some 2) none = [.int r.po, .ref b, .int r.co] := rfl
      rw [ec]
      have e6 : Ex H5 (upd H5 T3 (.tup [.int r.po, .ref b, .int r.co])) := Ex.new nT3
      have hT3 : upd H5 T3 (.tup [.int r.po, .ref b, .int r.co]) T3 = some (.tup [.int r.po, .ref b, .int r.co]) := upd_same
      have hT26 := e6 _ _ hT2
      generalize upd H5 T3 (.tup [.int r.po, .ref b, .int r.co]) = H6 at e6 hT3 hT26
      refine ⟨T2, T3, _, _, rfl, rfl, st_of hT26, st_of hT3, by simp, (by show 5 ≤ sizeLine; decide), (fun z => by cases z), fun _ T4 nT4 => ?_⟩
      have e7 : Ex H6 (upd H6 T4 (.tup ([.str r.kind, .str z] ++ [.int r.po, .ref b, .int r.co]))) := Ex.new nT4
      have hT4 : upd H6 T4 (.tup ([.str r.kind, .str z] ++ [.int r.po, .ref b, .int r.co])) T4 = some (.tup [.str r.kind, .str z, .int r.po, .ref b, .int r.co]) := upd_same
      generalize upd H6 T4 (.tup ([.str r.kind, .str z] ++ [.int r.po, .ref b, .int r.co])) = H7 at e7 hT4
      have E47 := e5.trans (e6.trans e7)
      obtain ⟨F7, hrl7⟩ := F4.ex nrp hrl4 E47
      have px7 : Paired (InsQ p rl H7) xs rs := Paired.mapP px2 fun _ _ g => g.kp F2.pool ((Kp.ex e3 F2.pool).trans (K4.trans (Kp.ex E47 F4.pool)))
      refine ⟨rl, xs, .ref T4, rfl, rfl, hrl7, sz_lt (by omega), _, _, _, xs ++ [.ref T4], rs ++ [r.name z], rfl, F7.put nrp nrl, upd_same, prd_snoc (Paired.mapP px7 fun _ _ g => g.put hrl7) (InsQ.put hrl7 ⟨T4, b, rfl, nbp, nbr, hT4, E47 _ _ hb4⟩), fun q hq => ?_, ?_, by rw [List.length_append, len]; rfl⟩
      · rcases List.mem_append.mp hq with hq | hq
        · exact ok q hq
        · rw [List.mem_singleton.mp hq]
          exact ⟨zn, okr.po, okr.co, okr.ne, okr.le, okr.nd, okr.ws, okr.sl, okr.sg⟩
      · rw [List.map_append, List.nodup_append]
        exact ⟨nd, by simp, fun u hu c hc => by rw [List.mem_singleton.mp hc]; exact fun w => zo (by rw [show z = u from w.symm]; exact hu)⟩
    · rintro σ' H' ⟨v3, v4, v5, xs, rs, rfl, F, hrl, px, ok, nd, len⟩
      exact ⟨_, rfl, k rl xs rs H' (K1.trans F.kp) F.pool nrp hrl (Paired.mapP px fun _ _ g => g.t) ok nd (by rw [len]; rfl)⟩
end
end WK

set_option Elab.async false
set_option linter.all false
set_option maxRecDepth 100000
set_option maxHeartbeats 4000000
/-! isinstance of a caught exception that has a dict of its own. -/
namespace WW
open PySem PySem.Spec PyProof.Rows L2
/-- isinstance(e, c), e the exception that the suite holds at a, of the class cls, with the dict d -/
def rIsED (K : PySem.W.Frag) (a : Addr) (cls : Value) (d : Option Addr) : List V → Hp → VK → Prop := fun xs H Q => ∃ (D dd : Addr) (fs : List (Str × V)), cls = .ref D ∧ d = some dd ∧ H dd = some (.xd fs) ∧ ExcC K D ∧ rIsE K D a xs H Q
theorem call_isED {X : Cx} {a : Addr} {cls : Value} {d : Option Addr} {oe : Obj} {pn : List (Addr × Obj)} (hz : Zc cls d oe) (hf : ∃ vs, oe.data = .fields vs) : CallR (X.suite a ((a, oe) :: pn)) (.builtin "isinstance") (rIsED X.K a cls d) := by
  intro pins s σ H xs us Q I r h
  obtain ⟨D, dd, fs, rfl, rfl, hx, C, c, cv, b, rfl, hcv, e, q⟩ := h
  match us, r with
  | [_, t], .cons rx (.cons rt .nil) =>
    cases rx
    have ec := hcv _ rt
    subst ec
    obtain ⟨hget, _⟩ := I.pin (a, oe) (List.mem_append_left _ List.mem_cons_self)
    obtain ⟨vs, hv⟩ := hf
    obtain ⟨mA, hns, _⟩ := (show ObjOk X.prog X.w H s.heap dd (.xd fs) from I.hok dd _ hx)
    obtain ⟨od, ho, _⟩ := lookIn_ns hns
    have J : PySem.W.InstAt s.heap a oe D (some od) := ⟨hget, hz.1, by unfold PySem.W.notCls; rw [hv] <;> rfl, by rw [hz.2]; exact ho⟩
    have cl : (PySem.W.clsIn X.K D).isSome = true := by
      obtain ⟨cd, hc, _⟩ := PySem.W.any_some C.hd
      rw [hc]
      rfl
    exact PySem.W.kia_one (PySem.W.kitx_exc cl C.hg C.hk C.hs C.ha C.hn C.ht C.hm) I.kIn J e (fun z => nomatch z) fun tk => ⟨.bl b, H, I.kept (t' := tk) fun _ _ z => z, rfl, q⟩
end WW

set_option Elab.async false
set_option linter.all false
set_option maxRecDepth 100000
set_option maxHeartbeats 4000000
namespace WK
open PySem PySem.Spec PyProof.Rows L2 WW Evl
/-- the classes of the errors -/
structure Er (K : PySem.W.Frag) (mg : Str → Option Value) (CE CN CW : Addr) : Prop where
  gE : mg "BadInstrument" = some (.ref CE)
  gN : mg "BadName" = some (.ref CN)
  gW : mg "WorksError" = some (.ref CW)
  xE : XfC K CE
  xN : XfC K CN
  nE : PySem.W.findIn K (.ref CE) "at" = some none
  nN : PySem.W.findIn K (.ref CN) "value" = some none
  eE : ExcC K CE
  eN : ExcC K CN
  mEE : PySem.W.exmOne K (.ref CE) (.ref CE) = some true
  mNN : PySem.W.exmOne K (.ref CN) (.ref CN) = some true
  kEW : PySem.W.kitOne K (.ref CE) (.ref CW) = some true
  kNW : PySem.W.kitOne K (.ref CN) (.ref CW) = some true
/-- a class's own def -/
structure OwnM (P : Program) (w : World) (K : PySem.W.Frag) (mg : Str → Option Value) (base : Heap) (C : Addr) (CX : CXT) (x : Str) (k : Nat) (ps : List Str) (sp : Sp) (Z : Addr → Prop) : Prop where
  ex : ∃ f fd, PySem.W.findIn K (.ref C) x = some (some (.ref f)) ∧ PySem.W.isFn K (.ref f) = true ∧ Z f ∧ FnOk P w K mg base CX k f fd ps sp ∧ Binds K fd ps []
/-- a method of a box -/
structure BM (P : Program) (w : World) (K : PySem.W.Frag) (mg : Str → Option Value) (base : Heap) (CB : Addr) (CX : CXT) (m : Str) (k : Nat) (ps : List Str) (sp : Sp) : Prop where
  ex : ∃ g fd, Meth K CB m g ∧ FnOk P w K mg base CX k g fd ps sp ∧ Binds K fd ps []
/-- what is told of things that are asked to be a box -/
def TellK (CS CL : Addr) (H : Hp) (v : V) (bad : Int → Prop) (good : List Ins → Prop) : Prop :=
  (Th CS CL H v ∧ rowB H v 1 6 = false ∧ bad (-1)) ∨ ∃ a xs rs, v = .ref a ∧ Pre CS CL H a xs rs ∧ (xs.length = rs.length → good rs) ∧ (rs.length < xs.length → bad (rs.length : Nat))
section
variable {P : Program} {w : World} {K : PySem.W.Frag} {mg : Str → Option Value} {base : Heap} {f : Addr} {fd : FuncData}
abbrev s__law_told : Stmt := top 56
theorem sc__law_told : FnScope ["_law_things", "e"] ["_law_things"] (defScope s__law_told) := ⟨rfl, rfl, rfl, by decide +kernel, rfl, by decide +kernel, by decide +kernel⟩
def spTold (CS CL : Addr) : Sp := fun vs H Q _ => ∃ v, vs = [v] ∧ TellK CS CL H v (fun i => ∀ H' T, Ex H H' → H' T = some (.tup [.str "bad", .int i, .bl true]) → Q (.ref T) H') (fun rs => ∀ H' T, Ex H H' → H' T = some (.tup [.str "box", .int (rs.length : Nat)]) → Q (.ref T) H')
theorem ok_told {C_Box C_Sensor C_Lock C_BadInstrument C_BadName C_WorksError : Addr} (G : Gz mg) (B : BCl K mg C_Box) (R : Er K mg C_BadInstrument C_BadName C_WorksError) (mB : MkC P w K mg base (L2.CX P w) "Box" C_Box 4 ["self", "instruments"] (spInitBG C_Box C_Sensor C_Lock C_BadInstrument))
    (mL : OwnM P w K mg base C_Box CXn "__len__" 1 ["self"] (spLenB C_Box C_Sensor C_Lock) fun _ => True) (D : Df K mg "_law_told" s__law_told f fd ["_law_things"]) : Callee P w K mg base CXn 6 "_law_told" 1 (spTold C_Sensor C_Lock) := by
  have g_BadInstrument := R.gE
  have g_WorksError := R.gW
  have xf_BadInstrument := R.xE
  have no_BadInstrument := R.nE
  obtain ⟨f1, fd1, M_Box, F_Box, b_Box, g_Box⟩ := mB.ex
  obtain ⟨f2, fd2, e_len, i_len, _, F_len, b_len⟩ := mL.ex
  refine D.callee (D.fn.ok sc__law_told (fun vs H Q E h => ?_) (fun cdv A outer s H vs Q E hr h => ⟨_, (pss_one (ps_try_asM (tb := _) rfl rfl sc__law_told.nd takes0 (fun W pn xe tk po => (pss_one (ps_ret (pe_tup (pa_cons pe_str (pa_cons (pe_callB (cr_lenOwn (E := En) e_len i_len F_len (hr.mono (by decide)) b_len passN) rfl G.g_len PySem.boot_len (pa_cons (pe_makeS M_Box F_Box (hr.mono (by decide)) rfl g_Box b_Box (fun σ => passAt tk σ) (pa_cons (pv 0) pa_nil)) pa_nil)) pa_nil)))))) (HdsAs.clause (c := .ref C_BadInstrument) ⟨rfl, by decide, .inl g_BadInstrument⟩ (i := 1) rfl rfl (fun a oe cls d pn hz hf => (pss_one (ps_ret (pe_tup (pa_cons pe_str (pa_cons (pe_xf xf_BadInstrument no_BadInstrument hz hf (pv 1)) (pa_cons (pe_callB (call_isED hz hf) rfl G.g_isinstance (by rfl) (pa_cons (pv 1) (pa_cons (pe_glob (v := .ref C_WorksError) rfl g_WorksError rfl) pa_nil))) pa_nil))))))) HdsAs.done))), ?_⟩))
  · obtain ⟨_, rfl, _⟩ := h
    rfl
  · obtain ⟨v, rfl, out⟩ := h
    refine ⟨_, rfl, fun o m ho hm hne => ⟨H, o, m, v, rfl, (Ex.new hm).trans (Ex.new (by rw [upd_ne hne.symm]; exact ho)), ho, upd_same, ?_⟩⟩
    rcases out with ⟨th, hrow, bad⟩ | ⟨a, xs, rs, rfl, Pr, good, bad⟩
    · refine .inl ⟨th, hrow, fun H1 d e1 hd => ?_⟩
      refine ⟨true, R.mEE, fun _ a ha => ?_, fun z => nomatch z⟩
      refine ⟨.ref a, rfl, rfl, rfl, d, _, .int (-1), rfl, upd_same, rfl, ?_⟩
      refine ⟨_, rfl, C_BadInstrument, d, _, rfl, rfl, upd_same, R.eE, .ref C_WorksError, .ref C_WorksError, true, rfl, fun u r => r, R.kEW, ?_⟩
      refine ⟨(by show 3 ≤ sizeLine; decide), fun T hT => ?_⟩
      exact bad _ T (e1.trans ((Ex.new hd).trans (Ex.new hT))) upd_same
    · refine .inr ⟨a, xs, rs, rfl, Pr, fun z => ?_, fun z H1 d e1 hd => ?_⟩
      · intro H1 t e1 hb ht
        refine ⟨rfl, ?_⟩
        obtain ⟨dx, hb1, _⟩ := id hb
        refine ⟨o, dx, _, rfl, hb1, o, t, xs, rs, rfl, hb, (rs.length : Nat), rfl, by omega, by have := Pr.len; have := Pr.most; omega, ?_⟩
        refine ⟨(by show 2 ≤ sizeLine; decide), fun T hT => ?_⟩
        exact good z _ T (e1.trans (Ex.new hT)) upd_same
      · refine ⟨true, R.mEE, fun _ a ha => ?_, fun z => nomatch z⟩
        refine ⟨.ref a, rfl, rfl, rfl, d, _, .int (rs.length : Nat), rfl, upd_same, rfl, ?_⟩
        refine ⟨_, rfl, C_BadInstrument, d, _, rfl, rfl, upd_same, R.eE, .ref C_WorksError, .ref C_WorksError, true, rfl, fun u r => r, R.kEW, ?_⟩
        refine ⟨(by show 3 ≤ sizeLine; decide), fun T hT => ?_⟩
        exact bad z _ T (e1.trans ((Ex.new hd).trans (Ex.new hT))) upd_same
abbrev s__law_asked : Stmt := top 57
theorem sc__law_asked : FnScope ["_law_box", "_law_name_here", "e"] ["_law_box", "_law_name_here"] (defScope s__law_asked) := ⟨rfl, rfl, rfl, by decide +kernel, rfl, by decide +kernel, by decide +kernel⟩
def spAsked (CB CS CL : Addr) : Sp := fun vs H Q _ => ∃ (b t : Addr) (y : V) (xs : List V) (rs : List Ins), vs = [.ref b, y] ∧ BoxT CB CS CL H b t xs rs ∧ Few rs ∧ Pl H y ∧ (∀ z, y = .str z → z.length ≤ 1000) ∧
  (((nmB y = false ∨ ∃ n, y = .str n ∧ n ∉ rs.map (·.nm)) ∧ ∀ H' T, Ex H H' → H' T = some (.tup [.str "bad", y, .bl true]) → Q (.ref T) H') ∨
   ∃ r ∈ rs, y = .str r.nm ∧ IsNm r.nm ∧ ∀ H' T, Ex H H' → H' T = some (.tup [.str "told", .str r.nm]) → Q (.ref T) H')
theorem ok_asked {C_Box C_Sensor C_Lock C_BadInstrument C_BadName C_WorksError : Addr} (G : Gz mg) (T : ICl K mg C_Sensor C_Lock) (I : IPr P w K mg base C_Sensor C_Lock) (B : BCl K mg C_Box) (R : Er K mg C_BadInstrument C_BadName C_WorksError)
    (mI : OwnM P w K mg base C_Box (L2.CX P w) "__getitem__" 3 ["self", "name"] (spItemG C_Box C_Sensor C_Lock C_BadName) (OwnIx K C_Box)) (D : Df K mg "_law_asked" s__law_asked f fd ["_law_box", "_law_name_here"]) : Callee P w K mg base CXn 6 "_law_asked" 2 (spAsked C_Box C_Sensor C_Lock) := by
  have g_BadName := R.gN
  have g_WorksError := R.gW
  have xf_BadName := R.xN
  have no_BadName := R.nN
  have cls_Sensor := T.clS
  have cls_Lock := T.clL
  obtain ⟨p1, f1, fd1, p_name, F_name, b_name⟩ := I.nameS
  obtain ⟨p2, f2, fd2, p_nameL, F_nameL, b_nameL⟩ := I.nameL
  obtain ⟨f3, fd3, _, _, O_item, F_item, b_item⟩ := mI.ex
  refine D.callee (D.fn.ok sc__law_asked (fun vs H Q E h => ?_) (fun cdv A outer s H vs Q E hr h => ⟨_, (pss_one (ps_try_asM (tb := _) rfl rfl sc__law_asked.nd takes0 (fun W pn xe tk po => (pss_one (ps_ret (pe_tup (pa_cons pe_str (pa_cons (WW.pe_or (pe_prop (E := En) (pe_ownIxS O_item F_item (hr.mono (by decide)) b_item (fun σ => passAt tk σ) (pv 0) (pv 1) (fun _ _ => rfl)) cls_Sensor p_name F_name (hr.mono (by decide)) b_name .nil passN rfl) (pe_prop (E := En) (pe_ownIxS O_item F_item (hr.mono (by decide)) b_item (fun σ => passAt tk σ) (pv 0) (pv 1) (fun _ _ => rfl)) cls_Lock p_nameL F_nameL (hr.mono (by decide)) b_nameL .nil passN rfl)) pa_nil)))))) (HdsAs.clause (c := .ref C_BadName) ⟨rfl, by decide, .inl g_BadName⟩ (i := 2) rfl rfl (fun a oe cls d pn hz hf => (pss_one (ps_ret (pe_tup (pa_cons pe_str (pa_cons (pe_xf xf_BadName no_BadName hz hf (pv 2)) (pa_cons (pe_callB (call_isED hz hf) rfl G.g_isinstance (by rfl) (pa_cons (pv 2) (pa_cons (pe_glob (v := .ref C_WorksError) rfl g_WorksError rfl) pa_nil))) pa_nil))))))) HdsAs.done))), ?_⟩))
  · obtain ⟨_, _, _, _, _, rfl, _⟩ := h
    rfl
  · obtain ⟨b, t, y, xs, rs, rfl, hb, Fw, py, hz, out⟩ := h
    obtain ⟨dx, hb1, hb2, hb3⟩ := id hb
    rcases out with ⟨no, bad⟩ | ⟨r, hr0, rfl, nm, good⟩
    · refine .inl ⟨_, rfl, _, rfl, b, dx, _, rfl, hb1, b, t, y, xs, rs, rfl, hb, Fw, py, hz, .inl ⟨no, fun H1 d e1 hd => ?_⟩⟩
      refine ⟨true, R.mNN, fun _ a ha => ?_, fun z => nomatch z⟩
      refine ⟨.ref a, rfl, rfl, rfl, d, _, y, rfl, upd_same, rfl, ?_⟩
      refine ⟨_, rfl, C_BadName, d, _, rfl, rfl, upd_same, R.eN, .ref C_WorksError, .ref C_WorksError, true, rfl, fun u r => r, R.kNW, ?_⟩
      refine ⟨(by show 3 ≤ sizeLine; decide), fun T hT => ?_⟩
      exact bad _ T (e1.trans ((Ex.new hd).trans (Ex.new hT))) upd_same
    · obtain ⟨i, hi⟩ := List.getElem?_of_mem hr0
      have il := (List.getElem?_eq_some_iff.mp hi).1
      have xl := Paired.length hb3
      obtain ⟨x, hx⟩ : ∃ x, xs[i]? = some x := ⟨_, List.getElem?_eq_getElem (by omega)⟩
      obtain ⟨r', hr', ix⟩ := prd_at hb3 hx
      rw [hi] at hr'
      cases hr'
      have fin : ∀ {H1 : Hp}, Ex H H1 → 2 ≤ sizeLine ∧ ∀ T, H1 T = none → Q (.ref T) (upd H1 T (.tup [.str "told", .str r.nm])) := fun e1 => ⟨(by decide), fun T hT => good _ T (e1.trans (Ex.new hT)) upd_same⟩
      obtain ⟨a, dx', d, rfl, ⟨_, h1, _⟩ | ⟨_, h1, _⟩⟩ := id ix
      · refine .inr ⟨_, rfl, _, rfl, b, dx, _, rfl, hb1, b, t, _, xs, rs, rfl, hb, Fw, py, hz, .inr ⟨i, r, _, rfl, nm, hx, hi, fun H1 e1 => ?_⟩⟩
        exact ⟨a, dx', _, rfl, e1 _ _ h1, a, dx', _, _, rfl, e1 _ _ h1, lf1, fin e1⟩
      · refine .inl ⟨_, rfl, _, rfl, b, dx, _, rfl, hb1, b, t, _, xs, rs, rfl, hb, Fw, py, hz, .inr ⟨i, r, _, rfl, nm, hx, hi, fun H1 e1 => ?_⟩⟩
        exact ⟨a, dx', _, rfl, e1 _ _ h1, a, dx', _, _, rfl, e1 _ _ h1, sf1, fin e1⟩
theorem tbN {t : Addr} {m : Str} (h : ¬ (m = ("_table" : Str))) : (putF "_table" (.ref t) [] : List (Str × V)).lookup m = none := by rw [lookup_putF, if_neg h]; rfl
theorem m_names : ¬ (("names" : Str) = "_table") := by decide +kernel
abbrev s__law_more : Stmt := top 58
theorem sc__law_more : FnScope ["_law_box", "_law_thing", "e"] ["_law_box", "_law_thing"] (defScope s__law_more) := ⟨rfl, rfl, rfl, by decide +kernel, rfl, by decide +kernel, by decide +kernel⟩
def spMore (CB CS CL : Addr) : Sp := fun vs H Q _ => ∃ (b t : Addr) (y : V) (xs : List V) (rs : List Ins), vs = [.ref b, y] ∧ BoxT CB CS CL H b t xs rs ∧ Few rs ∧
  (((Th CS CL H y ∧ rs.length = 6 ∨ Pl H y ∨ ∃ r, InsAt CS CL H y r ∧ r.nm ∈ rs.map (·.nm)) ∧ (Th CS CL H y) ∧ ∀ H' T, Ex H H' → H' T = some (.tup [.str "bad", .int (rs.length : Nat), .bl true]) → Q (.ref T) H') ∨
   ∃ r, InsAt CS CL H y r ∧ r.nm ∉ rs.map (·.nm) ∧ rs.length < 6 ∧ ∀ H' T L, Ex H H' → H' T = some (.tup [.str "told", .ref L]) → H' L = some (.lst ((sortS ((rs ++ [r]).map (·.nm))).map V.str)) → Q (.ref T) H')
/-- the type of a thing, at a box's own operator -/
theorem Th.num {CB CS CL : Addr} {nm : String} (T : ICl K mg CS CL) (hp : ∀ T ∈ plainTs, NumT K CB nm (.type T)) (hS : NumT K CB nm (.ref CS)) (hL : NumT K CB nm (.ref CL)) {H : Hp} {v : V} (h : Th CS CL H v) : ∃ t, TyX K H v t ∧ NumT K CB nm t := by
  rcases h with h | ⟨r, a, dx, d, rfl, ⟨_, h1, _⟩ | ⟨_, h1, _⟩⟩
  · obtain ⟨t, ht, ty⟩ := Pl.numT (K := K) h
    exact ⟨_, ty, hp t ht⟩
  · exact ⟨_, .base (T.isaL _ _ _ _ h1), hL⟩
  · exact ⟨_, .base (T.isaS _ _ _ _ h1), hS⟩
theorem ok_more {C_Box C_Sensor C_Lock C_BadInstrument C_BadName C_WorksError : Addr} (G : Gz mg) (T : ICl K mg C_Sensor C_Lock) (B : BCl K mg C_Box) (R : Er K mg C_BadInstrument C_BadName C_WorksError) (nS : NumT K C_Box "or" (.ref C_Sensor)) (nL : NumT K C_Box "or" (.ref C_Lock))
    (mO : OwnM P w K mg base C_Box (L2.CX P w) "__or__" 6 ["self", "instrument"] (spOrG C_Box C_Sensor C_Lock C_BadInstrument) (fun f => OwnOp K C_Box f "or")) (mN : BM P w K mg base C_Box CXn "names" 1 ["self"] (spNamesB C_Box C_Sensor C_Lock)) (D : Df K mg "_law_more" s__law_more f fd ["_law_box", "_law_thing"]) : Callee P w K mg base CXn 8 "_law_more" 2 (spMore C_Box C_Sensor C_Lock) := by
  have g_BadInstrument := R.gE
  have g_WorksError := R.gW
  have xf_BadInstrument := R.xE
  have no_BadInstrument := R.nE
  have cls_Box := B.cl
  obtain ⟨f3, fd3, _, _, O_or, F_or, b_or⟩ := mO.ex
  obtain ⟨f4, fd4, m_names, F_names, b_names⟩ := mN.ex
  refine D.callee (D.fn.ok sc__law_more (fun vs H Q E h => ?_) (fun cdv A outer s H vs Q E hr h => ⟨_, (pss_one (ps_try_asM (tb := _) rfl rfl sc__law_more.nd takes0 (fun W pn xe tk po => (pss_one (ps_ret (pe_tup (pa_cons pe_str (pa_cons (pe_meth0 (E := En) (pe_ownBinK (K := K) rfl (nm := "or") rfl O_or (by rfl) (by rfl) F_or (hr.mono (by decide)) b_or (fun σ => passAt tk σ) (pv 0) (pv 1)) cls_Box m_names F_names (hr.mono (by decide)) b_names .nil passN) pa_nil)))))) (HdsAs.clause (c := .ref C_BadInstrument) ⟨rfl, by decide, .inl g_BadInstrument⟩ (i := 2) rfl rfl (fun a oe cls d pn hz hf => (pss_one (ps_ret (pe_tup (pa_cons pe_str (pa_cons (pe_xf xf_BadInstrument no_BadInstrument hz hf (pv 2)) (pa_cons (pe_callB (call_isED hz hf) rfl G.g_isinstance (by rfl) (pa_cons (pv 2) (pa_cons (pe_glob (v := .ref C_WorksError) rfl g_WorksError rfl) pa_nil))) pa_nil))))))) HdsAs.done))), ?_⟩))
  · obtain ⟨_, _, _, _, _, rfl, _⟩ := h
    rfl
  · obtain ⟨b, t, y, xs, rs, rfl, hb, Fw, out⟩ := h
    obtain ⟨dx, hb1, hb2, hb3⟩ := id hb
    rcases out with ⟨no, th, bad⟩ | ⟨r, hy, nin, lt, good⟩
    · obtain ⟨ty, hty, hnt⟩ := th.num T num_or nS nL
      refine ⟨_, rfl, _, rfl, b, dx, _, ty, rfl, hb1, hty, hnt, b, t, y, xs, rs, rfl, hb, Fw, .inl ⟨fun H1 d e1 hd => ?_, no⟩⟩
      refine ⟨true, R.mEE, fun _ a ha => ?_, fun z => nomatch z⟩
      refine ⟨.ref a, rfl, rfl, rfl, d, _, .int (rs.length : Nat), rfl, upd_same, rfl, ?_⟩
      refine ⟨_, rfl, C_BadInstrument, d, _, rfl, rfl, upd_same, R.eE, .ref C_WorksError, .ref C_WorksError, true, rfl, fun u r => r, R.kEW, ?_⟩
      refine ⟨(by show 3 ≤ sizeLine; decide), fun T hT => ?_⟩
      exact bad _ T (e1.trans ((Ex.new hd).trans (Ex.new hT))) upd_same
    · obtain ⟨ty, hty, hnt⟩ := Th.num T num_or nS nL (.inr ⟨r, hy⟩ : Th C_Sensor C_Lock H y)
      refine ⟨_, rfl, _, rfl, b, dx, _, ty, rfl, hb1, hty, hnt, b, t, y, xs, rs, rfl, hb, Fw, .inr ⟨r, hy, nin, lt, fun H1 b' t' e1 _ _ hb' => ?_⟩⟩
      obtain ⟨dx', hb1', _⟩ := id hb'
      have Fw' : Few (rs ++ [r]) := ⟨by rw [List.map_append, List.nodup_append]; exact ⟨Fw.nd, by simp, fun u hu c hc => by rw [List.mem_singleton.mp hc]; exact fun w => nin (by rw [show r.nm = u from w.symm]; exact hu)⟩, by simp, by rw [List.length_append]; show _ + 1 ≤ 6; omega⟩
      refine ⟨b', dx', _, rfl, hb1', tbN WK.m_names, b', t', _, _, rfl, hb', Fw', fun L H2 e2 _ hL => ?_⟩
      refine ⟨(by show 2 ≤ sizeLine; decide), fun T hT => ?_⟩
      exact good _ T L (e1.trans (e2.trans (Ex.new hT))) upd_same (Ex.new hT _ _ hL)
abbrev s__law_less : Stmt := top 59
theorem sc__law_less : FnScope ["_law_box", "_law_name_here", "e"] ["_law_box", "_law_name_here"] (defScope s__law_less) := ⟨rfl, rfl, rfl, by decide +kernel, rfl, by decide +kernel, by decide +kernel⟩
def spLess (CB CS CL : Addr) : Sp := fun vs H Q _ => ∃ (b t : Addr) (y : V) (xs : List V) (rs : List Ins), vs = [.ref b, y] ∧ BoxT CB CS CL H b t xs rs ∧ Few rs ∧ Pl H y ∧ (∀ z, y = .str z → z.length ≤ 1000) ∧
  (((nmB y = false ∨ ∃ n, y = .str n ∧ (n ∉ rs.map (·.nm) ∨ rs.length = 1)) ∧ ∀ H' T, Ex H H' → H' T = some (.tup [.str "bad", y, .bl true]) → Q (.ref T) H') ∨
   ∃ n, y = .str n ∧ IsNm n ∧ n ∈ rs.map (·.nm) ∧ 1 < rs.length ∧ ∀ H' T L, Ex H H' → H' T = some (.tup [.str "told", .ref L]) → H' L = some (.lst ((sortS ((dropI n rs).map (·.nm))).map V.str)) → Q (.ref T) H')
theorem ok_less {C_Box C_Sensor C_Lock C_BadInstrument C_BadName C_WorksError : Addr} (G : Gz mg) (B : BCl K mg C_Box) (R : Er K mg C_BadInstrument C_BadName C_WorksError)
    (mS : OwnM P w K mg base C_Box (L2.CX P w) "__sub__" 6 ["self", "name"] (spSubG C_Box C_Sensor C_Lock C_BadName) (fun f => OwnOp K C_Box f "sub")) (mN : BM P w K mg base C_Box CXn "names" 1 ["self"] (spNamesB C_Box C_Sensor C_Lock)) (D : Df K mg "_law_less" s__law_less f fd ["_law_box", "_law_name_here"]) : Callee P w K mg base CXn 8 "_law_less" 2 (spLess C_Box C_Sensor C_Lock) := by
  have g_BadName := R.gN
  have g_WorksError := R.gW
  have xf_BadName := R.xN
  have no_BadName := R.nN
  have cls_Box := B.cl
  obtain ⟨f3, fd3, _, _, O_sub, F_sub, b_sub⟩ := mS.ex
  obtain ⟨f4, fd4, m_names, F_names, b_names⟩ := mN.ex
  refine D.callee (D.fn.ok sc__law_less (fun vs H Q E h => ?_) (fun cdv A outer s H vs Q E hr h => ⟨_, (pss_one (ps_try_asM (tb := _) rfl rfl sc__law_less.nd takes0 (fun W pn xe tk po => (pss_one (ps_ret (pe_tup (pa_cons pe_str (pa_cons (pe_meth0 (E := En) (pe_ownBinK (K := K) rfl (nm := "sub") rfl O_sub (by rfl) (by rfl) F_sub (hr.mono (by decide)) b_sub (fun σ => passAt tk σ) (pv 0) (pv 1)) cls_Box m_names F_names (hr.mono (by decide)) b_names .nil passN) pa_nil)))))) (HdsAs.clause (c := .ref C_BadName) ⟨rfl, by decide, .inl g_BadName⟩ (i := 2) rfl rfl (fun a oe cls d pn hz hf => (pss_one (ps_ret (pe_tup (pa_cons pe_str (pa_cons (pe_xf xf_BadName no_BadName hz hf (pv 2)) (pa_cons (pe_callB (call_isED hz hf) rfl G.g_isinstance (by rfl) (pa_cons (pv 2) (pa_cons (pe_glob (v := .ref C_WorksError) rfl g_WorksError rfl) pa_nil))) pa_nil))))))) HdsAs.done))), ?_⟩))
  · obtain ⟨_, _, _, _, _, rfl, _⟩ := h
    rfl
  · obtain ⟨b, t, y, xs, rs, rfl, hb, Fw, py, hz, out⟩ := h
    obtain ⟨dx, hb1, hb2, hb3⟩ := id hb
    obtain ⟨ty, ht, hty⟩ := Pl.numT (K := K) py
    have hnt := num_sub (K := K) (C := C_Box) ty ht
    rcases out with ⟨no, bad⟩ | ⟨n, rfl, nm, hin, lt, good⟩
    · refine ⟨_, rfl, _, rfl, b, dx, _, _, rfl, hb1, hty, hnt, b, t, y, xs, rs, rfl, hb, Fw, py, hz, .inl ⟨fun H1 d e1 hd => ?_, no⟩⟩
      refine ⟨true, R.mNN, fun _ a ha => ?_, fun z => nomatch z⟩
      refine ⟨.ref a, rfl, rfl, rfl, d, _, y, rfl, upd_same, rfl, ?_⟩
      refine ⟨_, rfl, C_BadName, d, _, rfl, rfl, upd_same, R.eN, .ref C_WorksError, .ref C_WorksError, true, rfl, fun u r => r, R.kNW, ?_⟩
      refine ⟨(by show 3 ≤ sizeLine; decide), fun T hT => ?_⟩
      exact bad _ T (e1.trans ((Ex.new hd).trans (Ex.new hT))) upd_same
    · refine ⟨_, rfl, _, rfl, b, dx, _, _, rfl, hb1, hty, hnt, b, t, _, xs, rs, rfl, hb, Fw, py, hz, .inr ⟨n, rfl, nm, hin, lt, fun H1 b' t' e1 _ _ hb' => ?_⟩⟩
      obtain ⟨dx', hb1', _⟩ := id hb'
      have dl := dropI_least (n := n) Fw.nd
      have dm : (dropI n rs).length ≤ rs.length := List.length_filter_le _ _
      have := Fw.most
      have Fw' : Few (dropI n rs) := ⟨dropI_names Fw.nd, by omega, by omega⟩
      refine ⟨b', dx', _, rfl, hb1', tbN WK.m_names, b', t', _, _, rfl, hb', Fw', fun L H2 e2 _ hL => ?_⟩
      refine ⟨(by show 2 ≤ sizeLine; decide), fun T hT => ?_⟩
      exact good _ T L (e1.trans (e2.trans (Ex.new hT))) upd_same (Ex.new hT _ _ hL)
end
end WK

set_option Elab.async false
set_option linter.all false
set_option maxRecDepth 100000
set_option maxHeartbeats 4000000
namespace WK
open PySem PySem.Spec PyProof.Rows L2 WW Evl
/-- None, a truth value, a number, a text -/
def Lf : V → Prop | .non => True | .bl _ => True | .int _ => True | .str _ => True | _ => False
/-- an empty dict -/
def Emp (H : Hp) (v : V) : Prop := ∃ a, v = .ref a ∧ H a = some (.dK [])
def Lx (H : Hp) (v : V) : Prop := Lf v ∨ Emp H v
/-- alike, n levels deep -/
def Alk : Nat → Hp → V → V → Prop
  | 0, H, v, u => v = u ∧ Lx H v
  | n + 1, H, v, u => (v = u ∧ Lx H v) ∨ ∃ a b xs ys, v = .ref a ∧ u = .ref b ∧ ((H a = some (.lst xs) ∧ H b = some (.lst ys)) ∨ (H a = some (.tup xs) ∧ H b = some (.tup ys))) ∧ xs.length ≤ 1000 ∧ Paired (Alk n H) xs ys
theorem Lx.ex {H H' : Hp} {v : V} (e : Ex H H') (h : Lx H v) : Lx H' v := h.imp id fun ⟨a, z, h⟩ => ⟨a, z, e _ _ h⟩
theorem Alk.ex {H H' : Hp} (e : Ex H H') : ∀ {n : Nat} {v u : V}, Alk n H v u → Alk n H' v u
  | 0, _, _, h => ⟨h.1, h.2.ex e⟩
  | n + 1, _, _, h => h.imp (fun h => ⟨h.1, h.2.ex e⟩) fun ⟨a, b, xs, ys, e1, e2, h, l, p⟩ => ⟨a, b, xs, ys, e1, e2, h.imp (fun z => ⟨e _ _ z.1, e _ _ z.2⟩) (fun z => ⟨e _ _ z.1, e _ _ z.2⟩), l, Paired.mapP p fun _ _ q => Alk.ex e q⟩
theorem Alk.leaf {H : Hp} {v : V} (h : Lf v) : ∀ n, Alk n H v v
  | 0 => ⟨rfl, .inl h⟩
  | _ + 1 => .inl ⟨rfl, .inl h⟩
theorem Lf.pl {H : Hp} {v : V} (h : Lf v) : Pl H v := by
  cases v <;> first | exact .non | exact .bl _ | exact .int _ | exact .str _ | exact h.elim
theorem Lf.flat {H : Hp} {v : V} (h : Lf v) : isL H v = false ∧ isT H v = false := by
  cases v <;> first | exact ⟨rfl, rfl⟩ | exact h.elim
theorem Lx.pl {H : Hp} {v : V} (h : Lx H v) : Pl H v := by
  rcases h with h | ⟨a, rfl, h⟩
  · exact h.pl
  · exact .dct h
theorem Lx.flat {H : Hp} {v : V} (h : Lx H v) : isL H v = false ∧ isT H v = false := by
  rcases h with h | ⟨a, rfl, h⟩
  · exact h.flat
  · exact ⟨isL_at h, isT_at h⟩
theorem Lf.scal {v : V} (h : Lf v) : scal v v = true := by
  cases v <;> first | rfl | exact h.elim
theorem scal_bl (a b : Bool) : scal (.bl a) (.bl b) = true := rfl
theorem prd_get {α β : Type} {F : α → β → Prop} {xs : List α} {ys : List β} (h : Paired F xs ys) {i : Nat} (hi : i < xs.length) : ∃ x y, xs[i]? = some x ∧ ys[i]? = some y ∧ F x y := by
  obtain ⟨y, hy, g⟩ := prd_at h (List.getElem?_eq_getElem hi)
  exact ⟨_, y, List.getElem?_eq_getElem hi, hy, g⟩
def spA : Nat → Sp
  | 0 => fun _ _ _ _ => False
  | n + 1 => fun vs H Q _ => ∃ v u, vs = [v, u] ∧ Alk n H v u ∧ ∀ H', Ex H H' → Q (.bl true) H'
section
variable {P : Program} {w : World} {K : PySem.W.Frag} {mg : Str → Option Value} {base : Heap} {f : Addr} {fd : FuncData}
abbrev s__law_alike : Stmt := top 53
theorem sc__law_alike : FnScope ["_law_one_here", "_law_other", "_law_at"] ["_law_one_here", "_law_other"] (defScope s__law_alike) := ⟨rfl, rfl, rfl, by decide +kernel, rfl, by decide +kernel, by decide +kernel⟩
theorem ok_alike0 (D : Df K mg "_law_alike" s__law_alike f fd ["_law_one_here", "_law_other"]) : Callee P w K mg base CXn 0 "_law_alike" 2 (spA 0) := by
  refine D.callee ⟨fun _ _ _ _ h => h.elim, fun _ _ _ _ _ _ _ _ _ _ _ _ _ h => h.elim⟩
theorem ok_alike (G : Gz mg) (D : Df K mg "_law_alike" s__law_alike f fd ["_law_one_here", "_law_other"]) (n : Nat) (c__law_alike : Callee P w K mg base CXn n "_law_alike" 2 (spA n)) : Callee P w K mg base CXn (n + 1) "_law_alike" 2 (spA (n + 1)) := by
  refine D.callee (D.fn.ok sc__law_alike (fun vs H Q E h => ?_) (fun cdv A outer s H vs Q E hr h => ⟨_, PSs.nox (pss_cons (ps_if (pt_cmpR op_ne (pe_callB (isiK (K := K) rfl) rfl G.g_isinstance (by rfl) (pa_cons (pv 0) (pa_cons (pe_bltn (v := .ty "bool") rfl G.g_bool (by rfl) rfl) pa_nil))) (pe_callB (isiK (K := K) rfl) rfl G.g_isinstance (by rfl) (pa_cons (pv 1) (pa_cons (pe_bltn (v := .ty "bool") rfl G.g_bool (by rfl) rfl) pa_nil))) (nomark _)) (pss_one (ps_ret pe_bl)) pss_nil) (pss_cons (ps_if (pt_val (pe_callB call_isiT rfl G.g_isinstance (by rfl) (pa_cons (pv 1) (pa_cons (pe_tup (pa_cons (pe_bltn (v := .ty "list") rfl G.g_list (by rfl) rfl) (pa_cons (pe_bltn (v := .ty "tuple") rfl G.g_tuple (by rfl) rfl) pa_nil))) pa_nil)))) (pss_cons (ps_if (PW.pt (pw_or (pt_cmpR op_ne (pe_callB (isiK (K := K) rfl) rfl G.g_isinstance (by rfl) (pa_cons (pv 0) (pa_cons (pe_bltn (v := .ty "list") rfl G.g_list (by rfl) rfl) pa_nil))) (pe_callB (isiK (K := K) rfl) rfl G.g_isinstance (by rfl) (pa_cons (pv 1) (pa_cons (pe_bltn (v := .ty "list") rfl G.g_list (by rfl) rfl) pa_nil))) (nomark _)) (pw_or1 (pt_cmpR op_ne (pe_callB (isiK (K := K) rfl) rfl G.g_isinstance (by rfl) (pa_cons (pv 0) (pa_cons (pe_bltn (v := .ty "tuple") rfl G.g_tuple (by rfl) rfl) pa_nil))) (pe_callB (isiK (K := K) rfl) rfl G.g_isinstance (by rfl) (pa_cons (pv 1) (pa_cons (pe_bltn (v := .ty "tuple") rfl G.g_tuple (by rfl) rfl) pa_nil))) (nomark _))))) (pss_one (ps_ret pe_bl)) pss_nil) (pss_cons (ps_if (pt_cmpR op_ne (pe_callB (lenK (K := K) rfl) rfl G.g_len PySem.boot_len (pa_cons (pv 0) pa_nil)) (pe_callB (lenK (K := K) rfl) rfl G.g_len PySem.boot_len (pa_cons (pv 1) pa_nil)) (nomark _)) (pss_one (ps_ret pe_bl)) pss_nil) (pss_one (ps_ret (pe_cmpR op_eq (pe_callB (lenK (K := K) rfl) rfl G.g_len PySem.boot_len (pa_cons (pe_lc (own := [("_law_at", 2)]) rfl sc__law_alike.nd (pi_range1 rfl G.g_range (pa_cons (pe_callB (lenK (K := K) rfl) rfl G.g_len PySem.boot_len (pa_cons (pv 1) pa_nil)) pa_nil)) (BlkOk.mk (N := ["_law_one_here", "_law_other", "_law_at"]) (sc := defScope s__law_alike) rfl (by decide +kernel) (by decide +kernel) (by decide +kernel) (by decide +kernel)) (fun _ _ _ _ _ => (pg_name (i := 2) sc__law_alike.nd rfl (Or.inl rfl))) (fun _ _ _ _ _ => (pts_one (pt_not (pt_val (pe_cl (E := En) c__law_alike (hr.mono (Nat.le_refl _)) rfl passN (pa_cons (pe_ix (ixK (K := K) rfl) (pv 0) (pv 2) (fun _ _ => rfl)) (pa_cons (pe_ix (ixK (K := K) rfl) (pv 1) (pv 2) (fun _ _ => rfl)) pa_nil))))))) (fun _ _ _ _ _ => (pv 2))) pa_nil)) pe_int (nomark _)))))) pss_nil) (pss_one (ps_ret (pe_cmpR (OpR.or op_eq (op_eq_dict hr.units0)) (pv 0) (pv 1) (nomark _)))))), ?_⟩))
  · obtain ⟨_, _, rfl, _⟩ := h
    rfl
  · obtain ⟨v, u, rfl, hal, k⟩ := h
    -- what both are
    have kinds : Pl H v ∧ Pl H u ∧ isB v = isB u ∧ isL H v = isL H u ∧ isT H v = isT H u := by
      have leaf : ∀ {v u : V}, v = u ∧ Lx H v → Pl H v ∧ Pl H u ∧ isB v = isB u ∧ isL H v = isL H u ∧ isT H v = isT H u := fun {v u} h => by
        obtain ⟨rfl, lf⟩ := h
        exact ⟨lf.pl, lf.pl, rfl, rfl, rfl⟩
      cases n with
      | zero => exact leaf hal
      | succ m =>
        rcases hal with h | ⟨a, b, xs, ys, rfl, rfl, ⟨ha, hb⟩ | ⟨ha, hb⟩, _⟩
        · exact leaf h
        · exact ⟨.lst ha, .lst hb, rfl, (isL_at ha).trans (isL_at hb).symm, (isT_at ha).trans (isT_at hb).symm⟩
        · exact ⟨.tup ha, .tup hb, rfl, (isL_at ha).trans (isL_at hb).symm, (isT_at ha).trans (isT_at hb).symm⟩
    obtain ⟨pv', pu', kb, kl, kt⟩ := kinds
    obtain ⟨t, g⟩ := pv'.kin (K := K)
    obtain ⟨t2, g2⟩ := pu'.kin (K := K)
    have nb : ∀ x : Bool, (!decide (V.bl x = V.bl x)) = false := fun x => by rw [decide_eq_true rfl]; rfl
    refine ⟨_, rfl, v, .ty "bool", t, .type "bool", isB v, rfl, .ty _, g.ty, g.bool, ?_⟩
    refine ⟨_, rfl, u, .ty "bool", t2, .type "bool", isB u, rfl, .ty _, g2.ty, g2.bool, rfl, false, (by rw [kb, nb]), iteF ?_⟩
    refine ⟨_, rfl, (by decide), fun p hp => ?_⟩
    have e1 : Ex H (upd H p (.tup [.ty "list", .ty "tuple"])) := Ex.new hp
    obtain ⟨t3, g3⟩ := (pu'.ex e1).kin (K := K)
    have same : isL (upd H p (.tup [.ty "list", .ty "tuple"])) u = isL H u ∧ isT (upd H p (.tup [.ty "list", .ty "tuple"])) u = isT H u := by
      cases pu' with
      | lst h => exact ⟨(isL_at (e1 _ _ h)).trans (isL_at h).symm, (isT_at (e1 _ _ h)).trans (isT_at h).symm⟩
      | tup h => exact ⟨(isL_at (e1 _ _ h)).trans (isL_at h).symm, (isT_at (e1 _ _ h)).trans (isT_at h).symm⟩
      | dct h => exact ⟨(isL_at (e1 _ _ h)).trans (isL_at h).symm, (isT_at (e1 _ _ h)).trans (isT_at h).symm⟩
      | _ => exact ⟨rfl, rfl⟩
    refine ⟨u, p, _, t3, [.type "list", .type "tuple"], isL H u || isT H u, rfl, upd_same, .cons (.ty _) (.cons (.ty _) .nil), g3.ty, ?_, _, rfl, ?_⟩
    · rw [← same.1, ← same.2]
      exact kitAny_cons g3.list (fun z => by rw [z]; exact kitAny_cons g3.tuple (fun z2 => by rw [z2]; rfl) (fun z2 => by rw [z2]; rfl)) (fun z => by rw [z]; rfl)
    have leafEnd : ∀ {H1 : Hp} {v : V}, Lx H1 v → (∀ {Q : VK}, Q (.bl true) H1 → (rEq v v H1 Q ∨ ∃ a b kvs, v = .ref a ∧ v = .ref b ∧ H1 a = some (.dK kvs) ∧ H1 b = some (.dK kvs) ∧ (kvs.map (·.1)).Nodup ∧ (∀ p ∈ kvs, flatB p.2 = true) ∧ Q (.bl true) H1)) := fun {H1 v} h Q q => by
      rcases h with h | ⟨a, rfl, h⟩
      · refine .inl ⟨h.scal, ?_⟩
        rw [decide_eq_true rfl]
        exact q
      · exact .inr ⟨a, a, [], rfl, rfl, h, h, List.nodup_nil, (fun _ z => nomatch z), q⟩
    cases n with
    | zero =>
      obtain ⟨rfl, lf⟩ := hal
      rw [lf.flat.1, lf.flat.2]
      refine iteF ?_
      exact ⟨_, rfl, _, rfl, leafEnd (lf.ex e1) (k _ e1)⟩
    | succ m =>
      rcases hal with ⟨rfl, lf⟩ | ⟨a, b, xs, ys, rfl, rfl, hab, x1, pr⟩
      · rw [lf.flat.1, lf.flat.2]
        refine iteF ?_
        exact ⟨_, rfl, _, rfl, leafEnd (lf.ex e1) (k _ e1)⟩
      have xl := Paired.length pr
      have row : (isL H (.ref b) || isT H (.ref b)) = true := by
        rcases hab with ⟨_, hb⟩ | ⟨_, hb⟩
        · rw [show isL H (.ref b) = true from isL_at hb]; rfl
        · rw [show isL H (.ref b) = false from isL_at hb, show isT H (.ref b) = true from isT_at hb]; rfl
      rw [row]
      refine iteT ?_
      obtain ⟨tv, gv⟩ := (pv'.ex e1).kin (K := K)
      have samev : isL (upd H p (.tup [.ty "list", .ty "tuple"])) (.ref a) = isL (upd H p (.tup [.ty "list", .ty "tuple"])) (.ref b) ∧ isT (upd H p (.tup [.ty "list", .ty "tuple"])) (.ref a) = isT (upd H p (.tup [.ty "list", .ty "tuple"])) (.ref b) := by
        rcases hab with ⟨ha, hb⟩ | ⟨ha, hb⟩
        · exact ⟨(isL_at (e1 _ _ ha)).trans (isL_at (e1 _ _ hb)).symm, (isT_at (e1 _ _ ha)).trans (isT_at (e1 _ _ hb)).symm⟩
        · exact ⟨(isL_at (e1 _ _ ha)).trans (isL_at (e1 _ _ hb)).symm, (isT_at (e1 _ _ ha)).trans (isT_at (e1 _ _ hb)).symm⟩
      generalize hH1 : upd H p (.tup [.ty "list", .ty "tuple"]) = H1 at e1 gv g3 samev
      refine ⟨_, rfl, .ref a, .ty "list", tv, .type "list", isL H1 (.ref a), rfl, .ty _, gv.ty, gv.list, ?_⟩
      refine ⟨_, rfl, .ref b, .ty "list", t3, .type "list", isL H1 (.ref b), rfl, .ty _, g3.ty, g3.list, rfl, false, (by rw [samev.1, nb]), iteF ?_⟩
      refine ⟨_, rfl, .ref a, .ty "tuple", tv, .type "tuple", isT H1 (.ref a), rfl, .ty _, gv.ty, gv.tuple, ?_⟩
      refine ⟨_, rfl, .ref b, .ty "tuple", t3, .type "tuple", isT H1 (.ref b), rfl, .ty _, g3.ty, g3.tuple, rfl, false, (by rw [samev.2, nb]), iteF ?_⟩
      have la : ∀ {H' : Hp}, Ex H H' → LenV K (.ref a) H' xs.length := fun e => hab.elim (fun z => .inl ⟨xs, sq_of (e _ _ z.1), rfl⟩) (fun z => .inr ⟨xs, st_of (e _ _ z.1), rfl⟩)
      have lb : ∀ {H' : Hp}, Ex H H' → LenV K (.ref b) H' ys.length := fun e => hab.elim (fun z => .inl ⟨ys, sq_of (e _ _ z.2), rfl⟩) (fun z => .inr ⟨ys, st_of (e _ _ z.2), rfl⟩)
      refine ⟨_, rfl, .ref a, xs.length, rfl, la e1, _, rfl, .ref b, ys.length, rfl, lb e1, rfl, false, (by rw [xl, decide_eq_true rfl]; rfl), iteF ?_⟩
      refine ⟨_, rfl, .ref b, ys.length, rfl, lb e1, _, rfl, by omega, by omega, fun N hN => ?_⟩
      refine lc_ev (f := fun _ => false) (v := fun x => x) st_r (by rw [List.length_map, List.length_range]; omega) (fun x => rfl) hN (fun x hx H2 e2 Q q => ?_) (fun x hx _ H2 e2 Q q => ⟨_, rfl, q H2 (Ex.refl _)⟩) (fun H2 e2 hN2 => ?_)
      · obtain ⟨i, hi, rfl⟩ := List.mem_map.mp hx
        have hi2 : i < xs.length := by have := List.mem_range.mp hi; omega
        obtain ⟨x, y, hx', hy', g⟩ := prd_get pr hi2
        have E2 := e1.trans e2
        have atA : ∀ {R : VK}, R x H2 → rIx K (.ref a) (.int (0 + (i : Int))) H2 R := fun {R} q => hab.elim (fun z => .inl ⟨a, xs, _, x, rfl, rfl, sq_of (E2 _ _ z.1), at_of (j := i) (by omega) hx', q⟩) (fun z => .inr (.inl ⟨a, xs, _, x, rfl, rfl, st_of (E2 _ _ z.1), at_of (j := i) (by omega) hx', q⟩))
        have atB : ∀ {R : VK}, R y H2 → rIx K (.ref b) (.int (0 + (i : Int))) H2 R := fun {R} q => hab.elim (fun z => .inl ⟨b, ys, _, y, rfl, rfl, sq_of (E2 _ _ z.2), at_of (j := i) (by omega) hy', q⟩) (fun z => .inr (.inl ⟨b, ys, _, y, rfl, rfl, st_of (E2 _ _ z.2), at_of (j := i) (by omega) hy', q⟩))
        refine ⟨_, rfl, _, rfl, atA ⟨_, rfl, _, rfl, atB ?_⟩⟩
        exact ⟨x, y, rfl, g.ex E2, fun H3 e3 => ⟨true, rfl, q H3 e3⟩⟩
      have e0 : ((((List.range (ys.length : Int).toNat).map fun (i : Nat) => V.int (0 + (i : Int))).filter fun _ => false).map fun x => x) = [] := by
        rw [List.filter_eq_nil_iff.mpr (fun _ _ => by decide)]
        rfl
      rw [e0] at hN2
      refine ⟨.ref N, 0, rfl, .inl ⟨_, sq_of hN2, rfl⟩, rfl, ?_⟩
      have q := k _ (e1.trans e2)
      rw [← decide_eq_true (p := V.int ((0 : Nat) : Int) = V.int 0) rfl] at q
      exact q
end
end WK

set_option Elab.async false
set_option linter.all false
set_option maxRecDepth 100000
set_option maxHeartbeats 4000000
namespace WK
open PySem PySem.Spec PyProof.Rows L2 WW Evl
/-- a thing that is no instrument and no name -/
def Sg (p : Addr) (H : Hp) (v : V) : Prop := (Lf v ∧ nmB v = false ∧ ∀ z, v = .str z → z.length ≤ 1000) ∨
  ∃ a, v = .ref a ∧ a ≠ p ∧ (H a = some (.tup []) ∨ H a = some (.lst []) ∨ H a = some (.dK []) ∨ ∃ b, b ≠ p ∧ H a = some (.tup [.str "lock", .str "a", .int 0, .ref b, .int 1]) ∧ H b = some (.lst [.str "a"]))
theorem Sg.kp {p : Addr} {H H' : Hp} {v : V} (K : Kp p H H') (h : Sg p H v) : Sg p H' v := by
  rcases h with h | ⟨a, rfl, n, h⟩
  · exact .inl h
  · refine .inr ⟨a, rfl, n, ?_⟩
    rcases h with h | h | h | ⟨b, n2, h, h2⟩
    · exact .inl (K.k _ _ n h)
    · exact .inr (.inl (K.k _ _ n h))
    · exact .inr (.inr (.inl (K.k _ _ n h)))
    · exact .inr (.inr (.inr ⟨b, n2, K.k _ _ n h, K.k _ _ n2 h2⟩))
theorem Sg.pl {p : Addr} {H : Hp} {v : V} (h : Sg p H v) : Pl H v := by
  rcases h with h | ⟨a, rfl, n, h⟩
  · exact h.1.pl
  · rcases h with h | h | h | ⟨b, n2, h, h2⟩
    · exact .tup h
    · exact .lst h
    · exact .dct h
    · exact .tup h
theorem Sg.nm {p : Addr} {H : Hp} {v : V} (h : Sg p H v) : nmB v = false := by
  rcases h with h | ⟨a, rfl, n, h⟩
  · exact h.2.1
  · rfl
theorem Sg.len {p : Addr} {H : Hp} {v : V} (h : Sg p H v) : ∀ z, v = .str z → z.length ≤ 1000 := by
  rcases h with h | ⟨a, rfl, n, h⟩
  · exact h.2.2
  · intro z e; cases e
theorem Sg.alk {p : Addr} {H : Hp} {v : V} (h : Sg p H v) (n : Nat) : Alk (n + 2) H v v := by
  rcases h with h | ⟨a, rfl, _, h⟩
  · exact Alk.leaf h.1 _
  · rcases h with h | h | h | ⟨b, n2, h, h2⟩
    · exact .inr ⟨a, a, [], [], rfl, rfl, .inr ⟨h, h⟩, by decide, .nil⟩
    · exact .inr ⟨a, a, [], [], rfl, rfl, .inl ⟨h, h⟩, by decide, .nil⟩
    · exact .inl ⟨rfl, .inr ⟨a, rfl, h⟩⟩
    · exact .inr ⟨a, a, _, _, rfl, rfl, .inr ⟨h, h⟩, (by show 5 ≤ 1000; decide), .cons (Alk.leaf (v := .str "lock") trivial _) (.cons (Alk.leaf (v := .str "a") trivial _) (.cons (Alk.leaf (v := .int 0) trivial _) (.cons (.inr ⟨b, b, _, _, rfl, rfl, .inl ⟨h2, h2⟩, (by show 1 ≤ 1000; decide), .cons (Alk.leaf (v := .str "a") trivial _) .nil⟩) (.cons (Alk.leaf (v := .int 1) trivial _) .nil))))⟩
section
variable {P : Program} {w : World} {K : PySem.W.Frag} {mg : Str → Option Value} {base : Heap} {f : Addr} {fd : FuncData}
abbrev s__law_strange : Stmt := top 60
theorem sc__law_strange : FnScope ["_law_pool_here"] ["_law_pool_here"] (defScope s__law_strange) := ⟨rfl, rfl, rfl, by decide +kernel, rfl, by decide +kernel, by decide +kernel⟩
def spStrange : Sp := fun vs H Q _ => ∃ (p : Addr), vs = [.ref p] ∧ Pool H p ∧ ∀ v H', Kp p H H' → Pool H' p → Sg p H' v → Q v H'
theorem ok_strange (D : Df K mg "_law_strange" s__law_strange f fd ["_law_pool_here"]) (c__law_pick : Callee P w K mg base CXn 2 "_law_pick" 2 spPick) : Callee P w K mg base CXn 3 "_law_strange" 1 spStrange := by
  refine D.callee (D.fn.ok sc__law_strange (fun vs H Q E h => ?_) (fun cdv A outer s H vs Q E hr h => ⟨_, PSs.nox (pss_one (ps_ret (pe_cl (E := En) c__law_pick (hr.mono (by decide)) rfl passN (pa_cons (pv 0) (pa_cons (pe_lst (pa_cons pe_non (pa_cons pe_int (pa_cons pe_str (pa_cons (pe_tup pa_nil) (pa_cons (pe_lst pa_nil) (pa_cons pe_dnewK (pa_cons (pe_tup (pa_cons pe_str (pa_cons pe_str (pa_cons pe_int (pa_cons (pe_lst (pa_cons pe_str pa_nil)) (pa_cons pe_int pa_nil)))))) (pa_cons pe_bl (pa_cons pe_str (pa_cons pe_str pa_nil))))))))))) pa_nil))))), ?_⟩))
  · obtain ⟨_, rfl, _⟩ := h
    rfl
  · obtain ⟨p, rfl, hP, k⟩ := h
    refine ⟨_, rfl, Nat.zero_le _, fun a1 n1 => ⟨Nat.zero_le _, fun a2 n2 => fun a3 n3 => ⟨(by show 1 ≤ sizeLine; decide), fun a4 n4 => ⟨(by show 5 ≤ sizeLine; decide), fun a5 n5 => ⟨(by show 10 ≤ sizeLine; decide), fun LL nL => ?_⟩⟩⟩⟩⟩
    have e1 : Ex H (upd H a1 (.tup [])) := Ex.new n1
    have h1 : upd H a1 (.tup []) a1 = some (.tup []) := upd_same
    generalize upd H a1 (.tup []) = H1 at e1 h1 n2 n3 n4 n5 nL ⊢
    have e2 : Ex H1 (upd H1 a2 (.lst [])) := Ex.new n2
    have h2 : upd H1 a2 (.lst []) a2 = some (.lst []) := upd_same
    generalize upd H1 a2 (.lst []) = H2 at e2 h2 n3 n4 n5 nL ⊢
    have e3 : Ex H2 (upd H2 a3 (.dK [])) := Ex.new n3
    have h3 : upd H2 a3 (.dK []) a3 = some (.dK []) := upd_same
    generalize upd H2 a3 (.dK []) = H3 at e3 h3 n4 n5 nL ⊢
    have e4 : Ex H3 (upd H3 a4 (.lst [.str "a"])) := Ex.new n4
    have h4 : upd H3 a4 (.lst [.str "a"]) a4 = some (.lst [.str "a"]) := upd_same
    generalize upd H3 a4 (.lst [.str "a"]) = H4 at e4 h4 n5 nL ⊢
    have e5 : Ex H4 (upd H4 a5 (.tup [.str "lock", .str "a", .int 0, .ref a4, .int 1])) := Ex.new n5
    have h5 : upd H4 a5 (.tup [.str "lock", .str "a", .int 0, .ref a4, .int 1]) a5 = some (.tup [.str "lock", .str "a", .int 0, .ref a4, .int 1]) := upd_same
    generalize upd H4 a5 (.tup [.str "lock", .str "a", .int 0, .ref a4, .int 1]) = H5 at e5 h5 nL ⊢
    have P1 := hP.ex e1
    have P2 := P1.ex e2
    have P3 := P2.ex e3
    have P4 := P3.ex e4
    have P5 := P4.ex e5
    have m1 : a1 ≠ p := fun z => hP.here (z ▸ n1)
    have m2 : a2 ≠ p := fun z => P1.here (z ▸ n2)
    have m3 : a3 ≠ p := fun z => P2.here (z ▸ n3)
    have m4 : a4 ≠ p := fun z => P3.here (z ▸ n4)
    have m5 : a5 ≠ p := fun z => P4.here (z ▸ n5)
    have mL : LL ≠ p := fun z => P5.here (z ▸ nL)
    have all : ∀ x ∈ [V.non, .int 0, .str "a lock", .ref a1, .ref a2, .ref a3, .ref a5, .bl true, .str "", .str "A"], Sg p H5 x := by
      intro x hx
      have lf : ∀ v : V, Lf v → nmB v = false → (∀ z, v = .str z → z.length ≤ 1000) → Sg p H5 v := fun v a b c => .inl ⟨a, b, c⟩
      simp only [List.mem_cons, List.not_mem_nil, or_false] at hx
      rcases hx with rfl | rfl | rfl | rfl | rfl | rfl | rfl | rfl | rfl | rfl
      · exact lf _ trivial rfl (fun z e => by cases e)
      · exact lf _ trivial rfl (fun z e => by cases e)
      · exact lf _ trivial (by decide +kernel) (fun z e => by cases e; decide +kernel)
      · exact .inr ⟨a1, rfl, m1, .inl ((e2.trans (e3.trans (e4.trans e5))) _ _ h1)⟩
      · exact .inr ⟨a2, rfl, m2, .inr (.inl ((e3.trans (e4.trans e5)) _ _ h2))⟩
      · exact .inr ⟨a3, rfl, m3, .inr (.inr (.inl ((e4.trans e5) _ _ h3)))⟩
      · exact .inr ⟨a5, rfl, m5, .inr (.inr (.inr ⟨a4, m4, h5, e5 _ _ h4⟩))⟩
      · exact lf _ trivial rfl (fun z e => by cases e)
      · exact lf _ trivial (by decide +kernel) (fun z e => by cases e; decide +kernel)
      · exact lf _ trivial (by decide +kernel) (fun z e => by cases e; decide +kernel)
    have eL : Ex H5 (upd H5 LL (.lst [V.non, .int 0, .str "a lock", .ref a1, .ref a2, .ref a3, .ref a5, .bl true, .str "", .str "A"])) := Ex.new nL
    have E5 : Ex H H5 := e1.trans (e2.trans (e3.trans (e4.trans e5)))
    refine ⟨p, LL, _, rfl, P5.ex eL, mL, .inl upd_same, List.cons_ne_nil _ _, (by show 10 ≤ 1000; decide), fun x H' hx K' P' => ?_⟩
    exact k x H' ((Kp.ex E5 hP).trans ((Kp.ex eL P5).trans K')) P' (((all x hx).kp (Kp.ex eL P5)).kp K')
end
end WK

set_option Elab.async false
set_option linter.all false
set_option maxRecDepth 100000
set_option maxHeartbeats 4000000
namespace WK
open PySem PySem.Spec PyProof.Rows L2 WW Evl
/-- ("bad", i, True), ("box", i) as data -/
def dBad (i : Int) : PyData := .tuple [.str "bad", .int i, .bool true]
def dBox (i : Int) : PyData := .tuple [.str "box", .int i]
theorem dp_bad {K : PySem.W.Frag} {H : Hp} {T : Addr} {i : Int} (h : H T = some (.tup [.str "bad", .int i, .bl true])) : Dp K H (.ref T) (dBad i) := .tup (st_of h) (.cons (.str _) (.cons (.int _) (.cons (.bl _) .nil)))
theorem dp_box {K : PySem.W.Frag} {H : Hp} {T : Addr} {i : Int} (h : H T = some (.tup [.str "box", .int i])) : Dp K H (.ref T) (dBox i) := .tup (st_of h) (.cons (.str _) (.cons (.int _) .nil))
theorem ok_bad (i : Int) : okP (dBad i) = true := rfl
theorem ok_box (i : Int) : okP (dBox i) = true := rfl
theorem sortS_ne {ws : List Str} (h : ws ≠ []) : sortS ws ≠ [] := fun z => by
  have := sortS_len ws
  rw [z] at this
  exact h (List.eq_nil_of_length_eq_zero this.symm)
theorem InsAt.kp {CS CL p : Addr} {H H' : Hp} {v : V} {r : Ins} (hP : Pool H p) (K : Kp p H H') (ok : r.Ok) (h : InsAt CS CL H v r) : InsAt CS CL H' v r := by
  obtain ⟨g, s, n, k, gs, ss, hp, _⟩ := hP
  obtain ⟨a, dx', d, rfl, ⟨z, i1, i2⟩ | ⟨z, i1, i2⟩⟩ := h
  · refine ⟨a, dx', d, rfl, .inl ⟨z, K.k _ _ (fun z => by rw [z, hp] at i1; cases i1) i1, K.k _ _ (fun z => ?_) i2⟩⟩
    rw [z, hp] at i2
    cases hs : sortS r.ws with
    | nil => exact sortS_ne ok.ne hs
    | cons x y =>
      rw [hs] at i2
      cases i2
  · exact ⟨a, dx', d, rfl, .inr ⟨z, K.k _ _ (fun z => by rw [z, hp] at i1; cases i1) i1, K.k _ _ (fun z => by rw [z, hp] at i2; cases i2) i2⟩⟩
/-- a list in which no text stands is no lock's -/
theorem InsAt.putL {CS CL S : Addr} {H : Hp} {v : V} {r : Ins} {ys : List V} {o : HO} (ok : r.Ok) (hS : H S = some (.lst ys)) (hy : ∀ y ∈ ys, ∀ s, y ≠ .str s) (h : InsAt CS CL H v r) : InsAt CS CL (upd H S o) v r := by
  obtain ⟨a, dx', d, rfl, ⟨z, i1, i2⟩ | ⟨z, i1, i2⟩⟩ := h
  · refine ⟨a, dx', d, rfl, .inl ⟨z, by rw [upd_ne (fun z => by rw [z, hS] at i1; cases i1)]; exact i1, ?_⟩⟩
    rw [upd_ne (fun z => ?_)]
    · exact i2
    · rw [z, hS] at i2
      have e : ys = (sortS r.ws).map V.str := HO.lst.inj (Option.some.inj i2)
      cases hs : sortS r.ws with
      | nil => exact sortS_ne ok.ne hs
      | cons x y =>
        rw [hs] at e
        exact hy (.str x) (by rw [e]; exact List.mem_cons_self) x rfl
  · exact ⟨a, dx', d, rfl, .inr ⟨z, by rw [upd_ne (fun z => by rw [z, hS] at i1; cases i1)]; exact i1, by rw [upd_ne (fun z => by rw [z, hS] at i2; cases i2)]; exact i2⟩⟩
theorem ins_refs {CS CL : Addr} {H : Hp} : ∀ {vs : List V} {rs : List Ins}, Paired (InsAt CS CL H) vs rs → ∀ y ∈ vs, ∀ s, y ≠ .str s
  | _, _, .nil, y, hy, _ => by cases hy
  | _, _, .cons g t, y, hy, s => by
    rcases List.mem_cons.mp hy with rfl | hy
    · obtain ⟨a, _, _, rfl, _⟩ := g
      exact fun z => by cases z
    · exact ins_refs t y hy s
theorem prd_memR {α β : Type} {R S : α → β → Prop} : ∀ {xs : List α} {os : List β}, Paired R xs os → (∀ x o, o ∈ os → R x o → S x o) → Paired S xs os
  | _, _, .nil, _ => .nil
  | _, _, .cons g t, h => .cons (h _ _ List.mem_cons_self g) (prd_memR t fun x o m => h x o (List.mem_cons_of_mem _ m))
theorem prd_takeW {α β : Type} {R : α → β → Prop} : ∀ {xs : List α} {us : List β}, Paired R xs us → ∀ k, Paired R (xs.take k) (us.take k)
  | _, _, _, 0 => by simp only [List.take_zero]; exact .nil
  | _, _, .nil, k + 1 => .nil
  | _, _, .cons g r, k + 1 => .cons g (prd_takeW r k)
theorem sl_take {K : PySem.W.Frag} {H : Hp} {a : Addr} {xs : List V} {n : Nat} {Q : VK} (h : H a = some (.lst xs)) (k : ∀ l, H l = none → Q (.ref l) (upd H l (.lst (xs.take n)))) : rSlL K (.ref a) none (some (n : Int)) H Q :=
  ⟨a, xs, rfl, sq_of h, fun l hl => by rw [cut_take]; exact k l hl⟩
theorem Sg.put {p S : Addr} {H : Hp} {v : V} {ys : List V} {o : HO} (h : Sg p H v) (hS : H S = some (.lst ys)) (ne : ys ≠ []) (hy : ∀ y ∈ ys, ∀ s, y ≠ .str s) : Sg p (upd H S o) v := by
  rcases h with h | ⟨a, rfl, n, h⟩
  · exact .inl h
  · refine .inr ⟨a, rfl, n, ?_⟩
    rcases h with h | h | h | ⟨b, n2, h, h2⟩
    · exact .inl (by rw [upd_ne (fun z => by rw [z, hS] at h; cases h)]; exact h)
    · exact .inr (.inl (by rw [upd_ne (fun z => by rw [z, hS] at h; cases h; exact ne rfl)]; exact h))
    · exact .inr (.inr (.inl (by rw [upd_ne (fun z => by rw [z, hS] at h; cases h)]; exact h)))
    · refine .inr (.inr (.inr ⟨b, n2, by rw [upd_ne (fun z => by rw [z, hS] at h; cases h)]; exact h, ?_⟩))
      rw [upd_ne (fun z => ?_)]
      · exact h2
      · rw [z, hS] at h2
        cases h2
        exact hy (.str "a") List.mem_cons_self _ rfl
/-- the instruments of rows, put into a list one by one -/
theorem ones_step {CS CL : Addr} {B H' H2 : Hp} {N o : Addr} {ys : List V} {rs : List Ins} {j : Nat} {r : Ins} (ok : ∀ q ∈ rs, q.Ok) (hB : B N = none) (e : Ex B H') (hN : H' N = some (.lst ys)) (py : Paired (InsAt CS CL H') ys (rs.take j)) (hr : rs[j]? = some r) (e2 : Ex H' H2) (g : InsAt CS CL H2 (.ref o) r) (l7 : ys.length ≤ 1000) :
    ∃ acc, H2 N = some (.lst acc) ∧ acc.length < sizeLine ∧ ∃ ys, Ex B (upd H2 N (.lst (acc ++ [.ref o]))) ∧ (upd H2 N (.lst (acc ++ [.ref o]))) N = some (.lst ys) ∧ Paired (InsAt CS CL (upd H2 N (.lst (acc ++ [.ref o])))) ys (rs.take (j + 1)) := by
  have hN2 := e2 _ _ hN
  have py2 := Paired.mapP py fun _ _ z => InsAt.ex e2 z
  have rf := ins_refs py2
  refine ⟨ys, hN2, sz_lt (by omega), ys ++ [.ref o], (e.trans e2).mut hB, upd_same, ?_⟩
  rw [List.take_add_one, hr]
  exact prd_appW (prd_memR py2 fun x q m z => z.putL (ok q (List.mem_of_mem_take m)) hN2 rf) (.cons (g.putL (ok r (List.mem_of_getElem? hr)) hN2 rf) .nil)
section
variable {P : Program} {w : World} {K : PySem.W.Frag} {mg : Str → Option Value} {base : Heap} {f : Addr} {fd : FuncData}
/-- told(..) != ("bad", i, True) is False -/
theorem ne_bad {H : Hp} {x y : V} {i : Int} {Q : VK} {T T2 : Addr} (ex : x = .ref T) (ey : y = .ref T2) (h1 : H T = some (.tup [.str "bad", .int i, .bl true])) (h2 : H T2 = some (.tup [.str "bad", .int i, .bl true])) (q : Q (.bl false) H) : rNeP K x y H Q := by
  subst ex
  subst ey
  refine ⟨_, _, dp_bad h1, dp_bad h2, ok_bad i, ok_bad i, ?_⟩
  rw [eqv_refl (ok_bad i)]
  exact q
abbrev s__law_rows_refused : Stmt := top 61
theorem sc__law_rows_refused : FnScope ["_law_pool_here", "_law_rows", "_law_made", "_law_row", "_law_many", "_law_at", "_law_spoiled", "_law_twice", "_law_thing"] ["_law_pool_here", "_law_rows"] (defScope s__law_rows_refused) := ⟨rfl, rfl, rfl, by decide +kernel, rfl, by decide +kernel, by decide +kernel⟩
def spRR : Sp := fun vs H Q _ => ∃ (p rl : Addr) (xs : List V) (rs : List Ins), vs = [.ref p, .ref rl] ∧ Pool H p ∧ rl ≠ p ∧ H rl = some (.lst xs) ∧ Paired (InsT p H) xs rs ∧ (∀ r ∈ rs, r.Ok) ∧ (rs.map (·.nm)).Nodup ∧ rs.length = 7 ∧ ∀ H', Kp p H H' → Pool H' p → Q (.bl true) H'
theorem ok_rr {C_Sensor C_Lock : Addr} (G : Gz mg) (D : Df K mg "_law_rows_refused" s__law_rows_refused f fd ["_law_pool_here", "_law_rows"]) (c__law_draw : Callee P w K mg base CXn 1 "_law_draw" 2 spDraw) (c__law_strange : Callee P w K mg base CXn 3 "_law_strange" 1 spStrange)
    (c__law_one : Callee P w K mg base CXn 7 "_law_one" 1 (spOne C_Sensor C_Lock)) (c__law_told : Callee P w K mg base CXn 6 "_law_told" 1 (spTold C_Sensor C_Lock)) : Callee P w K mg base CXn 8 "_law_rows_refused" 2 spRR := by
  refine D.callee (D.fn.ok sc__law_rows_refused (fun vs H Q E h => ?_) (fun cdv A outer s H vs Q E hr h => ⟨_, PSs.nox (pss_cons (ps_setLc (i := 2) (y := "_law_made") (own := [("_law_row", 3)]) rfl sc__law_rows_refused.nd rfl rfl rfl (pi_list (pv 1)) (BlkOk.mk (N := ["_law_pool_here", "_law_rows", "_law_made", "_law_row", "_law_many", "_law_at", "_law_spoiled", "_law_twice", "_law_thing"]) (sc := defScope s__law_rows_refused) rfl (by decide +kernel) (by decide +kernel) (by decide +kernel) (by decide +kernel)) (fun _ _ _ _ _ => (pg_name (i := 3) sc__law_rows_refused.nd rfl (Or.inl rfl))) (fun _ _ _ _ _ => pts_nil) (fun _ _ _ _ _ => (pe_cl (E := En) c__law_one (hr.mono (by decide)) rfl passN (pa_cons (pv 3) pa_nil)))) (pss_cons (ps_set (i := 4) sc__law_rows_refused.nd rfl (Or.inl rfl) (pe_op op_add pe_int (pe_cl (E := En) c__law_draw (hr.mono (by decide)) rfl passN (pa_cons (pv 0) (pa_cons pe_int pa_nil))))) (pss_cons (ps_set (i := 5) sc__law_rows_refused.nd rfl (Or.inl rfl) (pe_cl (E := En) c__law_draw (hr.mono (by decide)) rfl passN (pa_cons (pv 0) (pa_cons (pv 4) pa_nil)))) (pss_cons (ps_set (i := 6) sc__law_rows_refused.nd rfl (Or.inl rfl) (pe_callTy (listOfK (K := K) rfl) rfl G.g_list (by rfl) (pa_cons (pe_slice sl_list (pv 2) po_none (po_some (pv 4))) pa_nil))) (pss_cons (ps_asg (pe_cl (E := En) c__law_strange (hr.mono (by decide)) rfl passN (pa_cons (pv 0) pa_nil)) (pg_sub (pv 6) (pv 5) set_list)) (pss_cons (ps_if (pt_cmpR (op_neP hr.units) (pe_cl (E := En) c__law_told (hr.mono (by decide)) rfl passN (pa_cons (pv 6) pa_nil)) (pe_tup (pa_cons pe_str (pa_cons (pv 5) (pa_cons pe_bl pa_nil)))) (nomark _)) (pss_one (ps_ret pe_bl)) pss_nil) (pss_cons (ps_set (i := 7) sc__law_rows_refused.nd rfl (Or.inl rfl) (pe_op op_cat (pe_slice sl_list (pv 2) po_none (po_some (pv 4))) (pe_lst (pa_cons (pe_cl (E := En) c__law_one (hr.mono (by decide)) rfl passN (pa_cons (pe_ix (ixK (K := K) rfl) (pv 1) (pv 5) (fun _ _ => rfl)) pa_nil)) pa_nil)))) (pss_cut (ps_if (PW.pt (pw_and (pt_cmpR op_lt (pv 4) pe_int (nomark _)) (pw_and1 (pt_cmpR (op_neP hr.units) (pe_cl (E := En) c__law_told (hr.mono (by decide)) rfl passN (pa_cons (pv 7) pa_nil)) (pe_tup (pa_cons pe_str (pa_cons (pv 4) (pa_cons pe_bl pa_nil)))) (nomark _))))) (pss_one (ps_ret pe_bl)) pss_nil) (pss_cons (ps_for PassesOwn.never rfl (pi_list (pe_lst (pa_cons (pe_lst pa_nil) (pa_cons (pe_tup pa_nil) (pa_cons pe_non (pa_cons (pe_ix (ixK (K := K) rfl) (pv 2) pe_int (fun _ _ => rfl)) (pa_cons pe_str (pa_cons pe_dnewK (pa_cons (pv 2) (pa_cons (pe_callTy (tupOfK (K := K) rfl) rfl G.g_tuple (by rfl) (pa_cons (pv 2) pa_nil)) (pa_cons pe_int pa_nil))))))))))) (pg_name (i := 8) sc__law_rows_refused.nd rfl (Or.inl rfl)) (pss_one (ps_if (pt_cmpR (op_neP hr.units) (pe_cl (E := En) c__law_told (hr.mono (by decide)) rfl passN (pa_cons (pv 8) pa_nil)) (pe_tup (pa_cons pe_str (pa_cons (pe_un un_neg pe_int) (pa_cons pe_bl pa_nil)))) (nomark _)) (pss_one (ps_ret pe_bl)) pss_nil))) (pss_one (ps_ret (pe_cmpR (op_eqP hr.units) (pe_cl (E := En) c__law_told (hr.mono (by decide)) rfl passN (pa_cons (pe_callTy (tupOfK (K := K) rfl) rfl G.g_tuple (by rfl) (pa_cons (pe_slice sl_list (pv 2) po_none (po_some (pv 4))) pa_nil)) pa_nil)) (pe_tup (pa_cons pe_str (pa_cons (pv 4) pa_nil))) (nomark _))))))))))))), ?_⟩))
  · obtain ⟨_, _, _, _, rfl, _⟩ := h
    rfl
  · obtain ⟨p, rl, xs, rs, rfl, hP, nrp, hrl, pr, ok, nd, len, k⟩ := h
    have xl := Paired.length pr
    refine ⟨_, rfl, rl, rfl, ⟨_, sq_of hrl⟩, fun N hN => ?_⟩
    refine lc_list (fun j H' => ∃ ys, Ex H H' ∧ H' N = some (.lst ys) ∧ Paired (InsAt C_Sensor C_Lock H') ys (rs.take j)) ⟨[], Ex.new hN, upd_same, .nil⟩ (fun j H' _ ⟨_, e, _⟩ => sq_of (e _ _ hrl)) ?_ ?_
    · rintro j x H' hx ⟨ys, e, hN', py⟩
      obtain ⟨r, hr0, ix⟩ := prd_at pr hx
      have jl := (List.getElem?_eq_some_iff.mp hr0).1
      have yl := Paired.length py
      rw [List.length_take] at yl
      exact ⟨rfl, _, rfl, x, r, rfl, (ix.ex e).row, ok r (List.mem_of_getElem? hr0), fun o H2 e2 _ g => ones_step ok hN e hN' py hr0 e2 g (by omega)⟩
    · rintro H1 ⟨ms, e1, hN1, pm⟩
      have et : rs.take xs.length = rs := by rw [xl]; exact List.take_length
      rw [et] at pm
      have P1 := hP.ex e1
      have nNp : N ≠ p := fun z => hP.here (z ▸ hN)
      have ml := Paired.length pm
      have rl1 := e1 _ _ hrl
      have pr1 : Paired (InsT p H1) xs rs := Paired.mapP pr fun _ _ z => z.ex e1
      refine ⟨_, rfl, p, 6, rfl, P1, by decide, by decide, fun d H2 d0 d1 K2 P2 => ⟨1, d, rfl, rfl, ?_⟩⟩
      obtain ⟨m, em⟩ : ∃ m : Nat, 1 + d = (m : Int) := ⟨(1 + d).toNat, by omega⟩
      show gName 4 (V.int (1 + d)) _ H2 _
      rw [em]
      refine ⟨_, rfl, _, rfl, p, (m : Int), rfl, P2, by omega, by omega, fun d2 H3 a0 a1 K3 P3 => ?_⟩
      obtain ⟨at', ea⟩ : ∃ k : Nat, d2 = (k : Int) := ⟨d2.toNat, by omega⟩
      subst ea
      have m6 : 1 ≤ m ∧ m ≤ 6 := by omega
      have am : at' < m := by omega
      have K13 := K2.trans K3
      have pm3 : Paired (InsAt C_Sensor C_Lock H3) ms rs := prd_memR pm fun x q mq z => z.kp P1 K13 (ok q mq)
      have hN3 := K13.k _ _ nNp hN1
      have hr3 := K13.k _ _ nrp rl1
      have pr3 : Paired (InsT p H3) xs rs := Paired.mapP pr1 fun _ _ z => z.kp P1 K13
      have K03 : Kp p H H3 := (Kp.ex e1 hP).trans K13
      clear K13 K2 K3 P2 P1 hN1 rl1 pm pr1 e1 pr hrl
      -- the spoiled list
      refine ⟨_, rfl, _, rfl, _, rfl, sl_take hN3 fun l4 n4 => ?_⟩
      have e4 : Ex H3 (upd H3 l4 (.lst (ms.take m))) := Ex.new n4
      have h4 : upd H3 l4 (.lst (ms.take m)) l4 = some (.lst (ms.take m)) := upd_same
      dsimp only [tNil]
      generalize upd H3 l4 (.lst (ms.take m)) = H4 at e4 h4
      have P4 := P3.ex e4
      refine ⟨l4, _, rfl, .inl (sq_of h4), fun S nS => ?_⟩
      obtain ⟨F0, nSp⟩ := Fil.new (o := .lst (ms.take m)) P4 nS
      refine ⟨_, rfl, p, rfl, F0.pool, fun v H6 K6 P6 sg => ⟨_, rfl, _, rfl, ?_⟩⟩
      obtain ⟨F6, hS6⟩ := F0.draw nSp upd_same K6 P6
      have lm : (ms.take m).length = m := by rw [List.length_take]; omega
      have K36 : Kp p H3 H6 := (Kp.ex e4 P3).trans F6.kp
      have pm6 : Paired (InsAt C_Sensor C_Lock H6) ms rs := prd_memR pm3 fun x q mq z => z.kp P3 K36 (ok q mq)
      have rf := ins_refs pm6
      have rfm : ∀ y ∈ ms.take m, ∀ s, y ≠ .str s := fun y hy => rf y (List.mem_of_mem_take hy)
      refine ⟨S, ms.take m, (at' : Nat), at', rfl, rfl, hS6, ixN_nat (by omega), ?_⟩
      have sg7 := sg.put (o := .lst ((ms.take m).set at' v)) hS6 (fun z => by rw [z] at lm; simp at lm; omega) rfm
      have pm7 : Paired (InsAt C_Sensor C_Lock (upd H6 S (.lst ((ms.take m).set at' v)))) ms rs := prd_memR pm6 fun x q mq z => z.putL (ok q mq) hS6 rfm
      have F7 := F6.put (o := .lst ((ms.take m).set at' v)) nSp nS
      have nNS : N ≠ S := fun z => by rw [z, fresh_back e4 nS] at hN3; cases hN3
      have nrS : rl ≠ S := fun z => by rw [z, fresh_back e4 nS] at hr3; cases hr3
      have hN7 : upd H6 S (.lst ((ms.take m).set at' v)) N = some (.lst ms) := by rw [upd_ne nNS]; exact K36.k _ _ nNp hN3
      have hS7 : upd H6 S (.lst ((ms.take m).set at' v)) S = some (.lst ((ms.take m).set at' v)) := upd_same
      have K37 : Kp p H3 (upd H6 S (.lst ((ms.take m).set at' v))) := (Kp.ex e4 P3).trans F7.kp
      have P7 := F7.pool
      generalize upd H6 S (.lst ((ms.take m).set at' v)) = H7 at sg7 pm7 F7 hN7 hS7 K37 P7
      clear sg F6 hS6 F0 K6 P6 K36 pm6 h4 e4 P4 pm3 hN3
      have lat : (rs.take at').length = at' := by rw [List.length_take]; omega
      have pre7 : Pre C_Sensor C_Lock H7 S ((ms.take m).set at' v) (rs.take at') := by
        refine ⟨.inl hS7, by rw [List.length_set]; omega, by rw [List.length_set]; omega, ?_, ?_, fun x hx => ?_⟩
        · rw [lat, List.take_set_of_le (Nat.le_refl _), List.take_take, Nat.min_eq_left (by omega)]
          exact prd_takeW pm7 at'
        · rw [List.map_take]
          exact nd.sublist (List.take_sublist _ _)
        · rw [lat, List.getElem?_set_self (by omega)] at hx
          cases hx
          exact .inl sg7.pl
      refine ⟨_, rfl, .ref S, rfl, .inr ⟨S, _, rs.take at', rfl, pre7, fun z => (by rw [List.length_set, lat, lm] at z; omega), fun _ H8 T e8 hT => ?_⟩⟩
      rw [lat] at hT
      refine ⟨_, rfl, (by show 3 ≤ sizeLine; decide), fun T2 nT2 => ?_⟩
      refine ne_bad rfl rfl (Ex.new nT2 _ _ hT) upd_same ⟨false, rfl, iteF ?_⟩
      have e9 : Ex H7 (upd H8 T2 (.tup [.str "bad", .int (at' : Nat), .bl true])) := e8.trans (Ex.new nT2)
      generalize upd H8 T2 (.tup [.str "bad", .int (at' : Nat), .bl true]) = H9 at e9
      clear hT nT2 e8 pre7 sg7 hS7
      have K39 : Kp p H3 H9 := K37.trans (Kp.ex e9 P7)
      have P9 := P7.ex e9
      have hN9 := e9 _ _ hN7
      have hr9 := K39.k _ _ nrp hr3
      have pr9 : Paired (InsT p H9) xs rs := Paired.mapP pr3 fun _ _ z => z.kp P3 K39
      have pm9 : Paired (InsAt C_Sensor C_Lock H9) ms rs := Paired.mapP pm7 fun _ _ z => z.ex e9
      have K09 := K03.trans K39
      clear e9 hN7 pr3 pm7 K39 K37 F7 K03 P3 P7
      obtain ⟨q, hq⟩ : ∃ q, rs[at']? = some q := ⟨_, List.getElem?_eq_getElem (by omega)⟩
      obtain ⟨x, hx⟩ : ∃ x, xs[at']? = some x := ⟨_, List.getElem?_eq_getElem (by omega)⟩
      obtain ⟨q', hq', ix⟩ := prd_at pr9 hx
      rw [hq] at hq'
      cases hq'
      -- the twice list
      refine ⟨_, rfl, _, rfl, _, rfl, sl_take hN9 fun l1 n1 => ?_⟩
      have e10 : Ex H9 (upd H9 l1 (.lst (ms.take m))) := Ex.new n1
      have h10 : upd H9 l1 (.lst (ms.take m)) l1 = some (.lst (ms.take m)) := upd_same
      generalize upd H9 l1 (.lst (ms.take m)) = H10 at e10 h10
      refine ⟨_, rfl, _, rfl, .inl ⟨rl, _, (at' : Nat), x, rfl, rfl, sq_of (e10 _ _ hr9), at_of (j := at') (by omega) hx, ?_⟩⟩
      refine ⟨x, q, rfl, (ix.ex e10).row, ok q (List.mem_of_getElem? hq), fun o H11 e11 no g => ⟨(by show 1 ≤ sizeLine; decide), fun l2 n2 => ?_⟩⟩
      have e12 : Ex H11 (upd H11 l2 (.lst [.ref o])) := Ex.new n2
      have h12 : upd H11 l2 (.lst [.ref o]) l2 = some (.lst [.ref o]) := upd_same
      generalize upd H11 l2 (.lst [.ref o]) = H12 at e12 h12
      refine ⟨l1, l2, _, _, rfl, rfl, (e11.trans e12) _ _ h10, h12, sz_of (by rw [lm]; show m + 1 ≤ 100000; omega), fun TW nTW => ?_⟩
      have e13 : Ex H12 (upd H12 TW (.lst (ms.take m ++ [.ref o]))) := Ex.new nTW
      have h13 : upd H12 TW (.lst (ms.take m ++ [.ref o])) TW = some (.lst (ms.take m ++ [.ref o])) := upd_same
      generalize upd H12 TW (.lst (ms.take m ++ [.ref o])) = H13 at e13 h13
      have E913 : Ex H9 H13 := e10.trans (e11.trans (e12.trans e13))
      have P13 := P9.ex E913
      have K013 := K09.trans (Kp.ex E913 P9)
      have hN13 := E913 _ _ hN9
      have pm13 : Paired (InsAt C_Sensor C_Lock H13) ms rs := Paired.mapP pm9 fun _ _ z => z.ex E913
      have g13 := g.ex (e12.trans e13)
      have lrm : (rs.take m).length = m := by rw [List.length_take]; omega
      refine ⟨fun σ2 H2 => σ2 = [some (.ref p), some (.ref rl), some (.ref N), none, some (.int (m : Nat)), some (.int (at' : Nat)), some (.ref S), some (.ref TW), none] ∧ Ex H13 H2, ?_, ?_⟩
      · refine ⟨_, rfl, (m : Int), 6, rfl, rfl, decide ((m : Int) < 6), rfl, ?_⟩
        refine ite2 (fun lt => ?_) (fun _ => ⟨rfl, Ex.refl _⟩)
        have lt6 : m < 6 := by have := of_decide_eq_true lt; omega
        have pre : Pre C_Sensor C_Lock H13 TW (ms.take m ++ [.ref o]) (rs.take m) := by
          refine ⟨.inl h13, by simp, by rw [List.length_append, lm]; show m + 1 ≤ 6; omega, ?_, ?_, fun y hy => ?_⟩
          · rw [lrm, List.take_left' lm]
            exact prd_takeW pm13 m
          · rw [List.map_take]
            exact nd.sublist (List.take_sublist _ _)
          · rw [lrm, List.getElem?_append_right (by omega), lm, Nat.sub_self] at hy
            cases hy
            exact .inr ⟨q, g13, by rw [List.map_take]; exact List.mem_of_getElem? (i := at') (by rw [List.getElem?_take, if_pos am, List.getElem?_map, hq]; rfl)⟩
        refine ⟨_, rfl, .ref TW, rfl, .inr ⟨TW, _, rs.take m, rfl, pre, fun z => (by rw [List.length_append, lrm, lm] at z; simp at z), fun _ H14 T e14 hT => ?_⟩⟩
        rw [lrm] at hT
        refine ⟨_, rfl, (by show 3 ≤ sizeLine; decide), fun T2 nT2 => ?_⟩
        refine ne_bad rfl rfl (Ex.new nT2 _ _ hT) upd_same ⟨false, rfl, iteF ⟨rfl, e14.trans (Ex.new nT2)⟩⟩
      rintro σ2 H2 ⟨rfl, e2⟩
      have P2 := P13.ex e2
      have K02 := K013.trans (Kp.ex e2 P13)
      have hN2 := e2 _ _ hN13
      have pm2 : Paired (InsAt C_Sensor C_Lock H2) ms rs := Paired.mapP pm13 fun _ _ z => z.ex e2
      clear e2 P13 K013 hN13 pm13 g13 g E913 e13 h13 e12 h12 e11 e10 h10 hN9 pm9 P9 K09 nTW n2 n1 no ix hr9 pr9
      obtain ⟨m0, hm0⟩ : ∃ m0, ms[0]? = some m0 := ⟨_, List.getElem?_eq_getElem (by omega)⟩
      obtain ⟨r0, _, i0⟩ := prd_at pm2 hm0
      -- the things that are no rows
      refine ⟨Nat.zero_le _, fun a1 n1 => ⟨Nat.zero_le _, fun a2 n2 => ⟨_, rfl, .inl ⟨N, _, 0, m0, rfl, rfl, sq_of (Ex.new n2 _ _ (Ex.new n1 _ _ hN2)), at_of (j := 0) rfl hm0, fun a3 n3 => ?_⟩⟩⟩⟩
      have e1 : Ex H2 (upd H2 a1 (.lst [])) := Ex.new n1
      have h1 : upd H2 a1 (.lst []) a1 = some (.lst []) := upd_same
      generalize upd H2 a1 (.lst []) = A1 at e1 h1 n2 n3 ⊢
      have e2 : Ex A1 (upd A1 a2 (.tup [])) := Ex.new n2
      have h2 : upd A1 a2 (.tup []) a2 = some (.tup []) := upd_same
      generalize upd A1 a2 (.tup []) = A2 at e2 h2 n3 ⊢
      have e3 : Ex A2 (upd A2 a3 (.dK [])) := Ex.new n3
      have h3 : upd A2 a3 (.dK []) a3 = some (.dK []) := upd_same
      generalize upd A2 a3 (.dK []) = A3 at e3 h3 ⊢
      have E3 : Ex H2 A3 := e1.trans (e2.trans e3)
      refine ⟨_, rfl, _, rfl, N, ms, rfl, .inl ⟨sq_of (E3 _ _ hN2), fun a4 n4 => ?_⟩⟩
      have e4 : Ex A3 (upd A3 a4 (.tup ms)) := Ex.new n4
      have h4 : upd A3 a4 (.tup ms) a4 = some (.tup ms) := upd_same
      generalize upd A3 a4 (.tup ms) = A4 at e4 h4 ⊢
      refine ⟨(by show 9 ≤ sizeLine; decide), fun LL nL => ?_⟩
      have e5 : Ex A4 (upd A4 LL (.lst [.ref a1, .ref a2, .non, m0, .str "ab", .ref a3, .ref N, .ref a4, .int 0])) := Ex.new nL
      have h5 : upd A4 LL (.lst [.ref a1, .ref a2, .non, m0, .str "ab", .ref a3, .ref N, .ref a4, .int 0]) LL = some (.lst [.ref a1, .ref a2, .non, m0, .str "ab", .ref a3, .ref N, .ref a4, .int 0]) := upd_same
      have E5 := E3.trans (e4.trans e5)
      have all : ∀ y ∈ [V.ref a1, .ref a2, .non, m0, .str "ab", .ref a3, .ref N, .ref a4, .int 0], Th C_Sensor C_Lock (upd A4 LL (.lst [.ref a1, .ref a2, .non, m0, .str "ab", .ref a3, .ref N, .ref a4, .int 0])) y ∧ rowB (upd A4 LL (.lst [.ref a1, .ref a2, .non, m0, .str "ab", .ref a3, .ref N, .ref a4, .int 0])) y 1 6 = false := by
        intro y hy
        have rb : ∀ {H : Hp} {a : Addr} {o : HO}, H a = some o → (∀ n, rlo (some o) = some n → n < 1 ∨ 6 < n) → rowB H (.ref a) 1 6 = false := fun {H a o} h hn => by
          unfold rowB
          rw [rlen_at h]
          cases e : rlo (some o) with
          | none => rfl
          | some n =>
            rcases hn n e with z | z
            · have : n = 0 := by omega
              subst this
              rfl
            · show (decide ((1 : Int) ≤ (n : Int)) && decide ((n : Int) ≤ 6)) = false
              rw [decide_eq_false (show ¬ (n : Int) ≤ 6 by omega), Bool.and_false]
        simp only [List.mem_cons, List.not_mem_nil, or_false] at hy
        rcases hy with rfl | rfl | rfl | rfl | rfl | rfl | rfl | rfl | rfl
        · have h := (e2.trans (e3.trans (e4.trans e5))) _ _ h1
          exact ⟨.inl (.lst h), rb h fun n e => .inl (by cases e; decide)⟩
        · have h := (e3.trans (e4.trans e5)) _ _ h2
          exact ⟨.inl (.tup h), rb h fun n e => .inl (by cases e; decide)⟩
        · exact ⟨.inl .non, rfl⟩
        · have i5 := i0.ex E5
          refine ⟨.inr ⟨_, i5⟩, ?_⟩
          obtain ⟨a, _, _, rfl, ⟨_, h, _⟩ | ⟨_, h, _⟩⟩ := i5
          · exact rb h fun n e => by cases e
          · exact rb h fun n e => by cases e
        · exact ⟨.inl (.str _), rfl⟩
        · have h := (e4.trans e5) _ _ h3
          exact ⟨.inl (.dct h), rb h fun n e => by cases e⟩
        · have h := E5 _ _ hN2
          exact ⟨.inl (.lst h), rb h fun n e => .inr (by cases e; omega)⟩
        · have h := e5 _ _ h4
          exact ⟨.inl (.tup h), rb h fun n e => .inr (by cases e; omega)⟩
        · exact ⟨.inl (.int _), rfl⟩
      generalize upd A4 LL (.lst [.ref a1, .ref a2, .non, m0, .str "ab", .ref a3, .ref N, .ref a4, .int 0]) = B at e5 h5 E5 all ⊢
      refine ⟨LL, rfl, ⟨_, sq_of h5⟩, for_list (fun i σ' H' => ∃ v8, σ' = [some (.ref p), some (.ref rl), some (.ref N), none, some (.int (m : Nat)), some (.int (at' : Nat)), some (.ref S), some (.ref TW), v8] ∧ Ex B H') ⟨none, rfl, Ex.refl _⟩ (fun i σ' H' _ ⟨_, _, e⟩ => sq_of (e _ _ h5)) ?_ ?_⟩
      · rintro i y σ' H' hy ⟨v8, rfl, e⟩
        obtain ⟨th, rbf⟩ := all y (List.mem_of_getElem? hy)
        refine ⟨_, rfl, y, rfl, .inl ⟨th.ex e, (th.rowB e).trans rbf, fun H7 T e7 hT => ?_⟩⟩
        refine ⟨1, rfl, (by show 3 ≤ sizeLine; decide), fun T2 nT2 => ?_⟩
        exact ne_bad rfl rfl (Ex.new nT2 _ _ hT) upd_same ⟨false, rfl, iteF ⟨_, rfl, e.trans (e7.trans (Ex.new nT2))⟩⟩
      · rintro σ' H' ⟨v8, rfl, e⟩
        have E' := E5.trans e
        have hN' := E' _ _ hN2
        refine ⟨_, rfl, _, rfl, _, rfl, sl_take hN' fun l6 n6 => ?_⟩
        dsimp only [tNil]
        refine ⟨l6, _, rfl, .inl ⟨sq_of upd_same, fun TP nTP => ?_⟩⟩
        have e6 := Ex.new (o := .lst (ms.take m)) n6
        have e7 := Ex.new (o := .tup (ms.take m)) nTP
        have pmT : Paired (InsAt C_Sensor C_Lock (upd (upd H' l6 (.lst (ms.take m))) TP (.tup (ms.take m)))) (ms.take m) (rs.take m) := Paired.mapP (prd_takeW pm2 m) fun _ _ z => z.ex (E'.trans (e6.trans e7))
        have pre : Pre C_Sensor C_Lock (upd (upd H' l6 (.lst (ms.take m))) TP (.tup (ms.take m))) TP (ms.take m) (rs.take m) := by
          refine ⟨.inr upd_same, by omega, by omega, ?_, ?_, fun y hy => ?_⟩
          · rw [lrm, List.take_take, Nat.min_self]
            exact pmT
          · rw [List.map_take]
            exact nd.sublist (List.take_sublist _ _)
          · rw [lrm, List.getElem?_eq_none (by omega)] at hy
            cases hy
        refine ⟨.ref TP, rfl, .inr ⟨TP, _, rs.take m, rfl, pre, fun _ H8 T e8 hT => ?_, fun z => by omega⟩⟩
        rw [lrm] at hT
        refine ⟨_, rfl, (by show 2 ≤ sizeLine; decide), fun T2 nT2 => ?_⟩
        refine ⟨_, _, dp_box (Ex.new nT2 _ _ hT), dp_box upd_same, ok_box _, ok_box _, ?_⟩
        rw [eqv_refl (ok_box _)]
        have EE := E'.trans (e6.trans (e7.trans (e8.trans (Ex.new (o := .tup [.str "box", .int (m : Nat)]) nT2))))
        exact k _ (K02.trans (Kp.ex EE P2)) (P2.ex EE)
end
end WK

set_option Elab.async false
set_option linter.all false
set_option maxRecDepth 100000
set_option maxHeartbeats 4000000
namespace WK
open PySem PySem.Spec PyProof.Rows L2 WW Evl
def dTold (z : Str) : PyData := .tuple [.str "told", .str z]
theorem dp_told {K : PySem.W.Frag} {H : Hp} {T : Addr} {z : Str} (h : H T = some (.tup [.str "told", .str z])) : Dp K H (.ref T) (dTold z) := .tup (st_of h) (.cons (.str _) (.cons (.str _) .nil))
theorem ok_told' (z : Str) : okP (dTold z) = true := rfl
theorem ne_told {K : PySem.W.Frag} {H : Hp} {x y : V} {z : Str} {Q : VK} {T T2 : Addr} (ex : x = .ref T) (ey : y = .ref T2) (h1 : H T = some (.tup [.str "told", .str z])) (h2 : H T2 = some (.tup [.str "told", .str z])) (q : Q (.bl false) H) : rNeP K x y H Q := by
  subst ex
  subst ey
  refine ⟨_, _, dp_told h1, dp_told h2, ok_told' z, ok_told' z, ?_⟩
  rw [eqv_refl (ok_told' z)]
  exact q
theorem alk_strs {H : Hp} {a b : Addr} {zs : List Str} (n : Nat) (ha : H a = some (.lst (zs.map V.str))) (hb : H b = some (.lst (zs.map V.str))) (l : zs.length ≤ 1000) : Alk (n + 1) H (.ref a) (.ref b) := by
  refine .inr ⟨a, b, _, _, rfl, rfl, .inl ⟨ha, hb⟩, by rw [List.length_map]; exact l, ?_⟩
  clear ha hb l
  induction zs with
  | nil => exact .nil
  | cons z zs ih => exact .cons (Alk.leaf (v := .str z) trivial _) ih
theorem row_map {H : Hp} : ∀ {xs : List V} {rs : List Ins}, Paired (RowT H) xs rs → xs.map (rowNm H) = (rs.map (·.nm)).map V.str
  | _, _, .nil => rfl
  | _, _, .cons g t => by rw [List.map_cons, List.map_cons, List.map_cons, rowNm_at g, row_map t]
theorem RowT.ex {H H' : Hp} {v : V} {r : Ins} (e : Ex H H') (h : RowT H v r) : RowT H' v r := let ⟨a, b, z, h1, h2⟩ := h; ⟨a, b, z, e _ _ h1, e _ _ h2⟩
/-- what is asked rightly of a box -/
def spItem0 (CB CS CL : Addr) : Sp := fun vs H Q _ => ∃ (b t : Addr) (xs : List V) (rs : List Ins) (i : Nat) (r : Ins) (v : V), vs = [.ref b, .str r.nm] ∧ BoxT CB CS CL H b t xs rs ∧ Few rs ∧ IsNm r.nm ∧ xs[i]? = some v ∧ rs[i]? = some r ∧ ∀ H', Ex H H' → Q v H'
theorem item0 {CB CS CL CN : Addr} (vs : List V) (H : Hp) (Q : VK) (E : XK) (h : spItem0 CB CS CL vs H Q E) : spItemG CB CS CL CN vs H Q E := by
  obtain ⟨b, t, xs, rs, i, r, v, rfl, hb, R, nm, h1, h2, k⟩ := h
  exact ⟨b, t, _, xs, rs, rfl, hb, R, .str _, nmz nm, .inr ⟨i, r, v, rfl, nm, h1, h2, k⟩⟩
theorem own_or {K : PySem.W.Frag} {CS CL : Addr} (N : ICe K CS CL) {H : Hp} {v u : V} {r : Ins} {E : XK} {Q : VK} (h1 : InsAt CS CL H v r) (h2 : InsAt CS CL H u r) (ok : r.Ok) (q : ∀ H', Ext H H' → Q (.bl true) H') : rOwnEq K CS (spEqB (RIns false CS CL)) E v u H Q ∨ rOwnEq K CL (spEqB (RIns true CS CL)) E v u H Q := by
  have a1 := h1
  have a2 := h2
  obtain ⟨a, dx, d, rfl, ⟨lk, h1, _⟩ | ⟨lk, h1, _⟩⟩ := h1
  · obtain ⟨b, dy, d', rfl, ⟨_, h2, _⟩ | ⟨lk', _⟩⟩ := h2
    · exact .inr ⟨a, dx, _, b, CL, dy, _, rfl, rfl, h1, h2, N.nLL, _, _, true, rfl, ⟨r, r.co, a1, a2, ok, lk, (decide_eq_true rfl).symm⟩, q⟩
    · rw [lk] at lk'
      cases lk'
  · obtain ⟨b, dy, d', rfl, ⟨lk', _⟩ | ⟨_, h2, _⟩⟩ := h2
    · rw [lk] at lk'
      cases lk'
    · exact .inl ⟨a, dx, _, b, CS, dy, _, rfl, rfl, h1, h2, N.nSS, _, _, true, rfl, ⟨r, r.co, a1, a2, ok, lk, (decide_eq_true rfl).symm⟩, q⟩
theorem cost_self (r : Ins) : r.cost r.co = r := rfl
section
variable {P : Program} {w : World} {K : PySem.W.Frag} {mg : Str → Option Value} {base : Heap} {f : Addr} {fd : FuncData}
abbrev s__law_stands : Stmt := top 62
theorem sc__law_stands : FnScope ["_law_box", "_law_rows", "_law_names_here", "_law_row", "_law_said"] ["_law_box", "_law_rows"] (defScope s__law_stands) := ⟨rfl, rfl, rfl, by decide +kernel, rfl, by decide +kernel, by decide +kernel⟩
def spStands (CB CS CL : Addr) : Sp := fun vs H Q _ => ∃ (b t l : Addr) (ms xs : List V) (rs : List Ins), vs = [.ref b, .ref l] ∧ BoxT CB CS CL H b t ms rs ∧ Few rs ∧ H l = some (.lst xs) ∧ Paired (RowT H) xs rs ∧ (∀ r ∈ rs, r.Ok) ∧ ∀ H', Ex H H' → Q (.bl true) H'
theorem ok_stands {C_Box C_Sensor C_Lock C_BadName : Addr} (G : Gz mg) (N : ICe K C_Sensor C_Lock) (B : BCl K mg C_Box) (mS : OwnM P w K mg base C_Sensor CXn "__eq__" 1 ["self", "other"] (spEqB (RIns false C_Sensor C_Lock)) fun _ => True) (mL : OwnM P w K mg base C_Lock CXn "__eq__" 1 ["self", "other"] (spEqB (RIns true C_Sensor C_Lock)) fun _ => True)
    (mN : BM P w K mg base C_Box CXn "names" 1 ["self"] (spNamesB C_Box C_Sensor C_Lock)) (mLe : OwnM P w K mg base C_Box CXn "__len__" 1 ["self"] (spLenB C_Box C_Sensor C_Lock) fun _ => True) (mI : OwnM P w K mg base C_Box (L2.CX P w) "__getitem__" 3 ["self", "name"] (spItemG C_Box C_Sensor C_Lock C_BadName) (OwnIx K C_Box))
    (D : Df K mg "_law_stands" s__law_stands f fd ["_law_box", "_law_rows"]) (c__law_alike : Callee P w K mg base CXn 4 "_law_alike" 2 (spA 4)) (c__law_one : Callee P w K mg base CXn 7 "_law_one" 1 (spOne C_Sensor C_Lock)) (c__law_asked : Callee P w K mg base CXn 6 "_law_asked" 2 (spAsked C_Box C_Sensor C_Lock)) :
    Callee P w K mg base CXn 8 "_law_stands" 2 (spStands C_Box C_Sensor C_Lock) := by
  have cls_Box := B.cl
  obtain ⟨f1, fd1, e_eqS, i_eqS, _, F_eqS, b_eqS⟩ := mS.ex
  obtain ⟨f2, fd2, e_eqL, i_eqL, _, F_eqL, b_eqL⟩ := mL.ex
  obtain ⟨f3, fd3, m_names, F_names, b_names⟩ := mN.ex
  obtain ⟨f4, fd4, e_len, i_len, _, F_len, b_len⟩ := mLe.ex
  obtain ⟨f5, fd5, _, _, O_item, F_item0, b_item⟩ := mI.ex
  have F_item : FnOk P w K mg base CXn 3 f5 fd5 ["self", "name"] (spItem0 C_Box C_Sensor C_Lock) := calm F_item0 item0 (fun _ _ _ _ h => h)
  refine D.callee (D.fn.ok sc__law_stands (fun vs H Q E h => ?_) (fun cdv A outer s H vs Q E hr h => ⟨_, PSs.nox (pss_cons (ps_set (i := 2) sc__law_stands.nd rfl (Or.inl rfl) (pe_callB (cr_sortL rfl) rfl G.g_sorted (by rfl) (pa_cons (pe_lc (own := [("_law_row", 3)]) rfl sc__law_stands.nd (pi_list (pv 1)) (BlkOk.mk (N := ["_law_box", "_law_rows", "_law_names_here", "_law_row", "_law_said"]) (sc := defScope s__law_stands) rfl (by decide +kernel) (by decide +kernel) (by decide +kernel) (by decide +kernel)) (fun _ _ _ _ _ => (pg_name (i := 3) sc__law_stands.nd rfl (Or.inl rfl))) (fun _ _ _ _ _ => pts_nil) (fun _ _ _ _ _ => (pe_ix (ixK (K := K) rfl) (pv 3) pe_int (fun _ _ => rfl)))) pa_nil))) (pss_cons (ps_set (i := 4) sc__law_stands.nd rfl (Or.inl rfl) (pe_meth0 (E := En) (pv 0) cls_Box m_names F_names (hr.mono (by decide)) b_names .nil passN)) (pss_cons (ps_if (PW.pt (pw_or (pt_not (pt_val (pe_cl (E := En) c__law_alike (hr.mono (by decide)) rfl passN (pa_cons (pv 4) (pa_cons (pv 2) pa_nil))))) (pw_or1 (pt_cmpR op_ne (pe_callB (cr_lenOwn (E := En) e_len i_len F_len (hr.mono (by decide)) b_len passN) rfl G.g_len PySem.boot_len (pa_cons (pv 0) pa_nil)) (pe_callB (lenK (K := K) rfl) rfl G.g_len PySem.boot_len (pa_cons (pv 2) pa_nil)) (nomark _))))) (pss_one (ps_ret pe_bl)) pss_nil) (pss_cons (ps_expr (pe_bm0 PySem.F.plainAttrs_list PySem.F.slot_list_clear PySem.F.type_list_clear mt_clear (pv 4))) (pss_cons (ps_for PassesOwn.never rfl (pi_list (pv 1)) (pg_name (i := 3) sc__law_stands.nd rfl (Or.inl rfl)) (pss_one (ps_if (PW.pt (pw_or (pt_not (pt_cmpR (OpR.or (op_ownEq (E := En) e_eqS i_eqS F_eqS (hr.mono (by decide)) b_eqS passN) (op_ownEq (E := En) e_eqL i_eqL F_eqL (hr.mono (by decide)) b_eqL passN)) (pe_ownIx (E := En) O_item F_item (hr.mono (by decide)) b_item passN (pv 0) (pe_ix (ixK (K := K) rfl) (pv 3) pe_int (fun _ _ => rfl)) (fun _ _ => rfl)) (pe_cl (E := En) c__law_one (hr.mono (by decide)) rfl passN (pa_cons (pv 3) pa_nil)) (nomark _))) (pw_or1 (pt_cmpR (op_neP hr.units) (pe_cl (E := En) c__law_asked (hr.mono (by decide)) rfl passN (pa_cons (pv 0) (pa_cons (pe_ix (ixK (K := K) rfl) (pv 3) pe_int (fun _ _ => rfl)) pa_nil))) (pe_tup (pa_cons pe_str (pa_cons (pe_ix (ixK (K := K) rfl) (pv 3) pe_int (fun _ _ => rfl)) pa_nil))) (nomark _))))) (pss_one (ps_ret pe_bl)) pss_nil))) (pss_one (ps_ret (pe_cl (E := En) c__law_alike (hr.mono (by decide)) rfl passN (pa_cons (pe_meth0 (E := En) (pv 0) cls_Box m_names F_names (hr.mono (by decide)) b_names .nil passN) (pa_cons (pv 2) pa_nil)))))))))), ?_⟩))
  · obtain ⟨_, _, _, _, _, _, rfl, _⟩ := h
    rfl
  · obtain ⟨b, t, l, ms, xs, rs, rfl, hb, R, hl, pr, ok, k⟩ := h
    have xl := Paired.length pr
    have rm := R.most
    obtain ⟨dx, hb1, hb2, hb3⟩ := id hb
    have ml := Paired.length hb3
    refine ⟨_, rfl, l, rfl, ⟨_, sq_of hl⟩, fun N1 nN => ?_⟩
    refine lc_ev (f := fun _ => true) (v := rowNm H) (st_l (K := K) (sq_of hl)) (by omega) (fun x => rfl) nN (fun x hx H5 e5 Q q => q H5 (Ex.refl _)) (fun x hx _ H5 e5 Q q => ?_) (fun H1 e1 hN1 => ?_)
    · obtain ⟨j, hj⟩ := List.getElem?_of_mem hx
      obtain ⟨q1, hq1, g⟩ := prd_at pr hj
      have q2 := q H5 (Ex.refl _)
      rw [rowNm_at g] at q2
      obtain ⟨a1, b1, rfl, g1, _⟩ := g
      exact ⟨_, rfl, .inr (.inl ⟨a1, _, 1, _, rfl, rfl, st_of (e5 _ _ g1), (by rfl), q2⟩)⟩
    rw [List.filter_eq_self.mpr (fun _ _ => rfl), row_map pr] at hN1
    refine ⟨N1, rs.map (·.nm), rfl, sq_of hN1, by rw [List.length_map]; omega, fun NN nNN => ?_⟩
    have e2 : Ex H1 (upd H1 NN (.lst ((sortS (rs.map (·.nm))).map V.str))) := Ex.new nNN
    have hNN : upd H1 NN (.lst ((sortS (rs.map (·.nm))).map V.str)) NN = some (.lst ((sortS (rs.map (·.nm))).map V.str)) := upd_same
    generalize upd H1 NN (.lst ((sortS (rs.map (·.nm))).map V.str)) = H2 at e2 hNN
    have E2 := e1.trans e2
    have sl : (sortS (rs.map (·.nm))).length = rs.length := by rw [sortS_len, List.length_map]
    refine ⟨_, rfl, b, dx, _, rfl, E2 _ _ hb1, tbN WK.m_names, b, t, ms, rs, rfl, hb.ex E2, R, fun L H3 e3 nL hL => ?_⟩
    have E3 := E2.trans e3
    have hNN3 := e3 _ _ hNN
    refine ⟨_, rfl, _, rfl, .ref L, .ref NN, rfl, alk_strs 2 hL hNN3 (by omega), fun H4 e4 => ⟨true, rfl, iteF ?_⟩⟩
    have E4 := E3.trans e4
    have hNN4 := e4 _ _ hNN3
    refine ⟨_, rfl, b, dx, _, rfl, E4 _ _ hb1, b, t, ms, rs, rfl, hb.ex E4, (rs.length : Nat), rfl, by omega, by omega, ?_⟩
    refine ⟨_, rfl, .ref NN, (sortS (rs.map (·.nm))).length, rfl, .inl ⟨_, sq_of hNN4, by rw [List.length_map]⟩, rfl, false, (by rw [sl, decide_eq_true rfl]; rfl), iteF ?_⟩
    have hL4 := e4 _ _ hL
    refine ⟨_, rfl, .inl ⟨rfl, _, sq_of hL4⟩, L, _, rfl, rfl, hL4, ?_⟩
    have L0 : H L = none := fresh_back E2 nL
    have E5 : Ex H (upd H4 L (.lst [])) := E4.mut L0
    have nLN : NN ≠ L := fun z => by rw [z, nL] at hNN; cases hNN
    have hNN5 : upd H4 L (.lst []) NN = some (.lst ((sortS (rs.map (·.nm))).map V.str)) := by rw [upd_ne nLN]; exact hNN4
    generalize upd H4 L (.lst []) = H5 at E5 hNN5
    refine ⟨_, rfl, l, rfl, ⟨_, sq_of (E5 _ _ hl)⟩, for_list (fun i σ' H' => ∃ v3, σ' = [some (.ref b), some (.ref l), some (.ref NN), v3, some (.ref L)] ∧ Ex H5 H') ⟨none, rfl, Ex.refl _⟩ (fun i σ' H' _ ⟨_, _, e⟩ => sq_of ((E5.trans e) _ _ hl)) ?_ ?_⟩
    · rintro i y σ' H' hy ⟨v3, rfl, e⟩
      obtain ⟨r, hr0, g⟩ := prd_at pr hy
      have E' := E5.trans e
      have rl := (List.getElem?_eq_some_iff.mp hr0).1
      obtain ⟨v, hv⟩ : ∃ v, ms[i]? = some v := ⟨_, List.getElem?_eq_getElem (by omega)⟩
      obtain ⟨r', hr', iv⟩ := prd_at hb3 hv
      rw [hr0] at hr'
      cases hr'
      have okr := ok r (List.mem_of_getElem? hr0)
      obtain ⟨ga, gb, rfl, g1, g2⟩ := id g
      refine ⟨_, rfl, _, rfl, .inr (.inl ⟨ga, _, 1, _, rfl, rfl, st_of (E' _ _ g1), (by rfl), b, dx, _, rfl, E' _ _ hb1, b, t, ms, rs, i, r, v, rfl, hb.ex E', R, okr.nm, hv, hr0, fun H6 e6 => ?_⟩)⟩
      have E6 := E'.trans e6
      refine ⟨_, rfl, .ref ga, r, rfl, g.ex E6, okr, fun o H7 e7 no go => ?_⟩
      have E7 := E6.trans e7
      have iv7 := iv.ex E7
      refine own_or N iv7 go okr fun H8 e8 => ⟨true, rfl, iteF ?_⟩
      have E8 : Ex H H8 := E7.trans e8
      have g8 := E8 _ _ g1
      refine ⟨_, rfl, _, rfl, .inr (.inl ⟨ga, _, 1, _, rfl, rfl, st_of g8, (by rfl), b, t, .str r.nm, ms, rs, rfl, hb.ex E8, R, .str _, nmz okr.nm, .inr ⟨r, List.mem_of_getElem? hr0, rfl, okr.nm, fun H9 T e9 hT => ?_⟩⟩)⟩
      refine ⟨_, rfl, .inr (.inl ⟨ga, _, 1, _, rfl, rfl, st_of (e9 _ _ g8), (by rfl), (by show 2 ≤ sizeLine; decide), fun T2 nT2 => ?_⟩)⟩
      exact ne_told rfl rfl (Ex.new nT2 _ _ hT) upd_same ⟨false, rfl, iteF ⟨_, rfl, e.trans (e6.trans (e7.trans (Ex.trans (H1 := H8) e8 (e9.trans (Ex.new nT2)))))⟩⟩
    · rintro σ' H' ⟨v3, rfl, e⟩
      have E' := E5.trans e
      refine ⟨_, rfl, b, dx, _, rfl, E' _ _ hb1, tbN WK.m_names, b, t, ms, rs, rfl, hb.ex E', R, fun L2 H6 e6 nL2 hL2 => ?_⟩
      refine ⟨_, rfl, .ref L2, .ref NN, rfl, alk_strs 2 hL2 ((e.trans e6) _ _ hNN5) (by omega), fun H7 e7 => k H7 (E'.trans (e6.trans e7))⟩
end
end WK

set_option Elab.async false
set_option linter.all false
set_option maxRecDepth 100000
set_option maxHeartbeats 4000000
namespace WK
open PySem PySem.Spec PyProof.Rows L2 WW Evl
theorem BoxT.kp {CB CS CL p : Addr} {H H' : Hp} {b t : Addr} {vs : List V} {rs : List Ins} (hP : Pool H p) (K : Kp p H H') (ok : ∀ r ∈ rs, r.Ok) (h : BoxT CB CS CL H b t vs rs) : BoxT CB CS CL H' b t vs rs := by
  have hP' := hP
  obtain ⟨g, s, n, k, gs, ss, hp, _⟩ := hP
  obtain ⟨dx, h1, h2, h3⟩ := h
  exact ⟨dx, K.k _ _ (fun z => by rw [z, hp] at h1; cases h1) h1, K.k _ _ (fun z => by rw [z, hp] at h2; cases h2) h2, prd_memR h3 fun x q m z => z.kp hP' K (ok q m)⟩
section
variable {P : Program} {w : World} {K : PySem.W.Frag} {mg : Str → Option Value} {base : Heap} {f : Addr} {fd : FuncData}
abbrev s__law_names_refused : Stmt := top 63
theorem sc__law_names_refused : FnScope ["_law_pool_here", "_law_box", "_law_rows", "_law_other", "_law_thing"] ["_law_pool_here", "_law_box", "_law_rows", "_law_other"] (defScope s__law_names_refused) := ⟨rfl, rfl, rfl, by decide +kernel, rfl, by decide +kernel, by decide +kernel⟩
def spNR (CB CS CL : Addr) : Sp := fun vs H Q _ => ∃ (p b t l : Addr) (ms xs : List V) (rs : List Ins) (z : Str), vs = [.ref p, .ref b, .ref l, .str z] ∧ Pool H p ∧ BoxT CB CS CL H b t ms rs ∧ Few rs ∧ (∀ r ∈ rs, r.Ok) ∧ H l = some (.lst xs) ∧ l ≠ p ∧ Paired (InsT p H) xs rs ∧ IsNm z ∧ z ∉ rs.map (·.nm) ∧ ∀ H', Kp p H H' → Pool H' p → Q (.bl true) H'
theorem ok_nr {C_Box C_Sensor C_Lock : Addr} (D : Df K mg "_law_names_refused" s__law_names_refused f fd ["_law_pool_here", "_law_box", "_law_rows", "_law_other"]) (c__law_alike : Callee P w K mg base CXn 4 "_law_alike" 2 (spA 4)) (c__law_strange : Callee P w K mg base CXn 3 "_law_strange" 1 spStrange)
    (c__law_asked : Callee P w K mg base CXn 6 "_law_asked" 2 (spAsked C_Box C_Sensor C_Lock)) (c__law_less : Callee P w K mg base CXn 8 "_law_less" 2 (spLess C_Box C_Sensor C_Lock)) : Callee P w K mg base CXn 9 "_law_names_refused" 4 (spNR C_Box C_Sensor C_Lock) := by
  refine D.callee (D.fn.ok sc__law_names_refused (fun vs H Q E h => ?_) (fun cdv A outer s H vs Q E hr h => ⟨_, PSs.nox (pss_cons (ps_for PassesOwn.never rfl (pi_list (pe_lst (pa_cons (pv 3) (pa_cons (pe_cl (E := En) c__law_strange (hr.mono (by decide)) rfl passN (pa_cons (pv 0) pa_nil)) (pa_cons pe_non (pa_cons (pe_tup (pa_cons (pe_ix (ixK (K := K) rfl) (pe_ix (ixK (K := K) rfl) (pv 2) pe_int (fun _ _ => rfl)) pe_int (fun _ _ => rfl)) pa_nil)) pa_nil)))))) (pg_name (i := 4) sc__law_names_refused.nd rfl (Or.inl rfl)) (pss_cons (ps_if (pt_not (pt_val (pe_cl (E := En) c__law_alike (hr.mono (by decide)) rfl passN (pa_cons (pe_cl (E := En) c__law_asked (hr.mono (by decide)) rfl passN (pa_cons (pv 1) (pa_cons (pv 4) pa_nil))) (pa_cons (pe_tup (pa_cons pe_str (pa_cons (pv 4) (pa_cons pe_bl pa_nil)))) pa_nil))))) (pss_one (ps_ret pe_bl)) pss_nil) (pss_one (ps_if (pt_not (pt_val (pe_cl (E := En) c__law_alike (hr.mono (by decide)) rfl passN (pa_cons (pe_cl (E := En) c__law_less (hr.mono (by decide)) rfl passN (pa_cons (pv 1) (pa_cons (pv 4) pa_nil))) (pa_cons (pe_tup (pa_cons pe_str (pa_cons (pv 4) (pa_cons pe_bl pa_nil)))) pa_nil))))) (pss_one (ps_ret pe_bl)) pss_nil)))) (pss_one (ps_ret pe_bl))), ?_⟩))
  · obtain ⟨_, _, _, _, _, _, _, _, rfl, _⟩ := h
    rfl
  · obtain ⟨p, b, t, l, ms, xs, rs, z, rfl, hP, hb, R, ok, hl, nlp, pr, nz, zo, k⟩ := h
    have xl := Paired.length pr
    have rl := R.least
    obtain ⟨r0, hr0⟩ : ∃ r, rs[0]? = some r := ⟨_, List.getElem?_eq_getElem (by omega)⟩
    obtain ⟨x0, hx0⟩ : ∃ x, xs[0]? = some x := ⟨_, List.getElem?_eq_getElem (by omega)⟩
    obtain ⟨r', hr', g0⟩ := prd_at pr hx0
    rw [hr0] at hr'
    cases hr'
    obtain ⟨a, d, rfl, nd, g1, g2⟩ := g0
    refine ⟨_, rfl, _, rfl, p, rfl, hP, fun v H1 K1 P1 sg => ?_⟩
    refine ⟨_, rfl, .inl ⟨l, _, 0, _, rfl, rfl, sq_of (K1.k _ _ nlp hl), at_of (j := 0) rfl hx0, .inr (.inl ⟨a, _, 1, _, rfl, rfl, st_of ((K1.tu hP) _ _ g1), (by rfl), (by show 1 ≤ sizeLine; decide), fun T nT => ⟨(by show 4 ≤ sizeLine; decide), fun LL nL => ?_⟩⟩)⟩⟩
    have e2 : Ex H1 (upd H1 T (.tup [.str r0.nm])) := Ex.new nT
    have hT : upd H1 T (.tup [.str r0.nm]) T = some (.tup [.str r0.nm]) := upd_same
    generalize upd H1 T (.tup [.str r0.nm]) = H2 at e2 hT nL ⊢
    have e3 : Ex H2 (upd H2 LL (.lst [.str z, v, .non, .ref T])) := Ex.new nL
    have hL : upd H2 LL (.lst [.str z, v, .non, .ref T]) LL = some (.lst [.str z, v, .non, .ref T]) := upd_same
    have E3 := e2.trans e3
    have all : ∀ y ∈ [V.str z, v, .non, .ref T], Pl (upd H2 LL (.lst [.str z, v, .non, .ref T])) y ∧ (∀ u, y = .str u → u.length ≤ 1000) ∧ (nmB y = false ∨ ∃ n, y = .str n ∧ n ∉ rs.map (·.nm)) ∧ Alk 2 (upd H2 LL (.lst [.str z, v, .non, .ref T])) y y := by
      intro y hy
      simp only [List.mem_cons, List.not_mem_nil, or_false] at hy
      rcases hy with rfl | rfl | rfl | rfl
      · exact ⟨.str _, nmz nz, .inr ⟨z, rfl, zo⟩, Alk.leaf (v := .str z) trivial _⟩
      · have s3 := sg.kp (Kp.ex E3 P1)
        exact ⟨s3.pl, s3.len, .inl s3.nm, s3.alk 0⟩
      · exact ⟨.non, (fun u e => by cases e), .inl rfl, Alk.leaf (v := .non) trivial _⟩
      · have h := e3 _ _ hT
        exact ⟨.tup h, (fun u e => by cases e), .inl rfl, .inr ⟨T, T, _, _, rfl, rfl, .inr ⟨h, h⟩, (by show 1 ≤ 1000; decide), .cons (Alk.leaf (v := .str r0.nm) trivial _) .nil⟩⟩
    have P3 := P1.ex E3
    have hb3 := (hb.kp hP K1 ok).ex E3
    have K3 := K1.trans (Kp.ex E3 P1)
    generalize upd H2 LL (.lst [.str z, v, .non, .ref T]) = B at e3 hL E3 all P3 hb3 K3 ⊢
    refine ⟨LL, rfl, ⟨_, sq_of hL⟩, for_list (fun i σ' H' => ∃ v4, σ' = [some (.ref p), some (.ref b), some (.ref l), some (.str z), v4] ∧ Ex B H') ⟨none, rfl, Ex.refl _⟩ (fun i σ' H' _ ⟨_, _, e⟩ => sq_of (e _ _ hL)) ?_ ?_⟩
    · rintro i y σ' H' hy ⟨v4, rfl, e⟩
      obtain ⟨pl, len, no, al⟩ := all y (List.mem_of_getElem? hy)
      have alk : ∀ {H5 : Hp} {T1 T2 : Addr}, Ex B H5 → H5 T1 = some (.tup [.str "bad", y, .bl true]) → H5 T2 = some (.tup [.str "bad", y, .bl true]) → Alk 3 H5 (.ref T1) (.ref T2) := fun {H5 T1 T2} e5 h1 h2 =>
        .inr ⟨T1, T2, _, _, rfl, rfl, .inr ⟨h1, h2⟩, (by show 3 ≤ 1000; decide), .cons (Alk.leaf (v := .str "bad") trivial _) (.cons (al.ex e5) (.cons (Alk.leaf (v := .bl true) trivial _) .nil))⟩
      refine ⟨_, rfl, _, rfl, b, t, y, ms, rs, rfl, hb3.ex e, R, pl.ex e, len, .inl ⟨no, fun H5 T1 e5 hT1 => ⟨_, rfl, (by show 3 ≤ sizeLine; decide), fun T2 nT2 => ?_⟩⟩⟩
      have e6 := Ex.new (o := .tup [.str "bad", y, .bl true]) nT2
      refine ⟨.ref T1, .ref T2, rfl, alk (e.trans (e5.trans e6)) (e6 _ _ hT1) upd_same, fun H7 e7 => ⟨true, rfl, iteF ?_⟩⟩
      have E7 := e.trans (e5.trans (e6.trans e7))
      refine ⟨_, rfl, _, rfl, b, t, y, ms, rs, rfl, hb3.ex E7, R, pl.ex E7, len, .inl ⟨no.imp id (fun ⟨n, h1, h2⟩ => ⟨n, h1, .inl h2⟩), fun H8 T3 e8 hT3 => ⟨_, rfl, (by show 3 ≤ sizeLine; decide), fun T4 nT4 => ?_⟩⟩⟩
      have e9 := Ex.new (o := .tup [.str "bad", y, .bl true]) nT4
      exact ⟨.ref T3, .ref T4, rfl, alk (E7.trans (e8.trans e9)) (e9 _ _ hT3) upd_same, fun H10 e10 => ⟨true, rfl, iteF ⟨_, rfl, E7.trans (e8.trans (e9.trans e10))⟩⟩⟩
    · rintro σ' H' ⟨v4, rfl, e⟩
      exact k H' (K3.trans (Kp.ex e P3)) (P3.ex e)
end
end WK

set_option Elab.async false
set_option linter.all false
set_option maxRecDepth 100000
set_option maxHeartbeats 4000000
namespace WK
open PySem PySem.Spec PyProof.Rows L2 WW Evl
/-! ### what a box is asked rightly -/
def spInitB0 (CB CS CL : Addr) : Sp := fun vs H Q _ => ∃ (H0 : Hp) (p dx a : Addr) (xs : List V) (rs : List Ins), vs = [.ref p, .ref a] ∧ Ex H0 H ∧ H0 p = none ∧ H p = some (.ins CB dx []) ∧ SqX H0 a xs ∧ Paired (InsAt CS CL H0) xs rs ∧ Few rs ∧ ∀ H' t, Ex H0 H' → BoxT CB CS CL H' p t xs rs → H0 t = none → Q .non H'
theorem initB0 {CB CS CL CE : Addr} (vs : List V) (H : Hp) (Q : VK) (E : XK) (h : spInitB0 CB CS CL vs H Q E) : spInitBG CB CS CL CE vs H Q E := by
  obtain ⟨H0, p, dx, a, xs, rs, rfl, e0, p0, hp, sq, pr, R, k⟩ := h
  have xl := Paired.length pr
  have := R.least
  have := R.most
  refine ⟨H0, p, dx, .ref a, rfl, e0, p0, hp, .inr ⟨a, xs, rs, rfl, ⟨sq, by omega, by omega, by rw [← xl, List.take_length]; exact pr, R.nd, fun x hx => ?_⟩, fun _ => k, fun z => by omega⟩⟩
  rw [List.getElem?_eq_none (by omega)] at hx
  cases hx
def spOr0 (CB CS CL : Addr) : Sp := fun vs H Q _ => ∃ (b t : Addr) (y : V) (xs : List V) (rs : List Ins) (r : Ins), vs = [.ref b, y] ∧ BoxT CB CS CL H b t xs rs ∧ Few rs ∧ InsAt CS CL H y r ∧ r.nm ∉ rs.map (·.nm) ∧ rs.length < 6 ∧ ∀ H' b' t', Ex H H' → H t' = none → H b' = none → BoxT CB CS CL H' b' t' (xs ++ [y]) (rs ++ [r]) → Q (.ref b') H'
theorem or0 {CB CS CL CE : Addr} (vs : List V) (H : Hp) (Q : VK) (E : XK) (h : spOr0 CB CS CL vs H Q E) : spOrG CB CS CL CE vs H Q E := by
  obtain ⟨b, t, y, xs, rs, r, rfl, hb, R, hy, no, lt, k⟩ := h
  exact ⟨b, t, y, xs, rs, rfl, hb, R, .inr ⟨r, hy, no, lt, k⟩⟩
def spSub0 (CB CS CL : Addr) : Sp := fun vs H Q _ => ∃ (b t : Addr) (n : Str) (xs : List V) (rs : List Ins), vs = [.ref b, .str n] ∧ BoxT CB CS CL H b t xs rs ∧ Few rs ∧ IsNm n ∧ n ∈ rs.map (·.nm) ∧ 1 < rs.length ∧ ∀ H' b' t', Ex H H' → H t' = none → H b' = none → BoxT CB CS CL H' b' t' (dropV n xs rs) (dropI n rs) → Q (.ref b') H'
theorem sub0 {CB CS CL CN : Addr} (vs : List V) (H : Hp) (Q : VK) (E : XK) (h : spSub0 CB CS CL vs H Q E) : spSubG CB CS CL CN vs H Q E := by
  obtain ⟨b, t, n, xs, rs, rfl, hb, R, nm, hin, lt, k⟩ := h
  exact ⟨b, t, .str n, xs, rs, rfl, hb, R, .str _, nmz nm, .inr ⟨n, rfl, nm, hin, lt, k⟩⟩
theorem BoxT.putL {CB CS CL S : Addr} {H : Hp} {b t : Addr} {vs : List V} {rs : List Ins} {ys : List V} {o : HO} (ok : ∀ r ∈ rs, r.Ok) (hS : H S = some (.lst ys)) (hy : ∀ y ∈ ys, ∀ s, y ≠ .str s) (h : BoxT CB CS CL H b t vs rs) : BoxT CB CS CL (upd H S o) b t vs rs := by
  obtain ⟨dx, h1, h2, h3⟩ := h
  exact ⟨dx, by rw [upd_ne (fun z => by rw [z, hS] at h1; cases h1)]; exact h1, by rw [upd_ne (fun z => by rw [z, hS] at h2; cases h2)]; exact h2, prd_memR h3 fun x q m z => z.putL (ok q m) hS hy⟩
theorem InsT.putL {p S : Addr} {H : Hp} {v : V} {r : Ins} {ys : List V} {o : HO} (ok : r.Ok) (hS : H S = some (.lst ys)) (hy : ∀ y ∈ ys, ∀ s, y ≠ .str s) (h : InsT p H v r) : InsT p (upd H S o) v r := by
  obtain ⟨a, b, rfl, n, h1, h2⟩ := h
  refine ⟨a, b, rfl, n, by rw [upd_ne (fun z => by rw [z, hS] at h1; cases h1)]; exact h1, ?_⟩
  rw [upd_ne (fun z => ?_)]
  · exact h2
  · rw [z, hS] at h2
    have e := Option.some.inj h2
    unfold Ins.thing at e
    by_cases lk : r.lk = true
    · rw [if_pos lk] at e
      have e2 : ys = r.ws.map V.str := HO.lst.inj e
      cases hw : r.ws with
      | nil => exact ok.ne hw
      | cons w ws =>
        rw [hw] at e2
        exact hy (.str w) (by rw [e2]; exact List.mem_cons_self) w rfl
    · rw [if_neg lk] at e
      cases e
/-! ### what is due -/
def SaidL (H : Hp) (T : Addr) (zs : List Str) : Prop := ∃ L, H T = some (.tup [.str "told", .ref L]) ∧ H L = some (.lst (zs.map V.str))
def dToldL (zs : List Str) : PyData := .tuple [.str "told", .list (zs.map PyData.str)]
def dBadS (z : Str) : PyData := .tuple [.str "bad", .str z, .bool true]
theorem SaidL.dp {K : PySem.W.Frag} {H : Hp} {T : Addr} {zs : List Str} (h : SaidL H T zs) : Dp K H (.ref T) (dToldL zs) := let ⟨_, h1, h2⟩ := h; .tup (st_of h1) (.cons (.str _) (.cons (dp_strs h2) .nil))
theorem SaidL.ex {H H' : Hp} {T : Addr} {zs : List Str} (e : Ex H H') (h : SaidL H T zs) : SaidL H' T zs := let ⟨L, h1, h2⟩ := h; ⟨L, e _ _ h1, e _ _ h2⟩
theorem ok_toldL (zs : List Str) : okP (dToldL zs) = true := by
  obtain ⟨h1, h2⟩ := plnA_str zs
  unfold okP dToldL
  rw [decide_eq_true (by simp only [PyData.depth, PyData.depthAll, h2]; decide), Bool.and_true]
  simp only [PyData.plain, PyData.plainAll, h1]
  rfl
theorem ok_badS (z : Str) : okP (dBadS z) = true := rfl
theorem dp_badS {K : PySem.W.Frag} {H : Hp} {T : Addr} {z : Str} (h : H T = some (.tup [.str "bad", .str z, .bl true])) : Dp K H (.ref T) (dBadS z) := .tup (st_of h) (.cons (.str _) (.cons (.str _) (.cons (.bl _) .nil)))
/-- what is told of one more, of one less -/
def DueM (rm : List Ins) (r : Ins) (H : Hp) (T : Addr) : Prop := (rm.length < 6 ∧ SaidL H T (sortS ((rm ++ [r]).map (·.nm)))) ∨ (rm.length = 6 ∧ H T = some (.tup [.str "bad", .int (rm.length : Nat), .bl true]))
def DueL (rm : List Ins) (n : Str) (H : Hp) (T : Addr) : Prop := (1 < rm.length ∧ SaidL H T (sortS ((dropI n rm).map (·.nm)))) ∨ (rm.length = 1 ∧ H T = some (.tup [.str "bad", .str n, .bl true]))
theorem DueM.ex {rm : List Ins} {r : Ins} {H H' : Hp} {T : Addr} (e : Ex H H') (h : DueM rm r H T) : DueM rm r H' T := h.imp (fun z => ⟨z.1, z.2.ex e⟩) fun z => ⟨z.1, e _ _ z.2⟩
theorem DueL.ex {rm : List Ins} {n : Str} {H H' : Hp} {T : Addr} (e : Ex H H') (h : DueL rm n H T) : DueL rm n H' T := h.imp (fun z => ⟨z.1, z.2.ex e⟩) fun z => ⟨z.1, e _ _ z.2⟩
theorem ne_dueM {K : PySem.W.Frag} {rm : List Ins} {r : Ins} {H : Hp} {x y : V} {Q : VK} {T T2 : Addr} (ex : x = .ref T) (ey : y = .ref T2) (h1 : DueM rm r H T) (h2 : DueM rm r H T2) (q : Q (.bl false) H) : rNeP K x y H Q := by
  subst ex
  subst ey
  rcases h1 with ⟨a, h1⟩ | ⟨a, h1⟩ <;> rcases h2 with ⟨b, h2⟩ | ⟨b, h2⟩
  · refine ⟨_, _, h1.dp, h2.dp, ok_toldL _, ok_toldL _, ?_⟩
    rw [eqv_refl (ok_toldL _)]
    exact q
  · omega
  · omega
  · exact ne_bad rfl rfl h1 h2 q
theorem ne_dueL {K : PySem.W.Frag} {rm : List Ins} {n : Str} {H : Hp} {x y : V} {Q : VK} {T T2 : Addr} (ex : x = .ref T) (ey : y = .ref T2) (h1 : DueL rm n H T) (h2 : DueL rm n H T2) (q : Q (.bl false) H) : rNeP K x y H Q := by
  subst ex
  subst ey
  rcases h1 with ⟨a, h1⟩ | ⟨a, h1⟩ <;> rcases h2 with ⟨b, h2⟩ | ⟨b, h2⟩
  · refine ⟨_, _, h1.dp, h2.dp, ok_toldL _, ok_toldL _, ?_⟩
    rw [eqv_refl (ok_toldL _)]
    exact q
  · omega
  · omega
  · refine ⟨_, _, dp_badS h1, dp_badS h2, ok_badS _, ok_badS _, ?_⟩
    rw [eqv_refl (ok_badS _)]
    exact q
theorem more_go {CB CS CL : Addr} {H : Hp} {o t : Addr} {y : V} {ms : List V} {rm : List Ins} {r : Ins} {Q : VK} {E : XK} (hb : BoxT CB CS CL H o t ms rm) (Fw : Few rm) (g : InsAt CS CL H y r) (no : r.nm ∉ rm.map (·.nm)) (q : ∀ H' T, Ex H H' → DueM rm r H' T → Q (.ref T) H') : spMore CB CS CL [.ref o, y] H Q E := by
  have := Fw.most
  by_cases lt : rm.length < 6
  · exact ⟨o, t, y, ms, rm, rfl, hb, Fw, .inr ⟨r, g, no, lt, fun H' T L e h1 h2 => q H' T e (.inl ⟨lt, L, h1, h2⟩)⟩⟩
  · have e6 : rm.length = 6 := by omega
    exact ⟨o, t, y, ms, rm, rfl, hb, Fw, .inl ⟨.inl ⟨.inr ⟨r, g⟩, e6⟩, .inr ⟨r, g⟩, fun H' T e h => q H' T e (.inr ⟨e6, h⟩)⟩⟩
theorem less_go {CB CS CL : Addr} {H : Hp} {o t : Addr} {ms : List V} {rm : List Ins} {n : Str} {Q : VK} {E : XK} (hb : BoxT CB CS CL H o t ms rm) (Fw : Few rm) (nm : IsNm n) (hin : n ∈ rm.map (·.nm)) (q : ∀ H' T, Ex H H' → DueL rm n H' T → Q (.ref T) H') : spLess CB CS CL [.ref o, .str n] H Q E := by
  have := Fw.least
  by_cases lt : 1 < rm.length
  · exact ⟨o, t, _, ms, rm, rfl, hb, Fw, .str _, nmz nm, .inr ⟨n, rfl, nm, hin, lt, fun H' T L e h1 h2 => q H' T e (.inl ⟨lt, L, h1, h2⟩)⟩⟩
  · have e1 : rm.length = 1 := by omega
    exact ⟨o, t, _, ms, rm, rfl, hb, Fw, .str _, nmz nm, .inl ⟨.inr ⟨n, rfl, .inr e1⟩, fun H' T e h => q H' T e (.inr ⟨e1, h⟩)⟩⟩
theorem prd_rev {α β : Type} {R : α → β → Prop} : ∀ {xs : List α} {os : List β}, Paired R xs os → Paired R xs.reverse os.reverse
  | _, _, .nil => .nil
  | _, _, .cons g t => by
    rw [List.reverse_cons, List.reverse_cons]
    exact prd_appW (prd_rev t) (.cons g .nil)
theorem own_box {K : PySem.W.Frag} {CB CS CL : Addr} (nBB : PySem.W.notFirst K CB (.ref CB) = true) {H : Hp} {o t o' t' : Addr} {ms ys : List V} {rm ss : List Ins} {Q : VK} {E : XK} (g : Ins → Int) (hb : BoxT CB CS CL H o t ms rm) (hb' : BoxT CB CS CL H o' t' ys ss) (nt : t ≠ t') (Fw : Few rm) (len : rm.length = ss.length) (nd' : (ss.map (·.nm)).Nodup)
    (each : ∀ q ∈ rm, q.Ok ∧ (q.cost (g q)).Ok ∧ ∃ j : Nat, ss[j]? = some (q.cost (g q))) {r : Bool} (er : r = rm.all fun q => decide (q.co = g q)) (q : ∀ H', Ext H H' → Q (.bl r) H') : rOwnEq K CB (spEqB (RBox CB CS CL)) E (.ref o) (.ref o') H Q := by
  obtain ⟨dx, h1, h2, h3⟩ := id hb
  obtain ⟨dy, h1', h2', h3'⟩ := id hb'
  exact ⟨o, dx, _, o', CB, dy, _, rfl, rfl, h1, h1', nBB, _, _, r, rfl, ⟨o, t, ms, rm, o', t', ys, ss, g, rfl, rfl, nt, hb, hb', Fw, len, nd', each, er⟩, q⟩
theorem co_all (rm : List Ins) : true = rm.all fun q => decide (q.co = q.co) := (List.all_eq_true.mpr fun q _ => decide_eq_true rfl).symm
/-! ### one instrument at another cost -/
theorem set_names {rm : List Ins} {q : Ins} {c : Int} {i : Nat} (hq : rm[i]? = some q) : (rm.set i (q.cost c)).map (·.nm) = rm.map (·.nm) := by
  apply List.ext_getElem?
  intro j
  rw [List.getElem?_map, List.getElem?_map, List.getElem?_set]
  by_cases e : i = j
  · subst e
    rw [if_pos rfl, if_pos (List.getElem?_eq_some_iff.mp hq).1, hq]
    rfl
  · rw [if_neg e]
theorem nm_inj {rm : List Ins} (nd : (rm.map (·.nm)).Nodup) {i j : Nat} {q r : Ins} (hq : rm[i]? = some q) (hr : rm[j]? = some r) (e : r.nm = q.nm) : j = i := by
  have h1 : (rm.map (·.nm))[i]? = some q.nm := by rw [List.getElem?_map, hq]; rfl
  have h2 : (rm.map (·.nm))[j]? = some q.nm := by rw [List.getElem?_map, hr, ← e]; rfl
  have l1 := (List.getElem?_eq_some_iff.mp h1).1
  have l2 := (List.getElem?_eq_some_iff.mp h2).1
  exact (List.getElem_inj (h₀ := l2) (h₁ := l1) nd).mp ((List.getElem?_eq_some_iff.mp h2).2.trans (List.getElem?_eq_some_iff.mp h1).2.symm)
def gOf (q : Ins) (c : Int) (r : Ins) : Int := if r.nm = q.nm then c else r.co
theorem set_each {rm : List Ins} {q : Ins} {c : Int} {i : Nat} (nd : (rm.map (·.nm)).Nodup) (hq : rm[i]? = some q) {r : Ins} (hr : r ∈ rm) : ∃ j : Nat, (rm.set i (q.cost c))[j]? = some (r.cost (gOf q c r)) := by
  obtain ⟨j, hj⟩ := List.getElem?_of_mem hr
  refine ⟨j, ?_⟩
  rw [List.getElem?_set]
  by_cases e : i = j
  · subst e
    rw [if_pos rfl, if_pos (List.getElem?_eq_some_iff.mp hq).1]
    rw [hq] at hj
    cases hj
    unfold gOf
    rw [if_pos rfl]
  · rw [if_neg e, hj]
    unfold gOf
    rw [if_neg (fun z => e (nm_inj nd hq hj z).symm)]
    rfl
theorem set_other {rm : List Ins} {q : Ins} {c : Int} {i : Nat} (nd : (rm.map (·.nm)).Nodup) (hq : rm[i]? = some q) {r : Ins} (hr : r ∈ rm) : r = q ∨ (r.nm ≠ q.nm ∧ r ∈ rm.set i (q.cost c)) := by
  obtain ⟨j, hj⟩ := List.getElem?_of_mem hr
  by_cases e : i = j
  · subst e
    rw [hq] at hj
    cases hj
    exact .inl rfl
  · refine .inr ⟨fun z => e (nm_inj nd hq hj z).symm, List.mem_of_getElem? (i := j) ?_⟩
    rw [List.getElem?_set, if_neg e, hj]
theorem dropI_lt {n : Str} {rs : List Ins} (h : n ∈ rs.map (·.nm)) : (dropI n rs).length < rs.length := by
  obtain ⟨r, hr, e⟩ := List.mem_map.mp h
  unfold dropI
  exact List.length_filter_lt_length_iff_exists.mpr ⟨r, hr, by simp [e]⟩
theorem prd_dropW {α β : Type} {R : α → β → Prop} : ∀ {xs : List α} {us : List β}, Paired R xs us → ∀ k, Paired R (xs.drop k) (us.drop k)
  | _, _, h, 0 => h
  | _, _, .nil, k + 1 => .nil
  | _, _, .cons g r, k + 1 => prd_dropW r k
theorem cut_mid (xs : List V) (i j : Nat) (h : i ≤ j) (hj : j ≤ xs.length) : cutV xs (some (i : Int)) (some (j : Int)) = (xs.take j).drop i := by
  unfold cutV
  rw [HT.sIx_nat, HT.sIx_nat, Nat.min_eq_left hj, Nat.min_eq_left (Nat.le_trans h hj), List.drop_take]
theorem sort_snoc (A : List Str) (z : Str) : sortS (sortS A ++ [z]) = sortS (A ++ [z]) := sortS_congr ((sortS_perm A).append_right _)
theorem sort_filter (A : List Str) (f : Str → Bool) : (sortS A).filter f = sortS (A.filter f) := by
  have h1 : sortS ((sortS A).filter f) = sortS (A.filter f) := sortS_congr ((sortS_perm A).filter f)
  rw [← h1]
  exact (List.mergeSort_of_pairwise ((sortS_sorted A).sublist List.filter_sublist)).symm
theorem dropI_map {n : Str} : ∀ {rs : List Ins}, (dropI n rs).map (·.nm) = (rs.map (·.nm)).filter (fun z => !decide (z = n))
  | [] => rfl
  | r :: rs => by
    have ih := dropI_map (n := n) (rs := rs)
    unfold dropI at ih ⊢
    by_cases z : r.nm = n
    · rw [List.filter_cons_of_neg (by simp [z]), List.map_cons, List.filter_cons_of_neg (by simp [z])]
      exact ih
    · rw [List.filter_cons_of_pos (by simp [z]), List.map_cons, List.map_cons, List.filter_cons_of_pos (by simp [z]), ih]
section
variable {P : Program} {w : World} {K : PySem.W.Frag} {mg : Str → Option Value} {base : Heap} {f : Addr} {fd : FuncData}
abbrev s_law : Stmt := top 64
theorem sc_law : FnScope ["_law_script", "_law_pool_here", "_law_rows", "_law_many", "_law_at", "_law_made", "_law_row", "_law_box", "_law_names_here", "_law_due", "_law_name_here", "_law_moved", "_law_line", "_law_other", "_law_changed"] ["_law_script"] (defScope s_law) := ⟨rfl, rfl, rfl, by decide +kernel, rfl, by decide +kernel, by decide +kernel⟩
def spLaw (K : PySem.W.Frag) : Sp := fun vs H Q _ => ∃ (a : Addr) (ns : List Int), vs = [.ref a] ∧ SqL K H a (ns.map V.int) ∧ ∀ H', Q (.bl true) H'
theorem okl_law {C_Box C_Sensor C_Lock C_BadInstrument C_BadName : Addr} (G : Gz mg) (N : ICe K C_Sensor C_Lock) (B : BCl K mg C_Box) (T : ICl K mg C_Sensor C_Lock) (nBB : PySem.W.notFirst K C_Box (.ref C_Box) = true) (nS : NumT K C_Box "or" (.ref C_Sensor)) (nL : NumT K C_Box "or" (.ref C_Lock))
    (mB : MkC P w K mg base (L2.CX P w) "Box" C_Box 4 ["self", "instruments"] (spInitBG C_Box C_Sensor C_Lock C_BadInstrument)) (mE : OwnM P w K mg base C_Box CXn "__eq__" 3 ["self", "other"] (spEqB (RBox C_Box C_Sensor C_Lock)) fun _ => True)
    (mO : OwnM P w K mg base C_Box (L2.CX P w) "__or__" 6 ["self", "instrument"] (spOrG C_Box C_Sensor C_Lock C_BadInstrument) (fun f => OwnOp K C_Box f "or")) (mS : OwnM P w K mg base C_Box (L2.CX P w) "__sub__" 6 ["self", "name"] (spSubG C_Box C_Sensor C_Lock C_BadName) (fun f => OwnOp K C_Box f "sub"))
    (D : Df K mg "law" s_law f fd ["_law_script"]) (c__law_pool : Callee P w K mg base CXn 1 "_law_pool" 1 (spPool K)) (c__law_draw : Callee P w K mg base CXn 1 "_law_draw" 2 spDraw) (c__law_seven : Callee P w K mg base CXn 6 "_law_seven" 1 spSeven) (c__law_one : Callee P w K mg base CXn 7 "_law_one" 1 (spOne C_Sensor C_Lock))
    (c__law_rows_refused : Callee P w K mg base CXn 8 "_law_rows_refused" 2 spRR) (c__law_stands : Callee P w K mg base CXn 8 "_law_stands" 2 (spStands C_Box C_Sensor C_Lock)) (c__law_names_refused : Callee P w K mg base CXn 9 "_law_names_refused" 4 (spNR C_Box C_Sensor C_Lock)) (c__law_strange : Callee P w K mg base CXn 3 "_law_strange" 1 spStrange)
    (c__law_more : Callee P w K mg base CXn 8 "_law_more" 2 (spMore C_Box C_Sensor C_Lock)) (c__law_less : Callee P w K mg base CXn 8 "_law_less" 2 (spLess C_Box C_Sensor C_Lock)) : FnOk P w K mg base CXn 10 f fd ["_law_script"] (spLaw K) := by
  obtain ⟨f1, fd1, M_Box, F_Box', b_Box, g_Box⟩ := mB.ex
  obtain ⟨f2, fd2, e_eqB, i_eqB, _, F_eqB, b_eqB⟩ := mE.ex
  obtain ⟨f3, fd3, _, _, O_or, F_or', b_or⟩ := mO.ex
  obtain ⟨f4, fd4, _, _, O_sub, F_sub', b_sub⟩ := mS.ex
  have F_Box : FnOk P w K mg base CXn 4 f1 fd1 ["self", "instruments"] (spInitB0 C_Box C_Sensor C_Lock) := calm F_Box' initB0 (fun _ _ _ _ h => h)
  have F_or : FnOk P w K mg base CXn 6 f3 fd3 ["self", "instrument"] (spOr0 C_Box C_Sensor C_Lock) := calm F_or' or0 (fun _ _ _ _ h => h)
  have F_sub : FnOk P w K mg base CXn 6 f4 fd4 ["self", "name"] (spSub0 C_Box C_Sensor C_Lock) := calm F_sub' sub0 (fun _ _ _ _ h => h)
  refine D.fn.ok sc_law (fun vs H Q E h => ?_) (fun cdv A outer s H vs Q E hr h => ⟨_, PSs.nox (pss_cons (ps_set (i := 1) sc_law.nd rfl (Or.inl rfl) (pe_cl (E := En) c__law_pool (hr.mono (by decide)) rfl passN (pa_cons (pv 0) pa_nil))) (pss_cons (ps_set (i := 2) sc_law.nd rfl (Or.inr rfl) (pe_cl (E := En) c__law_seven (hr.mono (by decide)) rfl passN (pa_cons (pv 1) pa_nil))) (pss_cons (ps_if (pt_not (pt_val (pe_cl (E := En) c__law_rows_refused (hr.mono (by decide)) rfl passN (pa_cons (pv 1) (pa_cons (pv 2) pa_nil))))) (pss_one (ps_ret pe_bl)) pss_nil) (pss_cons (ps_set (i := 3) sc_law.nd rfl (Or.inl rfl) (pe_op op_add pe_int (pe_cl (E := En) c__law_draw (hr.mono (by decide)) rfl passN (pa_cons (pv 1) (pa_cons pe_int pa_nil))))) (pss_cons (ps_set (i := 4) sc_law.nd rfl (Or.inr rfl) (pe_cl (E := En) c__law_draw (hr.mono (by decide)) rfl passN (pa_cons (pv 1) (pa_cons (pv 3) pa_nil)))) (pss_cons (ps_setLc (i := 5) (y := "_law_made") (own := [("_law_row", 6)]) rfl sc_law.nd rfl rfl rfl (pi_list (pe_slice sl_list (pv 2) po_none (po_some (pv 3)))) (BlkOk.mk (N := ["_law_script", "_law_pool_here", "_law_rows", "_law_many", "_law_at", "_law_made", "_law_row", "_law_box", "_law_names_here", "_law_due", "_law_name_here", "_law_moved", "_law_line", "_law_other", "_law_changed"]) (sc := defScope s_law) rfl (by decide +kernel) (by decide +kernel) (by decide +kernel) (by decide +kernel)) (fun _ _ _ _ _ => (pg_name (i := 6) sc_law.nd rfl (Or.inl rfl))) (fun _ _ _ _ _ => pts_nil) (fun _ _ _ _ _ => (pe_cl (E := En) c__law_one (hr.mono (by decide)) rfl passN (pa_cons (pv 6) pa_nil)))) (pss_cons (ps_set (i := 7) sc_law.nd rfl (Or.inl rfl) (pe_make (E := En) M_Box F_Box (hr.mono (by decide)) rfl g_Box b_Box .nil passN (pa_cons (pv 5) pa_nil))) (pss_cons (ps_expr (pe_bm0 PySem.F.plainAttrs_list PySem.F.slot_list_clear PySem.F.type_list_clear mt_clear (pv 5))) (pss_cons (ps_if (PW.pt (pw_or (pt_not (pt_val (pe_cl (E := En) c__law_stands (hr.mono (by decide)) rfl passN (pa_cons (pv 7) (pa_cons (pe_slice sl_list (pv 2) po_none (po_some (pv 3))) pa_nil))))) (pw_or1 (pt_not (pt_val (pe_cl (E := En) c__law_names_refused (hr.mono (by decide)) rfl passN (pa_cons (pv 1) (pa_cons (pv 7) (pa_cons (pe_slice sl_list (pv 2) po_none (po_some (pv 3))) (pa_cons (pe_ix (ixK (K := K) rfl) (pe_ix (ixK (K := K) rfl) (pv 2) pe_int (fun _ _ => rfl)) pe_int (fun _ _ => rfl)) pa_nil)))))))))) (pss_one (ps_ret pe_bl)) pss_nil) (pss_cons (ps_set (i := 8) sc_law.nd rfl (Or.inl rfl) (pe_callB (cr_sortL rfl) rfl G.g_sorted (by rfl) (pa_cons (pe_lc (own := [("_law_row", 6)]) rfl sc_law.nd (pi_list (pe_slice sl_list (pv 2) po_none (po_some (pv 3)))) (BlkOk.mk (N := ["_law_script", "_law_pool_here", "_law_rows", "_law_many", "_law_at", "_law_made", "_law_row", "_law_box", "_law_names_here", "_law_due", "_law_name_here", "_law_moved", "_law_line", "_law_other", "_law_changed"]) (sc := defScope s_law) rfl (by decide +kernel) (by decide +kernel) (by decide +kernel) (by decide +kernel)) (fun _ _ _ _ _ => (pg_name (i := 6) sc_law.nd rfl (Or.inl rfl))) (fun _ _ _ _ _ => pts_nil) (fun _ _ _ _ _ => (pe_ix (ixK (K := K) rfl) (pv 6) pe_int (fun _ _ => rfl)))) pa_nil))) (pss_cons (ps_set (i := 9) sc_law.nd rfl (Or.inl rfl) (pe_tup (pa_cons pe_str (pa_cons (pv 3) (pa_cons pe_bl pa_nil))))) (pss_cut (ps_if (pt_cmpR op_lt (pv 3) pe_int (nomark _)) (pss_one (ps_set (i := 9) sc_law.nd rfl (Or.inl rfl) (pe_tup (pa_cons pe_str (pa_cons (pe_callB (cr_sortL rfl) rfl G.g_sorted (by rfl) (pa_cons (pe_op op_cat (pv 8) (pe_lst (pa_cons (pe_ix (ixK (K := K) rfl) (pe_ix (ixK (K := K) rfl) (pv 2) pe_int (fun _ _ => rfl)) pe_int (fun _ _ => rfl)) pa_nil))) pa_nil)) pa_nil))))) pss_nil) (pss_cons (ps_if (PW.pt (pw_or (pt_cmpR (op_neP hr.units) (pe_cl (E := En) c__law_more (hr.mono (by decide)) rfl passN (pa_cons (pv 7) (pa_cons (pe_cl (E := En) c__law_one (hr.mono (by decide)) rfl passN (pa_cons (pe_ix (ixK (K := K) rfl) (pv 2) pe_int (fun _ _ => rfl)) pa_nil)) pa_nil))) (pv 9) (nomark _)) (pw_or1 (pt_cmpR (op_neP hr.units) (pe_cl (E := En) c__law_more (hr.mono (by decide)) rfl passN (pa_cons (pv 7) (pa_cons (pe_cl (E := En) c__law_one (hr.mono (by decide)) rfl passN (pa_cons (pe_ix (ixK (K := K) rfl) (pv 2) (pv 4) (fun _ _ => rfl)) pa_nil)) pa_nil))) (pe_tup (pa_cons pe_str (pa_cons (pv 3) (pa_cons pe_bl pa_nil)))) (nomark _))))) (pss_one (ps_ret pe_bl)) pss_nil) (pss_cons (ps_if (pt_cmpR (op_neP hr.units) (pe_cl (E := En) c__law_more (hr.mono (by decide)) rfl passN (pa_cons (pv 7) (pa_cons (pe_cl (E := En) c__law_strange (hr.mono (by decide)) rfl passN (pa_cons (pv 1) pa_nil)) pa_nil))) (pe_tup (pa_cons pe_str (pa_cons (pv 3) (pa_cons pe_bl pa_nil)))) (nomark _)) (pss_one (ps_ret pe_bl)) pss_nil) (pss_cons (ps_set (i := 9) sc_law.nd rfl (Or.inl rfl) (pe_tup (pa_cons pe_str (pa_cons (pe_ix (ixK (K := K) rfl) (pe_ix (ixK (K := K) rfl) (pv 2) (pv 4) (fun _ _ => rfl)) pe_int (fun _ _ => rfl)) (pa_cons pe_bl pa_nil))))) (pss_cut (ps_if (pt_cmpR op_gt (pv 3) pe_int (nomark _)) (pss_one (ps_set (i := 9) sc_law.nd rfl (Or.inl rfl) (pe_tup (pa_cons pe_str (pa_cons (pe_lc (own := [("_law_name_here", 10)]) rfl sc_law.nd (pi_list (pv 8)) (BlkOk.mk (N := ["_law_script", "_law_pool_here", "_law_rows", "_law_many", "_law_at", "_law_made", "_law_row", "_law_box", "_law_names_here", "_law_due", "_law_name_here", "_law_moved", "_law_line", "_law_other", "_law_changed"]) (sc := defScope s_law) rfl (by decide +kernel) (by decide +kernel) (by decide +kernel) (by decide +kernel)) (fun _ _ _ _ _ => (pg_name (i := 10) sc_law.nd rfl (Or.inl rfl))) (fun _ _ _ _ _ => (pts_one (pt_cmpR op_ne (pv 10) (pe_ix (ixK (K := K) rfl) (pe_ix (ixK (K := K) rfl) (pv 2) (pv 4) (fun _ _ => rfl)) pe_int (fun _ _ => rfl)) (nomark _)))) (fun _ _ _ _ _ => (pv 10))) pa_nil))))) pss_nil) (pss_cons (ps_if (PW.pt (pw_or (pt_cmpR (op_neP hr.units) (pe_cl (E := En) c__law_less (hr.mono (by decide)) rfl passN (pa_cons (pv 7) (pa_cons (pe_ix (ixK (K := K) rfl) (pe_ix (ixK (K := K) rfl) (pv 2) (pv 4) (fun _ _ => rfl)) pe_int (fun _ _ => rfl)) pa_nil))) (pv 9) (nomark _)) (pw_or1 (pt_not (pt_val (pe_cl (E := En) c__law_stands (hr.mono (by decide)) rfl passN (pa_cons (pv 7) (pa_cons (pe_slice sl_list (pv 2) po_none (po_some (pv 3))) pa_nil)))))))) (pss_one (ps_ret pe_bl)) pss_nil) (pss_cons (ps_set (i := 11) sc_law.nd rfl (Or.inl rfl) (pe_make (E := En) M_Box F_Box (hr.mono (by decide)) rfl g_Box b_Box .nil passN (pa_cons (pe_callTy (tupOfK (K := K) rfl) rfl G.g_tuple (by rfl) (pa_cons (pe_lc (own := [("_law_row", 6)]) rfl sc_law.nd (pi_list (pe_revL (pe_slice sl_list (pv 2) po_none (po_some (pv 3))))) (BlkOk.mk (N := ["_law_script", "_law_pool_here", "_law_rows", "_law_many", "_law_at", "_law_made", "_law_row", "_law_box", "_law_names_here", "_law_due", "_law_name_here", "_law_moved", "_law_line", "_law_other", "_law_changed"]) (sc := defScope s_law) rfl (by decide +kernel) (by decide +kernel) (by decide +kernel) (by decide +kernel)) (fun _ _ _ _ _ => (pg_name (i := 6) sc_law.nd rfl (Or.inl rfl))) (fun _ _ _ _ _ => pts_nil) (fun _ _ _ _ _ => (pe_cl (E := En) c__law_one (hr.mono (by decide)) rfl passN (pa_cons (pv 6) pa_nil)))) pa_nil)) pa_nil))) (pss_cons (ps_if (PW.pt (pw_or (pt_not (pt_cmpR (op_ownEq (E := En) e_eqB i_eqB F_eqB (hr.mono (by decide)) b_eqB passN) (pv 7) (pv 11) (nomark _))) (pw_or1 (pt_not (pt_cmpR (op_ownEq (E := En) e_eqB i_eqB F_eqB (hr.mono (by decide)) b_eqB passN) (pv 11) (pv 7) (nomark _)))))) (pss_one (ps_ret pe_bl)) pss_nil) (pss_cons (ps_set (i := 12) sc_law.nd rfl (Or.inl rfl) (pe_ix (ixK (K := K) rfl) (pv 2) (pv 4) (fun _ _ => rfl))) (pss_cons (ps_set (i := 13) sc_law.nd rfl (Or.inl rfl) (pe_tup (pa_cons (pe_ix (ixK (K := K) rfl) (pv 12) pe_int (fun _ _ => rfl)) (pa_cons (pe_ix (ixK (K := K) rfl) (pv 12) pe_int (fun _ _ => rfl)) (pa_cons (pe_ix (ixK (K := K) rfl) (pv 12) pe_int (fun _ _ => rfl)) (pa_cons (pe_ix (ixK (K := K) rfl) (pv 12) pe_int (fun _ _ => rfl)) (pa_cons (pe_op op_add pe_int (pe_op op_mod (pe_callTy call_int1 rfl G.g_int (by rfl) (pa_cons (pe_ix (ixK (K := K) rfl) (pv 12) pe_int (fun _ _ => rfl)) pa_nil)) pe_int)) pa_nil))))))) (pss_cons (ps_set (i := 14) sc_law.nd rfl (Or.inl rfl) (pe_make (E := En) M_Box F_Box (hr.mono (by decide)) rfl g_Box b_Box .nil passN (pa_cons (pe_lc (own := [("_law_row", 6)]) rfl sc_law.nd (pi_list (pe_op op_cat (pe_op op_cat (pe_slice sl_list (pv 2) po_none (po_some (pv 4))) (pe_lst (pa_cons (pv 13) pa_nil))) (pe_slice sl_list (pv 2) (po_some (pe_op op_add (pv 4) pe_int)) (po_some (pv 3))))) (BlkOk.mk (N := ["_law_script", "_law_pool_here", "_law_rows", "_law_many", "_law_at", "_law_made", "_law_row", "_law_box", "_law_names_here", "_law_due", "_law_name_here", "_law_moved", "_law_line", "_law_other", "_law_changed"]) (sc := defScope s_law) rfl (by decide +kernel) (by decide +kernel) (by decide +kernel) (by decide +kernel)) (fun _ _ _ _ _ => (pg_name (i := 6) sc_law.nd rfl (Or.inl rfl))) (fun _ _ _ _ _ => pts_nil) (fun _ _ _ _ _ => (pe_cl (E := En) c__law_one (hr.mono (by decide)) rfl passN (pa_cons (pv 6) pa_nil)))) pa_nil))) (pss_one (ps_ret (L2.pe_and (pe_not (pe_cmpR (op_ownEq (E := En) e_eqB i_eqB F_eqB (hr.mono (by decide)) b_eqB passN) (pv 7) (pv 14) (nomark _))) (pe_one (pe_cmpR (op_ownEq (E := En) e_eqB i_eqB F_eqB (hr.mono (by decide)) b_eqB passN) (pv 7) (pe_ifExp (pt_cmpR op_gt (pv 3) pe_int (nomark _)) (pe_ownBinK (E := fun _ => En) (K := K) rfl (nm := "or") rfl O_or (by rfl) (by rfl) F_or (hr.mono (by decide)) b_or (fun _ pins H s e s' I hq => passN pins _ H s e s' I hq) (pe_ownBinK (E := fun _ => En) (K := K) rfl (nm := "sub") rfl O_sub (by rfl) (by rfl) F_sub (hr.mono (by decide)) b_sub (fun _ pins H s e s' I hq => passN pins _ H s e s' I hq) (pv 14) (pe_ix (ixK (K := K) rfl) (pv 12) pe_int (fun _ _ => rfl))) (pe_cl (E := En) c__law_one (hr.mono (by decide)) rfl passN (pa_cons (pv 12) pa_nil))) (pv 11)) (nomark _)))))))))))))))))))))))))))), ?_⟩)
  · obtain ⟨_, _, rfl, _⟩ := h
    rfl
  · obtain ⟨a, ns, rfl, hs, k⟩ := h
    refine ⟨_, rfl, a, ns, rfl, hs, fun p H1 e1 hp P1 => ?_⟩
    refine ⟨_, rfl, p, rfl, P1, fun rl xs rs H2 K2 P2 nrp hrl pr ok nd len => ?_⟩
    refine ⟨_, rfl, _, rfl, p, rl, xs, rs, rfl, P2, nrp, hrl, pr, ok, nd, len, fun H3 K3 P3 => ⟨true, rfl, iteF ?_⟩⟩
    have xl := Paired.length pr
    refine ⟨_, rfl, p, 6, rfl, P3, by decide, by decide, fun d H4 d0 d1 K4 P4 => ⟨1, d, rfl, rfl, ?_⟩⟩
    obtain ⟨m, em⟩ : ∃ m : Nat, 1 + d = (m : Int) := ⟨(1 + d).toNat, by omega⟩
    show gName 3 (V.int (1 + d)) _ H4 _
    rw [em]
    refine ⟨_, rfl, _, rfl, p, (m : Int), rfl, P4, by omega, by omega, fun d2 H5 a0 a1 K5 P5 => ?_⟩
    obtain ⟨at', ea⟩ : ∃ k : Nat, d2 = (k : Int) := ⟨d2.toNat, by omega⟩
    subst ea
    have m6 : 1 ≤ m ∧ m ≤ 6 := by omega
    have am : at' < m := by omega
    have K25 := K3.trans (K4.trans K5)
    have hrl5 := K25.k _ _ nrp hrl
    have pr5 : Paired (InsT p H5) xs rs := Paired.mapP pr fun _ _ z => z.kp P2 K25
    clear K25 K3 K4 K5 K2 hs hp e1 P1 P2 P3 P4 pr hrl
    -- the box
    obtain ⟨rm, erm⟩ : ∃ rm, rm = rs.take m := ⟨_, rfl⟩
    have rmOk : ∀ r ∈ rm, r.Ok := fun r h => ok r (List.mem_of_mem_take (erm ▸ h))
    have rml : rm.length = m := by rw [erm, List.length_take]; omega
    have Fw : Few rm := ⟨by rw [erm, List.map_take]; exact nd.sublist (List.take_sublist _ _), by omega, by omega⟩
    refine ⟨_, rfl, _, rfl, _, rfl, sl_take hrl5 fun l1 n1 => ?_⟩
    have e6 : Ex H5 (upd H5 l1 (.lst (xs.take m))) := Ex.new n1
    have hl1 : upd H5 l1 (.lst (xs.take m)) l1 = some (.lst (xs.take m)) := upd_same
    generalize upd H5 l1 (.lst (xs.take m)) = H6 at e6 hl1 ⊢
    have P6 := P5.ex e6
    have prm : Paired (InsT p H6) (xs.take m) rm := by rw [erm]; exact Paired.mapP (prd_takeW pr5 m) fun _ _ z => z.ex e6
    have lxm := Paired.length prm
    refine ⟨l1, rfl, ⟨_, sq_of hl1⟩, fun N hN => ?_⟩
    refine lc_list (fun j H' => ∃ ys, Ex H6 H' ∧ H' N = some (.lst ys) ∧ Paired (InsAt C_Sensor C_Lock H') ys (rm.take j)) ⟨[], Ex.new hN, upd_same, .nil⟩ (fun j H' _ ⟨_, e, _⟩ => sq_of (e _ _ hl1)) ?_ ?_
    · rintro j x H' hx ⟨ys, e, hN', py⟩
      obtain ⟨r, hr0, ix⟩ := prd_at prm hx
      have yl := Paired.length py
      rw [List.length_take] at yl
      exact ⟨rfl, _, rfl, x, r, rfl, (ix.ex e).row, rmOk r (List.mem_of_getElem? hr0), fun o H2 e2 _ g => ones_step rmOk hN e hN' py hr0 e2 g (by omega)⟩
    rintro H7 ⟨ms, e7, hN7, pm⟩
    rw [lxm, List.take_length] at pm
    have ml := Paired.length pm
    refine ⟨_, rfl, fun o mm ho hm hne => ⟨H7, o, mm, N, ms, rm, rfl, (Ex.new hm).trans (Ex.new (by rw [upd_ne hne.symm]; exact ho)), ho, upd_same, .inl hN7, pm, Fw, fun H8 t e8 hb _ => ⟨rfl, ?_⟩⟩⟩
    have rf := ins_refs pm
    have hN8 := e8 _ _ hN7
    have E58 := e6.trans (e7.trans e8)
    refine ⟨_, rfl, .inl ⟨rfl, _, sq_of hN8⟩, N, ms, rfl, rfl, hN8, ?_⟩
    have hb9 := hb.putL (o := .lst []) rmOk hN8 rf
    have pr9 : Paired (InsT p (upd H8 N (.lst []))) xs rs := prd_memR pr5 fun x q mq z => (z.ex E58).putL (ok q mq) hN8 rf
    have nNl : rl ≠ N := fun z => by rw [z, fresh_back e6 hN] at hrl5; cases hrl5
    have hrl9 : upd H8 N (.lst []) rl = some (.lst xs) := by rw [upd_ne nNl]; exact E58 _ _ hrl5
    have P9 : Pool (upd H8 N (.lst [])) p := P5.ex (E58.mut (fresh_back e6 hN))
    generalize upd H8 N (.lst []) = H9 at hb9 pr9 hrl9 P9
    clear hN8 E58 e8 hb hN7 pm rf e7 hN prm hl1 P6 e6 n1 pr5 hrl5 P5 nNl ho hm hne
    -- it stands
    have prT : ∀ {H : Hp}, Paired (InsT p H) xs rs → Paired (InsT p H) (xs.take m) rm := fun h => by rw [erm]; exact prd_takeW h m
    have prR : ∀ {H : Hp}, Paired (InsT p H) xs rs → Paired (RowT H) (xs.take m) rm := fun h => Paired.mapP (prT h) fun _ _ z => z.row
    refine ⟨_, rfl, _, rfl, _, rfl, _, rfl, sl_take hrl9 fun l2 n2 => ?_⟩
    dsimp only [tNil]
    have e10 : Ex H9 (upd H9 l2 (.lst (xs.take m))) := Ex.new n2
    have hl2 : upd H9 l2 (.lst (xs.take m)) l2 = some (.lst (xs.take m)) := upd_same
    generalize upd H9 l2 (.lst (xs.take m)) = H10 at e10 hl2 ⊢
    refine ⟨o, t, l2, ms, xs.take m, rm, rfl, hb9.ex e10, Fw, hl2, prR (Paired.mapP pr9 fun _ _ z => z.ex e10), rmOk, fun H11 e11 => ⟨true, rfl, iteF ?_⟩⟩
    have E11 := e10.trans e11
    have P11 := P9.ex E11
    have hb11 := hb9.ex E11
    have hrl11 := E11 _ _ hrl9
    have pr11 : Paired (InsT p H11) xs rs := Paired.mapP pr9 fun _ _ z => z.ex E11
    clear E11 e11 hl2 e10 n2 pr9 hrl9 P9 hb9
    -- names refused
    obtain ⟨r6, hr6⟩ : ∃ r, rs[6]? = some r := ⟨_, List.getElem?_eq_getElem (by omega)⟩
    obtain ⟨x6, hx6⟩ : ∃ x, xs[6]? = some x := ⟨_, List.getElem?_eq_getElem (by omega)⟩
    obtain ⟨q, hq⟩ : ∃ q, rs[at']? = some q := ⟨_, List.getElem?_eq_getElem (by omega)⟩
    obtain ⟨xq, hxq⟩ : ∃ x, xs[at']? = some x := ⟨_, List.getElem?_eq_getElem (by omega)⟩
    have g6 : ∀ {H : Hp}, Paired (InsT p H) xs rs → InsT p H x6 r6 := fun h => by
      obtain ⟨r', h1, h2⟩ := prd_at h hx6
      rw [hr6] at h1
      cases h1
      exact h2
    have gq : ∀ {H : Hp}, Paired (InsT p H) xs rs → InsT p H xq q := fun h => by
      obtain ⟨r', h1, h2⟩ := prd_at h hxq
      rw [hq] at h1
      cases h1
      exact h2
    have ok6 := ok r6 (List.mem_of_getElem? hr6)
    have okq := ok q (List.mem_of_getElem? hq)
    have no6 : r6.nm ∉ rm.map (·.nm) := fun z => by
      have nd7 := nd
      rw [← List.take_append_drop m rs, List.map_append, List.nodup_append] at nd7
      refine nd7.2.2 r6.nm (erm ▸ z) r6.nm ?_ rfl
      refine List.mem_map_of_mem (List.mem_of_getElem? (i := 6 - m) ?_)
      rw [List.getElem?_drop, show m + (6 - m) = 6 by omega]
      exact hr6
    have hqm : rm[at']? = some q := by rw [erm, List.getElem?_take, if_pos am]; exact hq
    have inq : q.nm ∈ rm.map (·.nm) := List.mem_map_of_mem (List.mem_of_getElem? hqm)
    have exT : ∀ {H H' : Hp}, Ex H H' → Paired (InsT p H) xs rs → Paired (InsT p H') xs rs := fun e h => Paired.mapP h fun _ _ z => z.ex e
    refine ⟨_, rfl, _, rfl, _, rfl, _, rfl, _, rfl, sl_take hrl11 fun l3 n3 => ?_⟩
    have e12 : Ex H11 (upd H11 l3 (.lst (xs.take m))) := Ex.new n3
    have hl3 : upd H11 l3 (.lst (xs.take m)) l3 = some (.lst (xs.take m)) := upd_same
    have nlp : l3 ≠ p := fun z => P11.here (z ▸ n3)
    generalize upd H11 l3 (.lst (xs.take m)) = H12 at e12 hl3 ⊢
    obtain ⟨a6, d6, e6x, _, t6, _⟩ := g6 (exT e12 pr11)
    subst e6x
    refine ⟨_, rfl, .inl ⟨rl, _, 6, _, rfl, rfl, sq_of (e12 _ _ hrl11), at_of (j := 6) rfl hx6, .inr (.inl ⟨a6, _, 1, _, rfl, rfl, st_of t6, (by rfl), ?_⟩)⟩⟩
    refine ⟨p, o, t, l3, ms, xs.take m, rm, r6.nm, rfl, P11.ex e12, hb11.ex e12, Fw, rmOk, hl3, nlp, prT (exT e12 pr11), ok6.nm, no6, fun H13 K13 P13 => ⟨true, rfl, iteF ?_⟩⟩
    have K1113 := (Kp.ex e12 P11).trans K13
    have hb13 := hb11.kp P11 K1113 rmOk
    have hrl13 := K1113.k _ _ nrp hrl11
    have pr13 : Paired (InsT p H13) xs rs := Paired.mapP pr11 fun _ _ z => z.kp P11 K1113
    clear K1113 K13 t6 hl3 e12 n3 hb11 hrl11 pr11 P11
    -- the names, and what is due
    refine ⟨_, rfl, _, rfl, _, rfl, sl_take hrl13 fun l4 n4 => ?_⟩
    have e14 : Ex H13 (upd H13 l4 (.lst (xs.take m))) := Ex.new n4
    have hl4 : upd H13 l4 (.lst (xs.take m)) l4 = some (.lst (xs.take m)) := upd_same
    generalize upd H13 l4 (.lst (xs.take m)) = H14 at e14 hl4 ⊢
    have prr := prR (exT e14 pr13)
    refine ⟨l4, rfl, ⟨_, sq_of hl4⟩, fun N2 nN2 => ?_⟩
    refine lc_ev (f := fun _ => true) (v := rowNm H14) (st_l (K := K) (sq_of hl4)) (by rw [lxm]; omega) (fun x => rfl) nN2 (fun x hx H5 e5 Q q => q H5 (Ex.refl _)) (fun x hx _ H5 e5 Q q => ?_) (fun H15 e15 hN15 => ?_)
    · obtain ⟨j, hj⟩ := List.getElem?_of_mem hx
      obtain ⟨q1, hq1, g⟩ := prd_at prr hj
      have q2 := q H5 (Ex.refl _)
      rw [rowNm_at g] at q2
      obtain ⟨a1, b1, rfl, g1, _⟩ := g
      exact ⟨_, rfl, .inr (.inl ⟨a1, _, 1, _, rfl, rfl, st_of (e5 _ _ g1), (by rfl), q2⟩)⟩
    rw [List.filter_eq_self.mpr (fun _ _ => rfl), row_map prr] at hN15
    refine ⟨N2, rm.map (·.nm), rfl, sq_of hN15, by rw [List.length_map]; omega, fun NN nNN => ?_⟩
    have e16 : Ex H15 (upd H15 NN (.lst ((sortS (rm.map (·.nm))).map V.str))) := Ex.new nNN
    have hNN : upd H15 NN (.lst ((sortS (rm.map (·.nm))).map V.str)) NN = some (.lst ((sortS (rm.map (·.nm))).map V.str)) := upd_same
    generalize upd H15 NN (.lst ((sortS (rm.map (·.nm))).map V.str)) = H16 at e16 hNN ⊢
    refine ⟨_, rfl, (by show 3 ≤ sizeLine; decide), fun T1 nT1 => ?_⟩
    have e17 : Ex H16 (upd H16 T1 (.tup [.str "bad", .int (m : Nat), .bl true])) := Ex.new nT1
    have hT1 : upd H16 T1 (.tup [.str "bad", .int (m : Nat), .bl true]) T1 = some (.tup [.str "bad", .int (m : Nat), .bl true]) := upd_same
    generalize upd H16 T1 (.tup [.str "bad", .int (m : Nat), .bl true]) = H17 at e17 hT1 ⊢
    have E17 : Ex H13 H17 := e14.trans (e15.trans (e16.trans e17))
    have hNN17 := e17 _ _ hNN
    have P17 := P13.ex E17
    have hb17 := hb13.ex E17
    have hrl17 := E17 _ _ hrl13
    have pr17 := exT E17 pr13
    clear hNN E17 e17 e16 e15 e14 hl4 prr nN2 n4 nNN nT1 hN15 hb13 hrl13 pr13 P13
    refine ⟨fun σ2 H2 => ∃ T, σ2 = [some (.ref a), some (.ref p), some (.ref rl), some (.int (m : Nat)), some (.int (at' : Nat)), some (.ref N), none, some (.ref o), some (.ref NN), some (.ref T), none, none, none, none, none] ∧ Ex H17 H2 ∧ DueM rm r6 H2 T, ?_, ?_⟩
    · refine ⟨_, rfl, (m : Int), 6, rfl, rfl, decide ((m : Int) < 6), rfl, ?_⟩
      refine ite2 (fun lt => ?_) (fun ge => ⟨T1, rfl, Ex.refl _, .inr ⟨by have : ¬ ((m : Int) < 6) := fun z => ge (decide_eq_true z); omega, by rw [rml]; exact hT1⟩⟩)
      have lt6 : m < 6 := by have := of_decide_eq_true lt; omega
      obtain ⟨a6', d6', e6x', _, t6, _⟩ := g6 pr17
      refine ⟨_, rfl, _, rfl, .inl ⟨rl, _, 6, _, rfl, rfl, sq_of hrl17, at_of (j := 6) rfl hx6, .inr (.inl ⟨a6', _, 1, _, e6x', rfl, st_of t6, (by rfl), (by show 1 ≤ sizeLine; decide), fun l5 n5 => ?_⟩)⟩⟩
      have f1 : Ex H17 (upd H17 l5 (.lst [.str r6.nm])) := Ex.new n5
      have hl5 : upd H17 l5 (.lst [.str r6.nm]) l5 = some (.lst [.str r6.nm]) := upd_same
      generalize upd H17 l5 (.lst [.str r6.nm]) = H18 at f1 hl5 ⊢
      refine ⟨NN, l5, _, _, rfl, rfl, f1 _ _ hNN17, hl5, sz_of (by rw [List.length_map, sortS_len, List.length_map, rml]; show m + 1 ≤ 100000; omega), fun l6 n6 => ?_⟩
      have ec : (sortS (rm.map (·.nm))).map V.str ++ [V.str r6.nm] = (sortS (rm.map (·.nm)) ++ [r6.nm]).map V.str := by rw [List.map_append]; rfl
      rw [ec]
      dsimp only [tNil]
      refine ⟨l6, _, rfl, sq_of upd_same, by rw [List.length_append, sortS_len, List.length_map, rml]; show m + 1 < 64; omega, fun l7 n7 => ⟨(by show 2 ≤ sizeLine; decide), fun T2 nT2 => ?_⟩⟩
      refine ⟨T2, rfl, f1.trans ((Ex.new n6).trans ((Ex.new n7).trans (Ex.new nT2))), .inl ⟨by omega, l7, upd_same, ?_⟩⟩
      refine Ex.new nT2 _ _ ?_
      rw [upd_same, sort_snoc, List.map_append]
      rfl
    rintro σ2 H18 ⟨T2, rfl, e18, due⟩
    have P18 := P17.ex e18
    have hb18 := hb17.ex e18
    have hrl18 := e18 _ _ hrl17
    have pr18 := exT e18 pr17
    have hNN18 := e18 _ _ hNN17
    clear e18 hNN17 hb17 hrl17 pr17 P17 hT1
    -- one more
    refine ⟨_, rfl, _, rfl, .inl ⟨rl, _, 6, .ref a6, rfl, rfl, sq_of hrl18, at_of (j := 6) rfl hx6, .ref a6, r6, rfl, (g6 pr18).row, ok6, fun o6 H19 e19 no6' g19 => ?_⟩⟩
    dsimp only [tNil]
    refine more_go (hb18.ex e19) Fw g19 no6 fun H20 T3 e20 due3 => ?_
    have E20 := e19.trans e20
    refine ⟨_, rfl, ne_dueM rfl rfl due3 (due.ex E20) ⟨false, rfl, iteF ?_⟩⟩
    have hb20 := hb18.ex E20
    have hrl20 := E20 _ _ hrl18
    have pr20 := exT E20 pr18
    refine ⟨_, rfl, _, rfl, _, rfl, .inl ⟨rl, _, (at' : Nat), xq, rfl, rfl, sq_of hrl20, at_of (j := at') (by omega) hxq, xq, q, rfl, (gq pr20).row, okq, fun oq H21 e21 _ gq' => ?_⟩⟩
    refine ⟨o, t, .ref oq, ms, rm, rfl, hb20.ex e21, Fw, .inl ⟨.inr (.inr ⟨q, gq', inq⟩), .inr ⟨q, gq'⟩, fun H22 T4 e22 hT4 => ?_⟩⟩
    rw [rml] at hT4
    refine ⟨_, rfl, (by show 3 ≤ sizeLine; decide), fun T5 nT5 => ?_⟩
    refine ne_bad rfl rfl (Ex.new nT5 _ _ hT4) upd_same ⟨false, rfl, iteF ?_⟩
    have E23 := E20.trans (e21.trans (e22.trans (Ex.new (o := .tup [.str "bad", .int (m : Nat), .bl true]) nT5)))
    generalize upd H22 T5 (.tup [.str "bad", .int (m : Nat), .bl true]) = H23 at E23 ⊢
    have P23 := P18.ex E23
    have hb23 := hb18.ex E23
    have hrl23 := E23 _ _ hrl18
    have pr23 := exT E23 pr18
    have hNN23 := E23 _ _ hNN18
    clear E23 hT4 nT5 e22 gq' e21 pr20 hrl20 hb20 E20 due3 due e20 g19 e19 hNN18 hb18 hrl18 pr18 P18
    -- a strange thing
    refine ⟨_, rfl, _, rfl, p, rfl, P23, fun v H24 K24 P24 sg => ?_⟩
    have nNNp : NN ≠ p := fun z => by
      obtain ⟨_, _, _, _, _, _, hp, _⟩ := P23
      rw [z, hp] at hNN23
      cases hs : sortS (rm.map (·.nm)) with
      | nil =>
        have := sortS_len (rm.map (·.nm))
        rw [hs, List.length_map] at this
        simp at this
        omega
      | cons x y =>
        rw [hs] at hNN23
        cases hNN23
    have hb24 := hb23.kp P23 K24 rmOk
    have hrl24 := K24.k _ _ nrp hrl23
    have pr24 : Paired (InsT p H24) xs rs := Paired.mapP pr23 fun _ _ z => z.kp P23 K24
    have hNN24 := K24.k _ _ nNNp hNN23
    refine ⟨o, t, v, ms, rm, rfl, hb24, Fw, .inl ⟨.inr (.inl sg.pl), .inl sg.pl, fun H25 T6 e25 hT6 => ?_⟩⟩
    rw [rml] at hT6
    refine ⟨_, rfl, (by show 3 ≤ sizeLine; decide), fun T7 nT7 => ?_⟩
    refine ne_bad rfl rfl (Ex.new nT7 _ _ hT6) upd_same ⟨false, rfl, iteF ?_⟩
    have E26 := e25.trans (Ex.new (o := .tup [.str "bad", .int (m : Nat), .bl true]) nT7)
    generalize upd H25 T7 (.tup [.str "bad", .int (m : Nat), .bl true]) = H26 at E26 ⊢
    have P26 := P24.ex E26
    have hb26 := hb24.ex E26
    have hrl26 := E26 _ _ hrl24
    have pr26 := exT E26 pr24
    have hNN26 := E26 _ _ hNN24
    clear E26 nT7 hT6 e25 sg hb24 hrl24 pr24 hNN24 hb23 hrl23 pr23 hNN23 nNNp P24 K24 P23
    -- one less
    obtain ⟨aq, dq, exq, ndq, tq, _⟩ := gq pr26
    refine ⟨_, rfl, _, rfl, .inl ⟨rl, _, (at' : Nat), xq, rfl, rfl, sq_of hrl26, at_of (j := at') (by omega) hxq, .inr (.inl ⟨aq, _, 1, _, exq, rfl, st_of tq, (by rfl), (by show 3 ≤ sizeLine; decide), fun T8 nT8 => ?_⟩)⟩⟩
    have e27 : Ex H26 (upd H26 T8 (.tup [.str "bad", .str q.nm, .bl true])) := Ex.new nT8
    have hT8 : upd H26 T8 (.tup [.str "bad", .str q.nm, .bl true]) T8 = some (.tup [.str "bad", .str q.nm, .bl true]) := upd_same
    generalize upd H26 T8 (.tup [.str "bad", .str q.nm, .bl true]) = H27 at e27 hT8 ⊢
    have P27 := P26.ex e27
    have hb27 := hb26.ex e27
    have hrl27 := e27 _ _ hrl26
    have pr27 := exT e27 pr26
    have hNN27 := e27 _ _ hNN26
    clear e27 nT8 tq ndq exq hb26 hrl26 pr26 hNN26 P26
    refine ⟨fun σ2 H2 => ∃ T, σ2 = [some (.ref a), some (.ref p), some (.ref rl), some (.int (m : Nat)), some (.int (at' : Nat)), some (.ref N), none, some (.ref o), some (.ref NN), some (.ref T), none, none, none, none, none] ∧ Ex H27 H2 ∧ DueL rm q.nm H2 T, ?_, ?_⟩
    · refine ⟨_, rfl, (m : Int), 1, rfl, rfl, decide ((1 : Int) < m), rfl, ?_⟩
      refine ite2 (fun lt => ?_) (fun ge => ⟨T8, rfl, Ex.refl _, .inr ⟨by have : ¬ ((1 : Int) < m) := fun z => ge (decide_eq_true z); omega, hT8⟩⟩)
      have lt1 : 1 < m := by have := of_decide_eq_true lt; omega
      refine ⟨_, rfl, NN, rfl, ⟨_, sq_of hNN27⟩, fun N3 nN3 => ?_⟩
      obtain ⟨aq, dq, exq, ndq, tq, _⟩ := gq pr27
      refine lc_ev (f := isnt q.nm) (v := fun x => x) (st_l (K := K) (sq_of hNN27)) (by rw [List.length_map, sortS_len, List.length_map, rml]; omega) (fun x => rfl) nN3 (fun x hx H5 e5 Q q1 => ?_) (fun x hx _ H5 e5 Q q1 => ⟨_, rfl, q1 H5 (Ex.refl _)⟩) (fun H28 e28 hN28 => ?_)
      · obtain ⟨z, _, rfl⟩ := List.mem_map.mp hx
        have q2 := q1 H5 (Ex.refl _)
        rw [show isnt q.nm (.str z) = !decide (V.str z = V.str q.nm) by show (!decide (z = q.nm)) = _; congr 1; rw [Bool.eq_iff_iff]; simp] at q2
        exact ⟨_, rfl, _, rfl, _, rfl, .inl ⟨rl, _, (at' : Nat), xq, rfl, rfl, sq_of (e5 _ _ hrl27), at_of (j := at') (by omega) hxq, .inr (.inl ⟨aq, _, 1, _, exq, rfl, st_of (e5 _ _ tq), (by rfl), rfl, _, rfl, q2⟩)⟩⟩
      refine ⟨(by show 2 ≤ sizeLine; decide), fun T9 nT9 => ?_⟩
      refine ⟨T9, rfl, e28.trans (Ex.new nT9), .inl ⟨by omega, N3, upd_same, ?_⟩⟩
      refine Ex.new nT9 _ _ ?_
      rw [hN28, List.map_id', List.filter_map]
      show some (HO.lst (((sortS (rm.map (·.nm))).filter (fun z => !decide (z = q.nm))).map V.str)) = _
      rw [sort_filter, ← dropI_map]
    rintro σ2 H28 ⟨T9, rfl, e28, due⟩
    have P28 := P27.ex e28
    have hb28 := hb27.ex e28
    have hrl28 := e28 _ _ hrl27
    have pr28 := exT e28 pr27
    clear e28 hb27 hrl27 pr27 hNN27 P27 hT8
    obtain ⟨aq, dq, exq, ndq, tq, _⟩ := gq pr28
    refine ⟨_, rfl, _, rfl, _, rfl, .inl ⟨rl, _, (at' : Nat), xq, rfl, rfl, sq_of hrl28, at_of (j := at') (by omega) hxq, .inr (.inl ⟨aq, _, 1, _, exq, rfl, st_of tq, (by rfl), ?_⟩)⟩⟩
    dsimp only [tNil]
    refine less_go hb28 Fw okq.nm inq fun H29 T10 e29 due10 => ?_
    refine ⟨_, rfl, ne_dueL rfl rfl due10 (due.ex e29) ⟨false, rfl, iteF ?_⟩⟩
    have hrl29 := e29 _ _ hrl28
    refine ⟨_, rfl, _, rfl, _, rfl, _, rfl, sl_take hrl29 fun l8 n8 => ?_⟩
    dsimp only [tNil]
    have e30 : Ex H29 (upd H29 l8 (.lst (xs.take m))) := Ex.new n8
    have hl8 : upd H29 l8 (.lst (xs.take m)) l8 = some (.lst (xs.take m)) := upd_same
    generalize upd H29 l8 (.lst (xs.take m)) = H30 at e30 hl8 ⊢
    have E30 := e29.trans e30
    refine ⟨o, t, l8, ms, xs.take m, rm, rfl, hb28.ex E30, Fw, hl8, prR (exT E30 pr28), rmOk, fun H31 e31 => ⟨true, rfl, iteF ?_⟩⟩
    have E31 := E30.trans e31
    have P31 := P28.ex E31
    have hb31 := hb28.ex E31
    have hrl31 := E31 _ _ hrl28
    have pr31 := exT E31 pr28
    clear E31 e31 E30 hl8 e30 n8 hrl29 due10 due e29 tq ndq exq pr28 hrl28 hb28 P28
    -- the box turned about
    have co_ne : q.co ≠ 1 + q.co % 1000 := by have := okq.co; omega
    refine ⟨_, rfl, _, rfl, _, rfl, sl_take hrl31 fun l9 n9 => ⟨l9, _, rfl, sq_of upd_same, fun l10 n10 => ?_⟩⟩
    have e32 : Ex H31 (upd (upd H31 l9 (.lst (xs.take m))) l10 (.lst (xs.take m).reverse)) := (Ex.new n9).trans (Ex.new n10)
    have hl10 : upd (upd H31 l9 (.lst (xs.take m))) l10 (.lst (xs.take m).reverse) l10 = some (.lst (xs.take m).reverse) := upd_same
    generalize upd (upd H31 l9 (.lst (xs.take m))) l10 (.lst (xs.take m).reverse) = H32 at e32 hl10 ⊢
    have prv : Paired (InsT p H32) (xs.take m).reverse rm.reverse := prd_rev (prT (exT e32 pr31))
    have okv : ∀ r ∈ rm.reverse, r.Ok := fun r h => rmOk r (List.mem_reverse.mp h)
    have Fv : Few rm.reverse := ⟨by rw [List.map_reverse]; exact (List.reverse_perm _).nodup_iff.mpr Fw.nd, by rw [List.length_reverse]; exact Fw.least, by rw [List.length_reverse]; exact Fw.most⟩
    have lv := Paired.length prv
    refine ⟨l10, rfl, ⟨_, sq_of hl10⟩, fun N4 hN4 => ?_⟩
    refine lc_list (fun j H' => ∃ ys, Ex H32 H' ∧ H' N4 = some (.lst ys) ∧ Paired (InsAt C_Sensor C_Lock H') ys (rm.reverse.take j)) ⟨[], Ex.new hN4, upd_same, .nil⟩ (fun j H' _ ⟨_, e, _⟩ => sq_of (e _ _ hl10)) ?_ ?_
    · rintro j x H' hx ⟨ys, e, hN', py⟩
      obtain ⟨r, hr0, ix⟩ := prd_at prv hx
      have yl := Paired.length py
      rw [List.length_take, List.length_reverse] at yl
      exact ⟨rfl, _, rfl, x, r, rfl, (ix.ex e).row, okv r (List.mem_of_getElem? hr0), fun o H2 e2 _ g => ones_step okv hN4 e hN' py hr0 e2 g (by omega)⟩
    rintro H33 ⟨mv, e33, hN33, pmv⟩
    rw [lv, List.take_length] at pmv
    dsimp only [tNil]
    refine ⟨N4, _, rfl, .inl ⟨sq_of hN33, fun TP nTP => ?_⟩⟩
    have e34 : Ex H33 (upd H33 TP (.tup mv)) := Ex.new nTP
    have hTP : upd H33 TP (.tup mv) TP = some (.tup mv) := upd_same
    generalize upd H33 TP (.tup mv) = H34 at e34 hTP ⊢
    have E34 := e32.trans (e33.trans e34)
    have ht31 : ∀ {H : Hp}, BoxT C_Box C_Sensor C_Lock H o t ms rm → ∃ u, H t = some u := fun ⟨_, _, h, _⟩ => ⟨_, h⟩
    intro ov mm ho hm hne
    refine ⟨H34, ov, mm, TP, mv, rm.reverse, rfl, (Ex.new hm).trans (Ex.new (by rw [upd_ne hne.symm]; exact ho)), ho, upd_same, .inr hTP, Paired.mapP pmv fun _ _ z => z.ex e34, Fv, fun H35 tv e35 hbv htv => ⟨rfl, ?_⟩⟩
    have E35 := E34.trans e35
    have P35 := P31.ex E35
    have hb35 := hb31.ex E35
    have hrl35 := E35 _ _ hrl31
    have pr35 := exT E35 pr31
    have ntv : t ≠ tv := fun z => by
      obtain ⟨u, hu⟩ := ht31 (hb31.ex E34)
      rw [z, htv] at hu
      cases hu
    clear E35 e35 hm ho hne htv E34 hTP e34 pmv hN33 e33 hN4 prv hl10 e32 pr31 hrl31 hb31 P31 n9 n10 nTP
    refine ⟨_, rfl, _, rfl, own_box nBB (fun q => q.co) hb35 hbv ntv Fw (List.length_reverse.symm) Fv.nd (fun r h => ⟨rmOk r h, rmOk r h, List.getElem?_of_mem (List.mem_reverse.mpr h)⟩) (co_all rm) fun H36 e36 => ⟨true, rfl, iteF ?_⟩⟩
    refine ⟨_, rfl, _, rfl, own_box nBB (fun q => q.co) (BoxT.ex e36 hbv) (BoxT.ex e36 hb35) ntv.symm Fv List.length_reverse Fw.nd (fun r h => ⟨okv r h, okv r h, List.getElem?_of_mem (List.mem_reverse.mp h)⟩) (co_all rm.reverse) fun H37 e37 => ⟨true, rfl, iteF ?_⟩⟩
    have E37 : Ex H35 H37 := Ex.trans (H1 := H36) e36 e37
    have P37 := P35.ex E37
    have hb37 := hb35.ex E37
    have hbv37 := hbv.ex E37
    have hrl37 := E37 _ _ hrl35
    have pr37 := exT E37 pr35
    clear E37 e37 e36 pr35 hrl35 hbv hb35 P35
    obtain ⟨aq, dq, exq, ndq, tq, hdq⟩ := gq pr37
    refine ⟨_, rfl, _, rfl, .inl ⟨rl, _, (at' : Nat), xq, rfl, rfl, sq_of hrl37, at_of (j := at') (by omega) hxq, ?_⟩⟩
    subst exq
    refine ⟨_, rfl, .inr (.inl ⟨aq, _, 0, _, rfl, rfl, st_of tq, (by rfl), _, rfl, .inr (.inl ⟨aq, _, 1, _, rfl, rfl, st_of tq, (by rfl), _, rfl, .inr (.inl ⟨aq, _, 2, _, rfl, rfl, st_of tq, (by rfl), _, rfl, .inr (.inl ⟨aq, _, 3, _, rfl, rfl, st_of tq, (by rfl), ?_⟩)⟩)⟩)⟩)⟩
    refine ⟨_, rfl, .inr (.inl ⟨aq, _, 4, _, rfl, rfl, st_of tq, (by rfl), .inl ⟨q.co, rfl, q.co, 1000, rfl, rfl, (by show (0 : Int) < 1000; decide), 1, q.co % 1000, rfl, rfl, (by show 5 ≤ sizeLine; decide), fun TO nTO => ?_⟩⟩)⟩
    obtain ⟨c, ec⟩ : ∃ c : Int, c = 1 + q.co % 1000 := ⟨_, rfl⟩
    rw [show (fun (i j : Int) => V.int (i + j)) 1 (q.co % 1000) = V.int c by rw [ec]]
    have okc : (q.cost c).Ok := ⟨okq.nm, okq.po, by have := okq.co; show 1 ≤ c ∧ c ≤ 1000; omega, okq.ne, okq.le, okq.nd, okq.ws, okq.sl, okq.sg⟩
    have e38 : Ex H37 (upd H37 TO (.tup [.str q.kind, .str q.nm, .int q.po, .ref dq, .int c])) := Ex.new nTO
    have hTO : upd H37 TO (.tup [.str q.kind, .str q.nm, .int q.po, .ref dq, .int c]) TO = some (.tup [.str q.kind, .str q.nm, .int q.po, .ref dq, .int c]) := upd_same
    have rTO : RowT (upd H37 TO (.tup [.str q.kind, .str q.nm, .int q.po, .ref dq, .int c])) (.ref TO) (q.cost c) := ⟨TO, dq, rfl, hTO, e38 _ _ hdq⟩
    generalize upd H37 TO (.tup [.str q.kind, .str q.nm, .int q.po, .ref dq, .int c]) = H38 at e38 hTO rTO ⊢
    have hrl38 := e38 _ _ hrl37
    refine ⟨_, rfl, _, rfl, _, rfl, sl_take hrl38 fun la na => ?_⟩
    have e39 : Ex H38 (upd H38 la (.lst (xs.take at'))) := Ex.new na
    have hla : upd H38 la (.lst (xs.take at')) la = some (.lst (xs.take at')) := upd_same
    generalize upd H38 la (.lst (xs.take at')) = H39 at e39 hla ⊢
    refine ⟨_, rfl, (by show 1 ≤ sizeLine; decide), fun lb nb => ?_⟩
    have e40 : Ex H39 (upd H39 lb (.lst [.ref TO])) := Ex.new nb
    have hlb : upd H39 lb (.lst [.ref TO]) lb = some (.lst [.ref TO]) := upd_same
    generalize upd H39 lb (.lst [.ref TO]) = H40 at e40 hlb ⊢
    refine ⟨la, lb, _, _, rfl, rfl, e40 _ _ hla, hlb, sz_of (by rw [List.length_take]; show min at' xs.length + 1 ≤ 100000; omega), fun lc nc => ?_⟩
    have e41 : Ex H40 (upd H40 lc (.lst (xs.take at' ++ [.ref TO]))) := Ex.new nc
    have hlc : upd H40 lc (.lst (xs.take at' ++ [.ref TO])) lc = some (.lst (xs.take at' ++ [.ref TO])) := upd_same
    generalize upd H40 lc (.lst (xs.take at' ++ [.ref TO])) = H41 at e41 hlc ⊢
    have E41 := e39.trans (e40.trans e41)
    have hrl41 := E41 _ _ hrl38
    refine ⟨_, rfl, _, rfl, (at' : Int), 1, rfl, rfl, (at' : Int) + 1, rfl, _, rfl, (m : Int), rfl, rl, xs, rfl, sq_of hrl41, fun ld ndl => ?_⟩
    have e1c : ((at' : Int) + 1) = ((at' + 1 : Nat) : Int) := by omega
    rw [e1c, cut_mid xs (at' + 1) m (by omega) (by omega)]
    have e42 : Ex H41 (upd H41 ld (.lst ((xs.take m).drop (at' + 1)))) := Ex.new ndl
    have hld : upd H41 ld (.lst ((xs.take m).drop (at' + 1))) ld = some (.lst ((xs.take m).drop (at' + 1))) := upd_same
    generalize upd H41 ld (.lst ((xs.take m).drop (at' + 1))) = H42 at e42 hld ⊢
    refine ⟨lc, ld, _, _, rfl, rfl, e42 _ _ hlc, hld, sz_of (by rw [List.length_append, List.length_take, List.length_drop, List.length_take]; show min at' xs.length + 1 + _ ≤ 100000; omega), fun le nle => ?_⟩
    have e43 : Ex H42 (upd H42 le (.lst ((xs.take at' ++ [.ref TO]) ++ (xs.take m).drop (at' + 1)))) := Ex.new nle
    have hle : upd H42 le (.lst ((xs.take at' ++ [.ref TO]) ++ (xs.take m).drop (at' + 1))) le = some (.lst ((xs.take at' ++ [.ref TO]) ++ (xs.take m).drop (at' + 1))) := upd_same
    generalize upd H42 le (.lst ((xs.take at' ++ [.ref TO]) ++ (xs.take m).drop (at' + 1))) = H43 at e43 hle ⊢
    have E43 : Ex H38 H43 := E41.trans (e42.trans e43)
    have pr43 := exT (e38.trans E43) pr37
    obtain ⟨ch, ech⟩ : ∃ ch, ch = rm.set at' (q.cost c) := ⟨_, rfl⟩
    have ech2 : ch = (rm.take at' ++ [q.cost c]) ++ rm.drop (at' + 1) := by
      rw [ech, List.set_eq_take_append_cons_drop, if_pos (by omega)]
      simp
    have prc : Paired (RowT H43) ((xs.take at' ++ [.ref TO]) ++ (xs.take m).drop (at' + 1)) ch := by
      have h1 := prd_takeW (prR pr43) at'
      rw [List.take_take, Nat.min_eq_left (by omega)] at h1
      rw [ech2]
      exact prd_appW (prd_appW h1 (.cons (rTO.ex E43) .nil)) (prd_dropW (prR pr43) (at' + 1))
    have chOk : ∀ r ∈ ch, r.Ok := fun r h => by
      rw [ech] at h
      rcases List.mem_or_eq_of_mem_set h with h | h
      · exact rmOk r h
      · rw [h]; exact okc
    have chN : ch.map (·.nm) = rm.map (·.nm) := by rw [ech]; exact set_names hqm
    have chL : ch.length = m := by rw [ech, List.length_set]; exact rml
    have Fc : Few ch := ⟨by rw [chN]; exact Fw.nd, by omega, by omega⟩
    have lc2 := Paired.length prc
    clear hld hlc hlb hla e43 e42 nle ndl nc nb na hTO
    refine ⟨le, rfl, ⟨_, sq_of hle⟩, fun N5 hN5 => ?_⟩
    refine lc_list (fun j H' => ∃ ys, Ex H43 H' ∧ H' N5 = some (.lst ys) ∧ Paired (InsAt C_Sensor C_Lock H') ys (ch.take j)) ⟨[], Ex.new hN5, upd_same, .nil⟩ (fun j H' _ ⟨_, e, _⟩ => sq_of (e _ _ hle)) ?_ ?_
    · rintro j x H' hx ⟨ys, e, hN', py⟩
      obtain ⟨r, hr0, ix⟩ := prd_at prc hx
      have yl := Paired.length py
      rw [List.length_take] at yl
      exact ⟨rfl, _, rfl, x, r, rfl, ix.ex e, chOk r (List.mem_of_getElem? hr0), fun o H2 e2 _ g => ones_step chOk hN5 e hN' py hr0 e2 g (by omega)⟩
    rintro H44 ⟨mc, e44, hN44, pmc⟩
    rw [lc2, List.take_length] at pmc
    dsimp only [tNil]
    have E44 := e38.trans (E43.trans e44)
    intro oc mm ho hm hne
    refine ⟨H44, oc, mm, N5, mc, ch, rfl, (Ex.new hm).trans (Ex.new (by rw [upd_ne hne.symm]; exact ho)), ho, upd_same, .inl hN44, pmc, Fc, fun H45 tc e45 hbc htc => ⟨rfl, ?_⟩⟩
    have hb44 := hb37.ex E44
    have ntc : t ≠ tc := fun z => by
      obtain ⟨u, hu⟩ := ht31 hb44
      rw [z, htc] at hu
      cases hu
    have hb45 := hb44.ex e45
    have E45 := E44.trans e45
    have hbv45 := hbv37.ex E45
    have t45 := E45 _ _ tq
    have d45 := E45 _ _ hdq
    clear hb44 hm ho hne htc pmc hN44 e44 hN5 prc hle pr43 E44 hb37 hbv37
    refine ⟨_, rfl, _, rfl, own_box nBB (gOf q c) hb45 hbc ntc Fw (by omega) Fc.nd (fun r h => ⟨rmOk r h, ?_, ?_⟩) (r := false) ?_ fun H46 e46 => ?_⟩
    · obtain ⟨j, hj⟩ := set_each (c := c) Fw.nd hqm h
      exact chOk _ (by rw [ech]; exact List.mem_of_getElem? hj)
    · rw [ech]
      exact set_each Fw.nd hqm h
    · refine (List.all_eq_false.mpr ⟨q, List.mem_of_getElem? hqm, ?_⟩).symm
      rw [decide_eq_false]
      · decide
      · unfold gOf
        rw [if_pos rfl, ec]
        exact co_ne
    have hb46 : BoxT C_Box C_Sensor C_Lock H46 o t ms rm := BoxT.ex e46 hb45
    have hbc46 : BoxT C_Box C_Sensor C_Lock H46 oc tc mc ch := BoxT.ex e46 hbc
    have hbv46 : BoxT C_Box C_Sensor C_Lock H46 ov tv mv rm.reverse := BoxT.ex e46 hbv45
    have t46 := e46 _ _ t45
    have d46 := e46 _ _ d45
    refine ⟨false, rfl, true, rfl, _, rfl, _, rfl, (m : Int), 1, rfl, rfl, decide ((1 : Int) < m), rfl, ?_⟩
    refine ite2 (fun lt => ?_) (fun _ => ?_)
    · have lt1 : 1 < m := by have := of_decide_eq_true lt; omega
      obtain ⟨dxc, hc1, _⟩ := id hbc46
      have inc : q.nm ∈ ch.map (·.nm) := by rw [chN]; exact inq
      have dl := dropI_least (n := q.nm) Fc.nd
      have dlt := dropI_lt inc
      have Fd : Few (dropI q.nm ch) := ⟨dropI_names Fc.nd, by omega, by omega⟩
      have nod : q.nm ∉ (dropI q.nm ch).map (·.nm) := fun z => by
        rw [dropI_map] at z
        have := (List.mem_filter.mp z).2
        simp at this
      refine ⟨_, rfl, _, rfl, .inr (.inl ⟨aq, _, 1, _, rfl, rfl, st_of t46, (by rfl), oc, dxc, _, .type "str", rfl, hc1, .base (.str _), num_sub "str" (by simp), oc, tc, q.nm, mc, ch, rfl, hbc46, Fc, okq.nm, inc, by omega, fun H47 b2 t2 e47 _ _ hb2 => ?_⟩)⟩
      refine ⟨_, rfl, .ref aq, q, rfl, ⟨aq, dq, rfl, e47 _ _ t46, e47 _ _ d46⟩, okq, fun oq H48 e48 _ gq' => ?_⟩
      have hb2' := hb2.ex e48
      obtain ⟨dx2, h21, _⟩ := id hb2'
      obtain ⟨ty, hty, hnt⟩ := Th.num T num_or nS nL (.inr ⟨q, gq'⟩ : Th C_Sensor C_Lock H48 (.ref oq))
      refine ⟨b2, dx2, _, ty, rfl, h21, hty, hnt, b2, t2, .ref oq, _, dropI q.nm ch, q, rfl, hb2', Fd, gq', nod, by omega, fun H49 b3 t3 e49 ht3 _ hb3 => ?_⟩
      have hb48 := hb46.ex (e47.trans e48)
      have nt3 : t ≠ t3 := fun z => by
        obtain ⟨u, hu⟩ := ht31 hb48
        rw [z, ht3] at hu
        cases hu
      refine own_box nBB (fun q => q.co) (hb48.ex e49) hb3 nt3 Fw (by rw [List.length_append]; show rm.length = _ + 1; omega) ?_ (fun r h => ⟨rmOk r h, rmOk r h, List.getElem?_of_mem ?_⟩) (co_all rm) fun H50 _ => k H50
      · rw [List.map_append, List.nodup_append]
        exact ⟨Fd.nd, by simp, fun u hu c hc => by rw [List.mem_singleton.mp hc]; exact fun w => nod (by have w' : q.nm = u := w.symm; rw [← w'] at hu; exact hu)⟩
      · rcases set_other (c := c) Fw.nd hqm h with rfl | ⟨ne, mem⟩
        · exact List.mem_append_right _ (List.mem_singleton.mpr rfl)
        · refine List.mem_append_left _ (List.mem_filter.mpr ⟨by rw [ech]; exact mem, ?_⟩)
          show (!decide (r.nm = q.nm)) = true
          rw [decide_eq_false ne]
          rfl
    · exact ⟨_, rfl, own_box nBB (fun q => q.co) hb46 hbv46 ntv Fw (List.length_reverse.symm) Fv.nd (fun r h => ⟨rmOk r h, rmOk r h, List.getElem?_of_mem (List.mem_reverse.mpr h)⟩) (co_all rm) fun H50 _ => k H50⟩
end
end WK

set_option Elab.async false
set_option linter.all false
set_option maxRecDepth 100000
set_option maxHeartbeats 0
namespace WK
open PySem PySem.Spec PyProof.Rows L2 WW Evl
abbrev s_BadName : Stmt := inClass (top 3) 0
abbrev s_BadPost : Stmt := inClass (top 4) 0
abbrev s_BadInstrument : Stmt := inClass (top 8) 0
def dG (x : Str) (st : Stmt) : He5.DefA := { at_ := fun K => He.ga K x, name := x, qual := x, params := defArgs st, body := defBody st, scope := defScope st }
def dM (c m q : Str) (st : Stmt) : He5.DefA := { at_ := fun K => He.ma K (He.ga K c) m, name := m, qual := q, params := defArgs st, body := defBody st, scope := defScope st }
def dP (c m q : Str) (st : Stmt) : He5.DefA := { at_ := fun K => getr K (He.ga K c) m, name := m, qual := q, params := defArgs st, body := defBody st, scope := defScope st }
def dE (x : Str) (q : Str) (st : Stmt) : DefE := { cls := x, qual := q, params := defArgs st, body := defBody st, scope := defScope st }
def fn : List He5.DefA := [dG "law" s_law, dG "_law_names_refused" s__law_names_refused, dG "_law_stands" s__law_stands, dG "_law_rows_refused" s__law_rows_refused, dG "_law_strange" s__law_strange, dG "_law_less" s__law_less, dG "_law_more" s__law_more, dG "_law_asked" s__law_asked, dG "_law_told" s__law_told, dG "_law_seven" s__law_seven, dG "_law_one" s__law_one, dG "_law_alike" s__law_alike, dG "_law_instruments" s__law_instruments, dG "_law_plan" s__law_plan, dG "_law_hides" s__law_hides, dG "_law_blames" s__law_blames, dG "_law_start" s__law_start, dG "_law_words" s__law_words, dG "_law_agrees" s__law_agrees, dG "_law_pattern" s__law_pattern, dG "_law_hand" s__law_hand, dG "_law_names" s__law_names, dG "_law_name" s__law_name, dG "_law_pick" s__law_pick, dG "_law_draw" s__law_draw, dG "_law_pool" s__law_pool, dG "check_instruments" s_check_instruments, dG "is_instrument" s_is_instrument, dG "is_row_of_words" s_is_row_of_words, dG "is_table_of_sights" s_is_table_of_sights, dG "check_cost" s_check_cost, dG "check_post" s_check_post, dG "check_name" s_check_name, dG "is_index" s_is_index, dG "is_post" s_is_post, dG "is_name" s_is_name, dG "is_row_of" s_is_row_of, dG "is_row" s_is_row, dG "is_integer" s_is_integer, dM "Sensor" "__init__" "Sensor.__init__" s_Sensor___init__, dM "Lock" "__init__" "Lock.__init__" s_Lock___init__, dM "Box" "__init__" "Box.__init__" s_Box___init__, dM "Sensor" "__eq__" "Sensor.__eq__" s_Sensor___eq__, dM "Lock" "__eq__" "Lock.__eq__" s_Lock___eq__, dM "Box" "__eq__" "Box.__eq__" s_Box___eq__, dM "Box" "__len__" "Box.__len__" s_Box___len__, dM "Box" "__getitem__" "Box.__getitem__" s_Box___getitem__, dM "Box" "__or__" "Box.__or__" s_Box___or__, dM "Box" "__sub__" "Box.__sub__" s_Box___sub__, dM "Box" "names" "Box.names" s_Box_names, dP "Sensor" "name" "Sensor.name" s_Sensor_name, dP "Lock" "name" "Lock.name" s_Lock_name]
def fe : List DefE := [dE "BadName" "BadName.__init__" s_BadName, dE "BadPost" "BadPost.__init__" s_BadPost, dE "BadInstrument" "BadInstrument.__init__" s_BadInstrument]
def gnames : List Str := (["law", "_law_names_refused", "_law_stands", "_law_rows_refused", "_law_strange", "_law_less", "_law_more", "_law_asked", "_law_told", "_law_seven", "_law_one", "_law_alike", "_law_instruments", "_law_plan", "_law_hides", "_law_blames", "_law_start", "_law_words", "_law_agrees", "_law_pattern", "_law_hand", "_law_names", "_law_name", "_law_pick"] : List Str) ++ (["_law_draw", "_law_pool", "check_instruments", "is_instrument", "is_row_of_words", "is_table_of_sights", "check_cost", "check_post", "check_name", "is_index", "is_post", "is_name", "is_row_of", "is_row", "is_integer", "Sensor", "Lock", "Box", "BadName", "BadPost", "BadInstrument", "WorksError"] : List Str)
def bnames : List Str := ["len", "isinstance", "int", "bool", "str", "list", "tuple", "all", "abs", "max", "sorted", "range", "enumerate", "set", "dict", "super"]
def oth : List He.Fa := [.int "MOST_LETTERS" 10, .int "MOST_WORDS_OF_AN_INSTRUMENT" 10, .int "MOST_COST" 1000, .int "MOST_INSTRUMENTS" 6, .cls "Sensor", .mkr "Sensor", .cls "Lock", .mkr "Lock", .cls "Box", .mkr "Box", .noat "Sensor" "_name", .noat "Sensor" "_post", .noat "Sensor" "_sights", .noat "Sensor" "_cost", .noat "Lock" "_name", .noat "Lock" "_post", .noat "Lock" "_words", .noat "Lock" "_cost", .noat "Box" "_table"]
def fa : List He.Fa := gnames.map He.Fa.glo ++ (bnames.map He.Fa.free ++ oth)
theorem gl_mem {x : Str} (h : x ∈ gnames) : He.Fa.glo x ∈ fa := List.mem_append_left _ (List.mem_map.mpr ⟨x, h, rfl⟩)
theorem fr_mem {x : Str} (h : x ∈ bnames) : He.Fa.free x ∈ fa := List.mem_append_right _ (List.mem_append_left _ (List.mem_map.mpr ⟨x, h, rfl⟩))
theorem ot_mem {f : He.Fa} (i : Nat) (h : oth[i]? = some f) : f ∈ fa := List.mem_append_right _ (List.mem_append_right _ (List.mem_of_getElem? h))
def isaB (K : PySem.W.Frag) (C : Addr) : Bool := He.eqO (PySem.W.findIn K (.ref C) "__class__") (some (some (.builtin "object.__class__"))) && (He.eqO (PySem.W.specialIn K (.builtin "object.__class__") "__get__") (some (some (.builtin "getset_descriptor.__get__"))) && (decide (PySem.W.takesIn K (.builtin "object.__class__") = some true) && decide (PySem.W.mroIn K C (.type "object") = some true)))
theorem isaB_ok {K : PySem.W.Frag} {C : Addr} (h : isaB K C = true) (cl : Cls K C) (H : Hp) (a dx : Addr) (fs : List (Str × V)) (e : H a = some (.ins C dx fs)) : TyOf K H (.ref a) (.ref C) := by
  obtain ⟨h1, h⟩ := He.ba h
  obtain ⟨h2, h⟩ := He.ba h
  obtain ⟨h3, h4⟩ := He.ba h
  exact .ins e cl (He.eqO_ok h1) (He.eqO_ok h2) (of_decide_eq_true h3) (of_decide_eq_true h4)
abbrev Pr : Program := (PySem.Challenge.rw_watchedworks_k21_kits_of_instruments).prog
def excB (K : PySem.W.Frag) (C : Addr) : Bool := xfB K C && (He.eqO (PySem.W.findIn K (.ref C) "__class__") (some (some (.builtin "object.__class__"))) && (He.eqO (PySem.W.specialIn K (.builtin "object.__class__") "__get__") (some (some (.builtin "getset_descriptor.__get__"))) && (decide (PySem.W.takesIn K (.builtin "object.__class__") = some true) && decide (PySem.W.mroIn K C (.type "object") = some true))))
theorem excB_ok {K : PySem.W.Frag} {C : Addr} (h : excB K C = true) : XfC K C ∧ ExcC K C := by
  obtain ⟨h1, h⟩ := He.ba h
  obtain ⟨h2, h⟩ := He.ba h
  obtain ⟨h3, h⟩ := He.ba h
  obtain ⟨h4, h5⟩ := He.ba h
  have x := xfB_ok h1
  exact ⟨x, x.ga, x.gg, x.exC, x.hdC, He.eqO_ok h2, He.eqO_ok h3, of_decide_eq_true h4, of_decide_eq_true h5⟩
/-- the def that the class holds under that name -/
def methB (K : PySem.W.Frag) (C : Addr) (m : Str) : Bool := He.eqO (PySem.W.findIn K (.ref C) m) (some (some (.ref (He.ma K C m)))) && (PySem.W.isFn K (.ref (He.ma K C m)) && PySem.W.keepIn K (.ref (He.ma K C m)))
theorem methB_ok {K : PySem.W.Frag} {C : Addr} {m : Str} (h : methB K C m = true) : Meth K C m (He.ma K C m) := by
  obtain ⟨h1, h⟩ := He.ba h
  obtain ⟨h2, h3⟩ := He.ba h
  exact ⟨He.eqO_ok h1, h2, h3⟩
def ownB (K : PySem.W.Frag) (C : Addr) : Bool := He.eqO (PySem.W.findIn K (.ref C) "__getitem__") (some (some (.ref (He.ma K C "__getitem__")))) && (PySem.W.fnIn K (He.ma K C "__getitem__") && PySem.W.isFn K (.ref (He.ma K C "__getitem__")))
theorem ownB_ok {K : PySem.W.Frag} {C : Addr} (h : ownB K C = true) : OwnIx K C (He.ma K C "__getitem__") := by
  obtain ⟨h1, h⟩ := He.ba h
  obtain ⟨h2, h3⟩ := He.ba h
  exact ⟨He.eqO_ok h1, h2, h3⟩
def ownFB (K : PySem.W.Frag) (C : Addr) (m : Str) : Bool := He.eqO (PySem.W.findIn K (.ref C) m) (some (some (.ref (He.ma K C m)))) && PySem.W.isFn K (.ref (He.ma K C m))
theorem ownFB_ok {K : PySem.W.Frag} {C : Addr} {m : Str} (h : ownFB K C m = true) : PySem.W.findIn K (.ref C) m = some (some (.ref (He.ma K C m))) ∧ PySem.W.isFn K (.ref (He.ma K C m)) = true := by
  obtain ⟨h1, h2⟩ := He.ba h
  exact ⟨He.eqO_ok h1, h2⟩
def opB (K : PySem.W.Frag) (C : Addr) (m : Str) (nm : String) : Bool := He.eqO (PySem.W.findIn K (.ref C) (PySem.dunder nm)) (some (some (.ref (He.ma K C m)))) && (He.eqO (PySem.W.findIn K (.ref C) (PySem.dunderR nm)) (some none) && (PySem.W.selfFirst K C && PySem.W.isFn K (.ref (He.ma K C m))))
theorem opB_ok {K : PySem.W.Frag} {C : Addr} {m : Str} {nm : String} (h : opB K C m nm = true) : OwnOp K C (He.ma K C m) nm := by
  obtain ⟨h1, h⟩ := He.ba h
  obtain ⟨h2, h⟩ := He.ba h
  obtain ⟨h3, h4⟩ := He.ba h
  exact ⟨He.eqO_ok h1, He.eqO_ok h2, h3, h4⟩
def numB (K : PySem.W.Frag) (C C' : Addr) (nm : String) : Bool := (!decide (C' = C)) && ((match PySem.W.clsIn K C' with
  | some cd => cd.mro == [.ref C', .type "object"]
  | none => false) && (He.eqO (PySem.W.findIn K (.ref C') (PySem.dunder nm)) (some none) && He.eqO (PySem.W.findIn K (.ref C') (PySem.dunderR nm)) (some none)))
theorem numB_ok {K : PySem.W.Frag} {C C' : Addr} {nm : String} (h : numB K C C' nm = true) : NumT K C nm (.ref C') := by
  obtain ⟨h1, h⟩ := He.ba h
  obtain ⟨h2, h⟩ := He.ba h
  obtain ⟨h3, h4⟩ := He.ba h
  cases hc : PySem.W.clsIn K C' with
  | none => rw [hc] at h2; cases h2
  | some cd =>
    rw [hc] at h2
    refine .inr ⟨C', cd, rfl, ?_, hc, beq_iff_eq.mp h2, He.eqO_ok h3, He.eqO_ok h4⟩
    intro z
    rw [decide_eq_true z] at h1
    cases h1
def exL (K : PySem.W.Frag) : List Bool := [isaB K (He.ga K "Sensor"), isaB K (He.ga K "Lock"), isaB K (He.ga K "Box"), propB K (He.ga K "Sensor") "name", propB K (He.ga K "Lock") "name", exdB Pr.main.file K (dE "BadName" "BadName.__init__" s_BadName), excB K (He.ga K "BadName"), He.eqO (PySem.W.findIn K (.ref (He.ga K "BadName")) "value") (some none), exdB Pr.main.file K (dE "BadPost" "BadPost.__init__" s_BadPost), excB K (He.ga K "BadPost"), He.eqO (PySem.W.findIn K (.ref (He.ga K "BadPost")) "value") (some none), exdB Pr.main.file K (dE "BadInstrument" "BadInstrument.__init__" s_BadInstrument), excB K (He.ga K "BadInstrument"), He.eqO (PySem.W.findIn K (.ref (He.ga K "BadInstrument")) "at") (some none), decide (PySem.W.exmOne K (.ref (He.ga K "BadName")) (.ref (He.ga K "BadName")) = some true), decide (PySem.W.kitOne K (.ref (He.ga K "BadName")) (.ref (He.ga K "WorksError")) = some true), decide (PySem.W.exmOne K (.ref (He.ga K "BadInstrument")) (.ref (He.ga K "BadInstrument")) = some true), decide (PySem.W.kitOne K (.ref (He.ga K "BadInstrument")) (.ref (He.ga K "WorksError")) = some true), decide (PySem.W.kitOne K (.ref (He.ga K "Sensor")) (.ref (He.ga K "Sensor")) = some true), decide (PySem.W.kitOne K (.ref (He.ga K "Sensor")) (.ref (He.ga K "Lock")) = some false), decide (PySem.W.kitOne K (.ref (He.ga K "Lock")) (.ref (He.ga K "Sensor")) = some false), decide (PySem.W.kitOne K (.ref (He.ga K "Lock")) (.ref (He.ga K "Lock")) = some true), decide (PySem.W.kitOne K (.ref (He.ga K "Box")) (.ref (He.ga K "Box")) = some true), plainTs.all fun T => decide (PySem.W.kitOne K (.type T) (.ref (He.ga K "Sensor")) = some false), decide (PySem.W.kitOne K (.ref (He.ga K "Sensor")) (.type "list") = some false), decide (PySem.W.kitOne K (.ref (He.ga K "Sensor")) (.type "tuple") = some false), numB K (He.ga K "Box") (He.ga K "Sensor") "or", plainTs.all fun T => decide (PySem.W.kitOne K (.type T) (.ref (He.ga K "Lock")) = some false), decide (PySem.W.kitOne K (.ref (He.ga K "Lock")) (.type "list") = some false), decide (PySem.W.kitOne K (.ref (He.ga K "Lock")) (.type "tuple") = some false), numB K (He.ga K "Box") (He.ga K "Lock") "or", PySem.W.notFirst K (He.ga K "Sensor") (.ref (He.ga K "Sensor")), ownFB K (He.ga K "Sensor") "__eq__", PySem.W.notFirst K (He.ga K "Lock") (.ref (He.ga K "Lock")), ownFB K (He.ga K "Lock") "__eq__", PySem.W.notFirst K (He.ga K "Box") (.ref (He.ga K "Box")), ownFB K (He.ga K "Box") "__eq__", methB K (He.ga K "Box") "names", ownB K (He.ga K "Box"), ownFB K (He.ga K "Box") "__getitem__", ownFB K (He.ga K "Box") "__len__", ownFB K (He.ga K "Box") "__or__", opB K (He.ga K "Box") "__or__" "or", ownFB K (He.ga K "Box") "__sub__", opB K (He.ga K "Box") "__sub__" "sub"]
def ex (K : PySem.W.Frag) : Bool := (exL K).all id
abbrev R : PySem.W.OpenRow := PySem.W.OpenLaw.row PySem.Challenge.rw_watchedworks_k21_kits_of_instruments
abbrev hk : PySem.W.Hook := hookE 5 fa fn fe ex
def ob (s : PySem.W.SharedT) : AlE := obsEG 5 fa fn fe ex (HandSHeadRun.getT s)
theorem ob_eq (s : PySem.W.SharedT) : ob s = hk.obs s.abs := obsEG_eq (HandSHeadRun.getT_eq s)
abbrev loose : List Str := (["_wall", "WorksError", "BadName", "BadPost", "BadSights", "BadWords", "BadCost", "BadInstrument", "BadSet", "MOST_LETTERS", "is_integer", "is_row", "is_row_of", "is_name", "is_post", "is_index", "MOST_WORDS_OF_AN_INSTRUMENT", "MOST_COST", "Sensor", "Lock", "check_name", "check_post", "check_cost", "is_table_of_sights"] : List Str) ++ (["is_row_of_words", "is_instrument", "check_chosen", "sensors_at", "instruments_at", "MOST_INSTRUMENTS", "Box", "check_instruments", "sight_by", "_law_pool", "_law_draw", "_law_pick", "_law_name", "_law_names", "_law_hand", "_law_pattern", "_law_agrees", "_law_words", "_law_start", "_law_blames", "_law_hides", "_law_plan", "_law_instruments", "_law_alike"] : List Str) ++ (["_law_one", "_law_seven", "_law_told", "_law_asked", "_law_more", "_law_less", "_law_strange", "_law_rows_refused", "_law_stands", "_law_names_refused"] : List Str)
theorem run (w : World) : HandSHeadRun.RunEq R (PySem.W.view R.prog [64]) hk ob 12000 loose w := by
  intro os
  kernel_rfl
theorem facts {w : World} {K : PySem.W.Frag} {h : Heap} {mg : Str → Option Value} {f : Addr} (X : K.In h) (Gn : h.Ns mainGlobals mg) (hfa : mg ("law" : Str) = some (.ref f)) (ce : SaysE fa fn fe ex K) :
    ∃ fd : FuncData, (∀ (s : Shared) (v : Value), BindsTo s fd ⟨[v], []⟩ [("_law_script", v)]) ∧ ∀ base : Heap, K.In base → base.Ns mainGlobals mg → FnOk Pr w K mg base CXn 10 f fd ["_law_script"] (spLaw K) := by
  have c := ce.b
  have fr : ∀ {x : Str}, x ∈ bnames → mg x = none := fun m => He.free_ok X Gn (c.fact (fr_mem m))
  have gl : ∀ {x : Str}, x ∈ gnames → mg x = some (.ref (He.ga K x)) := fun m => He.glo_ok X Gn (c.fact (gl_mem m))
  have G : Gz mg := ⟨fr (x := "len") (by decide +kernel), fr (x := "isinstance") (by decide +kernel), fr (x := "int") (by decide +kernel), fr (x := "bool") (by decide +kernel), fr (x := "str") (by decide +kernel), fr (x := "list") (by decide +kernel), fr (x := "tuple") (by decide +kernel), fr (x := "all") (by decide +kernel), fr (x := "abs") (by decide +kernel), fr (x := "max") (by decide +kernel), fr (x := "sorted") (by decide +kernel), fr (x := "range") (by decide +kernel), fr (x := "enumerate") (by decide +kernel), fr (x := "set") (by decide +kernel), fr (x := "dict") (by decide +kernel)⟩
  obtain ⟨fd0, D0⟩ := c.def_ 0 (d := dG "law" s_law) rfl
  replace D0 : FunD K "law" "law" (defArgs s_law) (defBody s_law) (defScope s_law) [] [] _ fd0 := D0
  obtain ⟨fd1, D1⟩ := c.def_ 1 (d := dG "_law_names_refused" s__law_names_refused) rfl
  replace D1 : FunD K "_law_names_refused" "_law_names_refused" (defArgs s__law_names_refused) (defBody s__law_names_refused) (defScope s__law_names_refused) [] [] _ fd1 := D1
  obtain ⟨fd2, D2⟩ := c.def_ 2 (d := dG "_law_stands" s__law_stands) rfl
  replace D2 : FunD K "_law_stands" "_law_stands" (defArgs s__law_stands) (defBody s__law_stands) (defScope s__law_stands) [] [] _ fd2 := D2
  obtain ⟨fd3, D3⟩ := c.def_ 3 (d := dG "_law_rows_refused" s__law_rows_refused) rfl
  replace D3 : FunD K "_law_rows_refused" "_law_rows_refused" (defArgs s__law_rows_refused) (defBody s__law_rows_refused) (defScope s__law_rows_refused) [] [] _ fd3 := D3
  obtain ⟨fd4, D4⟩ := c.def_ 4 (d := dG "_law_strange" s__law_strange) rfl
  replace D4 : FunD K "_law_strange" "_law_strange" (defArgs s__law_strange) (defBody s__law_strange) (defScope s__law_strange) [] [] _ fd4 := D4
  obtain ⟨fd5, D5⟩ := c.def_ 5 (d := dG "_law_less" s__law_less) rfl
  replace D5 : FunD K "_law_less" "_law_less" (defArgs s__law_less) (defBody s__law_less) (defScope s__law_less) [] [] _ fd5 := D5
  obtain ⟨fd6, D6⟩ := c.def_ 6 (d := dG "_law_more" s__law_more) rfl
  replace D6 : FunD K "_law_more" "_law_more" (defArgs s__law_more) (defBody s__law_more) (defScope s__law_more) [] [] _ fd6 := D6
  obtain ⟨fd7, D7⟩ := c.def_ 7 (d := dG "_law_asked" s__law_asked) rfl
  replace D7 : FunD K "_law_asked" "_law_asked" (defArgs s__law_asked) (defBody s__law_asked) (defScope s__law_asked) [] [] _ fd7 := D7
  obtain ⟨fd8, D8⟩ := c.def_ 8 (d := dG "_law_told" s__law_told) rfl
  replace D8 : FunD K "_law_told" "_law_told" (defArgs s__law_told) (defBody s__law_told) (defScope s__law_told) [] [] _ fd8 := D8
  obtain ⟨fd9, D9⟩ := c.def_ 9 (d := dG "_law_seven" s__law_seven) rfl
  replace D9 : FunD K "_law_seven" "_law_seven" (defArgs s__law_seven) (defBody s__law_seven) (defScope s__law_seven) [] [] _ fd9 := D9
  obtain ⟨fd10, D10⟩ := c.def_ 10 (d := dG "_law_one" s__law_one) rfl
  replace D10 : FunD K "_law_one" "_law_one" (defArgs s__law_one) (defBody s__law_one) (defScope s__law_one) [] [] _ fd10 := D10
  obtain ⟨fd11, D11⟩ := c.def_ 11 (d := dG "_law_alike" s__law_alike) rfl
  replace D11 : FunD K "_law_alike" "_law_alike" (defArgs s__law_alike) (defBody s__law_alike) (defScope s__law_alike) [] [] _ fd11 := D11
  obtain ⟨fd12, D12⟩ := c.def_ 12 (d := dG "_law_instruments" s__law_instruments) rfl
  replace D12 : FunD K "_law_instruments" "_law_instruments" (defArgs s__law_instruments) (defBody s__law_instruments) (defScope s__law_instruments) [] [] _ fd12 := D12
  obtain ⟨fd13, D13⟩ := c.def_ 13 (d := dG "_law_plan" s__law_plan) rfl
  replace D13 : FunD K "_law_plan" "_law_plan" (defArgs s__law_plan) (defBody s__law_plan) (defScope s__law_plan) [] [] _ fd13 := D13
  obtain ⟨fd14, D14⟩ := c.def_ 14 (d := dG "_law_hides" s__law_hides) rfl
  replace D14 : FunD K "_law_hides" "_law_hides" (defArgs s__law_hides) (defBody s__law_hides) (defScope s__law_hides) [] [] _ fd14 := D14
  obtain ⟨fd15, D15⟩ := c.def_ 15 (d := dG "_law_blames" s__law_blames) rfl
  replace D15 : FunD K "_law_blames" "_law_blames" (defArgs s__law_blames) (defBody s__law_blames) (defScope s__law_blames) [] [] _ fd15 := D15
  obtain ⟨fd16, D16⟩ := c.def_ 16 (d := dG "_law_start" s__law_start) rfl
  replace D16 : FunD K "_law_start" "_law_start" (defArgs s__law_start) (defBody s__law_start) (defScope s__law_start) [] [] _ fd16 := D16
  obtain ⟨fd17, D17⟩ := c.def_ 17 (d := dG "_law_words" s__law_words) rfl
  replace D17 : FunD K "_law_words" "_law_words" (defArgs s__law_words) (defBody s__law_words) (defScope s__law_words) [] [] _ fd17 := D17
  obtain ⟨fd18, D18⟩ := c.def_ 18 (d := dG "_law_agrees" s__law_agrees) rfl
  replace D18 : FunD K "_law_agrees" "_law_agrees" (defArgs s__law_agrees) (defBody s__law_agrees) (defScope s__law_agrees) [] [] _ fd18 := D18
  obtain ⟨fd19, D19⟩ := c.def_ 19 (d := dG "_law_pattern" s__law_pattern) rfl
  replace D19 : FunD K "_law_pattern" "_law_pattern" (defArgs s__law_pattern) (defBody s__law_pattern) (defScope s__law_pattern) [] [] _ fd19 := D19
  obtain ⟨fd20, D20⟩ := c.def_ 20 (d := dG "_law_hand" s__law_hand) rfl
  replace D20 : FunD K "_law_hand" "_law_hand" (defArgs s__law_hand) (defBody s__law_hand) (defScope s__law_hand) [] [] _ fd20 := D20
  obtain ⟨fd21, D21⟩ := c.def_ 21 (d := dG "_law_names" s__law_names) rfl
  replace D21 : FunD K "_law_names" "_law_names" (defArgs s__law_names) (defBody s__law_names) (defScope s__law_names) [] [] _ fd21 := D21
  obtain ⟨fd22, D22⟩ := c.def_ 22 (d := dG "_law_name" s__law_name) rfl
  replace D22 : FunD K "_law_name" "_law_name" (defArgs s__law_name) (defBody s__law_name) (defScope s__law_name) [] [] _ fd22 := D22
  obtain ⟨fd23, D23⟩ := c.def_ 23 (d := dG "_law_pick" s__law_pick) rfl
  replace D23 : FunD K "_law_pick" "_law_pick" (defArgs s__law_pick) (defBody s__law_pick) (defScope s__law_pick) [] [] _ fd23 := D23
  obtain ⟨fd24, D24⟩ := c.def_ 24 (d := dG "_law_draw" s__law_draw) rfl
  replace D24 : FunD K "_law_draw" "_law_draw" (defArgs s__law_draw) (defBody s__law_draw) (defScope s__law_draw) [] [] _ fd24 := D24
  obtain ⟨fd25, D25⟩ := c.def_ 25 (d := dG "_law_pool" s__law_pool) rfl
  replace D25 : FunD K "_law_pool" "_law_pool" (defArgs s__law_pool) (defBody s__law_pool) (defScope s__law_pool) [] [] _ fd25 := D25
  obtain ⟨fd26, D26⟩ := c.def_ 26 (d := dG "check_instruments" s_check_instruments) rfl
  replace D26 : FunD K "check_instruments" "check_instruments" (defArgs s_check_instruments) (defBody s_check_instruments) (defScope s_check_instruments) [] [] _ fd26 := D26
  obtain ⟨fd27, D27⟩ := c.def_ 27 (d := dG "is_instrument" s_is_instrument) rfl
  replace D27 : FunD K "is_instrument" "is_instrument" (defArgs s_is_instrument) (defBody s_is_instrument) (defScope s_is_instrument) [] [] _ fd27 := D27
  obtain ⟨fd28, D28⟩ := c.def_ 28 (d := dG "is_row_of_words" s_is_row_of_words) rfl
  replace D28 : FunD K "is_row_of_words" "is_row_of_words" (defArgs s_is_row_of_words) (defBody s_is_row_of_words) (defScope s_is_row_of_words) [] [] _ fd28 := D28
  obtain ⟨fd29, D29⟩ := c.def_ 29 (d := dG "is_table_of_sights" s_is_table_of_sights) rfl
  replace D29 : FunD K "is_table_of_sights" "is_table_of_sights" (defArgs s_is_table_of_sights) (defBody s_is_table_of_sights) (defScope s_is_table_of_sights) [] [] _ fd29 := D29
  obtain ⟨fd30, D30⟩ := c.def_ 30 (d := dG "check_cost" s_check_cost) rfl
  replace D30 : FunD K "check_cost" "check_cost" (defArgs s_check_cost) (defBody s_check_cost) (defScope s_check_cost) [] [] _ fd30 := D30
  obtain ⟨fd31, D31⟩ := c.def_ 31 (d := dG "check_post" s_check_post) rfl
  replace D31 : FunD K "check_post" "check_post" (defArgs s_check_post) (defBody s_check_post) (defScope s_check_post) [] [] _ fd31 := D31
  obtain ⟨fd32, D32⟩ := c.def_ 32 (d := dG "check_name" s_check_name) rfl
  replace D32 : FunD K "check_name" "check_name" (defArgs s_check_name) (defBody s_check_name) (defScope s_check_name) [] [] _ fd32 := D32
  obtain ⟨fd33, D33⟩ := c.def_ 33 (d := dG "is_index" s_is_index) rfl
  replace D33 : FunD K "is_index" "is_index" (defArgs s_is_index) (defBody s_is_index) (defScope s_is_index) [] [] _ fd33 := D33
  obtain ⟨fd34, D34⟩ := c.def_ 34 (d := dG "is_post" s_is_post) rfl
  replace D34 : FunD K "is_post" "is_post" (defArgs s_is_post) (defBody s_is_post) (defScope s_is_post) [] [] _ fd34 := D34
  obtain ⟨fd35, D35⟩ := c.def_ 35 (d := dG "is_name" s_is_name) rfl
  replace D35 : FunD K "is_name" "is_name" (defArgs s_is_name) (defBody s_is_name) (defScope s_is_name) [] [] _ fd35 := D35
  obtain ⟨fd36, D36⟩ := c.def_ 36 (d := dG "is_row_of" s_is_row_of) rfl
  replace D36 : FunD K "is_row_of" "is_row_of" (defArgs s_is_row_of) (defBody s_is_row_of) (defScope s_is_row_of) [] [] _ fd36 := D36
  obtain ⟨fd37, D37⟩ := c.def_ 37 (d := dG "is_row" s_is_row) rfl
  replace D37 : FunD K "is_row" "is_row" (defArgs s_is_row) (defBody s_is_row) (defScope s_is_row) [] [] _ fd37 := D37
  obtain ⟨fd38, D38⟩ := c.def_ 38 (d := dG "is_integer" s_is_integer) rfl
  replace D38 : FunD K "is_integer" "is_integer" (defArgs s_is_integer) (defBody s_is_integer) (defScope s_is_integer) [] [] _ fd38 := D38
  obtain ⟨fd39, D39⟩ := c.def_ 39 (d := dM "Sensor" "__init__" "Sensor.__init__" s_Sensor___init__) rfl
  replace D39 : FunD K "__init__" "Sensor.__init__" (defArgs s_Sensor___init__) (defBody s_Sensor___init__) (defScope s_Sensor___init__) [] [] _ fd39 := D39
  obtain ⟨fd40, D40⟩ := c.def_ 40 (d := dM "Lock" "__init__" "Lock.__init__" s_Lock___init__) rfl
  replace D40 : FunD K "__init__" "Lock.__init__" (defArgs s_Lock___init__) (defBody s_Lock___init__) (defScope s_Lock___init__) [] [] _ fd40 := D40
  obtain ⟨fd41, D41⟩ := c.def_ 41 (d := dM "Box" "__init__" "Box.__init__" s_Box___init__) rfl
  replace D41 : FunD K "__init__" "Box.__init__" (defArgs s_Box___init__) (defBody s_Box___init__) (defScope s_Box___init__) [] [] _ fd41 := D41
  obtain ⟨fd42, D42⟩ := c.def_ 42 (d := dM "Sensor" "__eq__" "Sensor.__eq__" s_Sensor___eq__) rfl
  replace D42 : FunD K "__eq__" "Sensor.__eq__" (defArgs s_Sensor___eq__) (defBody s_Sensor___eq__) (defScope s_Sensor___eq__) [] [] _ fd42 := D42
  obtain ⟨fd43, D43⟩ := c.def_ 43 (d := dM "Lock" "__eq__" "Lock.__eq__" s_Lock___eq__) rfl
  replace D43 : FunD K "__eq__" "Lock.__eq__" (defArgs s_Lock___eq__) (defBody s_Lock___eq__) (defScope s_Lock___eq__) [] [] _ fd43 := D43
  obtain ⟨fd44, D44⟩ := c.def_ 44 (d := dM "Box" "__eq__" "Box.__eq__" s_Box___eq__) rfl
  replace D44 : FunD K "__eq__" "Box.__eq__" (defArgs s_Box___eq__) (defBody s_Box___eq__) (defScope s_Box___eq__) [] [] _ fd44 := D44
  obtain ⟨fd45, D45⟩ := c.def_ 45 (d := dM "Box" "__len__" "Box.__len__" s_Box___len__) rfl
  replace D45 : FunD K "__len__" "Box.__len__" (defArgs s_Box___len__) (defBody s_Box___len__) (defScope s_Box___len__) [] [] _ fd45 := D45
  obtain ⟨fd46, D46⟩ := c.def_ 46 (d := dM "Box" "__getitem__" "Box.__getitem__" s_Box___getitem__) rfl
  replace D46 : FunD K "__getitem__" "Box.__getitem__" (defArgs s_Box___getitem__) (defBody s_Box___getitem__) (defScope s_Box___getitem__) [] [] _ fd46 := D46
  obtain ⟨fd47, D47⟩ := c.def_ 47 (d := dM "Box" "__or__" "Box.__or__" s_Box___or__) rfl
  replace D47 : FunD K "__or__" "Box.__or__" (defArgs s_Box___or__) (defBody s_Box___or__) (defScope s_Box___or__) [] [] _ fd47 := D47
  obtain ⟨fd48, D48⟩ := c.def_ 48 (d := dM "Box" "__sub__" "Box.__sub__" s_Box___sub__) rfl
  replace D48 : FunD K "__sub__" "Box.__sub__" (defArgs s_Box___sub__) (defBody s_Box___sub__) (defScope s_Box___sub__) [] [] _ fd48 := D48
  obtain ⟨fd49, D49⟩ := c.def_ 49 (d := dM "Box" "names" "Box.names" s_Box_names) rfl
  replace D49 : FunD K "names" "Box.names" (defArgs s_Box_names) (defBody s_Box_names) (defScope s_Box_names) [] [] _ fd49 := D49
  obtain ⟨fd50, D50⟩ := c.def_ 50 (d := dP "Sensor" "name" "Sensor.name" s_Sensor_name) rfl
  replace D50 : FunD K "name" "Sensor.name" (defArgs s_Sensor_name) (defBody s_Sensor_name) (defScope s_Sensor_name) [] [] _ fd50 := D50
  obtain ⟨fd51, D51⟩ := c.def_ 51 (d := dP "Lock" "name" "Lock.name" s_Lock_name) rfl
  replace D51 : FunD K "name" "Lock.name" (defArgs s_Lock_name) (defBody s_Lock_name) (defScope s_Lock_name) [] [] _ fd51 := D51
  have e0 := hfa.symm.trans (gl (x := "law") (by decide +kernel))
  cases e0
  have E0 : Df K mg "law" s_law _ fd0 ["_law_script"] := ⟨D0, hfa, D0.bindsN fun _ _ _ _ _ _ us hl => match us, hl with | [_], _ => rfl⟩
  have E1 : Df K mg "_law_names_refused" s__law_names_refused _ fd1 ["_law_pool_here", "_law_box", "_law_rows", "_law_other"] := ⟨D1, gl (x := "_law_names_refused") (by decide +kernel), D1.bindsN fun _ _ _ _ _ _ us hl => match us, hl with | [_, _, _, _], _ => rfl⟩
  have E2 : Df K mg "_law_stands" s__law_stands _ fd2 ["_law_box", "_law_rows"] := ⟨D2, gl (x := "_law_stands") (by decide +kernel), D2.bindsN fun _ _ _ _ _ _ us hl => match us, hl with | [_, _], _ => rfl⟩
  have E3 : Df K mg "_law_rows_refused" s__law_rows_refused _ fd3 ["_law_pool_here", "_law_rows"] := ⟨D3, gl (x := "_law_rows_refused") (by decide +kernel), D3.bindsN fun _ _ _ _ _ _ us hl => match us, hl with | [_, _], _ => rfl⟩
  have E4 : Df K mg "_law_strange" s__law_strange _ fd4 ["_law_pool_here"] := ⟨D4, gl (x := "_law_strange") (by decide +kernel), D4.bindsN fun _ _ _ _ _ _ us hl => match us, hl with | [_], _ => rfl⟩
  have E5 : Df K mg "_law_less" s__law_less _ fd5 ["_law_box", "_law_name_here"] := ⟨D5, gl (x := "_law_less") (by decide +kernel), D5.bindsN fun _ _ _ _ _ _ us hl => match us, hl with | [_, _], _ => rfl⟩
  have E6 : Df K mg "_law_more" s__law_more _ fd6 ["_law_box", "_law_thing"] := ⟨D6, gl (x := "_law_more") (by decide +kernel), D6.bindsN fun _ _ _ _ _ _ us hl => match us, hl with | [_, _], _ => rfl⟩
  have E7 : Df K mg "_law_asked" s__law_asked _ fd7 ["_law_box", "_law_name_here"] := ⟨D7, gl (x := "_law_asked") (by decide +kernel), D7.bindsN fun _ _ _ _ _ _ us hl => match us, hl with | [_, _], _ => rfl⟩
  have E8 : Df K mg "_law_told" s__law_told _ fd8 ["_law_things"] := ⟨D8, gl (x := "_law_told") (by decide +kernel), D8.bindsN fun _ _ _ _ _ _ us hl => match us, hl with | [_], _ => rfl⟩
  have E9 : Df K mg "_law_seven" s__law_seven _ fd9 ["_law_pool_here"] := ⟨D9, gl (x := "_law_seven") (by decide +kernel), D9.bindsN fun _ _ _ _ _ _ us hl => match us, hl with | [_], _ => rfl⟩
  have E10 : Df K mg "_law_one" s__law_one _ fd10 ["_law_row"] := ⟨D10, gl (x := "_law_one") (by decide +kernel), D10.bindsN fun _ _ _ _ _ _ us hl => match us, hl with | [_], _ => rfl⟩
  have E11 : Df K mg "_law_alike" s__law_alike _ fd11 ["_law_one_here", "_law_other"] := ⟨D11, gl (x := "_law_alike") (by decide +kernel), D11.bindsN fun _ _ _ _ _ _ us hl => match us, hl with | [_, _], _ => rfl⟩
  have E12 : Df K mg "_law_instruments" s__law_instruments _ fd12 ["_law_pool_here", "_law_plan_here", "_law_most"] := ⟨D12, gl (x := "_law_instruments") (by decide +kernel), D12.bindsN fun _ _ _ _ _ _ us hl => match us, hl with | [_, _, _], _ => rfl⟩
  have E13 : Df K mg "_law_plan" s__law_plan _ fd13 ["_law_pool_here", "_law_size"] := ⟨D13, gl (x := "_law_plan") (by decide +kernel), D13.bindsN fun _ _ _ _ _ _ us hl => match us, hl with | [_, _], _ => rfl⟩
  have E14 : Df K mg "_law_hides" s__law_hides _ fd14 ["_law_pool_here", "_law_hands"] := ⟨D14, gl (x := "_law_hides") (by decide +kernel), D14.bindsN fun _ _ _ _ _ _ us hl => match us, hl with | [_, _], _ => rfl⟩
  have E15 : Df K mg "_law_blames" s__law_blames _ fd15 ["_law_pool_here", "_law_words_here"] := ⟨D15, gl (x := "_law_blames") (by decide +kernel), D15.bindsN fun _ _ _ _ _ _ us hl => match us, hl with | [_, _], _ => rfl⟩
  have E16 : Df K mg "_law_start" s__law_start _ fd16 ["_law_hands"] := ⟨D16, gl (x := "_law_start") (by decide +kernel), D16.bindsN fun _ _ _ _ _ _ us hl => match us, hl with | [_], _ => rfl⟩
  have E17 : Df K mg "_law_words" s__law_words _ fd17 ["_law_hands"] := ⟨D17, gl (x := "_law_words") (by decide +kernel), D17.bindsN fun _ _ _ _ _ _ us hl => match us, hl with | [_], _ => rfl⟩
  have E18 : Df K mg "_law_agrees" s__law_agrees _ fd18 ["_law_pattern_here", "_law_standing"] := ⟨D18, gl (x := "_law_agrees") (by decide +kernel), D18.bindsN fun _ _ _ _ _ _ us hl => match us, hl with | [_, _], _ => rfl⟩
  have E19 : Df K mg "_law_pattern" s__law_pattern _ fd19 ["_law_pool_here", "_law_hands"] := ⟨D19, gl (x := "_law_pattern") (by decide +kernel), D19.bindsN fun _ _ _ _ _ _ us hl => match us, hl with | [_, _], _ => rfl⟩
  have E20 : Df K mg "_law_hand" s__law_hand _ fd20 ["_law_pool_here", "_law_words_here", "_law_most"] := ⟨D20, gl (x := "_law_hand") (by decide +kernel), D20.bindsN fun _ _ _ _ _ _ us hl => match us, hl with | [_, _, _], _ => rfl⟩
  have E21 : Df K mg "_law_names" s__law_names _ fd21 ["_law_pool_here", "_law_many"] := ⟨D21, gl (x := "_law_names") (by decide +kernel), D21.bindsN fun _ _ _ _ _ _ us hl => match us, hl with | [_, _], _ => rfl⟩
  have E22 : Df K mg "_law_name" s__law_name _ fd22 ["_law_pool_here", "_law_taken"] := ⟨D22, gl (x := "_law_name") (by decide +kernel), D22.bindsN fun _ _ _ _ _ _ us hl => match us, hl with | [_, _], _ => rfl⟩
  have E23 : Df K mg "_law_pick" s__law_pick _ fd23 ["_law_pool_here", "_law_items"] := ⟨D23, gl (x := "_law_pick") (by decide +kernel), D23.bindsN fun _ _ _ _ _ _ us hl => match us, hl with | [_, _], _ => rfl⟩
  have E24 : Df K mg "_law_draw" s__law_draw _ fd24 ["_law_pool_here", "_law_many"] := ⟨D24, gl (x := "_law_draw") (by decide +kernel), D24.bindsN fun _ _ _ _ _ _ us hl => match us, hl with | [_, _], _ => rfl⟩
  have E25 : Df K mg "_law_pool" s__law_pool _ fd25 ["_law_script"] := ⟨D25, gl (x := "_law_pool") (by decide +kernel), D25.bindsN fun _ _ _ _ _ _ us hl => match us, hl with | [_], _ => rfl⟩
  have E26 : Df K mg "check_instruments" s_check_instruments _ fd26 ["instruments"] := ⟨D26, gl (x := "check_instruments") (by decide +kernel), D26.bindsN fun _ _ _ _ _ _ us hl => match us, hl with | [_], _ => rfl⟩
  have E27 : Df K mg "is_instrument" s_is_instrument _ fd27 ["thing"] := ⟨D27, gl (x := "is_instrument") (by decide +kernel), D27.bindsN fun _ _ _ _ _ _ us hl => match us, hl with | [_], _ => rfl⟩
  have E28 : Df K mg "is_row_of_words" s_is_row_of_words _ fd28 ["thing"] := ⟨D28, gl (x := "is_row_of_words") (by decide +kernel), D28.bindsN fun _ _ _ _ _ _ us hl => match us, hl with | [_], _ => rfl⟩
  have E29 : Df K mg "is_table_of_sights" s_is_table_of_sights _ fd29 ["thing"] := ⟨D29, gl (x := "is_table_of_sights") (by decide +kernel), D29.bindsN fun _ _ _ _ _ _ us hl => match us, hl with | [_], _ => rfl⟩
  have E30 : Df K mg "check_cost" s_check_cost _ fd30 ["cost"] := ⟨D30, gl (x := "check_cost") (by decide +kernel), D30.bindsN fun _ _ _ _ _ _ us hl => match us, hl with | [_], _ => rfl⟩
  have E31 : Df K mg "check_post" s_check_post _ fd31 ["post"] := ⟨D31, gl (x := "check_post") (by decide +kernel), D31.bindsN fun _ _ _ _ _ _ us hl => match us, hl with | [_], _ => rfl⟩
  have E32 : Df K mg "check_name" s_check_name _ fd32 ["name"] := ⟨D32, gl (x := "check_name") (by decide +kernel), D32.bindsN fun _ _ _ _ _ _ us hl => match us, hl with | [_], _ => rfl⟩
  have E33 : Df K mg "is_index" s_is_index _ fd33 ["thing", "many"] := ⟨D33, gl (x := "is_index") (by decide +kernel), D33.bindsN fun _ _ _ _ _ _ us hl => match us, hl with | [_, _], _ => rfl⟩
  have E34 : Df K mg "is_post" s_is_post _ fd34 ["thing"] := ⟨D34, gl (x := "is_post") (by decide +kernel), D34.bindsN fun _ _ _ _ _ _ us hl => match us, hl with | [_], _ => rfl⟩
  have E35 : Df K mg "is_name" s_is_name _ fd35 ["thing"] := ⟨D35, gl (x := "is_name") (by decide +kernel), D35.bindsN fun _ _ _ _ _ _ us hl => match us, hl with | [_], _ => rfl⟩
  have E36 : Df K mg "is_row_of" s_is_row_of _ fd36 ["thing", "least", "most"] := ⟨D36, gl (x := "is_row_of") (by decide +kernel), D36.bindsN fun _ _ _ _ _ _ us hl => match us, hl with | [_, _, _], _ => rfl⟩
  have E37 : Df K mg "is_row" s_is_row _ fd37 ["thing"] := ⟨D37, gl (x := "is_row") (by decide +kernel), D37.bindsN fun _ _ _ _ _ _ us hl => match us, hl with | [_], _ => rfl⟩
  have E38 : Df K mg "is_integer" s_is_integer _ fd38 ["thing"] := ⟨D38, gl (x := "is_integer") (by decide +kernel), D38.bindsN fun _ _ _ _ _ _ us hl => match us, hl with | [_], _ => rfl⟩
  have b39 : Binds K fd39 ["self", "name", "post", "sights", "cost"] [] := D39.bindsN fun _ _ _ _ _ _ us hl => match us, hl with | [_, _, _, _, _], _ => rfl
  have b40 : Binds K fd40 ["self", "name", "post", "words", "cost"] [] := D40.bindsN fun _ _ _ _ _ _ us hl => match us, hl with | [_, _, _, _, _], _ => rfl
  have b41 : Binds K fd41 ["self", "instruments"] [] := D41.bindsN fun _ _ _ _ _ _ us hl => match us, hl with | [_, _], _ => rfl
  have b42 : Binds K fd42 ["self", "other"] [] := D42.bindsN fun _ _ _ _ _ _ us hl => match us, hl with | [_, _], _ => rfl
  have b43 : Binds K fd43 ["self", "other"] [] := D43.bindsN fun _ _ _ _ _ _ us hl => match us, hl with | [_, _], _ => rfl
  have b44 : Binds K fd44 ["self", "other"] [] := D44.bindsN fun _ _ _ _ _ _ us hl => match us, hl with | [_, _], _ => rfl
  have b45 : Binds K fd45 ["self"] [] := D45.bindsN fun _ _ _ _ _ _ us hl => match us, hl with | [_], _ => rfl
  have b46 : Binds K fd46 ["self", "name"] [] := D46.bindsN fun _ _ _ _ _ _ us hl => match us, hl with | [_, _], _ => rfl
  have b47 : Binds K fd47 ["self", "instrument"] [] := D47.bindsN fun _ _ _ _ _ _ us hl => match us, hl with | [_, _], _ => rfl
  have b48 : Binds K fd48 ["self", "name"] [] := D48.bindsN fun _ _ _ _ _ _ us hl => match us, hl with | [_, _], _ => rfl
  have b49 : Binds K fd49 ["self"] [] := D49.bindsN fun _ _ _ _ _ _ us hl => match us, hl with | [_], _ => rfl
  have b50 : Binds K fd50 ["self"] [] := D50.bindsN fun _ _ _ _ _ _ us hl => match us, hl with | [_], _ => rfl
  have b51 : Binds K fd51 ["self"] [] := D51.bindsN fun _ _ _ _ _ _ us hl => match us, hl with | [_], _ => rfl
  have i0 := He.int_ok X Gn (c.fact (f := .int "MOST_LETTERS" 10) (ot_mem 0 rfl))
  have i1 := He.int_ok X Gn (c.fact (f := .int "MOST_WORDS_OF_AN_INSTRUMENT" 10) (ot_mem 1 rfl))
  have i2 := He.int_ok X Gn (c.fact (f := .int "MOST_COST" 1000) (ot_mem 2 rfl))
  have i3 := He.int_ok X Gn (c.fact (f := .int "MOST_INSTRUMENTS" 6) (ot_mem 3 rfl))
  have clSensor := He.cls_ok (c.fact (f := .cls "Sensor") (ot_mem 4 rfl))
  have mkSensor := He.mkr_ok (c.fact (f := .mkr "Sensor") (ot_mem 5 rfl))
  have clLock := He.cls_ok (c.fact (f := .cls "Lock") (ot_mem 6 rfl))
  have mkLock := He.mkr_ok (c.fact (f := .mkr "Lock") (ot_mem 7 rfl))
  have clBox := He.cls_ok (c.fact (f := .cls "Box") (ot_mem 8 rfl))
  have mkBox := He.mkr_ok (c.fact (f := .mkr "Box") (ot_mem 9 rfl))
  have nSensor_name := He.noat_ok (c.fact (f := .noat "Sensor" "_name") (ot_mem 10 rfl))
  have nSensor_post := He.noat_ok (c.fact (f := .noat "Sensor" "_post") (ot_mem 11 rfl))
  have nSensor_sights := He.noat_ok (c.fact (f := .noat "Sensor" "_sights") (ot_mem 12 rfl))
  have nSensor_cost := He.noat_ok (c.fact (f := .noat "Sensor" "_cost") (ot_mem 13 rfl))
  have nLock_name := He.noat_ok (c.fact (f := .noat "Lock" "_name") (ot_mem 14 rfl))
  have nLock_post := He.noat_ok (c.fact (f := .noat "Lock" "_post") (ot_mem 15 rfl))
  have nLock_words := He.noat_ok (c.fact (f := .noat "Lock" "_words") (ot_mem 16 rfl))
  have nLock_cost := He.noat_ok (c.fact (f := .noat "Lock" "_cost") (ot_mem 17 rfl))
  have nBox_table := He.noat_ok (c.fact (f := .noat "Box" "_table") (ot_mem 18 rfl))
  have xx : (exL K).all id = true := c.ext
  have T : ICl K mg (He.ga K "Sensor") (He.ga K "Lock") := ⟨clSensor, clLock, gl (x := "Sensor") (by decide +kernel), gl (x := "Lock") (by decide +kernel), nSensor_name, nSensor_post, nSensor_sights, nSensor_cost, nLock_name, nLock_post, nLock_words, nLock_cost, isaB_ok (all_at xx 0 rfl) clSensor, isaB_ok (all_at xx 1 rfl) clLock, (of_decide_eq_true (all_at xx 18 rfl)), (of_decide_eq_true (all_at xx 19 rfl)), (of_decide_eq_true (all_at xx 20 rfl)), (of_decide_eq_true (all_at xx 21 rfl))⟩
  have Z : ITh K (He.ga K "Sensor") (He.ga K "Lock") := ⟨fun T h => of_decide_eq_true (List.all_eq_true.mp (all_at xx 23 rfl) T h), fun T h => of_decide_eq_true (List.all_eq_true.mp (all_at xx 27 rfl) T h), (of_decide_eq_true (all_at xx 24 rfl)), (of_decide_eq_true (all_at xx 25 rfl)), (of_decide_eq_true (all_at xx 28 rfl)), (of_decide_eq_true (all_at xx 29 rfl))⟩
  have NN : ICe K (He.ga K "Sensor") (He.ga K "Lock") := ⟨(all_at xx 31 rfl), (all_at xx 33 rfl)⟩
  have B : BCl K mg (He.ga K "Box") := ⟨clBox, gl (x := "Box") (by decide +kernel), nBox_table⟩
  have top0 : (Pr.main.scope.names.lookup ("super" : Str)).isSome = false := by kernel_rfl
  obtain ⟨fdBadName, dBadName, findBadName, typBadName⟩ := exdB_ok (P := Pr) (d := dE "BadName" "BadName.__init__" s_BadName) (all_at xx 5 rfl) (ce.exc 0) (fr (x := "super") (by decide +kernel)) top0
  replace dBadName : ExD Pr K mg (He.ga K "BadName") (exI K "BadName") (exCc K "BadName") (exCda K "BadName") "BadName.__init__" (defArgs s_BadName) (defBody s_BadName) (defScope s_BadName) fdBadName := dBadName
  have tBadName : ExT "value" (defArgs s_BadName) (defScope s_BadName) := ⟨⟨_, rfl, rfl⟩, rfl, rfl, rfl, by decide +kernel, by rfl, by rfl, by rfl, by rfl, by decide +kernel, by decide +kernel⟩
  obtain ⟨xfBadName, ecBadName⟩ := excB_ok (all_at xx 6 rfl)
  have noBadName := He.eqO_ok (all_at xx 7 rfl)
  obtain ⟨fdBadPost, dBadPost, findBadPost, typBadPost⟩ := exdB_ok (P := Pr) (d := dE "BadPost" "BadPost.__init__" s_BadPost) (all_at xx 8 rfl) (ce.exc 1) (fr (x := "super") (by decide +kernel)) top0
  replace dBadPost : ExD Pr K mg (He.ga K "BadPost") (exI K "BadPost") (exCc K "BadPost") (exCda K "BadPost") "BadPost.__init__" (defArgs s_BadPost) (defBody s_BadPost) (defScope s_BadPost) fdBadPost := dBadPost
  have tBadPost : ExT "value" (defArgs s_BadPost) (defScope s_BadPost) := ⟨⟨_, rfl, rfl⟩, rfl, rfl, rfl, by decide +kernel, by rfl, by rfl, by rfl, by rfl, by decide +kernel, by decide +kernel⟩
  obtain ⟨xfBadPost, ecBadPost⟩ := excB_ok (all_at xx 9 rfl)
  have noBadPost := He.eqO_ok (all_at xx 10 rfl)
  obtain ⟨fdBadInstrument, dBadInstrument, findBadInstrument, typBadInstrument⟩ := exdB_ok (P := Pr) (d := dE "BadInstrument" "BadInstrument.__init__" s_BadInstrument) (all_at xx 11 rfl) (ce.exc 2) (fr (x := "super") (by decide +kernel)) top0
  replace dBadInstrument : ExD Pr K mg (He.ga K "BadInstrument") (exI K "BadInstrument") (exCc K "BadInstrument") (exCda K "BadInstrument") "BadInstrument.__init__" (defArgs s_BadInstrument) (defBody s_BadInstrument) (defScope s_BadInstrument) fdBadInstrument := dBadInstrument
  have tBadInstrument : ExT "at" (defArgs s_BadInstrument) (defScope s_BadInstrument) := ⟨⟨_, rfl, rfl⟩, rfl, rfl, rfl, by decide +kernel, by rfl, by rfl, by rfl, by rfl, by decide +kernel, by decide +kernel⟩
  obtain ⟨xfBadInstrument, ecBadInstrument⟩ := excB_ok (all_at xx 12 rfl)
  have noBadInstrument := He.eqO_ok (all_at xx 13 rfl)
  have ER : Er K mg (He.ga K "BadInstrument") (He.ga K "BadName") (He.ga K "WorksError") := ⟨gl (x := "BadInstrument") (by decide +kernel), gl (x := "BadName") (by decide +kernel), gl (x := "WorksError") (by decide +kernel), xfBadInstrument, xfBadName, noBadInstrument, noBadName, ecBadInstrument, ecBadName, (of_decide_eq_true (all_at xx 16 rfl)), (of_decide_eq_true (all_at xx 14 rfl)), (of_decide_eq_true (all_at xx 17 rfl)), (of_decide_eq_true (all_at xx 15 rfl))⟩
  refine ⟨fd0, fun s v => D0.bindsA (ps := ["_law_script"]) (fun _ _ _ _ _ _ us hl => match us, hl with | [_], _ => rfl) s [v] rfl, fun base _ _ => ?_⟩
  have X_BadName : ExR Pr w K mg base 1 "BadName" (He.ga K "BadName") "value" := ⟨dBadName.T, ⟨_, fdBadName, "value", findBadName, typBadName, fn_exc (k := 0) (msg := "this is not a name, or not one that can be used here") tBadName dBadName rfl noBadName (by decide +kernel) (by decide +kernel) (fun env => ⟨_, rfl⟩) (fun env => rfl), dBadName.binds fun _ _ _ _ _ us hl => match us, hl with | [_, _], _ => rfl⟩, gl (x := "BadName") (by decide +kernel)⟩
  have X_BadPost : ExR Pr w K mg base 1 "BadPost" (He.ga K "BadPost") "value" := ⟨dBadPost.T, ⟨_, fdBadPost, "value", findBadPost, typBadPost, fn_exc (k := 0) (msg := "this is not a post") tBadPost dBadPost rfl noBadPost (by decide +kernel) (by decide +kernel) (fun env => ⟨_, rfl⟩) (fun env => rfl), dBadPost.binds fun _ _ _ _ _ us hl => match us, hl with | [_, _], _ => rfl⟩, gl (x := "BadPost") (by decide +kernel)⟩
  have X_BadInstrument : ExR Pr w K mg base 1 "BadInstrument" (He.ga K "BadInstrument") "at" := ⟨dBadInstrument.T, ⟨_, fdBadInstrument, "at", findBadInstrument, typBadInstrument, fn_exc (k := 0) (msg := "the instruments, or the one at this index, are not as they must be") tBadInstrument dBadInstrument rfl noBadInstrument (by decide +kernel) (by decide +kernel) (fun env => ⟨_, rfl⟩) (fun env => rfl), dBadInstrument.binds fun _ _ _ _ _ us hl => match us, hl with | [_, _], _ => rfl⟩, gl (x := "BadInstrument") (by decide +kernel)⟩
  have c_int := okg_is_integer (P := Pr) (w := w) (base := base) G E38
  have c_row := okg_is_row (P := Pr) (w := w) (base := base) G E37
  have c_rowof := okg_is_row_of (P := Pr) (w := w) (base := base) G E36 c_row
  have c_rowT := okt_is_row (P := Pr) (w := w) (base := base) G T Z E37
  have c_rowofT := okt_is_row_of (P := Pr) (w := w) (base := base) G E36 c_rowT
  have c_name := okg_is_name (P := Pr) (w := w) (base := base) G i0 E35
  have c_index := okg_is_index (P := Pr) (w := w) (base := base) E33 c_int
  have c_post := okg_is_post (P := Pr) (w := w) (base := base) E34 c_index
  have k_name := okg_check_name (P := Pr) (w := w) (base := base) E32 X_BadName c_name
  have k_post := okg_check_post (P := Pr) (w := w) (base := base) E31 X_BadPost c_post
  have k_name0 := Callee.calm k_name (sp0 := spCkName0) ckName0 (fun _ _ _ _ z => z)
  have k_post0 := Callee.calm k_post (sp0 := spCkPost0) ckPost0 (fun _ _ _ _ z => z)
  have k_cost := ok_check_cost (P := Pr) (w := w) (base := base) i2 E30 c_int
  have c_table := ok_is_table (P := Pr) (w := w) (base := base) G i1 E29 c_name
  have c_roww := ok_is_rowW (P := Pr) (w := w) (base := base) G i1 E28 c_name c_rowof
  have F_S := ok_initS (P := Pr) (w := w) (base := base) G T D39 k_name0 k_post0 c_table k_cost
  have F_L := ok_initL (P := Pr) (w := w) (base := base) G T D40 k_name0 k_post0 c_roww k_cost
  have I : IPr Pr w K mg base (He.ga K "Sensor") (He.ga K "Lock") := ⟨⟨_, _, _, propB_ok (all_at xx 3 rfl), ok_nameS T.clS T.s1 D50, b50⟩, ⟨_, _, _, propB_ok (all_at xx 4 rfl), ok_nameL T.clL T.l1 D51, b51⟩⟩
  have c_isT := okt_is_ins (P := Pr) (w := w) (base := base) G T Z E27
  have k_ins := okt_ck_ins (P := Pr) (w := w) (base := base) G i3 T I E26 X_BadInstrument c_rowofT c_isT
  have F_B := okt_initB (P := Pr) (w := w) (base := base) T B I D41 k_ins
  have F_names := okt_namesB (P := Pr) (w := w) (base := base) (C_Sensor := He.ga K "Sensor") (C_Lock := He.ga K "Lock") G B D49
  have F_len := okt_lenB (P := Pr) (w := w) (base := base) (C_Sensor := He.ga K "Sensor") (C_Lock := He.ga K "Lock") G B D45
  have F_item := okt_itemB (P := Pr) (w := w) (base := base) (C_Sensor := He.ga K "Sensor") (C_Lock := He.ga K "Lock") B D46 X_BadName c_name
  have F_or := okt_orB (P := Pr) (w := w) (base := base) G B i3 D47 X_BadInstrument mkBox F_B b41
  have F_sub := okt_subB (P := Pr) (w := w) (base := base) G B D48 X_BadName c_name mkBox F_B b41
  have F_eqS := ok_eqS (P := Pr) (w := w) (base := base) G T D42
  have F_eqL := ok_eqL (P := Pr) (w := w) (base := base) G T D43
  have F_eqB := ok_eqB (P := Pr) (w := w) (base := base) G T NN B (of_decide_eq_true (all_at xx 22 rfl)) (isaB_ok (all_at xx 2 rfl) clBox) F_eqS (ownFB_ok (all_at xx 32 rfl)).1 (ownFB_ok (all_at xx 32 rfl)).2 b42 F_eqL (ownFB_ok (all_at xx 34 rfl)).1 (ownFB_ok (all_at xx 34 rfl)).2 b43 D44
  have mS : MkC Pr w K mg base CXn "Sensor" (He.ga K "Sensor") 5 ["self", "name", "post", "sights", "cost"] (spInitS (He.ga K "Sensor") (He.ga K "Lock")) := ⟨_, _, mkSensor, F_S, b39, T.atS⟩
  have mL : MkC Pr w K mg base CXn "Lock" (He.ga K "Lock") 5 ["self", "name", "post", "words", "cost"] (spInitL (He.ga K "Sensor") (He.ga K "Lock")) := ⟨_, _, mkLock, F_L, b40, T.atL⟩
  have mB : MkC Pr w K mg base (L2.CX Pr w) "Box" (He.ga K "Box") 4 ["self", "instruments"] (spInitBG (He.ga K "Box") (He.ga K "Sensor") (He.ga K "Lock") (He.ga K "BadInstrument")) := ⟨_, _, mkBox, F_B, b41, B.at_⟩
  have oLen : OwnM Pr w K mg base (He.ga K "Box") CXn "__len__" 1 ["self"] (spLenB (He.ga K "Box") (He.ga K "Sensor") (He.ga K "Lock")) (fun _ => True) := ⟨_, _, (ownFB_ok (all_at xx 40 rfl)).1, (ownFB_ok (all_at xx 40 rfl)).2, trivial, F_len, b45⟩
  have oItem : OwnM Pr w K mg base (He.ga K "Box") (L2.CX Pr w) "__getitem__" 3 ["self", "name"] (spItemG (He.ga K "Box") (He.ga K "Sensor") (He.ga K "Lock") (He.ga K "BadName")) (OwnIx K (He.ga K "Box")) := ⟨_, _, (ownFB_ok (all_at xx 39 rfl)).1, (ownFB_ok (all_at xx 39 rfl)).2, ownB_ok (all_at xx 38 rfl), F_item, b46⟩
  have oOr : OwnM Pr w K mg base (He.ga K "Box") (L2.CX Pr w) "__or__" 6 ["self", "instrument"] (spOrG (He.ga K "Box") (He.ga K "Sensor") (He.ga K "Lock") (He.ga K "BadInstrument")) (fun f => OwnOp K (He.ga K "Box") f "or") := ⟨_, _, (ownFB_ok (all_at xx 41 rfl)).1, (ownFB_ok (all_at xx 41 rfl)).2, opB_ok (all_at xx 42 rfl), F_or, b47⟩
  have oSub : OwnM Pr w K mg base (He.ga K "Box") (L2.CX Pr w) "__sub__" 6 ["self", "name"] (spSubG (He.ga K "Box") (He.ga K "Sensor") (He.ga K "Lock") (He.ga K "BadName")) (fun f => OwnOp K (He.ga K "Box") f "sub") := ⟨_, _, (ownFB_ok (all_at xx 43 rfl)).1, (ownFB_ok (all_at xx 43 rfl)).2, opB_ok (all_at xx 44 rfl), F_sub, b48⟩
  have oEqS : OwnM Pr w K mg base (He.ga K "Sensor") CXn "__eq__" 1 ["self", "other"] (spEqB (RIns false (He.ga K "Sensor") (He.ga K "Lock"))) (fun _ => True) := ⟨_, _, (ownFB_ok (all_at xx 32 rfl)).1, (ownFB_ok (all_at xx 32 rfl)).2, trivial, F_eqS, b42⟩
  have oEqL : OwnM Pr w K mg base (He.ga K "Lock") CXn "__eq__" 1 ["self", "other"] (spEqB (RIns true (He.ga K "Sensor") (He.ga K "Lock"))) (fun _ => True) := ⟨_, _, (ownFB_ok (all_at xx 34 rfl)).1, (ownFB_ok (all_at xx 34 rfl)).2, trivial, F_eqL, b43⟩
  have oEqB : OwnM Pr w K mg base (He.ga K "Box") CXn "__eq__" 3 ["self", "other"] (spEqB (RBox (He.ga K "Box") (He.ga K "Sensor") (He.ga K "Lock"))) (fun _ => True) := ⟨_, _, (ownFB_ok (all_at xx 36 rfl)).1, (ownFB_ok (all_at xx 36 rfl)).2, trivial, F_eqB, b44⟩
  have oNames : BM Pr w K mg base (He.ga K "Box") CXn "names" 1 ["self"] (spNamesB (He.ga K "Box") (He.ga K "Sensor") (He.ga K "Lock")) := ⟨_, _, methB_ok (all_at xx 37 rfl), F_names, b49⟩
  have nS := numB_ok (all_at xx 26 rfl)
  have nL := numB_ok (all_at xx 30 rfl)
  have c_pool := ok_pool (P := Pr) (w := w) (base := base) G E25
  have c_draw := ok_draw (P := Pr) (w := w) (base := base) G E24
  have c_pick := ok_pick (P := Pr) (w := w) (base := base) G E23 c_draw
  have c_nm := ok_name (P := Pr) (w := w) (base := base) G E22 c_draw
  have c_nms := ok_names (P := Pr) (w := w) (base := base) G E21 c_nm
  have l_hand := ok_hand (P := Pr) (w := w) (base := base) G E20 c_draw c_pick
  have l_pattern := ok_pattern (P := Pr) (w := w) (base := base) G E19 c_draw c_pick
  have l_agrees := ok_agrees (P := Pr) (w := w) (base := base) G E18
  have l_words := ok_wordsP (P := Pr) (w := w) (base := base) G E17
  have l_start := ok_startP (P := Pr) (w := w) (base := base) G E16
  have l_blames := ok_blames (P := Pr) (w := w) (base := base) G E15 c_draw c_nms
  have l_hides := ok_hides (P := Pr) (w := w) (base := base) G E14 c_draw c_nms l_pattern
  have l_plan := ok_plan (P := Pr) (w := w) (base := base) G E13 c_draw c_pick c_nms l_hand l_pattern l_agrees l_words l_start l_blames l_hides
  have l_instr := ok_instruments (P := Pr) (w := w) (base := base) G E12 c_draw c_pick c_nm c_nms l_words
  have l_one := ok_one (P := Pr) (w := w) (base := base) G mS mL E10
  have l_seven := ok_seven (P := Pr) (w := w) (base := base) G E9 l_plan l_instr c_nm
  have l_told := ok_told (P := Pr) (w := w) (base := base) G B ER mB oLen E8
  have l_asked := ok_asked (P := Pr) (w := w) (base := base) G T I B ER oItem E7
  have l_more := ok_more (P := Pr) (w := w) (base := base) G T B ER nS nL oOr oNames E6
  have l_less := ok_less (P := Pr) (w := w) (base := base) (C_BadInstrument := He.ga K "BadInstrument") G B ER oSub oNames E5
  have l_alike := ok_alike (P := Pr) (w := w) (base := base) G E11 3 (ok_alike (P := Pr) (w := w) (base := base) G E11 2 (ok_alike (P := Pr) (w := w) (base := base) G E11 1 (ok_alike (P := Pr) (w := w) (base := base) G E11 0 (ok_alike0 (P := Pr) (w := w) (base := base) E11))))
  have l_strange := ok_strange (P := Pr) (w := w) (base := base) E4 c_pick
  have l_rr := ok_rr (P := Pr) (w := w) (base := base) G E3 c_draw l_strange l_one l_told
  have l_stands := ok_stands (P := Pr) (w := w) (base := base) G NN B oEqS oEqL oNames oLen oItem E2 l_alike l_one l_asked
  have l_nr := ok_nr (P := Pr) (w := w) (base := base) E1 l_alike l_strange l_asked l_less
  exact okl_law G NN B T (all_at xx 35 rfl) nS nL mB oEqB oOr oSub E0 c_pool c_draw l_seven l_one l_rr l_stands l_nr l_strange l_more l_less
end WK
open PySem PySem.W PySem.Calls PyProof.Rows
theorem PySem.Challenge.cw_watchedworks_k21_kits_of_instruments_holds : PySem.Challenge.rw_watchedworks_k21_kits_of_instruments.Holds := by
  w_on; o_law
  refine HandSHeadRun.head_any (r := OpenLaw.row PySem.Challenge.rw_watchedworks_k21_kits_of_instruments) (q := view (OpenLaw.row PySem.Challenge.rw_watchedworks_k21_kits_of_instruments).prog [64]) (H := WK.hk) (ob := WK.ob) (M := 12000) (loose := WK.loose) (d := HandSHeadRun.topDef (OpenLaw.row PySem.Challenge.rw_watchedworks_k21_kits_of_instruments).prog 64) (kwd := []) WK.ob_eq
    (by kernel_rfl) (fun s => by kernel_rfl) WK.run (by kernel_rfl) (by kernel_rfl) (by kernel_rfl) (by rfl) (by first | assumption | decide +kernel) (by decide +kernel) ⟨rfl, rfl, rfl, rfl, rfl, by decide +kernel⟩ ?hw ?hc
  case hw => w_witness2
  case hc =>
    refine L2.walk_ofE (l := PySem.Challenge.rw_watchedworks_k21_kits_of_instruments) (n := 63) (k := 10) (x := "_law_script") (CX := WW.CXn) rfl (by decide) (by kernel_rfl) ⟨rfl, by decide, by decide⟩ ?F (fun _ _ _ _ z => z)
    intro w mg fa h Y G hmg0
    obtain ⟨K, KX, c⟩ := Y
    have hmg : mg ("law" : PySem.Str) = some (.ref fa) := by
      have e : (HandSHeadRun.topDef (OpenLaw.row PySem.Challenge.rw_watchedworks_k21_kits_of_instruments).prog 64).name = ("law" : PySem.Str) := by kernel_rfl
      rw [← e]
      exact hmg0
    obtain ⟨fd, hb, hF⟩ := WK.facts (w := w) KX G hmg c
    exact ⟨K, fd, WK.spLaw K, KX, hb, fun H a ns hl _ hS => ⟨a, ns, rfl, hS, fun _ => rfl⟩, hF⟩
