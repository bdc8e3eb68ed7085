import PyProof.Rows.All
import Wide.All
import OpenK.AllK
import Wide.FinOn
import PyProof.EqAt
import PyProof.EqKinds
import PyProof.TupleCall
import KE.SortData
import HandS.Base
import HandS.Call
import HandS.List
import HandS.Comp
import HandS.Ends
import HandS.Set
import HandS.SetBool
import PyProof.InstEq
import PyProof.InstNe
import PyProof.TupleOfSeq
import PyProof.P3In
import KE.GoesEnum
import HandS.Iter
import HandS.Deep
import HandS.Evl
import HandS.More
import HandS.IsInst
import HandS.TupAny
import HandS.Words
import HandS.SetFor
import HandS.Strs
import HandS.Property
import HandS.Style
import HandS.Text
import HandS.Defaults
import HandS.WordsList
import KE.KExcSuper
import HandS.Exc
import HandS.ExcInit
import HandS.ExcSuper
import HandS.WordsExc
import HandS.ExcOwn
import KE.KStateDown
import HandS.Head0
import HandS.Head1
import HandS.Head2
import HandS.HeadEnd
import HandS.HeadHook1
import HandS.HeadHook2
import HandS.HeadNt
import PyProof.SetRoads
import HandS.Dict
import HandS.DictComp
import PyProof.DictList
import KE.KDictCopyH
import KE.KEqDict
import HandS.DictTup
import HandS.TupLen
import KE.KDictDisplayH
import HandS.WordsDict
import KE.DataEq
import HandS.OwnEq
import PyProof.ListStr
import HandS.Conv
import HandS.ExcIs
import HandS.ExcField
import KE.KExcIs
import HandS.ListItems
import HandS.Finally
import PySem.Challenge.RW_watchedworks_k20_instruments_and_their_a
set_option Elab.async false
set_option linter.all false
set_option maxRecDepth 100000
set_option maxHeartbeats 4000000
/-! Rules of our own over the layer: callees by name, sorted lists of data -/
namespace WW
open PySem PySem.Spec PyProof.Rows L2

/-- nothing is wished of exceptions -/
abbrev CXn : CXT := fun _ _ _ _ _ _ => False
abbrev En : XK := fun _ _ _ => False
theorem passN {X : Cx} {E : XK} : Passes CXn X E := fun _ _ _ _ _ _ _ h => h.elim

/-- a def of the module's, found by its name, with what it promises -/
structure Callee (P : Program) (w : World) (K : PySem.W.Frag) (mg : Str → Option Value) (base : Heap) (CX : CXT) (k : Nat) (x : Str) (n : Nat) (sp : Sp) : Prop where
  ex : ∃ (f : Addr) (fd : FuncData) (ps : List Str), ps.length = n ∧ FnOk P w K mg base CX k f fd ps sp ∧ mg x = some (.ref f) ∧ PySem.W.keepIn K (.ref f) = true ∧ Binds K fd ps []

section
variable {X : Cx} {CX : CXT} {k n : Nat} {sp : Sp} {E : XK} {x : Str} {p pos : Pos} {e : Expr} {es : List Expr} {t : TA}
theorem pe_cl (c : Callee X.prog X.w X.K X.mg X.base CX k x n sp) (hr : Room k X.A) (hg : Gl X x) (hx : Passes CX X E) (ha : PA X (e :: es) t)
    (hdb : (x == ("__debug__" : Str)) = false := by decide) (he : starEach (e :: es) X.env = (false, eval e X.env) :: starEach es X.env := by rfl) (hpl : (backTo pos (starEach es X.env)).any (·.1) = false := by rfl) :
    PE X (.Call (.Name x p) (e :: es) [] pos) (tCall sp [] E t) := by
  obtain ⟨f, fd, ps, _, F, hm, hk, hb⟩ := c.ex
  exact pe_call F hr hg hm hk hb .nil hx ha hdb he hpl
end

/-! ### sorted of lists of data -/
/-- v stands for the datum of b -/
abbrev DpE {β : Type} (K : PySem.W.Frag) (H : Hp) (enc : β → PyData) (v : V) (b : β) : Prop := Dp K H v (enc b)

def rSortD {β : Type} (K : PySem.W.Frag) (enc : β → PyData) : List V → Hp → VK → Prop := fun vs H Q => ∃ (a : Addr) (xs : List V) (bs : List β) (F : V → β → Prop), vs = [V.ref a] ∧ SqL K H a xs ∧ Paired (fun v b => F v b ∧ DpE K H enc v b) xs bs ∧
  (∀ b b', PySem.W.alike (enc b) (enc b') = true) ∧ PySem.W.Sortable (bs.map enc) ∧ (∀ b, (enc b).depth ≤ 32) ∧
  ∀ (ys : List V) (p : Addr), Paired F ys (bs.mergeSort (PySem.W.dataLe false enc)) → H p = none → Q (.ref p) (upd H p (.lst ys))


theorem each_of {β : Type} {K : PySem.W.Frag} {H : Hp} {enc : β → PyData} {F : V → β → Prop} : ∀ {xs : List V} {us : List Value} {bs : List β}, Vals xs us → Paired (fun v b => F v b ∧ DpE K H enc v b) xs bs →
    PySem.W.EachIs (fun u b => ∃ v, F v b ∧ RelV v u ∧ Dp K H v (enc b)) us bs
  | _, _, _, .nil, .nil => .nil
  | _, _, _, .cons r t, .cons d e => .cons ⟨_, d.1, r, d.2⟩ (each_of t e)
theorem of_each {β : Type} {F : V → β → Prop} {G : Value → β → Prop} (h : ∀ u b, G u b → ∃ v, RelV v u ∧ F v b) : ∀ {us : List Value} {bs : List β}, PySem.W.EachIs G us bs → ∃ ys, Vals ys us ∧ Paired F ys bs
  | _, _, .nil => ⟨[], .nil, .nil⟩
  | _, _, .cons g t => by
    obtain ⟨v, r, f⟩ := h _ _ g
    obtain ⟨ys, a, b⟩ := of_each h t
    exact ⟨v :: ys, .cons r a, .cons f b⟩
theorem each_reads {β : Type} {X : Cx} {pins : List (Addr × Obj)} {σ : L2.St} {H : Hp} {s : Shared} {enc : β → PyData} (I : Inv X pins σ H s) : ∀ {us : List Value} {bs : List β} {F : V → β → Prop}, PySem.W.EachIs (fun u b => ∃ v, F v b ∧ RelV v u ∧ Dp X.K H v (enc b)) us bs →
    PySem.W.EachIs (fun u b => ∃ as, Reads s.heap u (enc b) as) us bs
  | _, _, _, .nil => .nil
  | _, _, _, .cons ⟨v, _, r, d⟩ t => .cons (Dp.reads I _ _ _ d r) (each_reads I t)

theorem cr_sortD {X : Cx} {β : Type} (enc : β → PyData) (hu : X.A.units + 64 < cLine) : CallR X (.builtin "sorted") (rSortD X.K enc) := by
  intro pins s σ H vs us Q I r h
  obtain ⟨a, xs, bs, F, rfl, hs, hp, hal, hso, hdp, q⟩ := h
  obtain ⟨its, rv, hl, hz⟩ := I.list hs
  rw [Vals.ref1 r]
  have hlen : bs.length = xs.length := (Paired.length hp).symm
  have e1 := each_of rv hp
  refine PySem.W.sorted_data hl.isList e1 (each_reads I e1) (PySem.W.AllAlike.of hal) hso (by omega) (fun b _ => by have := hdp b; omega) fun out ho eo => ?_
  obtain ⟨ep, he'⟩ := PyProof.Rows.sortedAll_at s.heap its out.toArray
  obtain ⟨ys, rys, pys⟩ := of_each (F := F) (fun u b ⟨v, m, r, d⟩ => ⟨v, r, m⟩) eo
  have hly : ys.length ≤ sizeLine := by rw [rys.length, ho, hlen]; exact hz
  exact ⟨.ref _, upd H (s.heap.objs.size + 1) (.lst ys), I.laid (t' := s.toks) (fun _ _ => PyProof.Rows.sortedAll_old) (Nat.le_succ _) ⟨hly, out, ep, rys, he'⟩, rfl, q ys _ pys (I.hok.fresh (Nat.le_succ _))⟩
end WW

set_option Elab.async false
set_option linter.all false
set_option maxRecDepth 100000
set_option maxHeartbeats 4000000
/-! Sets of scannable keys that can be walked: made, filled, sorted. -/
namespace WW
open PySem PySem.Spec PyProof.Rows L2

section
variable {P : Program} {w : World} {κ : Type} [DecidableEq κ]
def EnK (knd : PySem.KeyKind P w κ) (k : κ) (e : Int × Value) : Prop := knd.is k e.2 = true ∧ e.1 = knd.hash k ∧ e.2.scannable = true
/-- ks: the keys that the set holds, in its table's order -/
def SetW (knd : PySem.KeyKind P w κ) (h : Heap) (a : Addr) (ks : List κ) : Prop :=
  ∃ o es ep t, h.get? a = some o ∧ o.ExactSet ∧ o.data = .set es ep t ∧ ks.Nodup ∧ Paired (EnK knd) ks es.toList ∧
    es.size < scanBound ∧ t.fits es.size = true ∧ Ris t.place.toList ∧ (w.params.followText "set-order" = true ∨ t.led = true)
variable {knd : PySem.KeyKind P w κ} {h h' : Heap} {a : Addr} {ks : List κ}

theorem SetW.here (R : SetW knd h a ks) (k : ∀ o, h.get? a = some o → h'.get? a = some o) : SetW knd h' a ks := by
  obtain ⟨o, es, ep, t, ho, r⟩ := R
  exact ⟨o, es, ep, t, k o ho, r⟩
theorem en_mem {l : List (Int × Value)} : ∀ {ks : List κ}, Paired (EnK knd) ks l → ∀ e ∈ l, ∃ k ∈ ks, EnK knd k e
  | _, .nil, e, he => by cases he
  | _, .cons g t, e, he => by
    rcases List.mem_cons.mp he with rfl | he
    · exact ⟨_, List.mem_cons_self, g⟩
    · obtain ⟨k, hk, q⟩ := en_mem t e he
      exact ⟨k, List.mem_cons_of_mem _ hk, q⟩
theorem en_of : ∀ {ks : List κ} {l : List (Int × Value)}, Paired (EnK knd) ks l → ∀ k ∈ ks, ∃ e ∈ l, EnK knd k e
  | _, _, .nil, k, hk => by cases hk
  | _, _, .cons g t, k, hk => by
    rcases List.mem_cons.mp hk with rfl | hk
    · exact ⟨_, List.mem_cons_self, g⟩
    · obtain ⟨e, he, q⟩ := en_of t k hk
      exact ⟨e, List.mem_cons_of_mem _ he, q⟩
theorem en_elems {l : List (Int × Value)} (g : Paired (EnK knd) ks l) : PySem.ElemsOf knd l := fun e he => by
  obtain ⟨k, _, q⟩ := en_mem g e he
  exact ⟨⟨k, q.1, q.2.1⟩, q.2.2⟩
/-- the keys follow the entries into any order -/
theorem en_perm {l : List (Int × Value)} (g : Paired (EnK knd) ks l) {l' : List (Int × Value)} (p : l'.Perm l) : ∃ ks', ks'.Perm ks ∧ Paired (EnK knd) ks' l' := by
  induction p generalizing ks with
  | nil => exact ⟨ks, List.Perm.refl _, g⟩
  | cons x _ ih =>
    cases g with
    | @cons k _ kr _ g1 g2 =>
      obtain ⟨ks', p', g'⟩ := ih g2
      exact ⟨k :: ks', p'.cons k, .cons g1 g'⟩
  | swap x y l =>
    cases g with
    | @cons k _ kr _ g1 g2 =>
      cases g2 with
      | @cons k2 _ kr2 _ g3 g4 => exact ⟨k2 :: k :: kr2, List.Perm.swap _ _ _, .cons g3 (.cons g1 g4)⟩
  | trans _ _ ih1 ih2 =>
    obtain ⟨k2, p2, g2⟩ := ih2 g
    obtain ⟨k1, p1, g1⟩ := ih1 g2
    exact ⟨k1, p1.trans p2, g1⟩
theorem en_app {l : List (Int × Value)} (g : Paired (EnK knd) ks l) {k : κ} {e : Int × Value} (q : EnK knd k e) : Paired (EnK knd) (ks ++ [k]) (l ++ [e]) := by
  induction g with
  | nil => exact .cons q .nil
  | cons g1 _ ih => exact .cons g1 ih
end

section
variable {P : Program} {w : World} {κ : Type} [DecidableEq κ] {knd : PySem.KeyKind P w κ} {A : Around} {E : Value → Shared → Prop} {s : Shared} {a : Addr} {ks : List κ}

theorem put_at {h : Heap} {o : Obj} {es es' : Array (Int × Value)} {ep : Nat} {t t' : SetTable} (ho : h.get? a = some o) (hd : o.data = .set es ep t) :
    (h.update a (Obj.putSet es' t')).get? a = some { o with data := .set es' (ep + 1) t' } := PpSet.storeB_at ho hd

/-- the end of an addition: stored, and laid anew where it is too full -/
theorem setw_tail {gv : Bool → Sem Unit} (hg : ∀ (b : Bool) (s1 : Shared) (Q' : Unit → Shared → Prop), Q' () s1 → wpAny (model P w) A (gv b) Q' E s1)
    {o : Obj} {es : Array (Int × Value)} {ep : Nat} {t : SetTable} (ho : s.heap.get? a = some o) (hex : o.ExactSet) (hd : o.data = .set es ep t)
    {es1 : Array (Int × Value)} {t2 : SetTable} {k1 : List κ} (nd1 : k1.Nodup) (g1 : Paired (EnK knd) k1 es1.toList)
    (hb1 : es1.size < scanBound) (hf2 : t2.fits es1.size = true) (hr : Ris t2.place.toList) (hl : w.params.followText "set-order" = true ∨ t2.led = true) {wd : Bool} {R : Option Bool → Shared → Prop}
    (hR : ∀ h' k2, k2.Perm k1 → Heap.SameBut a s.heap h' → SetW knd h' a k2 → R (some true) { s with heap := h' }) :
    wpAny (model P w) A (do
        storeSet a es1 t2
        if (!wd && t2.tooFull) = true then do
            gv (relayAll t2 es1 (SetTable.grown es1.size)).2.2
            storeSet a (relayAll t2 es1 (SetTable.grown es1.size)).1 (relayAll t2 es1 (SetTable.grown es1.size)).2.1
            pure (some true)
          else pure (some true)) R E s := by
  refine wpAny_bind (wpAny_storeSet_of ho hd ?_ (fits_of_scanBound hb1))
  have hput := put_at (es' := es1) (t' := t2) ho hd
  have same1 := Heap.SameBut.update s.heap a (Obj.putSet es1 t2)
  split
  · have pm := relayAll_perm t2 es1 (SetTable.grown es1.size)
    have f3 := relayAll_fits t2 es1 (SetTable.grown es1.size)
    have r3 := relayAll_ris t2 es1 (SetTable.grown es1.size)
    have l3 := relayAll_led t2 es1 (SetTable.grown es1.size)
    revert pm f3 r3 l3
    rcases relayAll t2 es1 (SetTable.grown es1.size) with ⟨es2, t3, gave⟩
    intro pm f3 r3 l3
    dsimp only at pm f3 r3 l3 ⊢
    have size2 : es2.size = es1.size := by rw [← Array.length_toList, pm.length_eq, Array.length_toList]
    have small2 : es2.size < scanBound := by rw [size2]; exact hb1
    obtain ⟨k2, pk, g2⟩ := en_perm g1 pm
    refine wpAny_bind (hg _ _ _ ?_)
    refine wpAny_bind (wpAny_storeSet_of hput rfl ?_ (fits_of_scanBound small2))
    refine wpAny_pure (hR _ k2 pk (same1.trans (Heap.SameBut.update _ a _)) ?_)
    exact ⟨_, es2, _, t3, put_at hput rfl, hex, rfl, pk.nodup_iff.mpr nd1, g2, small2, f3, r3, hl.imp id fun z => by rw [l3]; exact z⟩
  · exact wpAny_pure (hR _ k1 (List.Perm.refl _) same1 ⟨_, es1, _, t2, hput, hex, rfl, nd1, g1, hb1, hf2, hr, hl⟩)

/-- what an addition leaves -/
def Added (ks : List κ) (k : κ) (ks' : List κ) : Prop := (k ∈ ks ∧ ks' = ks) ∨ (k ∉ ks ∧ ks'.Perm (k :: ks))
theorem setw_addHashed {k : κ} {v : Value} {Q : Bool → Shared → Prop} (hk : knd.is k v = true) (hv : v.scannable = true) (R : SetW knd s.heap a ks) (room : ks.length + 1 < scanBound)
    (hQ : ∀ b h' ks', Heap.SameBut a s.heap h' → SetW knd h' a ks' → Added ks k ks' → Q b { s with heap := h' }) :
    wpAny (model P w) A (setAddHashed a v (knd.hash k)) Q E s := by
  have R0 := R
  obtain ⟨o, es, ep, t, ho, hex, hd, nd, g, hb, hf, hr, hl⟩ := R
  have hel := en_elems g
  have hlen : es.size = ks.length := by rw [← Array.length_toList]; exact (Paired.length g).symm
  unfold setAddHashed setAddHashedIn
  refine wpAny_holding (wpAny_bind (wpAny_setState_of ho hd hf ?_))
  dsimp only
  rw [byScan_of hv hb hel]
  simp only [↓reduceIte]
  unfold setAddByScan
  refine wpAny_bind (wpAny_bind (wpAny_rule ?_))
  refine wpAny_bind (wpAny_setScan_of hk ho hd hf hel ?_)
  cases hfi : List.findIdx? (fun e => knd.is k e.2) es.toList with
  | some j =>
    dsimp only
    obtain ⟨hj, pj, _⟩ := List.findIdx?_eq_some_iff_getElem.mp hfi
    obtain ⟨k0, m0, q0⟩ := en_mem g _ (List.getElem_mem hj)
    have e0 : k0 = k := knd.inj _ _ _ q0.1 pj
    exact wpAny_pure (wpAny_pure (hQ false s.heap ks (Heap.SameBut.refl a s.heap) R0 (.inl ⟨e0 ▸ m0, rfl⟩)))
  | none =>
    dsimp only
    have hnk : k ∉ ks := fun z => by
      obtain ⟨e, he, q⟩ := en_of g k z
      have c := List.findIdx?_eq_none_iff.mp hfi e he
      rw [q.1] at c
      cases c
    have hgw : ∀ (b : Bool) (s1 : Shared) (Q' : Unit → Shared → Prop), Q' () s1 → wpAny (model P w) A (match b with | true => rule "set.scan.the-table-gave-way" | false => pure ()) Q' E s1 := by
      intro b s1 Q' q
      cases b
      · exact wpAny_pure q
      · exact wpAny_rule q
    have pm := layNew_perm t es (knd.hash k) v
    have f1 := layNew_fits t es (knd.hash k) v
    have r1 := layNew_ris t es (knd.hash k) v hr
    have l1 := layNew_led t es (knd.hash k) v
    revert pm f1 r1 l1
    rcases layNew t es (knd.hash k) v with ⟨es1, t1, wd, gave⟩
    intro pm f1 r1 l1
    dsimp only at pm f1 r1 l1 ⊢
    rw [Array.toList_push] at pm
    obtain ⟨k1, pk, g1⟩ := en_perm (en_app g ⟨hk, rfl, hv⟩) pm
    have pk' : k1.Perm (k :: ks) := pk.trans (List.perm_append_singleton _ _)
    have nd1 : k1.Nodup := pk'.nodup_iff.mpr (List.nodup_cons.mpr ⟨hnk, nd⟩)
    have hb1 : es1.size < scanBound := by
      rw [← Array.length_toList, ← Paired.length g1, pk'.length_eq, List.length_cons]
      exact room
    have led1 : w.params.followText "set-order" = true ∨ t1.led = true := hl.imp id fun z => by rw [l1]; exact z
    have fin : ∀ (b : Bool) h' k2, k2.Perm k1 → Heap.SameBut a s.heap h' → SetW knd h' a k2 → Q b { s with heap := h' } := fun b h' k2 p2 sb r => hQ b h' k2 sb r (.inr ⟨hnk, p2.trans pk'⟩)
    refine wpAny_bind (hgw _ _ _ ?_)
    split
    · refine wpAny_bind ?_
      rw [hashByValue_scannable 8 hv]
      refine wpAny_pure ?_
      refine setw_tail hgw ho hex hd nd1 g1 hb1 ?_ ?_ ?_ ?_
      · split <;> first | exact f1 | exact SetTable.fits_plain_off f1
      · split <;> exact r1
      · split <;> exact led1
      · intro h' k2 p2 sb r; dsimp only; exact wpAny_pure (fin _ h' k2 p2 sb r)
    · refine wpAny_bind (wpAny_pure ?_)
      simp only [↓reduceIte]
      refine setw_tail hgw ho hex hd nd1 g1 hb1 f1 r1 led1 ?_
      intro h' k2 p2 sb r; dsimp only; exact wpAny_pure (fin _ h' k2 p2 sb r)

/-- found.add(k) -/
theorem setw_add {k : κ} {v : Value} {Q : Value → Shared → Prop} (hk : knd.is k v = true) (hv : v.scannable = true) (R : SetW knd s.heap a ks) (room : ks.length + 1 < scanBound)
    (hQ : ∀ h' tk ks', Heap.SameBut a s.heap h' → SetW knd h' a ks' → Added ks k ks' → Q .none { s with heap := h', toks := tk }) :
    wpAny (model P w) A (call (.builtin "set.add") [.ref a, v]) Q E s := by
  have hT : s.TypeIs (.ref a) "set" := by
    obtain ⟨o, es, ep, t, ho, hex, _⟩ := R
    exact ⟨o, ho, hex.1⟩
  refine wpAny_call_entry F.slot_set_add hT F.entry_set_add ?_ (F.args_set_add_2 _ _)
  unfold Builtin.«set.add» Builtin.Frozenset.oneOther
  simp only [List.isEmpty_nil, bind_assoc]
  unfold Builtin.Frozenset.addrOf setAdd
  refine wpAny_bind (wpAny_pure ?_)
  try dsimp only
  refine wpAny_bind (wpAny_pure ?_)
  try dsimp only
  refine wpAny_bind ?_
  refine wpAny_holding ?_
  refine wpAny_bind (knd.pyHash hk ?_)
  refine setw_addHashed (s := { s with toks := s.toks + 1 }) hk hv R room fun b h' ks' sb r ad => ?_
  show wpAny _ _ (ret Value.none) _ _ _
  exact wpAny_pure ⟨_, rfl, hQ h' (s.toks + 1) ks' sb r ad⟩
theorem setw_fresh {h : Heap} : SetW knd (h.push { cls := .type "set", dict := none, data := .set #[] 0 (.fresh 0 0 (!w.params.followText "set-order")) }) h.objs.size [] :=
  ⟨_, #[], 0, _, Heap.get?_push_size _ rfl, ⟨rfl, rfl, rfl⟩, rfl, List.nodup_nil, .nil, (by decide), (by rfl), List.Pairwise.nil, by
    show _ ∨ (!w.params.followText "set-order") = true
    cases w.params.followText "set-order"
    · exact .inr rfl
    · exact .inl rfl⟩
end
end WW

set_option Elab.async false
set_option linter.all false
set_option maxRecDepth 100000
set_option maxHeartbeats 4000000
/-! Sets of texts as tracked things; sorted of one; {text for ..}; set(list of texts). -/
namespace WW
open PySem PySem.Spec PyProof.Rows L2

def leS (a b : Str) : Bool := decide (a.cps.toList ≤ b.cps.toList)
/-- the texts, ascending -/
def sortS (ks : List Str) : List Str := ks.mergeSort leS

/-- a set of texts -/
def SSO (P : Program) (w : World) (a : Addr) (ks : List Str) : HO := .ext fun h => SetW (PySem.strKind P w) h a ks
theorem sso_new {P : Program} {w : World} {H : Hp} {h : Heap} {a : Addr} {ks : List Str} (R : SetW (PySem.strKind P w) h a ks) : ObjOk P w H h a (SSO P w a ks) := by
  have ⟨o, _, _, _, ho, _⟩ := R
  exact ⟨R, ⟨o, ho⟩, fun h1 h2 p k => SetW.here p k⟩
section
variable {X : Cx}
theorem sso_get {pins : List (Addr × Obj)} {σ : L2.St} {H : Hp} {s : Shared} {a : Addr} {ks : List Str} (I : Inv X pins σ H s) (ha : H a = some (SSO X.prog X.w a ks)) : SetW (PySem.strKind X.prog X.w) s.heap a ks := (I.hok a _ ha).1

theorem setw_vals {P : Program} {w : World} {ks : List Str} {l : List (Int × Value)} (g : Paired (EnK (PySem.strKind P w)) ks l) : StrsAre (l.map (·.2)) ks := by
  induction g with
  | nil => exact .nil
  | @cons k e ks l q _ ih =>
    obtain ⟨t, et⟩ := Value.isStrOf_shape (x := k) (v := e.2) q.1
    show StrsAre (e.2 :: l.map (·.2)) (k :: ks)
    rw [et]
    exact .cons k t ih
theorem strs_perm {us vs : List Value} {ks : List Str} (h : StrsAre vs ks) (p : us.Perm vs) : ∃ ks', ks'.Perm ks ∧ StrsAre us ks' := by
  induction p generalizing ks with
  | nil => exact ⟨ks, List.Perm.refl _, h⟩
  | cons x _ ih =>
    cases h with
    | cons k t h2 =>
      obtain ⟨k2, p2, g2⟩ := ih h2
      exact ⟨k :: k2, p2.cons k, .cons k t g2⟩
  | swap x y l =>
    cases h with
    | cons k t h2 =>
      cases h2 with
      | cons k2 t2 h3 => exact ⟨_, List.Perm.swap _ _ _, .cons k2 t2 (.cons k t h3)⟩
  | trans _ _ ih1 ih2 =>
    obtain ⟨k2, p2, g2⟩ := ih2 h
    obtain ⟨k1, p1, g1⟩ := ih1 g2
    exact ⟨k1, p1.trans p2, g1⟩
theorem leS_trans (a b c : Str) (h1 : leS a b = true) (h2 : leS b c = true) : leS a c = true := by
  unfold leS at *
  exact decide_eq_true (Std.le_trans (of_decide_eq_true h1) (of_decide_eq_true h2))
theorem leS_total (a b : Str) : (leS a b || leS b a) = true := by
  unfold leS
  rcases Std.le_total (a := a.cps.toList) (b := b.cps.toList) with h | h
  · rw [decide_eq_true h, Bool.true_or]
  · rw [decide_eq_true h, Bool.or_true]
theorem str_ext {a b : Str} (h : a.cps.toList = b.cps.toList) : a = b := by
  cases a; cases b
  exact congrArg Str.mk (Array.ext' h)
theorem leS_anti (a b : Str) (h1 : leS a b = true) (h2 : leS b a = true) : a = b := by
  unfold leS at *
  exact str_ext (Std.le_antisymm (of_decide_eq_true h1) (of_decide_eq_true h2))
theorem sortS_sorted (ks : List Str) : (sortS ks).Pairwise (fun a b => leS a b = true) := List.pairwise_mergeSort leS_trans leS_total ks
theorem sortS_perm (ks : List Str) : (sortS ks).Perm ks := List.mergeSort_perm ks leS
/-- the ascending list depends on the members alone -/
theorem sortS_congr {ks ls : List Str} (p : ks.Perm ls) : sortS ks = sortS ls :=
  List.Perm.eq_of_pairwise (fun a b _ _ => leS_anti a b) (sortS_sorted ks) (sortS_sorted ls) (((sortS_perm ks).trans p).trans (sortS_perm ls).symm)
theorem sortS_mem {ks : List Str} {x : Str} : x ∈ sortS ks ↔ x ∈ ks := (sortS_perm ks).mem_iff
theorem sortS_len (ks : List Str) : (sortS ks).length = ks.length := (sortS_perm ks).length_eq

theorem strsAre_each : ∀ {vs : List Value} {ks : List Str}, StrsAre vs ks → PySem.W.EachIs (fun v (k : Str) => ∃ t, v = Value.str k t) vs ks
  | _, _, .nil => .nil
  | _, _, .cons k t h => .cons ⟨t, rfl⟩ (strsAre_each h)
theorem each_strsAre : ∀ {vs : List Value} {ks : List Str}, PySem.W.EachIs (fun v (k : Str) => ∃ t, v = Value.str k t) vs ks → StrsAre vs ks
  | _, _, .nil => .nil
  | _, _, .cons ⟨t, e⟩ h => by subst e; exact .cons _ t (each_strsAre h)
theorem le_str_eq : PySem.W.dataLe false PyData.str = leS := PySem.W.dataLe_str (fun k => k)

def rSortSS (P : Program) (w : World) : List V → Hp → VK → Prop := fun vs H Q => ∃ (a : Addr) (ks : List Str), vs = [V.ref a] ∧ H a = some (SSO P w a ks) ∧
  ∀ p, H p = none → Q (.ref p) (upd H p (.lst ((sortS ks).map V.str)))
theorem cr_sortSS (hc : X.calm = true) (hu : X.A.units + 64 < cLine) : CallR X (.builtin "sorted") (rSortSS X.prog X.w) := by
  intro pins s σ H vs us Q I r h
  obtain ⟨a, ks, rfl, ha, q⟩ := h
  rw [Vals.ref1 r]
  obtain ⟨o, es, ep, t, ho, hex, hd, nd, g, hb, hf, hr, hl⟩ := sso_get I ha
  refine Calls.call_function_entry kind_sorted plain_sorted entry_sorted (args_sorted1 _) ?_
  unfold Builtin.«sorted»
  refine wpAny_bind (m := checkCount "sorted" 1 1 _) (wpAny_pure ?_)
  refine wpAny_bind (collect_set (A := X.A.in1) (I.ok.hd hc) ⟨o, ho, hex.1, hd⟩ hf hb hr hl fun s1 out k1 z1 g1 o1 pm => ?_)
  obtain ⟨k2, pk, sa⟩ := strs_perm (setw_vals g) pm
  have hlen : out.length = ks.length := by rw [sa.length, pk.length_eq]
  have hk0 : ks.length = es.size := by rw [Paired.length g, Array.length_toList]
  have hz : out.length ≤ sizeLine := by rw [hlen, hk0]; exact fits_of_scanBound hb
  have I1 : Inv X pins σ H s1 := I.call' (ch := []) o1 (Un.kept k1) (I.hok.kept k1) (by rw [g1]; exact I.bare) (fun _ z => nomatch z)
  refine wpAny_bind (wpAny_newList ?_ hz)
  have hoL : (s1.heap.push (seqObj "list" out.toArray 0)).get? s1.heap.objs.size = some (seqObj "list" out.toArray 0) := Heap.get?_push_size _ rfl
  have ee := strsAre_each sa
  refine wpAny_bind (wpAny_holding (PySem.W.list_sort_data (enc := PyData.str) (s := { s1 with heap := s1.heap.push (seqObj "list" out.toArray 0) }) hoL ee (ee.mono fun v k ⟨t, e⟩ => ⟨[], by subst e; exact ⟨Reads.str k t, by simp⟩⟩) (PySem.W.AllAlike.of fun b b' => by simp [PySem.W.alike])
    (PySem.W.Sortable.others fun b => ⟨by simp, by simp⟩) (by rw [pk.length_eq, ← hlen]; exact hz) (fun b _ => by show X.A.units + 1 + 1 + 0 < cLine; omega) fun out2 h2 e2 => ?_))
  have en : k2.mergeSort (PySem.W.dataLe false PyData.str) = sortS ks := by
    rw [le_str_eq]
    exact sortS_congr pk
  rw [en] at e2
  obtain ⟨c, hc2⟩ := sortedHeap_at (vs := out) (out := out2.toArray) hoL
  have hold : ∀ b u, s1.heap.get? b = some u → (sortedHeap (s1.heap.push (seqObj "list" out.toArray 0)) s1.heap.objs.size out out2.toArray).get? b = some u := fun b u e => by
    have lt := Heap.lt_size e
    exact (sortedHeap_old (Nat.ne_of_lt lt) (by rw [Heap.size_push]; exact Nat.lt_succ_of_lt lt)).trans (Heap.get?_push_of_some _ e)
  have sa2 := each_strsAre e2
  refine wpAny_pure ⟨_, rfl, .ref s1.heap.objs.size, upd H s1.heap.objs.size (.lst ((sortS ks).map V.str)), I1.laid (t' := s1.toks) hold (Nat.le_refl _) ⟨?_, out2, c, vals_of_strs sa2, hc2⟩, rfl, q _ (I1.hok.fresh (Nat.le_refl _))⟩
  rw [List.length_map, sortS_len, ← hlen]
  exact hz
end
end WW

set_option Elab.async false
set_option linter.all false
set_option maxRecDepth 100000
set_option maxHeartbeats 4000000
/-! {e for x in ..}: whatever the set holds. -/
namespace WW
open PySem PySem.Spec PyProof.Rows L2

/-- what set.add does to the tracked set at D: y is put in, N is what then holds of the heap -/
abbrev AddT := V → Addr → Hp → (Hp → Prop) → Prop
/-- a set's making and filling, for any body -/
structure SetMk (P : Program) (w : World) (new : Addr → HO) (add : AddT) : Prop where
  laid : ∀ (H : Hp) (h : Heap), ObjOk P w H (h.push { cls := .type "set", dict := none, data := .set #[] 0 (.fresh 0 0 (!w.params.followText "set-order")) }) h.objs.size (new h.objs.size)
  put : ∀ (X : Cx), X.prog = P → X.w = w → ∀ (pins : List (Addr × Obj)) (σ : L2.St) (H : Hp) (s : Shared) (D : Addr) (y : V) (v : Value) (N : Hp → Prop) (Q : Value → Shared → Prop) (E : Value → Shared → Prop), Inv X pins σ H s → RelV y v → add y D H N →
    (∀ s' H', Inv X pins σ H' s' → N H' → Q .none s') → wpAny (model P w) X.A (call (.builtin "set.add") [.ref D, v]) Q E s

def tSet (new : Addr → HO) (add : AddT) (wi : TI) (g : TG) (tt : TT) (te : TE) (vs : List Nat) : TE := fun σ H Q => wi σ H fun J H1 => ∀ D, H1 D = none →
  ∃ W : Nat → Nat → Hp → Prop, (∃ m, W 0 m (upd H1 D (new D))) ∧ ∀ i m H2, W i m H2 → (J.stop i H2 ∧ Q (.ref D) H2) ∨
    (J.go i H2 ∧ ∃ Nx : Hp → Prop, (∀ H', Nx H' → ∃ m', m' < m ∧ W (i + 1) m' H') ∧ ∀ x H', J.yld i H2 x H' → g x (wipe σ vs) H' fun σ3 H3 => wipe σ3 vs = wipe σ vs ∧
      tt σ3 H3 fun b H4 => if b = true then te σ3 H4 fun y H5 => add y D H5 Nx else Nx H4)

section
variable {X : Cx}
theorem set_core {new : Addr → HO} {add : AddT} {pins : List (Addr × Obj)} {s : Shared} {σ : L2.St} {H : Hp} {Q : VK} {elt tg iter : Expr} {ifs : List Expr} {scope : Scope} {own : List (PySem.Str × Nat)} {pos pos' : Pos} {wi : TI} {g : TG} {tt : TT} {te : TE}
    {use : Option (Value → Sem Unit)} {Qf : Value → Shared → Prop} (M : SetMk X.prog X.w new add) (calm : X.calm = true) (nd : X.N.Nodup) (I : Inv X pins σ H s) (walk : PI X tg iter wi) (blk : BlkOk X.N X.env.scope scope own)
    (hg : ∀ (s : Shared) (H : Hp) (C : Addr) (cl : List (PySem.Str × Addr)) (fp : List Addr), PG (X.blk s H scope (compEnvC scope cl C X.env) fp) tg g)
    (ht : ∀ (s : Shared) (H : Hp) (C : Addr) (cl : List (PySem.Str × Addr)) (fp : List Addr), PTs (X.blk s H scope (compEnvC scope cl C X.env) fp) ifs tt)
    (he : ∀ (s : Shared) (H : Hp) (C : Addr) (cl : List (PySem.Str × Addr)) (fp : List Addr), PE (X.blk s H scope (compEnvC scope cl C X.env) fp) elt te)
    (plain : ∀ x, foldedSetIterable iter X.env x = pure x) (h : tSet new add wi g tt te (own.map (·.2)) σ H Q)
    (back : ∀ D C s' m H', Inv X pins σ H' s' → Q (.ref D) H' → s'.heap.Ns C m → FpOk X pins H' C → compPost (model X.prog X.w) X.A X.xe use Qf (.ref D) C (.ok .next) s') :
    wpAny (model X.prog X.w) X.A (comprehension (.SetComp elt [⟨tg, iter, ifs, 0⟩] scope pos) scope X.env pos' (newSet (.type "set")) false (eval iter X.env) use) Qf X.xe s := by
  have cellsThere : ∀ y ∈ scope.names, y.2 = .free → ∃ c, X.env.cells.lookup y.1 = some c := fun y my fy =>
    (blk.free y my fy).elim (fun k => I.ok.has _ (.inl k)) fun k => I.ok.has _ (.inr k)
  refine wpAny_comprehension_free (use := use) rfl plain (closure_ok cellsThere) blk.kind (fun y my ey => by rw [blk.uniq y my, ey]) (thn (walk.run pins s σ H _ I h) fun v1 s1 h1 => thn h1 fun v2 s2 h2 => ?_)
  obtain ⟨it, fp, tn, J, H2, rfl, I2, T, start2, free2, rest⟩ := h2
  refine PpSet.newSet_ok (newEnv_comp ?_)
  have fresh2 : H2 s2.heap.objs.size = none := I2.hok.fresh (Nat.le_refl _)
  obtain ⟨W, ⟨m0, w0⟩, turn⟩ := rest s2.heap.objs.size fresh2
  -- the state with the empty set
  have I3 : Inv X pins σ (upd H2 s2.heap.objs.size (new s2.heap.objs.size)) { s2 with heap := s2.heap.push { cls := .type "set", dict := none, data := .set #[] 0 (.fresh 0 0 (!X.w.params.followText "set-order")) } } :=
    I2.laid (t' := s2.toks) (fun _ _ e => Heap.get?_push_of_some _ e) (Nat.le_refl _) (M.laid _ _)
  have below : ∀ b ∈ fp, b < s2.heap.objs.size := fun b hb => let ⟨_, e, _⟩ := T.obj _ _ start2 b hb; Heap.lt_size e
  generalize hD : s2.heap.objs.size = D at w0 turn fresh2 I3 below ⊢
  generalize hs3 : ({ s2 with heap := s2.heap.push { cls := .type "set", dict := none, data := .set #[] 0 (.fresh 0 0 (!X.w.params.followText "set-order")) } } : Shared) = s3 at I3
  have grown : s3.heap = s2.heap.push { cls := .type "set", dict := none, data := .set #[] 0 (.fresh 0 0 (!X.w.params.followText "set-order")) } := by rw [← hs3]
  generalize hH3 : upd H2 D (new D) = H3 at I3 w0
  have free3 : ∀ b ∈ fp, FpOk X pins H3 b ∧ b < s3.heap.objs.size := fun b hb => by
    have lt := below b hb
    refine ⟨⟨?_, (free2 b hb).2⟩, by rw [grown, Heap.size_push, hD]; exact Nat.lt_succ_of_lt lt⟩
    rw [← hH3, upd_ne (Nat.ne_of_lt lt)]
    exact (free2 b hb).1
  have start3 : tn 0 s3.heap := T.keep _ _ _ start2 fun b _ o e => by rw [grown]; exact Heap.get?_push_of_some _ e
  have I4 := block_start I3 blk nd free3
  have ruleG := hg s3 H3 s3.heap.objs.size (cellsFrom (s3.heap.objs.size + 1) scope.names (cloFrom X.env.cells scope.names [])) fp
  have ruleT := ht s3 H3 s3.heap.objs.size (cellsFrom (s3.heap.objs.size + 1) scope.names (cloFrom X.env.cells scope.names [])) fp
  have ruleE := he s3 H3 s3.heap.objs.size (cellsFrom (s3.heap.objs.size + 1) scope.names (cloFrom X.env.cells scope.names [])) fp
  show codeAny _ _ (.compStart (.SetComp elt [⟨tg, iter, ifs, 0⟩] scope pos) 0 (.ref it) (.ref D) (compEnvC scope (cellsFrom (s3.heap.objs.size + 1) scope.names (cloFrom X.env.cells scope.names [])) s3.heap.objs.size X.env))
    (compPost (model X.prog X.w) X.A X.xe use Qf (.ref D) s3.heap.objs.size) { s3 with heap := pushCells (s3.heap.push { cls := .type "dict", data := .dict #[] }) scope.names }
  generalize hce : compEnvC scope (cellsFrom (s3.heap.objs.size + 1) scope.names (cloFrom X.env.cells scope.names [])) s3.heap.objs.size X.env = ce at I4 ruleG ruleT ruleE ⊢
  have frame : ce.locals = s3.heap.objs.size := by rw [← hce] <;> rfl
  generalize hs4 : ({ s3 with heap := pushCells (s3.heap.push { cls := .type "dict", data := .dict #[] }) scope.names } : Shared) = s4 at I4 ⊢
  have start4 : tn 0 s4.heap := T.keep _ _ _ start3 fun b _ o e => by rw [← hs4]; exact pushCells_keeps _ _ _ _ (Heap.get?_push_of_some _ e)
  have quiet : ∀ {σ' : L2.St} {H' : Hp} {s' : Shared}, Inv (X.blk s3 H3 scope ce fp) [] σ' H' s' → (∀ b ∈ fp, H' b = none) → ∀ b ∈ fp, FpOk (X.blk s3 H3 scope ce fp) [] H' b := fun {σ' H' s'} I' n b hb =>
    ⟨n b hb, (I'.ok.exf b hb).1, I'.ok.exfs b hb, .inl hb, (I'.ok.exf b hb).2, fun p hp => absurd (show p ∈ ([] : List (Addr × Obj)) ++ [] from hp) (by simp)⟩
  have loop : codeAny (model X.prog X.w) X.A (.compLoop (.SetComp elt [⟨tg, iter, ifs, 0⟩] scope pos) 0 (.ref it) (.ref D) ce) (compPost (model X.prog X.w) X.A X.xe use Qf (.ref D) s3.heap.objs.size) s4 := by
    refine PpSet.compLoopS_any (fun n s' => ∃ i H', Inv (X.blk s3 H3 scope ce fp) [] (wipe σ (own.map (·.2))) H' s' ∧ tn i s'.heap ∧ (∀ b ∈ fp, H' b = none) ∧ W i n H') ?_ m0 ⟨0, H3, I4, start4, fun b hb => (free3 b hb).1.1, w0⟩
    rintro n s5 ⟨i, H5, I5, at5, none5, w5⟩
    rcases turn i n H5 w5 with ⟨stop, fin⟩ | ⟨go, Nx, hNx, step⟩
    · refine thnF (T.done (X.blk s3 H3 scope ce fp) rfl rfl rfl calm i [] s5 _ H5 (fun _ _ => False) I5 (quiet I5 none5) at5 stop) fun r s6 ⟨er, I6⟩ => ?_
      subst er
      have I7 : Inv X pins σ H5 s6 := I3.call' (ch := fp) I6.os I6.base I6.hok I6.bare fun b hb => ⟨(free3 b hb).1.2.2.2.1, (free3 b hb).1.2.1, (free3 b hb).1.2.2.2.2.1, (free3 b hb).1.2.2.2.2.2⟩
      have nC : H5 s3.heap.objs.size = none := frame ▸ (I6.free : H5 ce.locals = none)
      obtain ⟨m, hn, _⟩ := I6.loc
      have hn' : s6.heap.Ns s3.heap.objs.size m := frame ▸ (hn : s6.heap.Ns ce.locals m)
      exact back D s3.heap.objs.size s6 m H5 I7 fin hn' (I3.fpOk (Nat.le_refl _) nC)
    · refine thnF (T.item (X.blk s3 H3 scope ce fp) rfl rfl rfl calm i [] s5 _ H5 (fun _ _ => False) I5 (quiet I5 none5) at5 go) fun r s6 ⟨u, er, h6⟩ => ?_
      subst er
      refine thnF h6 fun _ s7 ⟨x, H7, I7, r7, y7, at7, none7⟩ => ?_
      refine thnF (ruleG.run _ s7 _ H7 x u _ (I7.pinned (quiet I7 none7) (T.obj _ _ at7)) r7 (step x H7 y7)) fun _ s8 ⟨σ8, H8, I8, wiped, q8⟩ => ?_
      refine thnF (ruleT.run _ s8 σ8 H8 _ I8 q8) fun b s9 ⟨H9, I9, q9⟩ => ?_
      have next : ∀ {s' : Shared} {H' : Hp}, Inv (X.blk s3 H3 scope ce fp) ([] ++ pinsAt fp s7.heap) σ8 H' s' → Nx H' → ∃ m, m < n ∧ ∃ i H', Inv (X.blk s3 H3 scope ce fp) [] (wipe σ (own.map (·.2))) H' s' ∧ tn i s'.heap ∧ (∀ b ∈ fp, H' b = none) ∧ W i m H' := fun {s' H'} I' nx => by
        obtain ⟨m', less, w'⟩ := hNx H' nx
        have pinned : ∀ b ∈ fp, ∀ o, s7.heap.get? b = some o → s'.heap.get? b = some o ∧ H' b = none := fun b hb o e =>
          let z := I'.pin (b, o) (List.mem_append_right _ (List.mem_append_right _ (mem_pinsAt hb e)))
          ⟨z.1, z.2.1⟩
        have len8 : (wipe σ (own.map (·.2))).length = σ8.length := by rw [← wiped, wipe_length]
        refine ⟨m', less, i + 1, H', (I'.unpinned (pins := [])).weak len8 (fun j v e => ?_), T.keep _ _ _ at7 fun b hb o e => (pinned b hb o e).1, fun b hb => ?_, w'⟩
        · rw [← wiped] at e
          exact (wipe_some e).1
        · obtain ⟨o, e, _⟩ := T.obj _ _ at7 b hb
          exact (pinned b hb o e).2
      cases b with
      | false =>
        rw [if_neg Bool.false_ne_true] at q9 ⊢
        exact next I9 q9
      | true =>
        rw [if_pos rfl] at q9 ⊢
        refine thnF (ruleE.run _ s9 σ8 H9 _ I9 q9) fun z s10 ⟨yv, H10, I10, r10, put⟩ => ?_
        exact M.put (X.blk s3 H3 scope ce fp) rfl rfl _ σ8 H10 s10 D yv z Nx _ _ I10 r10 put fun s11 H11 I11 nx => next I11 nx
  exact PpSet.codeAny_compStart_set loop (T.self X.A 0 _ _ _ start4 loop)

theorem pe_set {new : Addr → HO} {add : AddT} {elt tg iter : Expr} {ifs : List Expr} {scope : Scope} {own : List (PySem.Str × Nat)} {pos : Pos} {wi : TI} {g : TG} {tt : TT} {te : TE} (M : SetMk X.prog X.w new add) (calm : X.calm = true) (nd : X.N.Nodup) (walk : PI X tg iter wi) (blk : BlkOk X.N X.env.scope scope own)
    (hg : ∀ (s : Shared) (H : Hp) (C : Addr) (cl : List (PySem.Str × Addr)) (fp : List Addr), PG (X.blk s H scope (compEnvC scope cl C X.env) fp) tg g)
    (ht : ∀ (s : Shared) (H : Hp) (C : Addr) (cl : List (PySem.Str × Addr)) (fp : List Addr), PTs (X.blk s H scope (compEnvC scope cl C X.env) fp) ifs tt)
    (he : ∀ (s : Shared) (H : Hp) (C : Addr) (cl : List (PySem.Str × Addr)) (fp : List Addr), PE (X.blk s H scope (compEnvC scope cl C X.env) fp) elt te)
    (plain : ∀ x, foldedSetIterable iter X.env x = pure x := by intro _; rfl) :
    PE X (.SetComp elt [⟨tg, iter, ifs, 0⟩] scope pos) (tSet new add wi g tt te (own.map (·.2))) := by
  refine ⟨fun pins s σ H Q I h => ?_⟩
  rw [PpSet.eval_SetComp]
  refine set_core M calm nd I walk blk hg ht he plain h fun D C s' m H' I' q hn free => ⟨m, hn, fun h'' sb => ?_⟩
  obtain ⟨f0, f1, f2, f3, f4, f5⟩ := free
  exact ⟨.ref D, H', I'.turned (t' := s'.toks) (fun b o hb e => (sb.2 b hb).trans e) f0 f1 f3 f4 f5, rfl, q⟩
end

/-- texts put in: whatever order the table takes -/
def addS (P : Program) (w : World) : AddT := fun y D H N => ∃ (c : Str) (ks : List Str), y = .str c ∧ H D = some (SSO P w D ks) ∧ ks.length + 1 < scanBound ∧ ∀ ks', Added ks c ks' → N (upd H D (SSO P w D ks'))
theorem mkS (P : Program) (w : World) : SetMk P w (fun D => SSO P w D []) (addS P w) where
  laid := fun H h => sso_new setw_fresh
  put := fun X hP hw pins σ H s D y v N Q E I r ⟨c, ks, ey, hD, room, k⟩ fin => by
    subst hP hw ey
    obtain ⟨t, ev⟩ := r
    subst ev
    refine setw_add (knd := PySem.strKind X.prog X.w) (k := c) (by show Value.isStrOf c (.str c t) = true; simp [Value.isStrOf]) rfl (sso_get I hD) room fun h' tk ks' sb new ad => ?_
    have there : ∃ u, h'.get? D = some u := let ⟨o, _, _, _, ho, _⟩ := new; ⟨o, ho⟩
    exact fin _ _ (I.write (e := D) (t' := tk) (by rw [hD]; trivial) (.inl rfl) (fun b u hb hu => (sb.2 b hb).trans hu) there (sso_new new)) (k ks' ad)
end WW

set_option Elab.async false
set_option linter.all false
set_option maxRecDepth 100000
set_option maxHeartbeats 4000000
/-! x == y and x != y by a class's own __eq__, whatever it answers. -/
namespace WW
open PySem PySem.Spec PyProof.Rows L2

theorem cmpOf {P : Value → Shared → Prop} {z : V} {v : Value} {s' : Shared} (r : RelV z v) (h : P v s') : PySem.W.CmpBack P v s' := by
  cases z <;> (try obtain ⟨t, e⟩ := r) <;> first | exact h | (subst e; exact h) | (cases r; exact h)

/-- x op y of two instances, answered by the def sp -/
def rOwnEq (K : PySem.W.Frag) (C : Addr) (sp : Sp) (E : XK) : R2 := fun x y H Q => ∃ a dx fs b C' dy gs, x = .ref a ∧ y = .ref b ∧ H a = some (.ins C dx fs) ∧ H b = some (.ins C' dy gs) ∧ PySem.W.notFirst K C (.ref C') = true ∧ sp [x, y] H Q E
def rOwnNe (K : PySem.W.Frag) (C : Addr) (sp : Sp) (E : XK) : R2 := fun x y H Q => ∃ a dx fs b C' dy gs, x = .ref a ∧ y = .ref b ∧ H a = some (.ins C dx fs) ∧ H b = some (.ins C' dy gs) ∧ PySem.W.notFirst K C (.ref C') = true ∧
  sp [x, y] H (fun v H' => ∃ k, v = .bl k ∧ Q (.bl (!k)) H') E

section
variable {X : Cx} {CX : CXT} {C f : Addr} {fd : FuncData} {ps : List Str} {sp : Sp} {E : XK} {n : Nat}
theorem op_ownEq (hs : PySem.W.findIn X.K (.ref C) "__eq__" = some (some (.ref f))) (hf : PySem.W.isFn X.K (.ref f) = true) (F : FnOk X.prog X.w X.K X.mg X.base CX n f fd ps sp) (hr : Room n X.A) (hb : Binds X.K fd ps []) (hx : Passes CX X E) :
    OpR X (compareOp .Eq) (rOwnEq X.K C sp E) := by
  intro pins s σ H x y v u Q I rx ry h
  obtain ⟨a, dx, fs, b, C', dy, gs, rfl, rfl, ha, hb', hn, q⟩ := h
  cases rx
  cases ry
  obtain ⟨mA, J, _⟩ := ins_get I.hok ha
  obtain ⟨mB, J', _⟩ := ins_get I.hok hb'
  obtain ⟨od, J, _⟩ := J.look
  obtain ⟨od', J', _⟩ := J'.look
  obtain ⟨m, hF⟩ := I.fr
  show wpAny (model X.prog X.w) X.A (richCompare .Eq (.ref a) (.ref b)) (EP X pins σ Q) X.xe s
  refine PySem.W.cmp_K (op := .Eq) (tb := .ref C') hr.units0 hF I.ok.mod.kin J J'.type hn hs hf ?_
  refine wpAny_mono (run_fn (us := [.ref a, .ref b]) (vs := [.ref a, .ref b]) F hr hb .nil hx I (.cons rfl (.cons rfl .nil)) q) (fun w s' z => ?_) fun _ _ e => e
  obtain ⟨z', H', I', rz, qz⟩ := z
  exact cmpOf rz ⟨z', H', I', rz, qz⟩

/-- the class's __ne__ is object's -/
theorem ne_bound {M : Model} {A : Around} {E' : Value → Shared → Prop} {s : Shared} {K : PySem.W.Frag} {x : Addr} {ox : Obj} {od : Option Obj} {args : List Value} {Q : Option Value → Shared → Prop} (Xk : K.In s.heap) (J : PySem.W.InstAt s.heap x ox C od)
    (hne : PySem.W.findIn K (.ref C) "__ne__" = some (some (.builtin "object.__ne__"))) (h : wpAny M A (call (.builtin "object.__ne__") (.ref x :: args)) (fun v => Q (some v)) E' s) : wpAny M A (callSpecialIfBound? (.ref x) "__ne__" args) Q E' s := by
  simp only [callSpecialIfBound?, bindSpecialIfBound?]
  refine wpAny_holding (wpAny_bind (wpAny_bind (wpAny_bind (J.type.here ((PySem.W.looks_findIn Xk hne).here ?_)))))
  refine wpAny_bind (wpAny_askSetting (wpAny_ite ?_))
  have last : wpAny M A (call (.builtin "object.__ne__") ([.ref x] ++ args) >>= fun v => pure (some v)) Q E' s := wpAny_bind (wpAny_mono h (fun v s' q => wpAny_pure q) fun _ _ q => q)
  split
  · exact wpAny_bind (wpAny_of_eq (PySem.F.cmp_object.ne.bind _) (wpAny_pure (by exact last)))
  · exact wpAny_tryCatch (wpAny_bind (wpAny_of_eq (PySem.F.cmp_object.ne.bind _) (wpAny_pure (by exact last))))

theorem op_ownNe (hs : PySem.W.findIn X.K (.ref C) "__eq__" = some (some (.ref f))) (hne : PySem.W.findIn X.K (.ref C) "__ne__" = some (some (.builtin "object.__ne__"))) (hm : PySem.W.mroIn X.K C (.type "object") = some true) (hf : PySem.W.isFn X.K (.ref f) = true)
    (F : FnOk X.prog X.w X.K X.mg X.base CX n f fd ps sp) (hr : Room (n + 1) X.A) (hb : Binds X.K fd ps []) (hx : Passes CX X E) : OpR X (compareOp .NotEq) (rOwnNe X.K C sp E) := by
  intro pins s σ H x y v u Q I rx ry h
  obtain ⟨a, dx, fs, b, C', dy, gs, rfl, rfl, ha, hb', hn, q⟩ := h
  cases rx
  cases ry
  obtain ⟨mA, J, _⟩ := ins_get I.hok ha
  obtain ⟨mB, J', _⟩ := ins_get I.hok hb'
  obtain ⟨od, J, _⟩ := J.look
  obtain ⟨od', J', _⟩ := J'.look
  have hu : X.A.units + 64 < cLine := hr.units
  -- the def, a level down
  have deep : wpAny (model X.prog X.w) X.A.in1 (call (.ref f) [.ref a, .ref b]) (fun w s' => ∃ k, w = .bool k ∧ EP X pins σ Q (.bool (!k)) s') X.xe s := by
    have hl := F.len _ _ _ _ q
    have bd : BindsTo s fd ⟨[.ref a, .ref b], []⟩ (ps.zip [.ref a, .ref b]) := by
      have z := hb s [.ref a, .ref b] I.kIn (by simpa using hl)
      simpa using z
    refine wpAny_call (codeAny_mono (F.run X.A.in1 X.stack s H ⟨[.ref a, .ref b], []⟩ [.ref a, .ref b] [.ref a, .ref b] _ E hr.in1 I.env0.in1 bd (.cons rfl (.cons rfl .nil)) q) fun r s' hq => ?_)
    cases r with
    | error e => exact hx pins σ H s e s' I hq
    | ok fl =>
      cases fl with
      | ret w =>
        obtain ⟨z, H', I', rz, k, ez, qz⟩ := I.after hq
        subst ez
        cases rz
        exact ⟨k, rfl, .bl (!k), H', I', rfl, qz⟩
      | next => exact False.elim hq
      | brk => exact False.elim hq
      | cont => exact False.elim hq
  have entry : wpAny (model X.prog X.w) X.A.in1 (Builtin.«object.__ne__» ⟨[.ref a, .ref b], []⟩) (fun fin s' => match fin with | .done g => (match g with | .ret w => (∃ k, w = .bool k ∧ EP X pins σ Q (.bool k) s') | _ => False) | .again _ => False) X.xe s := by
    unfold Builtin.«object.__ne__»
    refine wpAny_bind (wpAny_pure ?_)
    refine wpAny_bind (wpAny_cRoomFor (by show X.A.units + 1 < cLine; omega) ?_)
    refine wpAny_bind (PySem.W.ifBound_K I.kIn J hs hf (wpAny_mono deep (fun w s' z => ?_) fun _ _ e => e))
    obtain ⟨k, rfl, hq⟩ := z
    exact wpAny_bind (wpAny_truthy_bool (wpAny_pure ⟨_, rfl, hq⟩))
  have tried : wpAny (model X.prog X.w) X.A (tryCompare (.ref a) "__ne__" (.ref b)) (fun r s' => ∃ w, r = some w ∧ EP X pins σ Q w s') X.xe s := by
    unfold tryCompare
    refine wpAny_bind (ne_bound I.kIn J hne (wpAny_call (codeAny_call_builtin PySem.F.cmp_object.ne.plain PySem.F.cmpEntry_ne (PySem.W.check_slot PySem.F.cmpKind_ne PySem.F.cmpSplit_ne (J.type.andThen (PySem.W.looks_mroIn I.kIn hm)) (PySem.F.cmpArgs_ne _ _)
      (wpAny_mono entry (fun fin s' z => ?_) fun _ _ e => e)))))
    cases fin with
    | again _ => exact z.elim
    | done g =>
      cases g with
      | ret w =>
        obtain ⟨k, rfl, hq⟩ := z
        exact wpAny_pure ⟨_, rfl, hq⟩
      | next => exact z.elim
      | brk => exact z.elim
      | cont => exact z.elim
  show wpAny (model X.prog X.w) X.A (richCompare .NotEq (.ref a) (.ref b)) (EP X pins σ Q) X.xe s
  unfold richCompare
  simp only [oneThing_ref]
  refine wpAny_holding (wpAny_bind (wpAny_cRoomFor hr.units0 ?_))
  rw [PySem.cmpInfo_NotEq]
  dsimp only
  refine wpAny_bind (J.type.here (wpAny_bind (J'.type.here ?_)))
  split
  · rename_i ne
    have e : PySem.W.subIn X.K (.ref C') (.ref C) = some false := by
      rcases Bool.or_eq_true_iff.mp hn with e | e
      · rw [beq_iff_eq.mp e] at ne; simp at ne
      · exact beq_iff_eq.mp e
    refine wpAny_bind ((PySem.W.looks_subIn I.kIn e).here ?_)
    simp only [Bool.false_eq_true, if_false]
    refine wpAny_bind (wpAny_mono tried (fun r s' z => ?_) fun _ _ e => e)
    obtain ⟨w, rfl, hq⟩ := z
    exact wpAny_pure hq
  · refine wpAny_bind (wpAny_pure ?_)
    simp only [Bool.false_eq_true, if_false]
    refine wpAny_bind (wpAny_mono tried (fun r s' z => ?_) fun _ _ e => e)
    obtain ⟨w, rfl, hq⟩ := z
    exact wpAny_pure hq
end
end WW

set_option Elab.async false
set_option linter.all false
set_option maxRecDepth 100000
set_option maxHeartbeats 4000000
/-! A list or a tuple alike: either reading; enumerate, in and sorted of tuples. -/
namespace WW
open PySem PySem.Spec PyProof.Rows L2

/-! ### either reading -/
theorem pe_or {X : Cx} {e : Expr} {t u : TE} (a : PE X e t) (b : PE X e u) : PE X e (fun σ H Q => t σ H Q ∨ u σ H Q) :=
  ⟨fun pins s σ H Q I h => h.elim (a.run pins s σ H Q I) (b.run pins s σ H Q I)⟩
def iOr (a b : TI) : TI := fun σ H R => a σ H R ∨ b σ H R
theorem pi_or {X : Cx} {tg e : Expr} {t u : TI} (a : PI X tg e t) (b : PI X tg e u) : PI X tg e (iOr t u) :=
  ⟨fun pins s σ H Q I h => h.elim (a.run pins s σ H Q I) (b.run pins s σ H Q I)⟩
def rOr3 (a b : List V → Hp → VK → Prop) : List V → Hp → VK → Prop := fun vs H Q => a vs H Q ∨ b vs H Q
theorem cr_or {X : Cx} {f : Value} {r u : List V → Hp → VK → Prop} (a : CallR X f r) (b : CallR X f u) : CallR X f (rOr3 r u) :=
  fun pins s σ H vs us Q I rv h => h.elim (a pins s σ H vs us Q I rv) (b pins s σ H vs us Q I rv)

/-! ### x in a tuple, of data of any kind -/
section
variable {X : Cx}
def rInDT (K : PySem.W.Frag) : R2 := fun x y H Q => ∃ d ds, Dp K H x d ∧ Dp K H y (.tuple ds) ∧ SeqAt.shaped d = true ∧ SeqAt.shaped (.tuple ds) = true ∧ Q (.bl (ds.any fun z => PyData.eqv z d)) H
theorem op_inDT (hu : X.A.units + 65 < cLine) : OpR X (compareOp .In) (rInDT X.K) := by
  intro pins s σ H x y v u Q I rx ry h
  obtain ⟨d, ds, hd, he, sd, se, q⟩ := h
  obtain ⟨as, r1⟩ := Dp.reads I d x v hd rx
  obtain ⟨bs, r2⟩ := Dp.reads I (.tuple ds) y u he ry
  exact SeqAt.in_tuple_reads r2 r1 (SeqAt.canLay_of_shaped se) (SeqAt.canLay_of_shaped sd) (room_in_shaped sd hu) ⟨.bl _, H, I, rfl, q⟩
end

/-! ### enumerate(tuple) -/
section
variable {prog : Program} {w : World} {A : Around} {E : Value → Shared → Prop} {s : Shared}
set_option maxHeartbeats 1000000 in
theorem meets_enum1 {v : Value} {o : Obj} {H : Heap → Prop} (B : Begins v o H) :
    Meets (Builtin.«enumerate.__new__» ⟨[.type "enumerate", v], []⟩) (fun _ R s => H s.heap ∧
      R (.ok (.ret (.ref (s.heap.push o).objs.size))) { s with heap := (s.heap.push o).push { cls := .type "enumerate", data := .fields #[.none, .bool false, .ref s.heap.objs.size, rawInt 0, .none, .none] } }) :=
  .of_wp fun prog w A R s h => by
    obtain ⟨hp, g, d, tk, os⟩ := s; obtain ⟨h1, h⟩ := h
    have hsub := sub_enumerate
    have q1 : ∀ {A' : Around} {E : Value → Shared → Prop} {Q : Value → Shared → Prop}, Q (.ref hp.objs.size) ⟨hp.push o, g, d, tk, os⟩ → wpAny (model prog w) A' (pyIter v) Q E ⟨hp, g, d, tk, os⟩ :=
      fun q => B.iter prog w _ _ ⟨hp, g, d, tk, os⟩ _ h1 q
    wp_walk using q1
    refine wpAny_stack_any fun st => wpAny_pure ?_
    split
    · rename_i c _ _ _ _ _
      cases (c == Value.type "enumerate")
      · wp_walk using q1
        exact ⟨_, rfl, h⟩
      · wp_walk using q1
        exact ⟨_, rfl, h⟩
    · wp_walk using q1
      exact ⟨_, rfl, h⟩
theorem enum1_begins {v : Value} {o : Obj} {H : Heap → Prop} {Q : Value → Shared → Prop} (B : Begins v o H) (h1 : H s.heap)
    (h : ∀ h', IsEnum h' (s.heap.objs.size + 1) s.heap.objs.size 0 .none → h'.get? s.heap.objs.size = some o → h'.objs.size = s.heap.objs.size + 2 →
      (∀ b o, s.heap.get? b = some o → h'.get? b = some o) → Q (.ref (s.heap.objs.size + 1)) { s with heap := h' }) :
    wpAny (model prog w) A (call (.type "enumerate") [v]) Q E s := by
  refine callType_new F.called_enumerate (by decide) (F.typeCall_enumerate_1 _) (F.newCall_enumerate_1 _) (fun obj => F.args_object_init_2 obj _) F.entry_enumerate_new
    (meets_enum1 B) ⟨h1, ?_⟩
  have hz : (s.heap.push o).objs.size = s.heap.objs.size + 1 := Heap.size_push ..
  show _ ∧ _
  rw [hz]
  have he : IsEnum ((s.heap.push o).push { cls := .type "enumerate", data := .fields #[.none, .bool false, .ref s.heap.objs.size, rawInt 0, .none, .none] }) (s.heap.objs.size + 1) s.heap.objs.size 0 .none := by
    have := Heap.get?_push_size (s.heap.push o) (o := { cls := .type "enumerate", data := .fields #[.none, .bool false, .ref s.heap.objs.size, rawInt 0, .none, .none] }) rfl
    rw [hz] at this; exact this
  refine ⟨⟨_, he, rfl⟩, h _ he (Heap.get?_push_of_some _ (Heap.get?_push_size _ B.free)) (by rw [Heap.size_push, hz]) fun b o x => Heap.get?_push_of_some _ (Heap.get?_push_of_some _ x)⟩
end

/-- the tuple at a, each item in a new pair -/
def IteT (K : PySem.W.Frag) (a : Addr) : It :=
  ⟨fun i H => ∃ (xs : List V) (x : V), SqT K H a xs ∧ xs[i]? = some x, fun i H v H' => ∃ T x, v = .ref T ∧ H T = none ∧ H' = upd H T (.tup [.int (i : Nat), x]) ∧ ∀ xs, SqT K H a xs → xs[i]? = some x, fun i H => ∃ xs : List V, SqT K H a xs ∧ xs.length = i⟩
theorem turn_enumT {P : Program} {w : World} {K : PySem.W.Frag} {elts : List Expr} {kk : Nat} {tpos : Pos} (a e it : Addr) :
    Turn P w K (.Tuple elts kk tpos) (IteT K a) [e, it] e (fun i h => (∃ old, IsEnum h e it ((i : Nat) : Int) old) ∧ h.IsTupleIter it a i ∧ e ≠ it) where
  mem := by simp
  obj := fun i h st b hb => by
    obtain ⟨⟨old, he⟩, ⟨o, ho, hc, hd⟩, _⟩ := st
    have e' : b = e ∨ b = it := by simpa using hb
    rcases e' with z | z
    · rw [z]; exact ⟨_, he, fun v q => nomatch q⟩
    · rw [z]; exact ⟨o, ho, fun v q => by rw [hd] at q; cases q⟩
  keep := fun i h h' st k => let ⟨⟨old, he⟩, hi, hne⟩ := st; ⟨⟨old, k e (by simp) _ he⟩, hi.at fun o q => k it (by simp) o q, hne⟩
  item := by
    intro X hP hw hK hc i pins s σ H E I hf st hg
    subst hP hw hK
    obtain ⟨⟨old, he⟩, hit, hne⟩ := st
    obtain ⟨xs, x, hq, hx⟩ := hg
    obtain ⟨its, rv, p, hz⟩ := I.tuple hq
    have p' : s.heap.IsTuple a its.toArray := p
    obtain ⟨u, hu, ru⟩ := rv.get hx
    have hel : e < s.heap.objs.size := Heap.lt_size he
    have hil : it < s.heap.objs.size := by obtain ⟨_, q, _⟩ := hit; exact Heap.lt_size q
    have hai : a ≠ it := fun z => by
      obtain ⟨o, ho, hc1, _⟩ := hit
      obtain ⟨o', ho', hc2, _⟩ := p'
      rw [z, ho] at ho'
      cases ho'
      rw [hc1] at hc2
      injection hc2 with hc2
      exact absurd hc2 (by decide)
    have hae : e ∉ [it, a] := fun z => by
      rcases List.mem_cons.mp z with z | z
      · exact hne z
      · have z := List.mem_singleton.mp z
        obtain ⟨o', ho', hc2, _⟩ := p'
        rw [← z, he] at ho'
        cases ho'
        injection hc2 with hc2
        exact absurd hc2 (by decide)
    have hil2 : i < its.toArray.size := by
      have := (List.getElem?_eq_some_iff.mp hu).1
      simpa using this
    refine wpAny_pyNext_enum_itemC (fp := [it, a]) (c := (i : Int)) (Draws.tuple (A := X.A.in1) (I.ok.hd hc) it a hai its.toArray) he ⟨hit, p'⟩ hil2 hne hae fun y h' tk hy ho hit' hT hsz hk => ?_
    have ey : y = u := by
      have e1 : its[i]? = some y := by simpa using hy
      rw [hu] at e1
      exact (Option.some.inj e1).symm
    subst ey
    refine ⟨_, rfl, wpAny_letOwnedTupleGo_enum (s := { s with heap := h', toks := tk + 1 }) ho fun h'' he' sb => ?_⟩
    have hT2 : h''.get? s.heap.objs.size = some { cls := .type "tuple", data := .seq #[.int i tk, y] } := (sb.2 _ (Nat.ne_of_gt hel)).trans hT
    have new : ObjOk X.prog X.w (upd H s.heap.objs.size (.tup [.int (i : Nat), x])) h'' s.heap.objs.size (.tup [.int (i : Nat), x]) :=
      ⟨by show 2 ≤ sizeLine; decide, [.int i tk, y], .cons ⟨_, rfl⟩ (.cons ru .nil), ⟨_, hT2, rfl, _, rfl⟩⟩
    have I1 : Inv X pins σ (upd H s.heap.objs.size (.tup [.int (i : Nat), x])) { s with heap := h'', toks := tk + 1 } :=
      I.turnedNew (ch := [e, it]) (fun b ob hb q => (sb.2 b (fun z => hb (by simp [z]))).trans (hk b ob (fun z => hb (by simp [z])) (fun z => hb (by simp [z])) q)) hf (Nat.le_refl _) new
    refine ⟨.ref s.heap.objs.size, _, I1, rfl, ⟨_, x, rfl, I.hok.fresh (Nat.le_refl _), rfl, fun ys hy => by rw [I.tuple_inj hy hq]; exact hx⟩, ⟨⟨y, ?_⟩, hit'.1.at fun o q => (sb.2 it (Ne.symm hne)).trans q, hne⟩, fun b hb => ?_⟩
    · have e1 : ((i + 1 : Nat) : Int) = (i : Int) + 1 := by omega
      rw [e1]; exact he'
    · have hb' : b < s.heap.objs.size := by
        have e' : b = e ∨ b = it := by simpa using hb
        rcases e' with z | z
        · rw [z]; exact hel
        · rw [z]; exact hil
      rw [upd_ne (Nat.ne_of_lt hb')]
      exact (hf b hb).1
  done := by
    intro X hP hw hK hc i pins s σ H E I hf st hg
    subst hP hw hK
    obtain ⟨⟨old, he⟩, hit, hne⟩ := st
    obtain ⟨xs, hq, hx⟩ := hg
    obtain ⟨its, rv, p, hz⟩ := I.tuple hq
    have p' : s.heap.IsTuple a its.toArray := p
    obtain ⟨f0, f1, f2, f3, f4, f5⟩ := hf it (by simp)
    have hl := rv.length
    have hai : a ≠ it := fun z => by
      obtain ⟨o, ho, hc1, _⟩ := hit
      obtain ⟨o', ho', hc2, _⟩ := p'
      rw [z, ho] at ho'
      cases ho'
      rw [hc1] at hc2
      injection hc2 with hc2
      exact absurd hc2 (by decide)
    have ei : i = its.toArray.size := by simp; omega
    subst ei
    exact wpAny_pyNext_enum_endD (fp := [it, a]) (Draws.tuple (A := X.A.in1) (I.ok.hd hc) it a hai its.toArray) he ⟨hit, p'⟩ fun h' eb => ⟨rfl, I.turned (t' := s.toks) (fun b o hb q => eb b o hb q) f0 f1 f3 f4 f5⟩
  self := fun A i s Q E st h => let ⟨⟨_, he⟩, _⟩ := st; wpAny_pyIter_enum he h
def iEnumT (K : PySem.W.Frag) (ta : TA) : TI := fun σ H R => ta σ H fun vs H1 => ∃ a xs, vs = [.ref a] ∧ SqT K H1 a xs ∧ R (IteT K a) H1
theorem pi_enumT {X : Cx} {e : Expr} {ta : TA} {p pos tpos : Pos} {elts : List Expr} {kk : Nat} (hg : Gl X "enumerate") (hm : X.mg "enumerate" = none) (ha : PA X [e] ta) (hs : starEach [e] X.env = [(false, eval e X.env)] := by rfl) :
    PI X (.Tuple elts kk tpos) (.Call (.Name "enumerate" p) [e] [] pos) (iEnumT X.K ta) := by
  refine ⟨fun pins s σ H R I h => ?_⟩
  refine Call_ (ld_blt I hg hm boot_enumerate (PyProof.Rows.callWith_type1 (thn (ha.run pos pins s σ H _ I h) fun us s1 ⟨vs, H1, I1, r1, q1⟩ => ?_) hs rfl))
  obtain ⟨a, xs, ex, hq, q⟩ := q1
  subst ex
  cases r1 with
  | cons r rr =>
    cases rr
    cases r
    obtain ⟨its, rv, p', hz⟩ := I1.tuple hq
    refine enum1_begins (begins_tuple a its.toArray) p' fun h' he hit hsz hk => wpAny_pyIter_enum he ?_
    have I2 : Inv X pins σ H1 { s1 with heap := h' } := I1.kept (t' := s1.toks) hk
    refine ⟨s1.heap.objs.size + 1, [s1.heap.objs.size + 1, s1.heap.objs.size], _, _, H1, rfl, I2, turn_enumT a (s1.heap.objs.size + 1) s1.heap.objs.size, ⟨⟨.none, he⟩, ⟨_, hit, rfl, rfl⟩, Nat.succ_ne_self _⟩, fun b hb => ?_, q⟩
    have e' : b = s1.heap.objs.size + 1 ∨ b = s1.heap.objs.size := by simpa using hb
    have hle : s1.heap.objs.size ≤ b := by
      rcases e' with z | z
      · rw [z]; exact Nat.le_add_right _ _
      · rw [z]; exact Nat.le_refl _
    exact I1.fpOk hle (I1.hok.fresh hle)

/-! ### sorted(tuple) -/
theorem reads_lt {h : Heap} {v : Value} {d : PyData} {as : List Addr} (r : Reads h v d as) : ∀ a ∈ as, a < h.objs.size := by
  refine Reads.rec (motive_1 := fun v d as _ => ∀ a ∈ as, a < h.objs.size) (motive_2 := fun vs ds as _ => ∀ a ∈ as, a < h.objs.size) ?_ ?_ ?_ ?_ ?_ ?_ ?_ ?_ ?_ r
  · intro a ha; cases ha
  · intro _ a ha; cases ha
  · intro _ _ a ha; cases ha
  · intro _ _ a ha; cases ha
  · intro b o vs n xs as h1 h2 h3 h4 ih a ha
    rcases List.mem_cons.mp ha with e | ha
    · rw [e]; exact Heap.lt_size h1
    · exact ih a ha
  · intro b o vs n xs as h1 h2 h3 h4 ih a ha
    exact ih a ha
  · intro b o es n kvs as bs h1 h2 h3 h4 h5 ih1 ih2 a ha
    rcases List.mem_append.mp ha with ha | ha
    · rcases List.mem_cons.mp ha with e | ha
      · rw [e]; exact Heap.lt_size h1
      · exact ih1 a ha
    · exact ih2 a ha
  · intro a ha; cases ha
  · intro v vs d ds as bs h1 h2 ih1 ih2 a ha
    rcases List.mem_append.mp ha with ha | ha
    · exact ih1 a ha
    · exact ih2 a ha

def rSortDT {β : Type} (K : PySem.W.Frag) (enc : β → PyData) : List V → Hp → VK → Prop := fun vs H Q => ∃ (a : Addr) (xs : List V) (bs : List β) (F : V → β → Prop), vs = [V.ref a] ∧ SqT K H a xs ∧ Paired (fun v b => F v b ∧ DpE K H enc v b) xs bs ∧
  (∀ b b', PySem.W.alike (enc b) (enc b') = true) ∧ PySem.W.Sortable (bs.map enc) ∧ (∀ b, (enc b).depth ≤ 32) ∧
  ∀ (ys : List V) (p : Addr), Paired F ys (bs.mergeSort (PySem.W.dataLe false enc)) → H p = none → Q (.ref p) (upd H p (.lst ys))
theorem cr_sortDT {X : Cx} {β : Type} (enc : β → PyData) (hc : X.calm = true) (hu : X.A.units + 64 < cLine) : CallR X (.builtin "sorted") (rSortDT X.K enc) := by
  intro pins s σ H vs us Q I r h
  obtain ⟨a, xs, bs, F, rfl, hs, hp, hal, hso, hdp, q⟩ := h
  rw [Vals.ref1 r]
  obtain ⟨its, rv, hl, hz⟩ := I.tuple hs
  have hl' : s.heap.IsTuple a its.toArray := hl
  obtain ⟨o, ho, hcl, n, hd⟩ := hl'
  have hxl := rv.length
  refine Calls.call_function_entry kind_sorted plain_sorted entry_sorted (args_sorted1 _) ?_
  unfold Builtin.«sorted»
  refine wpAny_bind (m := checkCount "sorted" 1 1 _) (wpAny_pure ?_)
  refine wpAny_bind (wpAny_collect_seq a (.inr rfl) ho hcl hd (fun h1 k1 => ?_) (by simp; omega))
  have I1 : Inv X pins σ H { s with heap := h1 } := I.kept (t' := s.toks) k1
  have hol : its.toArray.toList = its := by simp
  rw [hol]
  have hz' : its.length ≤ sizeLine := by omega
  refine wpAny_bind (wpAny_newList ?_ hz')
  have hoL : (h1.push (seqObj "list" its.toArray 0)).get? h1.objs.size = some (seqObj "list" its.toArray 0) := Heap.get?_push_size _ rfl
  have hlen : bs.length = xs.length := (Paired.length hp).symm
  have e1 := each_of rv hp
  have I2 : Inv X pins σ H { s with heap := h1.push (seqObj "list" its.toArray 0) } := I1.kept (t' := s.toks) fun b u e => Heap.get?_push_of_some _ e
  have er : PySem.W.EachIs (fun v b => ∃ as, Reads (h1.push (seqObj "list" its.toArray 0)) v (enc b) as ∧ h1.objs.size ∉ as) its bs := (each_reads I1 e1).mono fun v b ⟨as, r⟩ =>
    ⟨as, PyProof.Rows.Reads.keeps (fun _ _ e => Heap.get?_push_of_some _ e) r, fun z => Nat.lt_irrefl _ (reads_lt r _ z)⟩
  have e3 : PySem.W.EachIs (fun u b => ∃ v, F v b ∧ RelV v u ∧ Dp X.K H v (enc b)) its bs := e1
  refine wpAny_bind (wpAny_holding (PySem.W.list_sort_data (enc := enc) (s := { s with heap := h1.push (seqObj "list" its.toArray 0) }) hoL e3 er (PySem.W.AllAlike.of hal) hso (by omega) (fun b _ => by have := hdp b; show X.A.units + 1 + 1 + (enc b).depth < cLine; omega) fun out2 h2 e2 => ?_))
  obtain ⟨ys, rys, pys⟩ := of_each (F := F) (fun u b ⟨v, m, r, d⟩ => ⟨v, r, m⟩) e2
  obtain ⟨c, hc2⟩ := sortedHeap_at (vs := its) (out := out2.toArray) hoL
  have hold : ∀ b u, h1.get? b = some u → (sortedHeap (h1.push (seqObj "list" its.toArray 0)) h1.objs.size its out2.toArray).get? b = some u := fun b u e => by
    have lt := Heap.lt_size e
    exact (sortedHeap_old (Nat.ne_of_lt lt) (by rw [Heap.size_push]; exact Nat.lt_succ_of_lt lt)).trans (Heap.get?_push_of_some _ e)
  have hly : ys.length ≤ sizeLine := by rw [rys.length, h2, hlen]; omega
  refine wpAny_pure ⟨_, rfl, .ref h1.objs.size, upd H h1.objs.size (.lst ys), I1.laid (t' := s.toks) hold (Nat.le_refl _) ⟨hly, out2, c, rys, hc2⟩, rfl, q ys _ pys (I1.hok.fresh (Nat.le_refl _))⟩
end WW

set_option Elab.async false
set_option linter.all false
set_option maxRecDepth 100000
/-! Rules at a fragment that is told (for blocks of comprehensions). -/
namespace WW
open PySem PySem.Spec PyProof.Rows L2
def rTupOf (K : PySem.W.Frag) : List V → Hp → VK → Prop := fun xs H Q => ∃ p ys, xs = [.ref p] ∧ ((SqL K H p ys ∧ ∀ l, H l = none → Q (.ref l) (upd H l (.tup ys))) ∨ (SqT K H p ys ∧ Q (.ref p) H))
def rListOf (K : PySem.W.Frag) : List V → Hp → VK → Prop := fun xs H Q => ∃ p ys, xs = [.ref p] ∧ (SqL K H p ys ∨ SqT K H p ys) ∧ ∀ l, H l = none → Q (.ref l) (upd H l (.lst ys))
section
variable {X : Cx} {K : PySem.W.Frag}
theorem ixK (h : X.K = K) : IxR X (rIx K) := h ▸ ix_seq
theorem inK (h : X.K = K) : OpR X (compareOp .In) (rIn K false) := h ▸ op_in_seq
theorem notInK (h : X.K = K) : OpR X (compareOp .NotIn) (rIn K true) := h ▸ op_notIn_seq
theorem lenK (h : X.K = K) : CallR X (.builtin "len") (rLen K) := h ▸ (call_len : CallR X _ (rLen X.K))
theorem isiK (h : X.K = K) : CallR X (.builtin "isinstance") (rIsi K) := h ▸ call_isi
theorem tupOfK (h : X.K = K) : CallR X (.type "tuple") (rTupOf K) := h ▸ (call_tuple_of : CallR X _ (rTupOf X.K))
theorem listOfK (h : X.K = K) : CallR X (.type "list") (rListOf K) := h ▸ (call_list_of : CallR X _ (rListOf X.K))
theorem eqDK (h : X.K = K) (hu : X.A.units + 64 < cLine) : OpR X (compareOp .Eq) (rEqD K) := h ▸ op_eqD hu
theorem room65 {k : Nat} {A : Around} (r : Room k A) : A.units + 65 < cLine := by have := r.un; omega
end
end WW

set_option Elab.async false
set_option linter.all false
set_option maxRecDepth 100000
set_option maxHeartbeats 4000000
/-! Loops and comprehensions over anything that stays. -/
namespace WW
open PySem PySem.Spec PyProof.Rows L2 Evl
/-- whatever is laid behind H, the iterator gives xs -/
structure Steady (J : It) (H : Hp) (xs : List V) : Prop where
  go : ∀ i H', Ex H H' → i < xs.length → J.go i H'
  yld : ∀ i H' x H'', Ex H H' → i < xs.length → J.yld i H' x H'' → H'' = H' ∧ xs[i]? = some x
  stop : ∀ H', Ex H H' → J.stop xs.length H'
section
variable {K : PySem.W.Frag} {H : Hp} {a : Addr} {xs : List V}
theorem st_l (h : SqL K H a xs) : Steady (Itl K a) H xs where
  go := fun i H' e hi => ⟨xs, xs[i], ex_l e h, List.getElem?_eq_getElem hi⟩
  yld := fun i H' x H'' e _ y => ⟨y.1, y.2 xs (ex_l e h)⟩
  stop := fun H' e => ⟨xs, ex_l e h, Nat.le_refl _⟩
theorem st_t (h : SqT K H a xs) : Steady (Itt K a) H xs where
  go := fun i H' e hi => ⟨xs, xs[i], ex_t e h, List.getElem?_eq_getElem hi⟩
  yld := fun i H' x H'' e _ y => ⟨y.1, y.2 xs (ex_t e h)⟩
  stop := fun H' e => ⟨xs, ex_t e h, Nat.le_refl _⟩
def chs (z : Str) : List V := z.cps.toList.map fun c => V.str ⟨#[c]⟩
theorem chs_len (z : Str) : (chs z).length = z.length := by unfold chs; rw [List.length_map, Array.length_toList]; rfl
theorem st_s {z : Str} : Steady (Its z) H (chs z) where
  go := fun i H' e hi => by
    have h2 : (chs z).length = z.cps.size := by unfold chs; simp
    show i < z.cps.size
    omega
  yld := fun i H' x H'' e hi y => by
    obtain ⟨e1, c, hc, rfl⟩ := y
    refine ⟨e1, ?_⟩
    unfold chs
    rw [List.getElem?_map]
    have e2 : z.cps.toList[i]? = some c := by simpa using hc
    rw [e2]
    rfl
  stop := fun H' e => by
    show z.cps.size ≤ (chs z).length
    unfold chs
    simp
theorem st_r {lo : Int} {n : Nat} : Steady (Itr lo n) H ((List.range n).map fun (i : Nat) => V.int (lo + (i : Int))) where
  go := fun i H' e hi => by
    show i < n
    simpa using hi
  yld := fun i H' x H'' e hi y => by
    obtain ⟨e1, rfl⟩ := y
    refine ⟨e1, ?_⟩
    have hi2 : i < n := by simpa using hi
    rw [List.getElem?_map, List.getElem?_range hi2]
    rfl
  stop := fun H' e => by
    show n ≤ _
    simp
end
section
variable {J : It} {H : Hp} {xs : List V} {D : Addr} {σ : L2.St} {vs : List Nat} {j : Nat} {tt : TT} {te : TE} {f : V → Bool} {v : V → V} {Q : Hp → Prop}
theorem take_snoc {α : Type} {l : List α} {i : Nat} {x : α} (h : l[i]? = some x) : l.take (i + 1) = l.take i ++ [x] := by
  rw [List.take_add_one, h]
  rfl
theorem lc_ev (S : Steady J H xs) (hz : xs.length < 100000) (hw : ∀ x, wipe ((wipe σ vs).set j (some x)) vs = wipe σ vs) (hD : H D = none)
    (ht : ∀ x ∈ xs, EvT tt ((wipe σ vs).set j (some x)) H (f x)) (he : ∀ x ∈ xs, f x = true → Ev te ((wipe σ vs).set j (some x)) H (v x))
    (q : ∀ H', Ex H H' → H' D = some (.lst ((xs.filter f).map v)) → Q H') :
    ∃ W : Nat → Nat → Hp → Prop, (∃ m, W 0 m (upd H D (.lst []))) ∧ ∀ i m H, W i m H →
      (J.stop i H ∧ Q H) ∨ (J.go i H ∧ ∃ Nx : Hp → Prop, (∀ H', Nx H' → ∃ m', m' < m ∧ W (i + 1) m' H') ∧ ∀ x H', J.yld i H x H' → gName j x (wipe σ vs) H' fun σ2 H2 => wipe σ2 vs = wipe σ vs ∧ tt σ2 H2 fun b H3 =>
        if b = true then te σ2 H3 fun y H4 => ∃ acc, H4 D = some (.lst acc) ∧ acc.length < sizeLine ∧ Nx (upd H4 D (.lst (acc ++ [y]))) else Nx H3) := by
  refine ⟨fun i m H' => m = xs.length - i ∧ i ≤ xs.length ∧ Ex H H' ∧ H' D = some (.lst (((xs.take i).filter f).map v)), ⟨xs.length, by simp, Nat.zero_le _, Ex.new hD, upd_same⟩, ?_⟩
  rintro i m H' ⟨rfl, hi, e, hd⟩
  by_cases hlt : i < xs.length
  · refine .inr ⟨S.go i H' e hlt, fun H' => Ex H H' ∧ H' D = some (.lst (((xs.take (i + 1)).filter f).map v)), fun H'' p' => ⟨xs.length - (i + 1), by omega, rfl, hlt, p'⟩, fun x H'' y => ?_⟩
    obtain ⟨e1, hx⟩ := S.yld i H' x H'' e hlt y
    subst e1
    have mx : x ∈ xs := List.mem_of_getElem? hx
    refine ⟨hw x, ht x mx _ e _ fun H2 e2 => ?_⟩
    rw [take_snoc hx]
    cases hf : f x with
    | true =>
      refine he x mx hf H2 (e.trans e2) _ fun H3 e3 => ⟨_, e3 _ _ (e2 _ _ hd), ?_, (e.trans e2 |>.trans e3).mut hD, ?_⟩
      · have h1 := List.length_filter_le f (xs.take i)
        rw [List.length_map]
        have h2 : (xs.take i).length ≤ xs.length := by rw [List.length_take]; omega
        exact sz_lt (by omega)
      · rw [upd_same, List.filter_append, List.map_append]
        simp [hf]
    | false =>
      refine ⟨e.trans e2, ?_⟩
      rw [e2 _ _ hd, List.filter_append]
      simp [hf]
  · have e1 : i = xs.length := by omega
    subst e1
    rw [List.take_length] at hd
    exact .inl ⟨S.stop H' e, q H' e hd⟩
/-- {e for x in ..} of texts -/
theorem set_ev {P : Program} {w : World} {u : V → Str} (S : Steady J H xs) (hz : xs.length < 1000) (hw : ∀ x, wipe ((wipe σ vs).set j (some x)) vs = wipe σ vs) (hD : H D = none)
    (he : ∀ x ∈ xs, Ev te ((wipe σ vs).set j (some x)) H (.str (u x)))
    (q : ∀ H' ks, Ex H H' → ks.Nodup → (∀ k, k ∈ ks ↔ k ∈ xs.map u) → H' D = some (SSO P w D ks) → Q H') :
    ∃ W : Nat → Nat → Hp → Prop, (∃ m, W 0 m (upd H D (SSO P w D []))) ∧ ∀ i m H2, W i m H2 → (J.stop i H2 ∧ Q H2) ∨
    (J.go i H2 ∧ ∃ Nx : Hp → Prop, (∀ H', Nx H' → ∃ m', m' < m ∧ W (i + 1) m' H') ∧ ∀ x H', J.yld i H2 x H' → gName j x (wipe σ vs) H' fun σ3 H3 => wipe σ3 vs = wipe σ vs ∧
      tYes σ3 H3 fun b H4 => if b = true then te σ3 H4 fun y H5 => addS P w y D H5 Nx else Nx H4) := by
  refine ⟨fun i m H' => m = xs.length - i ∧ i ≤ xs.length ∧ Ex H H' ∧ ∃ ks, ks.Nodup ∧ ks.length ≤ i ∧ (∀ k, k ∈ ks ↔ k ∈ (xs.take i).map u) ∧ H' D = some (SSO P w D ks), ⟨xs.length, by simp, Nat.zero_le _, Ex.new hD, [], List.nodup_nil, Nat.le_refl _, by simp, upd_same⟩, ?_⟩
  rintro i m H' ⟨rfl, hi, e, ks, nd, hl, hm, hd⟩
  by_cases hlt : i < xs.length
  · refine .inr ⟨S.go i H' e hlt, fun H' => Ex H H' ∧ ∃ ks, ks.Nodup ∧ ks.length ≤ i + 1 ∧ (∀ k, k ∈ ks ↔ k ∈ (xs.take (i + 1)).map u) ∧ H' D = some (SSO P w D ks), fun H'' p' => ⟨xs.length - (i + 1), by omega, rfl, hlt, p'⟩, fun x H'' y => ?_⟩
    obtain ⟨e1, hx⟩ := S.yld i H' x H'' e hlt y
    subst e1
    have mx : x ∈ xs := List.mem_of_getElem? hx
    refine ⟨hw x, ?_⟩
    unfold tYes
    refine he x mx _ e _ fun H3 e3 => ?_
    refine ⟨u x, ks, rfl, e3 _ _ hd, ?_, fun ks' ad => ⟨(e.trans e3).mut hD, ks', ?_, ?_, ?_, upd_same⟩⟩
    · have : (1002 : Nat) ≤ scanBound := by decide
      omega
    · rcases ad with ⟨_, rfl⟩ | ⟨n, p⟩
      · exact nd
      · exact p.nodup_iff.mpr (List.nodup_cons.mpr ⟨n, nd⟩)
    · rcases ad with ⟨_, rfl⟩ | ⟨n, p⟩
      · omega
      · rw [p.length_eq, List.length_cons]; omega
    · intro k
      rw [take_snoc hx, List.map_append, List.mem_append, ← hm k]
      rcases ad with ⟨m, rfl⟩ | ⟨n, p⟩
      · constructor
        · exact fun z => .inl z
        · rintro (z | z)
          · exact z
          · simp at z; rw [z]; exact m
      · rw [p.mem_iff, List.mem_cons]
        constructor
        · rintro (z | z)
          · exact .inr (by simp [z])
          · exact .inl z
        · rintro (z | z)
          · exact .inr z
          · simp at z
            exact .inl z
  · have e1 : i = xs.length := by omega
    subst e1
    rw [List.take_length] at hm
    exact .inl ⟨S.stop H' e, q H' ks e nd hm hd⟩
end
/-- any for loop of n turns -/
theorem for_go {J : It} {n : Nat} {g : TG} {tb : TS} {D : Ends} {σ : L2.St} {H : Hp} (Pv : Nat → L2.St → Hp → Prop) (h0 : Pv 0 σ H) (hgo : ∀ i σ H, i < n → Pv i σ H → J.go i H) (hst : ∀ σ H, Pv n σ H → J.stop n H)
    (hs : ∀ i σ H x H', i < n → Pv i σ H → J.yld i H x H' → g x σ H' fun σ2 H2 => tb { D with nx := Pv (i + 1), ct := Pv (i + 1), bk := D.nx } σ2 H2) (hd : ∀ σ H, Pv n σ H → D.nx σ H) :
    ∃ W : Nat → Nat → L2.St → Hp → Prop, (∃ m, W 0 m σ H) ∧ ∀ i m σ H, W i m σ H →
      (J.stop i H ∧ D.nx σ H) ∨ (J.go i H ∧ ∃ N : L2.St → Hp → Prop, (∀ σ' H', N σ' H' → ∃ m', m' < m ∧ W (i + 1) m' σ' H') ∧ ∀ x H', J.yld i H x H' → g x σ H' fun σ2 H2 => tb { D with nx := N, ct := N, bk := D.nx } σ2 H2) := by
  refine ⟨fun i m σ H => m = n - i ∧ i ≤ n ∧ Pv i σ H, ⟨n, by simp, Nat.zero_le _, h0⟩, ?_⟩
  rintro i m σ H ⟨rfl, hi, p⟩
  by_cases hlt : i < n
  · refine .inr ⟨hgo i σ H hlt p, Pv (i + 1), fun σ' H' p' => ⟨n - (i + 1), by omega, rfl, hlt, p'⟩, fun x H' y => hs i σ H x H' hlt p y⟩
  · have e : i = n := by omega
    subst e
    exact .inl ⟨hst σ H p, hd σ H p⟩
end WW
namespace WW
open PySem PySem.Spec PyProof.Rows L2 Evl
/-- whatever is laid behind H, enumerate gives xs -/
structure EnumS (J : It) (H : Hp) (xs : List V) : Prop where
  go : ∀ i H', Ex H H' → i < xs.length → J.go i H'
  yld : ∀ i H' v H'', Ex H H' → i < xs.length → J.yld i H' v H'' → ∃ T x, v = .ref T ∧ H' T = none ∧ H'' = upd H' T (.tup [.int (i : Nat), x]) ∧ xs[i]? = some x
  stop : ∀ H', Ex H H' → J.stop xs.length H'
section
variable {K : PySem.W.Frag} {H : Hp} {a : Addr} {xs : List V}
theorem en_l (h : SqL K H a xs) : EnumS (Ite K a) H xs where
  go := fun i H' e hi => ⟨xs, xs[i], ex_l e h, List.getElem?_eq_getElem hi⟩
  yld := fun i H' v H'' e _ ⟨T, x, e1, e2, e3, e4⟩ => ⟨T, x, e1, e2, e3, e4 xs (ex_l e h)⟩
  stop := fun H' e => ⟨xs, ex_l e h, Nat.le_refl _⟩
theorem en_t (h : SqT K H a xs) : EnumS (IteT K a) H xs where
  go := fun i H' e hi => ⟨xs, xs[i], ex_t e h, List.getElem?_eq_getElem hi⟩
  yld := fun i H' v H'' e _ ⟨T, x, e1, e2, e3, e4⟩ => ⟨T, x, e1, e2, e3, e4 xs (ex_t e h)⟩
  stop := fun H' e => ⟨xs, ex_t e h, rfl⟩
/-- a list or a tuple -/
def SqX (H : Hp) (a : Addr) (xs : List V) : Prop := H a = some (.lst xs) ∨ H a = some (.tup xs)
theorem SqX.ex {H H' : Hp} (e : Ex H H') (h : SqX H a xs) : SqX H' a xs := h.imp (e _ _) (e _ _)
theorem ienum_go {σ : L2.St} {i : Nat} {R : It → Hp → Prop} (h : σ[i]? = some (some (.ref a))) (hx : SqX H a xs) (k : ∀ J, EnumS J H xs → R J H) : iOr (iEnum K (tCons (tVar i) tNil)) (iEnumT K (tCons (tVar i) tNil)) σ H R := by
  rcases hx with hx | hx
  · exact .inl ⟨_, h, a, xs, rfl, sq_of hx, k _ (en_l (sq_of hx))⟩
  · exact .inr ⟨_, h, a, xs, rfl, st_of hx, k _ (en_t (st_of hx))⟩
theorem iseq_go {σ : L2.St} {i : Nat} {R : It → Hp → Prop} (h : σ[i]? = some (some (.ref a))) (hx : SqX H a xs) (k : ∀ J, Steady J H xs → R J H) : iOr (iList K (tVar i)) (iTup K (tVar i)) σ H R := by
  rcases hx with hx | hx
  · exact .inl ⟨_, h, a, rfl, ⟨xs, sq_of hx⟩, k _ (st_l (sq_of hx))⟩
  · exact .inr ⟨_, h, a, rfl, ⟨xs, st_of hx⟩, k _ (st_t (st_of hx))⟩
theorem cut_take (xs : List V) (i : Nat) : cutV xs none (some (i : Int)) = xs.take i := by
  unfold cutV
  rw [HT.sIx_none, HT.sIx_nat]
  simp
theorem cut_drop (xs : List V) (i : Nat) : cutV xs (some (i : Int)) none = xs.drop i := by
  unfold cutV
  rw [HT.sIx_none, HT.sIx_nat]
  rcases Nat.le_total i xs.length with h | h
  · rw [Nat.min_eq_left h, List.take_of_length_le (by rw [List.length_drop]; omega)]
  · rw [Nat.min_eq_right h, List.drop_of_length_le h]
    simp
/-- xs[:i] -/
theorem slx_take {i : Nat} {Q : VK} (hx : SqX H a xs) (hi : i ≤ xs.length) (k : ∀ p H', Ex H H' → SqX H' p (xs.take i) → Q (.ref p) H') : rSlL K (.ref a) none (some (i : Int)) H Q ∨ rSlA K (.ref a) none (some (i : Int)) H Q := by
  rcases hx with hx | hx
  · exact .inl ⟨a, xs, rfl, sq_of hx, fun p hp => k p _ (Ex.new hp) (by rw [cut_take]; exact .inl upd_same)⟩
  · refine .inr ⟨a, xs, rfl, st_of hx, fun ⟨_, h2⟩ => k a H (Ex.refl _) (.inr ?_), fun _ p hp => k p _ (Ex.new hp) (by rw [cut_take]; exact .inr upd_same)⟩
    rw [HT.sIx_nat] at h2
    have e : xs.take i = xs := List.take_of_length_le (by omega)
    rw [e]
    exact hx
theorem tupof_go {Q : VK} (hx : SqX H a xs) (k : ∀ tp H', Ex H H' → H' tp = some (.tup xs) → Q (.ref tp) H') : rTupOf K [.ref a] H Q := by
  rcases hx with hx | hx
  · exact ⟨a, xs, rfl, .inl ⟨sq_of hx, fun l hl => k l _ (Ex.new hl) upd_same⟩⟩
  · exact ⟨a, xs, rfl, .inr ⟨st_of hx, k a H (Ex.refl _) hx⟩⟩
theorem listof_go {Q : VK} (hx : SqX H a xs) (k : ∀ l H', Ex H H' → H l = none → H' l = some (.lst xs) → Q (.ref l) H') : rListOf K [.ref a] H Q :=
  ⟨a, xs, rfl, hx.imp sq_of st_of, fun l hl => k l _ (Ex.new hl) hl upd_same⟩
theorem putF_le {f : Str} {y : V} : ∀ fs : List (Str × V), (putF f y fs).length ≤ fs.length + 1
  | [] => by show 1 ≤ 1; omega
  | (g, z) :: r => by
    have ih := putF_le (f := f) (y := y) r
    unfold putF
    split
    · simp
    · simp; omega
end
end WW

set_option Elab.async false
set_option linter.all false
set_option maxRecDepth 100000
set_option maxHeartbeats 4000000
/-! set(xs), xs a list of texts. -/
namespace WW
open PySem PySem.Spec PyProof.Rows L2

section
variable {P : Program} {w : World} {κ : Type} [DecidableEq κ] {knd : PySem.KeyKind P w κ} {A : Around} {E : Value → Shared → Prop} {s : Shared}
theorem added_take {xs ks ks' : List κ} {i : Nat} {x : κ} (hx : xs[i]? = some x) (m : ∀ k, k ∈ ks ↔ k ∈ xs.take i) (l : ks.length ≤ i) (h : Added ks x ks') : ks'.length ≤ i + 1 ∧ ∀ k, k ∈ ks' ↔ k ∈ xs.take (i + 1) := by
  have et : xs.take (i + 1) = xs.take i ++ [x] := by rw [List.take_add_one, hx]; rfl
  rcases h with ⟨h1, rfl⟩ | ⟨h1, h2⟩
  · refine ⟨by omega, fun k => ?_⟩
    rw [et, List.mem_append, List.mem_singleton, ← m k]
    exact ⟨.inl, fun z => z.elim id fun e => e ▸ h1⟩
  · refine ⟨by rw [h2.length_eq, List.length_cons]; omega, fun k => ?_⟩
    rw [et, List.mem_append, List.mem_singleton, ← m k, h2.mem_iff, List.mem_cons]
    exact ⟨fun z => z.elim .inr .inl, fun z => z.elim .inr .inl⟩
/-- the walk of set(..) over things that are keys -/
theorem setw_loop {I : Addr} {fp wr : List Addr} {G : Array GenState → Array GenState → Prop} {n : Nat} {Pv : Nat → Value → Prop} {St : Nat → Shared → Prop} {R : Result → Shared → Prop}
    (W : WalksS P w A.in1 I fp wr G n Pv St) (S : Addr) (away : S ∉ fp) (xs : List κ) (hn : xs.length = n) (hb : n + 1 < scanBound) (val : ∀ i v, Pv i v → ∃ x, xs[i]? = some x ∧ knd.is x v = true ∧ v.scannable = true) :
    ∀ (k i : Nat) (s : Shared) (ks : List κ), n - i = k → i ≤ n → St i s → SetW knd s.heap S ks → ks.length ≤ i → (∀ x, x ∈ ks ↔ x ∈ xs.take i) →
      (∀ s' ls, Moved (S :: wr) G s s' → SetW knd s'.heap S ls → (∀ x, x ∈ ls ↔ x ∈ xs) → R (.ok (.ret .none)) s') → codeAny (model P w) A (.builtin "set.update.loop" ⟨[.ref S, .ref I], []⟩) R s := by
  have off : S ∉ wr := fun z => away (W.sub S z)
  have more : ∀ b ∈ wr, b ∈ S :: wr := fun b z => List.mem_cons_of_mem S z
  intro k
  induction k with
  | zero =>
    intro i s ks hk hi st hS hl hm fin
    obtain rfl : i = n := by omega
    refine codeAny_builtin F.entry_set_update_loop ?_; rw [Around.under_plainId F.plain_set_update_loop _]
    show wpAny _ A.in1 (pyNext (Value.ref I) >>= _) _ _ s
    refine wpAny_bind (W.done s _ _ st fun s1 mv => ?_); show wpAny _ A.in1 (ret Value.none) _ _ s1
    exact wpAny_pure (fin s1 ks (mv.mono more) (hS.here fun o e => mv.heap S o off e) fun x => by rw [hm x, ← hn, List.take_length])
  | succ k ih =>
    intro i s ks hk hi st hS hl hm fin
    have lt : i < n := by omega
    refine codeAny_builtin F.entry_set_update_loop ?_; rw [Around.under_plainId F.plain_set_update_loop _]
    show wpAny _ A.in1 (pyNext (Value.ref I) >>= _) _ _ s
    refine wpAny_bind (W.item i s _ _ lt st fun v s1 hv st1 mv => ?_)
    obtain ⟨x, hx, k1, k2⟩ := val i v hv
    have S1 : SetW knd s1.heap S ks := hS.here fun o e => mv.heap S o off e
    show wpAny _ A.in1 (holding [v] (setAdd S v) >>= _) _ _ s1
    refine wpAny_bind (wpAny_holding ?_); unfold setAdd
    refine wpAny_holding (wpAny_bind (knd.pyHash k1 ?_))
    refine setw_addHashed (s := { s1 with toks := s1.toks + 1 }) k1 k2 S1 (by omega) fun b h' ks' sb S2 ad => ?_
    obtain ⟨l2, m2⟩ := added_take hx hm hl ad
    refine wpAny_pure ⟨plainId_quiet F.plain_set_update_loop _, ih (i + 1) _ ks' (by omega) lt (W.frame _ s1 _ _ st1 (Nat.le_succ _) fun c hc o e => ?_) S2 l2 m2 fun s2 ls mv2 S3 m3 => ?_⟩
    · exact (sb.2 c (fun z : c = S => away (z ▸ hc))).trans e
    · refine fin s2 ls (Moved.trans W.gtrans ((mv.mono more).then_heap (Nat.le_succ _) fun c o hc e => ?_) mv2) S3 m3
      exact (sb.2 c (fun z : c = S => hc (z ▸ List.mem_cons_self))).trans e
end

section
variable {P : Program} {w : World} {κ : Type} [DecidableEq κ] {knd : PySem.KeyKind P w κ} {A : Around} {E : Value → Shared → Prop} {s : Shared}
/-- a set object with nothing in it -/
abbrev noneIn (w : World) : Obj := { cls := .type "set", dict := none, data := .set #[] 0 (.fresh 0 0 (!w.params.followText "set-order")) }
theorem setw_none {h : Heap} {a : Addr} (e : h.get? a = some (noneIn w)) : SetW knd h a [] :=
  ⟨_, #[], 0, _, e, ⟨rfl, rfl, rfl⟩, rfl, List.nodup_nil, .nil, (by decide), (by rfl), List.Pairwise.nil, by
    show _ ∨ (!w.params.followText "set-order") = true
    cases w.params.followText "set-order" <;> simp⟩
theorem setw_of_list {l : Addr} {items : Array Value} (xs : List κ) {Q : Value → Shared → Prop} (hh : A.handled = none) (hl : s.heap.IsList l items) (hn : xs.length = items.size) (hb : items.size + 1 < scanBound)
    (hit : ∀ (i : Nat) v, items[i]? = some v → ∃ x, xs[i]? = some x ∧ knd.is x v = true ∧ v.scannable = true)
    (q : ∀ (h' : Heap) (tk : Nat) ks, SetW knd h' s.heap.objs.size ks → (∀ x, x ∈ ks ↔ x ∈ xs) → (∀ b o, s.heap.get? b = some o → h'.get? b = some o) → Q (.ref s.heap.objs.size) { s with heap := h', toks := tk }) :
    wpAny (model P w) A (call (.type "set") [.ref l]) Q E s := by
  obtain ⟨cc, cr, mro⟩ := F.called_set.mro
  have mde := F.called_set.made; have sbb := F.called_set.sub
  refine wpAny_call (codeAny_of_tree ?_); show wpAny _ _ (callAny (Value.type "set") _) _ _ _
  refine wpAny_pure ⟨Code.quiet_builtin _ (by decide +kernel), codeAny_builtin F.entry_type_call ?_⟩; rw [Around.under_plain (weight_type_call_type "set" [Value.ref l] []) rfl]
  have nty := F.called_set.notType; have ccr := F.called_set.canCreate
  have tcl := F.typeCall_set_1 (Value.ref l)
  repeat (any_goals (first | wp_step | assumption))
  refine codeAny_mono (code_set_led1 (Value.ref l) (E := E) (Q₁ := fun ob s1 => ob = .ref s.heap.objs.size ∧ s1 = { s with heap := s.heap.push (noneIn w) }) ⟨rfl, rfl⟩) fun r s1 hr => ?_
  cases r with
  | error e => exact hr
  | ok fl =>
    cases fl with
    | ret ob =>
      obtain ⟨rfl, rfl⟩ := hr
      have at1 : (s.heap.push (noneIn w)).get? s.heap.objs.size = some (noneIn w) := Heap.get?_push_size _ rfl
      have ty1 : Shared.TypeIs { s with heap := s.heap.push (noneIn w) } (.ref s.heap.objs.size) "set" := ⟨_, at1, rfl⟩
      have ilk := F.called_set.init.lookup; have ibd := F.called_set.init.bind (.ref s.heap.objs.size)
      repeat (any_goals (first | wp_step | assumption))
      refine codeAny_mono (codeAny_call_builtin (R := wants (fun r s2 => r = .none ∧ ∃ h' tk ks, s2 = { s with heap := h', toks := tk } ∧ SetW knd h' s.heap.objs.size ks ∧ (∀ x, x ∈ ks ↔ x ∈ xs) ∧ ∀ b o, s.heap.get? b = some o → h'.get? b = some o) E) F.called_set.init.plain F.entry_set_init (check_set_init_1 ty1 ?_)) fun r2 s2 hr2 => ?_
      · obtain ⟨⟨cl1, dc1, da1, sl1⟩, ho1, hc1, nn1, hd1⟩ := hl
        simp only at hc1 hd1; subst hc1; subst hd1
        have ho2 : (s.heap.push (noneIn w)).get? l = some { cls := .type "list", dict := dc1, data := .seq items nn1, slots := sl1 } := Heap.get?_push_of_some _ ho1
        have nls := F.sub_list_set; have nlf := F.sub_list_frozenset
        have nld : (Value.type "list" == Value.type "dict") = false := by decide
        have il1 : (s.heap.push (noneIn w)).IsList l items := ⟨_, ho2, rfl, nn1, rfl⟩
        unfold Builtin.«set.__init__» noKeywords Builtin.Frozenset.updateFrom; generalize hgen : pyIter = itf
        wp_walk
        subst hgen
        refine wpAny_pyIter_list il1 (wpAny_bind (wpAny_runValue ?_))
        have ls : l < s.heap.objs.size := Heap.lt_size ho1
        have sz1 : (s.heap.push (noneIn w)).objs.size = s.heap.objs.size + 1 := Heap.size_push ..
        have han : A.in1.in1.in1.handled = none := by simp only [hh, Around.in1]
        have ne1 : l ≠ (s.heap.push (noneIn w)).objs.size := by rw [sz1]; exact Nat.ne_of_lt (Nat.lt_succ_of_lt ls)
        have away : s.heap.objs.size ∉ [(s.heap.push (noneIn w)).objs.size, l] := by
          rw [sz1]
          intro z
          rcases List.mem_cons.mp z with z | z
          · exact Nat.ne_of_lt (Nat.lt_succ_self _) z
          · exact Nat.ne_of_gt ls (List.mem_singleton.mp z)
        refine setw_loop (knd := knd) ((Walks.list han _ l ne1 items).toS) s.heap.objs.size away xs hn hb hit (items.size - 0) 0 _ [] (by omega) (Nat.zero_le _) ⟨⟨_, Heap.get?_push_size _ rfl, rfl, rfl⟩, (il1.push _)⟩
          (setw_none (Heap.get?_push_of_some _ at1)) (Nat.le_refl 0) (fun x => by simp) fun s3 ks mv S3 m3 => ?_
        obtain ⟨h3, g3, d3, t3, o3⟩ := s3
        obtain rfl : g3 = s.gens := mv.gens
        obtain rfl : d3 = s.drawn := mv.drawn
        obtain rfl : o3 = s.os := mv.os
        show wpAny _ _ _ _ _ _
        refine wpAny_pure ?_; show wpAny _ _ (ret Value.none) _ _ _
        refine wpAny_pure ⟨rfl, h3, t3, ks, rfl, S3, m3, fun b o e => mv.heap b o (fun z => ?_) (Heap.get?_push_of_some _ (Heap.get?_push_of_some _ e))⟩
        have lb := Heap.lt_size e
        rcases List.mem_cons.mp z with z | z
        · exact Nat.ne_of_lt lb z
        · have z2 := List.mem_singleton.mp z
          rw [sz1] at z2
          exact Nat.ne_of_lt (Nat.lt_succ_of_lt lb) z2
      · cases r2 with
        | error e => exact hr2
        | ok fl2 =>
          cases fl2 with
          | ret r =>
            obtain ⟨rfl, h3, t3, ks, rfl, S3, m3, k3⟩ := hr2
            repeat (any_goals (first | wp_step | assumption))
            exact q h3 t3 ks S3 m3 k3
          | _ => exact hr2.elim
    | _ => exact hr.elim
end
section
variable {X : Cx}
/-- set(xs), xs a list of texts -/
def rSetOfS (K : PySem.W.Frag) (P : Program) (w : World) : List V → Hp → VK → Prop := fun vs H Q => ∃ (l : Addr) (zs : List Str), vs = [V.ref l] ∧ SqL K H l (zs.map V.str) ∧ zs.length + 1 < scanBound ∧
  ∀ a ks, H a = none → ks.Nodup → (∀ x, x ∈ ks ↔ x ∈ zs) → Q (.ref a) (upd H a (SSO P w a ks))
theorem cr_setOfS (hc : X.calm = true) : CallR X (.type "set") (rSetOfS X.K X.prog X.w) := by
  intro pins s σ H xs us Q I r h
  obtain ⟨l, zs, rfl, hl, hb, q⟩ := h
  rw [Vals.ref1 r]
  obtain ⟨its, rv, pl, hz⟩ := I.list hl
  have free : H s.heap.objs.size = none := I.hok.fresh (Nat.le_refl _)
  have le : zs.length = its.toArray.size := by rw [List.size_toArray, ← rv.length, List.length_map]
  have sa : StrsAre its zs := by
    clear pl hl hz le q hb
    induction zs generalizing its with
    | nil => cases rv; exact .nil
    | cons z zs ih =>
      cases rv with
      | cons r1 r2 =>
        obtain ⟨t, rfl⟩ := r1
        exact .cons z t (ih _ r2)
  refine setw_of_list (knd := PySem.strKind X.prog X.w) zs (I.ok.hd hc) pl.isList le (by rw [← le]; exact hb) (fun i v hv => ?_) fun h' tk ks R m k => ?_
  · have hv2 : its[i]? = some v := by simpa using hv
    have li : i < zs.length := by
      have := (List.getElem?_eq_some_iff.mp hv2).1
      rw [le, List.size_toArray]
      exact this
    obtain ⟨t, rfl⟩ := SS.strs_at sa i v hv2
    refine ⟨zs.getD i Str.empty, ?_, strKind_is _ _ _ _, rfl⟩
    rw [List.getD_eq_getElem?_getD, List.getElem?_eq_getElem li]
    rfl
  · have nd : ks.Nodup := by
      obtain ⟨_, _, _, _, _, _, _, nd, _⟩ := R
      exact nd
    exact ⟨.ref s.heap.objs.size, upd H s.heap.objs.size (SSO X.prog X.w s.heap.objs.size ks), I.laid (t' := tk) k (Nat.le_refl _) (sso_new R), rfl, q _ ks free nd m⟩
end
end WW

set_option Elab.async false
set_option linter.all false
set_option maxRecDepth 100000
set_option maxHeartbeats 4000000
/-! Plain values of any kind, and what isinstance says of them. -/
namespace WW
open PySem PySem.Spec PyProof.Rows L2 Evl
inductive Pl (H : Hp) : V → Prop
  | non : Pl H .non
  | bl (b : Bool) : Pl H (.bl b)
  | int (i : Int) : Pl H (.int i)
  | str (z : Str) : Pl H (.str z)
  | lst {a : Addr} {xs : List V} (h : H a = some (.lst xs)) : Pl H (.ref a)
  | tup {a : Addr} {xs : List V} (h : H a = some (.tup xs)) : Pl H (.ref a)
  | dct {a : Addr} {kvs : List (Key × V)} (h : H a = some (.dK kvs)) : Pl H (.ref a)
def isI : V → Bool | .int _ => true | _ => false
def isB : V → Bool | .bl _ => true | _ => false
def isS : V → Bool | .str _ => true | _ => false
def isLo : Option HO → Bool | some (.lst _) => true | _ => false
def isTo : Option HO → Bool | some (.tup _) => true | _ => false
def isL (H : Hp) : V → Bool | .ref a => isLo (H a) | _ => false
def isT (H : Hp) : V → Bool | .ref a => isTo (H a) | _ => false
/-- v is of the type t, of which isinstance says .. -/
structure Kin (K : PySem.W.Frag) (H : Hp) (v : V) (t : Value) : Prop where
  ty : TyX K H v t
  int : PySem.W.kitOne K t (.type "int") = some (isI v || isB v)
  bool : PySem.W.kitOne K t (.type "bool") = some (isB v)
  str : PySem.W.kitOne K t (.type "str") = some (isS v)
  list : PySem.W.kitOne K t (.type "list") = some (isL H v)
  tuple : PySem.W.kitOne K t (.type "tuple") = some (isT H v)
theorem isL_at {H : Hp} {a : Addr} {o : HO} (h : H a = some o) : isL H (.ref a) = isLo (some o) := by rw [← h]; rfl
theorem isT_at {H : Hp} {a : Addr} {o : HO} (h : H a = some o) : isT H (.ref a) = isTo (some o) := by rw [← h]; rfl
theorem Pl.kin {K : PySem.W.Frag} {H : Hp} {v : V} (h : Pl H v) : ∃ t, Kin K H v t := by
  cases h with
  | non => exact ⟨.type "NoneType", .base .non, kit_ty (r := false) (by decide +kernel), kit_ty (r := false) (by decide +kernel), kit_ty (r := false) (by decide +kernel), kit_ty (r := false) (by decide +kernel), kit_ty (r := false) (by decide +kernel)⟩
  | bl b => exact ⟨.type "bool", .base (.bl b), kit_ty (r := true) (by decide +kernel), kit_ty (r := true) (by decide +kernel), kit_ty (r := false) (by decide +kernel), kit_ty (r := false) (by decide +kernel), kit_ty (r := false) (by decide +kernel)⟩
  | int i => exact ⟨.type "int", .base (.int i), kit_ty (r := true) (by decide +kernel), kit_ty (r := false) (by decide +kernel), kit_ty (r := false) (by decide +kernel), kit_ty (r := false) (by decide +kernel), kit_ty (r := false) (by decide +kernel)⟩
  | str z => exact ⟨.type "str", .base (.str z), kit_ty (r := false) (by decide +kernel), kit_ty (r := false) (by decide +kernel), kit_ty (r := true) (by decide +kernel), kit_ty (r := false) (by decide +kernel), kit_ty (r := false) (by decide +kernel)⟩
  | lst h => exact ⟨.type "list", .base (.lst h), kit_ty (r := false) (by decide +kernel), kit_ty (r := false) (by decide +kernel), kit_ty (r := false) (by decide +kernel), (isL_at h : isL H _ = true) ▸ kit_ty (r := true) (by decide +kernel), (isT_at h : isT H _ = false) ▸ kit_ty (r := false) (by decide +kernel)⟩
  | tup h => exact ⟨.type "tuple", .base (.tup h), kit_ty (r := false) (by decide +kernel), kit_ty (r := false) (by decide +kernel), kit_ty (r := false) (by decide +kernel), (isL_at h : isL H _ = false) ▸ kit_ty (r := false) (by decide +kernel), (isT_at h : isT H _ = true) ▸ kit_ty (r := true) (by decide +kernel)⟩
  | dct h => exact ⟨.type "dict", .base (.dK h), kit_ty (r := false) (by decide +kernel), kit_ty (r := false) (by decide +kernel), kit_ty (r := false) (by decide +kernel), (isL_at h : isL H _ = false) ▸ kit_ty (r := false) (by decide +kernel), (isT_at h : isT H _ = false) ▸ kit_ty (r := false) (by decide +kernel)⟩
theorem Pl.ex {H H' : Hp} {v : V} (e : Ex H H') (h : Pl H v) : Pl H' v := by
  cases h with
  | non => exact .non
  | bl b => exact .bl b
  | int i => exact .int i
  | str z => exact .str z
  | lst h => exact .lst (e _ _ h)
  | tup h => exact .tup (e _ _ h)
  | dct h => exact .dct (e _ _ h)
end WW

set_option Elab.async false
set_option linter.all false
set_option maxRecDepth 100000
set_option maxHeartbeats 4000000
namespace WK
open PySem PySem.Spec PyProof.Rows L2 WW Evl
def top (i : Nat) : Stmt := PySem.Challenge.pw_watchedworks_k20_instruments_and_their_a.main.body.getD i (.Pass ⟨0, 0, 0, 0⟩)
/-- the built-in names that the program doesn't take -/
structure Gz (mg : Str → Option Value) : Prop where
  g_len : mg "len" = none
  g_isinstance : mg "isinstance" = none
  g_int : mg "int" = none
  g_bool : mg "bool" = none
  g_str : mg "str" = none
  g_list : mg "list" = none
  g_tuple : mg "tuple" = none
  g_all : mg "all" = none
  g_abs : mg "abs" = none
  g_max : mg "max" = none
  g_sorted : mg "sorted" = none
  g_range : mg "range" = none
  g_enumerate : mg "enumerate" = none
  g_set : mg "set" = none
  g_dict : mg "dict" = none
/-- a def of the module's -/
structure Df (K : PySem.W.Frag) (mg : Str → Option Value) (x : Str) (st : Stmt) (f : Addr) (fd : FuncData) (ps : List Str) : Prop where
  fn : FunD K x x (defArgs st) (defBody st) (defScope st) [] [] f fd
  at_ : mg x = some (.ref f)
  bd : Binds K fd ps []
theorem Df.callee {P : Program} {w : World} {K : PySem.W.Frag} {mg : Str → Option Value} {base : Heap} {CX : CXT} {k : Nat} {x : Str} {st : Stmt} {f : Addr} {fd : FuncData} {ps : List Str} {sp : Sp} (D : Df K mg x st f fd ps) (ok : FnOk P w K mg base CX k f fd ps sp) : Callee P w K mg base CX k x ps.length sp :=
  ⟨f, fd, ps, rfl, ok, D.at_, D.fn.kp, D.bd⟩
def IsNm (z : Str) : Prop := 1 ≤ z.length ∧ z.length ≤ 10 ∧ ∀ c ∈ z.cps.toList, 97 ≤ c ∧ c ≤ 122
/-- room for a dict -/
theorem room1 {k : Nat} {A : Around} (r : Room k A) : A.units + 1 < cLine := by have := r.un; omega
section
variable {P : Program} {w : World} {K : PySem.W.Frag} {mg : Str → Option Value} {base : Heap} {f : Addr} {fd : FuncData}
theorem not_both {v : V} (h : isI v = true) : isB v = false := by
  cases v <;> first | rfl | exact nomatch (show false = true from h)
abbrev s_is_integer : Stmt := top 9
theorem sc_is_integer : FnScope ["thing"] ["thing"] (defScope s_is_integer) := ⟨rfl, rfl, rfl, by decide +kernel, rfl, by decide +kernel, by decide +kernel⟩
def spIsIntegerG : Sp := fun vs H Q _ => ∃ v, vs = [v] ∧ Pl H v ∧ ∀ H', Ex H H' → Q (.bl (isI v)) H'
theorem okg_is_integer (G : Gz mg) (D : Df K mg "is_integer" s_is_integer f fd ["thing"]) : Callee P w K mg base CXn 1 "is_integer" 1 spIsIntegerG := by
  refine D.callee (D.fn.ok sc_is_integer (fun vs H Q E h => ?_) (fun cdv A outer s H vs Q E hr h => ⟨_, PSs.nox (pss_one (ps_ret (L2.pe_and (pe_callB (isiK (K := K) rfl) rfl G.g_isinstance (by rfl) (pa_cons (pv 0) (pa_cons (pe_bltn (v := .ty "int") rfl G.g_int (by rfl) rfl) pa_nil))) (pe_one (pe_not (pe_callB (isiK (K := K) rfl) rfl G.g_isinstance (by rfl) (pa_cons (pv 0) (pa_cons (pe_bltn (v := .ty "bool") rfl G.g_bool (by rfl) rfl) pa_nil)))))))), ?_⟩))
  · obtain ⟨i, rfl, _⟩ := h
    rfl
  · obtain ⟨v, rfl, hv, k⟩ := h
    obtain ⟨t, g⟩ := hv.kin (K := K)
    have q := k H (Ex.refl _)
    refine ⟨_, rfl, v, .ty "int", t, .type "int", isI v || isB v, rfl, .ty _, g.ty, g.int, isI v || isB v, rfl, ?_⟩
    cases hi : isI v with
    | true =>
      have hb := not_both hi
      rw [hi] at q
      exact ⟨_, rfl, v, .ty "bool", t, .type "bool", false, rfl, .ty _, g.ty, hb ▸ g.bool, false, rfl, q⟩
    | false =>
      rw [hi] at q
      cases hb : isB v with
      | true => exact ⟨_, rfl, v, .ty "bool", t, .type "bool", true, rfl, .ty _, g.ty, hb ▸ g.bool, true, rfl, q⟩
      | false => exact q
abbrev s_is_row : Stmt := top 10
theorem sc_is_row : FnScope ["thing"] ["thing"] (defScope s_is_row) := ⟨rfl, rfl, rfl, by decide +kernel, rfl, by decide +kernel, by decide +kernel⟩
def spIsRowG : Sp := fun vs H Q _ => ∃ v, vs = [v] ∧ Pl H v ∧ ∀ H', Ex H H' → Q (.bl (isL H v || isT H v)) H'
theorem okg_is_row (G : Gz mg) (D : Df K mg "is_row" s_is_row f fd ["thing"]) : Callee P w K mg base CXn 1 "is_row" 1 spIsRowG := by
  refine D.callee (D.fn.ok sc_is_row (fun vs H Q E h => ?_) (fun cdv A outer s H vs Q E hr h => ⟨_, PSs.nox (pss_one (ps_ret (pe_callB call_isiT rfl G.g_isinstance (by rfl) (pa_cons (pv 0) (pa_cons (pe_tup (pa_cons (pe_bltn (v := .ty "list") rfl G.g_list (by rfl) rfl) (pa_cons (pe_bltn (v := .ty "tuple") rfl G.g_tuple (by rfl) rfl) pa_nil))) pa_nil))))), ?_⟩))
  · obtain ⟨i, rfl, _⟩ := h
    rfl
  · obtain ⟨v, rfl, hv, k⟩ := h
    refine ⟨_, rfl, (by decide), fun p hp => ?_⟩
    have e1 : Ex H (upd H p (.tup [.ty "list", .ty "tuple"])) := Ex.new hp
    obtain ⟨t, g⟩ := (hv.ex e1).kin (K := K)
    have q := k _ e1
    have same : isL (upd H p (.tup [.ty "list", .ty "tuple"])) v = isL H v ∧ isT (upd H p (.tup [.ty "list", .ty "tuple"])) v = isT H v := by
      cases hv with
      | lst h => exact ⟨(isL_at (e1 _ _ h)).trans (isL_at h).symm, (isT_at (e1 _ _ h)).trans (isT_at h).symm⟩
      | tup h => exact ⟨(isL_at (e1 _ _ h)).trans (isL_at h).symm, (isT_at (e1 _ _ h)).trans (isT_at h).symm⟩
      | dct h => exact ⟨(isL_at (e1 _ _ h)).trans (isL_at h).symm, (isT_at (e1 _ _ h)).trans (isT_at h).symm⟩
      | _ => exact ⟨rfl, rfl⟩
    rw [← same.1, ← same.2] at q
    exact ⟨v, p, _, t, [.type "list", .type "tuple"], _, rfl, upd_same, .cons (.ty _) (.cons (.ty _) .nil), g.ty,
      kitAny_cons g.list (fun z => by rw [z]; exact kitAny_cons g.tuple (fun z2 => by rw [z2]; rfl) (fun z2 => by rw [z2]; rfl)) (fun z => by rw [z]; rfl), q⟩
/-- how many items the row v has -/
def rlo : Option HO → Option Nat | some (.lst xs) => some xs.length | some (.tup xs) => some xs.length | _ => none
def rlen (H : Hp) : V → Option Nat | .ref a => rlo (H a) | _ => none
theorem rlen_at {H : Hp} {a : Addr} {o : HO} (h : H a = some o) : rlen H (.ref a) = rlo (some o) := by rw [← h]; rfl
def rowB (H : Hp) (v : V) (l m : Int) : Bool := match rlen H v with
  | some n => decide (l ≤ (n : Int)) && decide ((n : Int) ≤ m)
  | none => false
abbrev s_is_row_of : Stmt := top 11
theorem sc_is_row_of : FnScope ["thing", "least", "most"] ["thing", "least", "most"] (defScope s_is_row_of) := ⟨rfl, rfl, rfl, by decide +kernel, rfl, by decide +kernel, by decide +kernel⟩
def spIsRowOfG : Sp := fun vs H Q _ => ∃ v l m, vs = [v, .int l, .int m] ∧ Pl H v ∧ ∀ H', Ex H H' → Q (.bl (rowB H v l m)) H'
theorem okg_is_row_of (G : Gz mg) (D : Df K mg "is_row_of" s_is_row_of f fd ["thing", "least", "most"]) (c_is_row : Callee P w K mg base CXn 1 "is_row" 1 spIsRowG) : Callee P w K mg base CXn 2 "is_row_of" 3 spIsRowOfG := by
  refine D.callee (D.fn.ok sc_is_row_of (fun vs H Q E h => ?_) (fun cdv A outer s H vs Q E hr h => ⟨_, PSs.nox (pss_one (ps_ret (L2.pe_and (pe_cl (E := En) c_is_row (hr.mono (by decide)) rfl passN (pa_cons (pv 0) pa_nil)) (pe_one (pe_chain op_le op_le (pv 1) (pe_callB (lenK (K := K) rfl) rfl G.g_len PySem.boot_len (pa_cons (pv 0) pa_nil)) (pv 2)))))), ?_⟩))
  · obtain ⟨i, _, _, rfl, _⟩ := h
    rfl
  · obtain ⟨v, l, m, rfl, hv, k⟩ := h
    refine ⟨_, rfl, v, rfl, hv, fun H1 e1 => ⟨_, rfl, ?_⟩⟩
    have q := k H1 e1
    cases hv with
    | lst h =>
      rename_i a xs
      have e : rowB H (.ref a) l m = (decide (l ≤ (xs.length : Int)) && decide ((xs.length : Int) ≤ m)) := by unfold rowB; rw [rlen_at h]; rfl
      rw [e] at q
      rw [show (isL H (.ref a) || isT H (.ref a)) = true by rw [show isL H (.ref a) = true from isL_at h]; rfl]
      have hx1 : LenV K (.ref a) H1 xs.length := .inl ⟨xs, sq_of (e1 _ _ h), rfl⟩
      refine ⟨_, rfl, _, rfl, _, _, rfl, hx1, l, _, rfl, rfl, decide (l ≤ (xs.length : Int)), rfl, ?_⟩
      cases hd : decide (l ≤ (xs.length : Int)) with
      | false =>
        rw [hd] at q
        exact q
      | true =>
        rw [hd] at q
        exact ⟨_, rfl, _, _, rfl, rfl, q⟩
    | tup h =>
      rename_i a xs
      have e : rowB H (.ref a) l m = (decide (l ≤ (xs.length : Int)) && decide ((xs.length : Int) ≤ m)) := by unfold rowB; rw [rlen_at h]; rfl
      rw [e] at q
      rw [show (isL H (.ref a) || isT H (.ref a)) = true by rw [show isL H (.ref a) = false from isL_at h, show isT H (.ref a) = true from isT_at h]; rfl]
      have hx1 : LenV K (.ref a) H1 xs.length := .inr ⟨xs, st_of (e1 _ _ h), rfl⟩
      refine ⟨_, rfl, _, rfl, _, _, rfl, hx1, l, _, rfl, rfl, decide (l ≤ (xs.length : Int)), rfl, ?_⟩
      cases hd : decide (l ≤ (xs.length : Int)) with
      | false =>
        rw [hd] at q
        exact q
      | true =>
        rw [hd] at q
        exact ⟨_, rfl, _, _, rfl, rfl, q⟩
    | dct h =>
      rename_i a kvs
      have e : rowB H (.ref a) l m = false := by unfold rowB; rw [rlen_at h]; rfl
      rw [e] at q
      rw [show (isL H (.ref a) || isT H (.ref a)) = false by rw [show isL H (.ref a) = false from isL_at h, show isT H (.ref a) = false from isT_at h]; rfl]
      exact q
    | _ => exact q
def ltB (c : Nat) : Bool := decide (97 ≤ c) && decide (c ≤ 122)
def nmB : V → Bool
  | .str z => decide (1 ≤ (z.length : Int)) && (decide ((z.length : Int) ≤ 10) && z.cps.toList.all fun c => ltB c)
  | _ => false
theorem nmB_str (z : Str) : nmB (.str z) = (decide (1 ≤ (z.length : Int)) && (decide ((z.length : Int) ≤ 10) && z.cps.toList.all fun c => ltB c)) := rfl
/-- a letter of a text -/
def chB : V → Bool
  | .str z => z.cps.toList.all fun c => ltB c
  | _ => true
abbrev s_is_name : Stmt := top 12
theorem sc_is_name : FnScope ["thing", "letter"] ["thing"] (defScope s_is_name) := ⟨rfl, rfl, rfl, by decide +kernel, rfl, by decide +kernel, by decide +kernel⟩
def spIsNameG : Sp := fun vs H Q _ => ∃ v, vs = [v] ∧ Pl H v ∧ (∀ z, v = .str z → z.length ≤ 1000) ∧ ∀ H', Ex H H' → Q (.bl (nmB v)) H'
theorem okg_is_name (G : Gz mg) (gc : ∃ t, mg "MOST_LETTERS" = some (.int 10 t)) (D : Df K mg "is_name" s_is_name f fd ["thing"]) : Callee P w K mg base CXn 1 "is_name" 1 spIsNameG := by
  obtain ⟨tc, g_MOST_LETTERS⟩ := gc
  have r_MOST_LETTERS : RelV (.int 10) (.int 10 tc) := ⟨_, rfl⟩
  refine D.callee (D.fn.ok sc_is_name (fun vs H Q E h => ?_) (fun cdv A outer s H vs Q E hr h => ⟨_, PSs.nox (pss_cons (ps_if (PW.pt (pw_or (pt_not (pt_val (pe_callB (isiK (K := K) rfl) rfl G.g_isinstance (by rfl) (pa_cons (pv 0) (pa_cons (pe_bltn (v := .ty "str") rfl G.g_str (by rfl) rfl) pa_nil))))) (pw_or1 (pt_not (pt_chain op_le op_le pe_int (pe_callB (lenK (K := K) rfl) rfl G.g_len PySem.boot_len (pa_cons (pv 0) pa_nil)) (pe_glob rfl g_MOST_LETTERS r_MOST_LETTERS)))))) (pss_one (ps_ret pe_bl)) pss_nil) (pss_one (ps_ret (pe_callB (cr_all rfl) rfl G.g_all (by rfl) (pa_cons (pe_lc (own := [("letter", 1)]) rfl sc_is_name.nd (pi_str (pv 0)) (BlkOk.mk (N := ["thing", "letter"]) (sc := defScope s_is_name) rfl (by decide +kernel) (by decide +kernel) (by decide +kernel) (by decide +kernel)) (fun _ _ _ _ _ => (pg_name (i := 1) sc_is_name.nd rfl (Or.inl rfl))) (fun _ _ _ _ _ => pts_nil) (fun _ _ _ _ _ => (pe_chain op_le_str op_le_str pe_str (pv 1) pe_str))) pa_nil))))), ?_⟩))
  · obtain ⟨i, rfl, _⟩ := h
    rfl
  · obtain ⟨v, rfl, hv, hz, k⟩ := h
    obtain ⟨t, g⟩ := hv.kin (K := K)
    refine ⟨_, rfl, v, .ty "str", t, .type "str", isS v, rfl, .ty _, g.ty, g.str, isS v, rfl, ?_⟩
    have q0 := k H (Ex.refl _)
    cases v with
    | str z =>
      have hl : LenV K (.str z) H z.length := ⟨Nat.le_trans (hz z rfl) (by decide), rfl⟩
      refine iteF ⟨_, rfl, .str z, z.length, rfl, hl, 1, (z.length : Int), rfl, rfl, decide ((1 : Int) ≤ (z.length : Int)), rfl, ?_⟩
      cases h1 : decide ((1 : Int) ≤ (z.length : Int)) with
      | false =>
        have e : nmB (.str z) = false := by rw [nmB_str, h1]; rfl
        rw [e] at q0
        exact ⟨false, rfl, iteT q0⟩
      | true =>
        refine ⟨(z.length : Int), 10, rfl, rfl, decide ((z.length : Int) ≤ 10), rfl, ?_⟩
        cases h2 : decide ((z.length : Int) ≤ 10) with
        | false =>
          have e : nmB (.str z) = false := by rw [nmB_str, h1, h2]; rfl
          rw [e] at q0
          exact iteT q0
        | true =>
          have e : nmB (.str z) = z.cps.toList.all fun c => ltB c := by rw [nmB_str, h1, h2]; rfl
          rw [e] at k
          refine iteF ?_
          refine ⟨.str z, rfl, z, rfl, fun D hD => ?_⟩
          refine lc_ev (f := fun _ => true) (v := fun x => .bl (chB x)) st_s (by rw [chs_len]; have := hz z rfl; omega) (fun x => rfl) hD (fun x _ H1 e Q q => q H1 (Ex.refl _)) (fun x hx _ H1 e Q q => ?_) (fun H' e hd => ?_)
          · obtain ⟨c, hm, rfl⟩ : ∃ c, c ∈ z.cps.toList ∧ V.str ⟨#[c]⟩ = x := by unfold chs at hx; simpa using hx
            have q1 := q H1 (Ex.refl _)
            have ec : chB (.str ⟨#[c]⟩) = ltB c := by show ([c].all fun c => ltB c) = _; simp
            rw [ec] at q1
            refine ⟨_, rfl, (Str.ofString "a"), ⟨#[c]⟩, rfl, rfl, _, rfl, ?_⟩
            have e1 : (!decide ((⟨#[c]⟩ : Str).cps.toList < (Str.ofString "a").cps.toList)) = decide (97 ≤ c) := by
              have : (Str.ofString "a").cps.toList = [97] := by decide +kernel
              rw [this]
              rw [Bool.eq_iff_iff]
              simp [List.cons_lt_cons_iff]
            have e2 : (!decide ((Str.ofString "z").cps.toList < (⟨#[c]⟩ : Str).cps.toList)) = decide (c ≤ 122) := by
              have : (Str.ofString "z").cps.toList = [122] := by decide +kernel
              rw [this]
              rw [Bool.eq_iff_iff]
              simp [List.cons_lt_cons_iff]
            rw [e1]
            cases h3 : decide (97 ≤ c) with
            | false =>
              have e4 : ltB c = false := by unfold ltB; rw [h3]; rfl
              rw [e4] at q1
              exact q1
            | true =>
              have e4 : ltB c = decide (c ≤ 122) := by unfold ltB; rw [h3]; rfl
              rw [e4] at q1
              refine ⟨⟨#[c]⟩, (Str.ofString "z"), rfl, rfl, ?_⟩
              rw [e2]
              exact q1
          · refine ⟨D, (chs z).map chB, rfl, sq_of ?_, ?_⟩
            · rw [hd, List.filter_eq_self.mpr (fun _ _ => rfl), List.map_map]
              rfl
            · have e3 : ((chs z).map chB).all id = z.cps.toList.all fun c => ltB c := by
                unfold chs
                rw [List.map_map, List.all_map]
                congr 1
                funext c
                show ([c].all fun c => ltB c) = _
                simp
              rw [e3]
              exact k H' e
    | _ => exact iteT q0
end
end WK

set_option Elab.async false
set_option linter.all false
set_option maxRecDepth 100000
set_option maxHeartbeats 4000000
namespace WK
open PySem PySem.Spec PyProof.Rows L2 WW Evl
/-- the pool stands at p -/
def Pool (H : Hp) (p : Addr) : Prop := ∃ (g s : Addr) (n k : Int) (gs ss : List Int), H p = some (.lst [.ref g, .ref s, .int n, .int k]) ∧ g ≠ p ∧ s ≠ p ∧ 0 ≤ n ∧ 0 ≤ k ∧
  H g = some (.lst (gs.map V.int)) ∧ (∀ x ∈ gs, 0 ≤ x) ∧ gs.length ≤ 63 ∧ H s = some (.lst (ss.map V.int)) ∧ (∀ x ∈ ss, 0 ≤ x ∧ x < 1000003) ∧ ss.length ≤ 63
/-- all but the pool is kept -/
def K0 (p : Addr) (H H' : Hp) : Prop := ∀ b o, b ≠ p → H b = some o → H' b = some o
/-- b is no part of the pool -/
def Apart (H : Hp) (p b : Addr) : Prop := ∀ (g s : Addr) (n k : V), H p = some (.lst [.ref g, .ref s, n, k]) → g ≠ b ∧ s ≠ b
structure Kp (p : Addr) (H H' : Hp) : Prop where
  k : K0 p H H'
  a : ∀ b, b ≠ p → H b ≠ none → Apart H p b → Apart H' p b
theorem K0.refl (p : Addr) (H : Hp) : K0 p H H := fun _ _ _ h => h
theorem K0.trans {p : Addr} {H H1 H2 : Hp} (a : K0 p H H1) (b : K0 p H1 H2) : K0 p H H2 := fun c o n h => b c o n (a c o n h)
theorem K0.ex {p : Addr} {H H' : Hp} (e : Ex H H') : K0 p H H' := fun b o _ h => e b o h
theorem K0.new {p l : Addr} {o : HO} {H H' : Hp} (a : K0 p H H') (hl : H' l = none) : K0 p H (upd H' l o) := a.trans (K0.ex (Ex.new hl))
theorem K0.put {p : Addr} {o : HO} {H H' : Hp} (a : K0 p H H') : K0 p H (upd H' p o) := fun b u n h => by
  rw [upd_ne n]
  exact a b u n h
theorem some_ne {α : Type} {o : Option α} {x : α} (h : o = some x) : o ≠ none := fun z => by rw [h] at z; cases z
theorem Kp.refl (p : Addr) (H : Hp) : Kp p H H := ⟨K0.refl p H, fun _ _ _ h => h⟩
theorem Kp.trans {p : Addr} {H H1 H2 : Hp} (a : Kp p H H1) (b : Kp p H1 H2) : Kp p H H2 := ⟨a.k.trans b.k, fun c n h x => b.a c n (by
  cases e : H c with
  | none => exact absurd e h
  | some o => exact some_ne (a.k c o n e)) (a.a c n h x)⟩
theorem Pool.here {H : Hp} {p : Addr} (h : Pool H p) : H p ≠ none := by
  obtain ⟨g, s, n, k, gs, ss, h1, _⟩ := h
  exact some_ne h1
theorem Kp.ex {p : Addr} {H H' : Hp} (e : Ex H H') (hp : Pool H p) : Kp p H H' := ⟨K0.ex e, fun b n hb x g s n k h => by
  obtain ⟨g0, s0, n0, k0, gs, ss, h1, _⟩ := hp
  have h2 := e _ _ h1
  rw [h] at h2
  cases h2
  exact x _ _ _ _ h1⟩
theorem Kp.of {p g s g' : Addr} {n k n' k' : V} {H H' : Hp} (h1 : K0 p H H') (hp : H p = some (.lst [.ref g, .ref s, n, k])) (hp' : H' p = some (.lst [.ref g', .ref s, n', k'])) (hg : g' = g ∨ H g' = none) : Kp p H H' := ⟨h1, fun b nb hb x g2 s2 n2 k2 h => by
  rw [hp'] at h
  cases h
  obtain ⟨a1, a2⟩ := x _ _ _ _ hp
  refine ⟨?_, a2⟩
  rcases hg with rfl | hg
  · exact a1
  · intro z
    rw [← z] at hb
    exact hb hg⟩
theorem Kp.new {p l : Addr} {o : HO} {H H' : Hp} (a : Kp p H H') (hP : Pool H' p) (hl : H' l = none) : Kp p H (upd H' l o) := a.trans (Kp.ex (Ex.new hl) hP)
/-- a thing that came behind H changes -/
theorem Kp.mut {p D : Addr} {o : HO} {H H' : Hp} (a : Kp p H H') (hD : H D = none) (nD : D ≠ p) : Kp p H (upd H' D o) := ⟨fun b u n h => by
    rw [upd_ne (ne_of_none h hD)]
    exact a.k b u n h, fun b nb hb x g s n k h => by
    rw [upd_ne nD.symm] at h
    exact a.a b nb hb x g s n k h⟩
theorem Pool.ex {p : Addr} {H H' : Hp} (e : Ex H H') (h : Pool H p) : Pool H' p := by
  obtain ⟨g, s, n, k, gs, ss, h1, h2, h3, h4, h5, h6, h7, h8, h9, h10, h11⟩ := h
  exact ⟨g, s, n, k, gs, ss, e _ _ h1, h2, h3, h4, h5, e _ _ h6, h7, h8, e _ _ h9, h10, h11⟩
theorem Pool.mut {p D : Addr} {o : HO} {H : Hp} (h : Pool H p) (nD : D ≠ p) (x : Apart H p D) : Pool (upd H D o) p := by
  obtain ⟨g, s, n, k, gs, ss, h1, h2, h3, h4, h5, h6, h7, h8, h9, h10, h11⟩ := h
  obtain ⟨a1, a2⟩ := x _ _ _ _ h1
  exact ⟨g, s, n, k, gs, ss, by rw [upd_ne nD.symm]; exact h1, h2, h3, h4, h5, by rw [upd_ne a1]; exact h6, h7, h8, by rw [upd_ne a2]; exact h9, h10, h11⟩
/-- what is new is no part of the pool -/
theorem Apart.new {p D : Addr} {o : HO} {H : Hp} (h : Pool H p) (hD : H D = none) : D ≠ p ∧ Apart (upd H D o) p D := by
  obtain ⟨g, s, n, k, gs, ss, h1, h2, h3, h4, h5, h6, h7, h8, h9, h10, h11⟩ := h
  have nD : p ≠ D := ne_of_none h1 hD
  refine ⟨nD.symm, fun g2 s2 n2 k2 e => ?_⟩
  rw [upd_ne nD, h1] at e
  cases e
  exact ⟨ne_of_none h6 hD, ne_of_none h9 hD⟩
theorem Apart.mut {p D b : Addr} {o : HO} {H : Hp} (nD : D ≠ p) (x : Apart H p b) : Apart (upd H D o) p b := fun g s n k h => by
  rw [upd_ne nD.symm] at h
  exact x g s n k h
/-- what is free behind was free before -/
theorem Kp.free {p D : Addr} {H H' : Hp} (a : Kp p H H') (h : Pool H' p) (hD : H' D = none) : H D = none ∧ D ≠ p := by
  have nD : D ≠ p := fun z => h.here (z ▸ hD)
  refine ⟨?_, nD⟩
  cases e : H D with
  | none => rfl
  | some o =>
    rw [a.k D o nD e] at hD
    cases hD
def absV : V → V
  | .int i => .int (if i < 0 then -i else i)
  | v => v
def geV : V → Bool
  | .int i => decide ((10 : Int) ^ 18 ≤ i)
  | _ => false
def ltV : V → Bool
  | .int i => decide (i < (10 : Int) ^ 18)
  | _ => false
def modV : V → V
  | .int i => .int (i % 1000003)
  | v => v
section
variable {P : Program} {w : World} {K : PySem.W.Frag} {mg : Str → Option Value} {base : Heap} {f : Addr} {fd : FuncData}
abbrev s__law_pool : Stmt := top 26
theorem sc__law_pool : FnScope ["_law_script", "_law_cells", "_law_cell", "_law_great", "_law_small"] ["_law_script"] (defScope s__law_pool) := ⟨rfl, rfl, rfl, by decide +kernel, rfl, by decide +kernel, by decide +kernel⟩
def spPool (K : PySem.W.Frag) : Sp := fun vs H Q _ => ∃ (a : Addr) (ns : List Int), vs = [.ref a] ∧ SqL K H a (ns.map V.int) ∧ ∀ p H', Ex H H' → H p = none → Pool H' p → Q (.ref p) H'
theorem ok_pool (G : Gz mg) (D : Df K mg "_law_pool" s__law_pool f fd ["_law_script"]) : Callee P w K mg base CXn 1 "_law_pool" 1 (spPool K) := by
  refine D.callee (D.fn.ok sc__law_pool (fun vs H Q E h => ?_) (fun cdv A outer s H vs Q E hr h => ⟨_, PSs.nox (pss_cons (ps_setLc (i := 1) (y := "_law_cells") (own := [("_law_cell", 2)]) rfl sc__law_pool.nd rfl rfl rfl (pi_list (pe_slice sl_list (pv 0) po_none (po_some pe_int))) (BlkOk.mk (N := ["_law_script", "_law_cells", "_law_cell", "_law_great", "_law_small"]) (sc := defScope s__law_pool) rfl (by decide +kernel) (by decide +kernel) (by decide +kernel) (by decide +kernel)) (fun _ _ _ _ _ => (pg_name (i := 2) sc__law_pool.nd rfl (Or.inl rfl))) (fun _ _ _ _ _ => pts_nil) (fun _ _ _ _ _ => (pe_callB call_abs rfl G.g_abs (by rfl) (pa_cons (pe_callTy call_int1 rfl G.g_int (by rfl) (pa_cons (pv 2) pa_nil)) pa_nil)))) (pss_cons (ps_setLc (i := 3) (y := "_law_great") (own := [("_law_cell", 2)]) rfl sc__law_pool.nd rfl rfl rfl (pi_list (pv 1)) (BlkOk.mk (N := ["_law_script", "_law_cells", "_law_cell", "_law_great", "_law_small"]) (sc := defScope s__law_pool) rfl (by decide +kernel) (by decide +kernel) (by decide +kernel) (by decide +kernel)) (fun _ _ _ _ _ => (pg_name (i := 2) sc__law_pool.nd rfl (Or.inl rfl))) (fun _ _ _ _ _ => (pts_one (pt_cmpR op_ge (pv 2) (pe_op op_pow pe_int pe_int) (nomark _)))) (fun _ _ _ _ _ => (pv 2))) (pss_cons (ps_setLc (i := 4) (y := "_law_small") (own := [("_law_cell", 2)]) rfl sc__law_pool.nd rfl rfl rfl (pi_list (pv 1)) (BlkOk.mk (N := ["_law_script", "_law_cells", "_law_cell", "_law_great", "_law_small"]) (sc := defScope s__law_pool) rfl (by decide +kernel) (by decide +kernel) (by decide +kernel) (by decide +kernel)) (fun _ _ _ _ _ => (pg_name (i := 2) sc__law_pool.nd rfl (Or.inl rfl))) (fun _ _ _ _ _ => (pts_one (pt_cmpR op_lt (pv 2) (pe_op op_pow pe_int pe_int) (nomark _)))) (fun _ _ _ _ _ => (pe_op op_mod (pe_callTy call_int1 rfl G.g_int (by rfl) (pa_cons (pv 2) pa_nil)) pe_int))) (pss_one (ps_ret (pe_lst (pa_cons (pv 3) (pa_cons (pv 4) (pa_cons pe_int (pa_cons pe_int pa_nil)))))))))), ?_⟩))
  · obtain ⟨_, _, rfl, _⟩ := h
    rfl
  · obtain ⟨a, ns, rfl, hS, k⟩ := h
    refine ⟨.ref a, rfl, 63, rfl, a, _, rfl, hS, fun p hp => ⟨p, rfl, ⟨_, sq_of upd_same⟩, fun D hD => ?_⟩⟩
    have ec : cutV (ns.map V.int) none (some 63) = (ns.take 63).map V.int := by
      have e := cut_take (ns.map V.int) 63
      rw [← List.map_take] at e
      exact e
    rw [ec] at hD ⊢
    have l63 : ((ns.take 63).map V.int).length ≤ 63 := by rw [List.length_map, List.length_take]; omega
    refine lc_ev (f := fun _ => true) (v := absV) (st_l (sq_of upd_same)) (by omega) (fun x => rfl) hD (fun x _ H1 e Q q => q H1 (Ex.refl _)) (fun x hx _ H1 e Q q => ?_) (fun H1 e1 hd1 => ?_)
    · obtain ⟨i, _, rfl⟩ := List.mem_map.mp hx
      exact ⟨_, rfl, .inl ⟨i, rfl, i, rfl, q H1 (Ex.refl _)⟩⟩
    generalize hcs : (ns.take 63).map (fun i : Int => if i < 0 then -i else i) = cs
    have d1 : H1 D = some (.lst (cs.map V.int)) := by
      rw [hd1, List.filter_eq_self.mpr (fun _ _ => rfl), ← hcs, List.map_map, List.map_map]
      rfl
    have lcs : cs.length ≤ 63 := by rw [← hcs, List.length_map, List.length_take]; omega
    have pcs : ∀ x ∈ cs, 0 ≤ x := fun x hx => by
      rw [← hcs] at hx
      obtain ⟨i, _, rfl⟩ := List.mem_map.mp hx
      split <;> omega
    refine ⟨_, rfl, D, rfl, ⟨_, sq_of d1⟩, fun D2 hD2 => ?_⟩
    refine lc_ev (f := geV) (v := fun x => x) (st_l (sq_of d1)) (by rw [List.length_map]; omega) (fun x => rfl) hD2 (fun x hx H2 e Q q => ?_) (fun x hx _ H2 e Q q => ⟨_, rfl, q H2 (Ex.refl _)⟩) (fun H2 e2 hd2 => ?_)
    · obtain ⟨i, _, rfl⟩ := List.mem_map.mp hx
      exact ⟨_, rfl, 10, 18, rfl, rfl, ⟨by decide, by decide, by decide⟩, i, _, rfl, rfl, _, rfl, q H2 (Ex.refl _)⟩
    have d2 : H2 D2 = some (.lst ((cs.filter fun i => decide ((10 : Int) ^ 18 ≤ i)).map V.int)) := by
      rw [hd2, List.map_id'' (fun _ => rfl), List.filter_map]
      rfl
    have d12 := e2 _ _ d1
    refine ⟨_, rfl, D, rfl, ⟨_, sq_of d12⟩, fun D3 hD3 => ?_⟩
    refine lc_ev (f := ltV) (v := modV) (st_l (sq_of d12)) (by rw [List.length_map]; omega) (fun x => rfl) hD3 (fun x hx H3 e Q q => ?_) (fun x hx _ H3 e Q q => ?_) (fun H3 e3 hd3 => ?_)
    · obtain ⟨i, _, rfl⟩ := List.mem_map.mp hx
      exact ⟨_, rfl, 10, 18, rfl, rfl, ⟨by decide, by decide, by decide⟩, i, _, rfl, rfl, _, rfl, q H3 (Ex.refl _)⟩
    · obtain ⟨i, _, rfl⟩ := List.mem_map.mp hx
      exact ⟨_, rfl, .inl ⟨i, rfl, i, 1000003, rfl, rfl, (by show (0 : Int) < 1000003; decide), q H3 (Ex.refl _)⟩⟩
    have d3 : H3 D3 = some (.lst (((cs.filter fun i => decide (i < (10 : Int) ^ 18)).map fun i => i % 1000003).map V.int)) := by
      rw [hd3, List.filter_map, List.map_map, List.map_map]
      rfl
    have d23 := e3 _ _ d2
    refine ⟨_, rfl, _, rfl, (by show 4 ≤ sizeLine; decide), fun q hq => ?_⟩
    have e03 : Ex H H3 := (Ex.new hp).trans (e1.trans (e2.trans e3))
    have e04 : Ex H (upd H3 q (.lst [.ref D2, .ref D3, .int 0, .int 0])) := e03.trans (Ex.new hq)
    refine k q _ e04 (fresh_back e03 hq) ⟨D2, D3, 0, 0, (cs.filter fun i => decide ((10 : Int) ^ 18 ≤ i)), ((cs.filter fun i => decide (i < (10 : Int) ^ 18)).map fun i => i % 1000003), upd_same, ne_of_none d23 hq, ne_of_none d3 hq, Int.le_refl _, Int.le_refl _, ?_, ?_, ?_, ?_, ?_, ?_⟩
    · rw [upd_ne (ne_of_none d23 hq)]; exact d23
    · exact fun x hx => pcs x (List.mem_filter.mp hx).1
    · exact Nat.le_trans (List.length_filter_le _ _) lcs
    · rw [upd_ne (ne_of_none d3 hq)]; exact d3
    · intro x hx
      obtain ⟨i, hi, rfl⟩ := List.mem_map.mp hx
      exact ⟨Int.emod_nonneg _ (by decide), Int.emod_lt_of_pos _ (by decide)⟩
    · rw [List.length_map]
      exact Nat.le_trans (List.length_filter_le _ _) lcs
abbrev s__law_draw : Stmt := top 27
theorem sc__law_draw : FnScope ["_law_pool_here", "_law_many", "_law_great", "_law_digit", "_law_seed", "_law_number"] ["_law_pool_here", "_law_many"] (defScope s__law_draw) := ⟨rfl, rfl, rfl, by decide +kernel, rfl, by decide +kernel, by decide +kernel⟩
def spDraw : Sp := fun vs H Q _ => ∃ (p : Addr) (m : Int), vs = [.ref p, .int m] ∧ Pool H p ∧ 1 ≤ m ∧ m ≤ 1000000 ∧ ∀ d H', 0 ≤ d → d < m → Kp p H H' → Pool H' p → Q (.int d) H'
theorem ok_draw (G : Gz mg) (D : Df K mg "_law_draw" s__law_draw f fd ["_law_pool_here", "_law_many"]) : Callee P w K mg base CXn 1 "_law_draw" 2 spDraw := by
  refine D.callee (D.fn.ok sc__law_draw (fun vs H Q E h => ?_) (fun cdv A outer s H vs Q E hr h => ⟨_, PSs.nox (pss_cut (ps_if (PW.pt (pw_and (pt_cmpR op_eq (pe_ix (ixK (K := K) rfl) (pv 0) pe_int (fun _ _ => rfl)) pe_int (nomark _)) (pw_and1 (pt_cmpR op_gt (pe_callB (lenK (K := K) rfl) rfl G.g_len PySem.boot_len (pa_cons (pe_ix (ixK (K := K) rfl) (pv 0) pe_int (fun _ _ => rfl)) pa_nil)) pe_int (nomark _))))) (pss_cons (ps_set (i := 2) sc__law_draw.nd rfl (Or.inl rfl) (pe_ix (ixK (K := K) rfl) (pv 0) pe_int (fun _ _ => rfl))) (pss_one (ps_asg (pe_tup (pa_cons (pe_ix (ixK (K := K) rfl) (pv 2) pe_int (fun _ _ => rfl)) (pa_cons (pe_slice sl_list (pv 2) (po_some pe_int) po_none) pa_nil))) (pg_tup rfl (pgs_cons (pg_sub (pv 0) pe_int set_list) (pgs_cons (pg_sub (pv 0) pe_int set_list) pgs_nil)))))) pss_nil) (pss_cut (ps_if (pt_cmpR op_gt (pe_ix (ixK (K := K) rfl) (pv 0) pe_int (fun _ _ => rfl)) pe_int (nomark _)) (pss_cons (ps_asg (pe_tup (pa_cons (pe_op op_mod (pe_callTy call_int1 rfl G.g_int (by rfl) (pa_cons (pe_ix (ixK (K := K) rfl) (pv 0) pe_int (fun _ _ => rfl)) pa_nil)) (pv 1)) (pa_cons (pe_op op_fdiv (pe_ix (ixK (K := K) rfl) (pv 0) pe_int (fun _ _ => rfl)) (pv 1)) pa_nil))) (pg_tup rfl (pgs_cons (pg_name (i := 3) sc__law_draw.nd rfl (Or.inl rfl)) (pgs_cons (pg_sub (pv 0) pe_int set_list) pgs_nil)))) (pss_one (ps_ret (pv 3)))) pss_nil) (pss_cons (ps_asg (pe_op op_add (pe_ix (ixK (K := K) rfl) (pv 0) pe_int (fun _ _ => rfl)) pe_int) (pg_sub (pv 0) pe_int set_list)) (pss_cons (ps_set (i := 4) sc__law_draw.nd rfl (Or.inl rfl) (pe_ix (ixK (K := K) rfl) (pe_op op_cat (pe_ix (ixK (K := K) rfl) (pv 0) pe_int (fun _ _ => rfl)) (pe_lst (pa_cons pe_int pa_nil))) (pe_op op_mod (pe_callTy call_int1 rfl G.g_int (by rfl) (pa_cons (pe_ix (ixK (K := K) rfl) (pv 0) pe_int (fun _ _ => rfl)) pa_nil)) (pe_callB (call_max2 rfl) rfl G.g_max (by rfl) (pa_cons pe_int (pa_cons (pe_callB (lenK (K := K) rfl) rfl G.g_len PySem.boot_len (pa_cons (pe_ix (ixK (K := K) rfl) (pv 0) pe_int (fun _ _ => rfl)) pa_nil)) pa_nil)))) (fun _ _ => rfl))) (pss_cons (ps_set (i := 5) sc__law_draw.nd rfl (Or.inl rfl) (pe_op op_mod (pe_callTy call_int1 rfl G.g_int (by rfl) (pa_cons (pe_op op_mul (pe_op op_add (pe_op op_add (pv 4) (pe_op op_mul pe_int (pe_ix (ixK (K := K) rfl) (pv 0) pe_int (fun _ _ => rfl)))) pe_int) pe_int) pa_nil)) pe_int)) (pss_cons (ps_set (i := 5) sc__law_draw.nd rfl (Or.inl rfl) (pe_op op_mod (pe_callTy call_int1 rfl G.g_int (by rfl) (pa_cons (pe_op op_mul (pv 5) (pe_op op_add (pe_op op_fdiv (pv 5) pe_int) pe_int)) pa_nil)) pe_int)) (pss_cons (ps_set (i := 5) sc__law_draw.nd rfl (Or.inl rfl) (pe_op op_mod (pe_callTy call_int1 rfl G.g_int (by rfl) (pa_cons (pe_op op_mul (pv 5) (pe_op op_add (pe_op op_fdiv (pv 5) pe_int) pe_int)) pa_nil)) pe_int)) (pss_one (ps_ret (pe_op op_mod (pe_callTy call_int1 rfl G.g_int (by rfl) (pa_cons (pe_op op_fdiv (pv 5) pe_int) pa_nil)) (pv 1))))))))))), ?_⟩))
  · obtain ⟨_, _, rfl, _⟩ := h
    rfl
  · obtain ⟨p, m, rfl, hP, hm1, hm2, k⟩ := h
    refine ⟨fun σ' H' => (∃ v, σ' = [some (.ref p), some (.int m), v, none, none, none]) ∧ Pool H' p ∧ Kp p H H', ?_, ?_⟩
    · have hP0 := hP
      obtain ⟨g, s', n, kk, gs, ss, hp, gp, sp, n0, k0, hg, pg, lg, hs, ps, ls⟩ := hP
      refine ⟨_, rfl, .inl ⟨p, _, 2, _, rfl, rfl, sq_of hp, rfl, rfl, _, rfl, ?_⟩⟩
      have skip : (fun σ' H' => (∃ v, σ' = [some (V.ref p), some (V.int m), v, none, none, none]) ∧ Pool H' p ∧ Kp p H H') (start ["_law_pool_here", "_law_many", "_law_great", "_law_digit", "_law_seed", "_law_number"] [.ref p, .int m]) H := ⟨⟨none, rfl⟩, hP0, Kp.refl p H⟩
      cases hd : decide (V.int n = V.int 0) with
      | false => exact skip
      | true =>
        refine ⟨_, rfl, .inl ⟨p, _, 0, _, rfl, rfl, sq_of hp, rfl, .ref g, gs.length, rfl, .inl ⟨_, sq_of hg, by rw [List.length_map]⟩, _, _, rfl, rfl, _, rfl, ?_⟩⟩
        cases gs with
        | nil => exact skip
        | cons g0 gs =>
          have hgt : decide ((0 : Int) < (((g0 :: gs).length : Nat) : Int)) = true := decide_eq_true (by simp)
          rw [hgt]
          refine ⟨_, rfl, .inl ⟨p, _, 0, _, rfl, rfl, sq_of hp, rfl, ?_⟩⟩
          refine ⟨_, rfl, .inl ⟨g, _, 0, .int g0, rfl, rfl, sq_of hg, (show atI ((g0 :: gs).map V.int) ((0 : Nat) : Int) = some (.int g0) from atI_nat rfl), ?_⟩⟩
          refine ⟨_, rfl, 1, rfl, g, _, rfl, sq_of hg, fun l hl => ?_⟩
          have ec : cutV ((g0 :: gs).map V.int) (some 1) none = gs.map V.int := cut_drop ((g0 :: gs).map V.int) 1
          rw [ec]
          refine ⟨(by show 2 ≤ sizeLine; decide), fun T hT => ⟨T, _, rfl, st_of upd_same, rfl, _, _, rfl, ?_⟩⟩
          have npl : p ≠ l := ne_of_none hp hl
          have hp1 : upd H l (.lst (gs.map V.int)) p = some (.lst [.ref g, .ref s', .int n, .int kk]) := by rw [upd_ne npl]; exact hp
          have npT : p ≠ T := ne_of_none hp1 hT
          have nlT : l ≠ T := ne_of_none upd_same hT
          have nsl : s' ≠ l := ne_of_none hs hl
          have hs1 : upd H l (.lst (gs.map V.int)) s' = some (.lst (ss.map V.int)) := by rw [upd_ne nsl]; exact hs
          have nsT : s' ≠ T := ne_of_none hs1 hT
          refine ⟨_, rfl, p, _, 2, 2, rfl, rfl, (by rw [upd_ne npT]; exact hp1), rfl, _, _, rfl, _, rfl, p, _, 0, 0, rfl, rfl, upd_same, rfl, rfl, ⟨_, rfl⟩, ?_, ?_⟩
          · refine ⟨l, s', g0, kk, gs, ss, upd_same, npl.symm, sp, pg g0 (by simp), k0, ?_, fun x hx => pg x (by simp [hx]), by simp at lg; omega, ?_, ps, ls⟩
            · rw [upd_ne npl.symm, upd_ne npl.symm, upd_ne nlT, upd_same]
            · rw [upd_ne sp, upd_ne sp, upd_ne nsT]; exact hs1
          · exact Kp.of (K0.put (K0.put (K0.new (K0.new (K0.refl p H) hl) hT))) hp upd_same (.inr hl)
    · rintro σ' H1 ⟨⟨v, rfl⟩, ⟨g, s', n, kk, gs, ss, hp, gp, sp, n0, k0, hg, pg, lg, hs, ps, ls⟩, K1⟩
      refine ⟨fun σ' H' => (∃ v2, σ' = [some (.ref p), some (.int m), v2, none, none, none]) ∧ H' = H1, ?_, ?_⟩
      · refine ⟨_, rfl, .inl ⟨p, _, 2, _, rfl, rfl, sq_of hp, rfl, _, _, rfl, rfl, _, rfl, ?_⟩⟩
        refine ite2 (fun hn => ?_) (fun _ => ⟨⟨_, rfl⟩, rfl⟩)
        have hn0 : 0 < n := of_decide_eq_true hn
        refine ⟨_, rfl, .inl ⟨p, _, 2, _, rfl, rfl, sq_of hp, rfl, .inl ⟨n, rfl, _, rfl, n, m, rfl, rfl, (by show 0 < m; omega), ?_⟩⟩⟩
        refine ⟨_, rfl, .inl ⟨p, _, 2, _, rfl, rfl, sq_of hp, rfl, _, rfl, n, m, rfl, rfl, ⟨by omega, by omega⟩, ?_⟩⟩
        refine ⟨(by show 2 ≤ sizeLine; decide), fun T hT => ⟨T, _, rfl, st_of upd_same, rfl, _, _, rfl, ?_⟩⟩
        have npT : p ≠ T := ne_of_none hp hT
        refine ⟨_, _, rfl, _, rfl, p, _, 2, 2, rfl, rfl, (by rw [upd_ne npT]; exact hp), rfl, rfl, _, rfl, ?_⟩
        refine k _ _ (Int.emod_nonneg _ (by omega)) (Int.emod_lt_of_pos _ (by omega)) (K1.trans (Kp.of (K0.put (K0.new (K0.refl p _) hT)) hp upd_same (.inl rfl))) ?_
        refine ⟨g, s', n / m, kk, gs, ss, upd_same, gp, sp, Int.ediv_nonneg n0 (by omega), k0, ?_, pg, lg, ?_, ps, ls⟩
        · rw [upd_ne gp, upd_ne (ne_of_none hg hT)]; exact hg
        · rw [upd_ne sp, upd_ne (ne_of_none hs hT)]; exact hs
      · rintro σ' H2 ⟨⟨v2, rfl⟩, rfl⟩
        refine ⟨_, rfl, .inl ⟨p, _, 3, _, rfl, rfl, sq_of hp, rfl, kk, 1, rfl, rfl, ?_⟩⟩
        refine ⟨_, rfl, p, _, 3, 3, rfl, rfl, hp, rfl, ?_⟩
        have K3 : Kp p H (upd H2 p (.lst ([.ref g, .ref s', .int n, .int kk].set 3 (.int (kk + 1))))) := K1.trans (Kp.of (K0.put (K0.refl p _)) hp upd_same (.inl rfl))
        have hp3 : upd H2 p (.lst ([.ref g, .ref s', .int n, .int kk].set 3 (.int (kk + 1)))) p = some (.lst [.ref g, .ref s', .int n, .int (kk + 1)]) := upd_same
        have hg3 : upd H2 p (.lst ([.ref g, .ref s', .int n, .int kk].set 3 (.int (kk + 1)))) g = some (.lst (gs.map V.int)) := by rw [upd_ne gp]; exact hg
        have hs3 : upd H2 p (.lst ([.ref g, .ref s', .int n, .int kk].set 3 (.int (kk + 1)))) s' = some (.lst (ss.map V.int)) := by rw [upd_ne sp]; exact hs
        generalize upd H2 p (.lst ([.ref g, .ref s', .int n, .int kk].set 3 (.int (kk + 1)))) = H3 at K3 hp3 hg3 hs3
        have P3 : Pool H3 p := ⟨g, s', n, kk + 1, gs, ss, hp3, gp, sp, n0, by omega, hg3, pg, lg, hs3, ps, ls⟩
        -- the seed
        refine ⟨_, rfl, .inl ⟨p, _, 1, _, rfl, rfl, sq_of hp3, rfl, (by show 1 ≤ sizeLine; decide), fun b hb => ?_⟩⟩
        have e4 : Ex H3 (upd H3 b (.lst [.int 0])) := Ex.new hb
        refine ⟨s', b, _, _, rfl, rfl, e4 _ _ hs3, upd_same, (by rw [List.length_map]; exact Nat.le_trans (Nat.add_le_add_right ls 1) (by decide)), fun c hc => ?_⟩
        have e5 : Ex H3 (upd (upd H3 b (.lst [.int 0])) c (.lst (ss.map V.int ++ [.int 0]))) := e4.trans (Ex.new hc)
        have hc5 : upd (upd H3 b (.lst [.int 0])) c (.lst (ss.map V.int ++ [.int 0])) c = some (.lst (ss.map V.int ++ [.int 0])) := upd_same
        generalize upd (upd H3 b (.lst [.int 0])) c (.lst (ss.map V.int ++ [.int 0])) = H5 at e5 hc5
        have hp5 := e5 _ _ hp3
        have hs5 := e5 _ _ hs3
        have P5 : Pool H5 p := P3.ex e5
        have K5 : Kp p H H5 := K3.trans (Kp.ex e5 P3)
        refine ⟨_, rfl, .inl ⟨p, _, 3, _, rfl, rfl, sq_of hp5, rfl, .inl ⟨kk + 1, rfl, ?_⟩⟩⟩
        refine ⟨_, rfl, .inl ⟨p, _, 1, _, rfl, rfl, sq_of hp5, rfl, .ref s', ss.length, rfl, .inl ⟨_, sq_of hs5, by rw [List.length_map]⟩, 1, (ss.length : Int), rfl, ?_⟩⟩
        generalize hmx : (if ((ss.length : Nat) : Int) > 1 then ((ss.length : Nat) : Int) else 1) = mx
        have hmx1 : 1 ≤ mx ∧ mx ≤ (ss.length : Int) + 1 := by
          rw [← hmx]
          split <;> omega
        have hj0 : 0 ≤ (kk + 1) % mx := Int.emod_nonneg _ (by omega)
        have hj1 : (kk + 1) % mx < mx := Int.emod_lt_of_pos _ (by omega)
        obtain ⟨z, hz⟩ : ∃ z, (ss ++ [0])[((kk + 1) % mx).toNat]? = some z := ⟨_, List.getElem?_eq_getElem (by rw [List.length_append, List.length_singleton]; omega)⟩
        have hz2 : (ss.map V.int ++ [.int 0])[((kk + 1) % mx).toNat]? = some (V.int z) := by
          have e : ss.map V.int ++ [.int 0] = (ss ++ [0]).map V.int := by simp
          rw [e, List.getElem?_map, hz]
          rfl
        refine ⟨kk + 1, mx, rfl, rfl, (by show 0 < mx; omega), .inl ⟨c, _, _, .int z, rfl, rfl, sq_of hc5, at_of (j := ((kk + 1) % mx).toNat) (by omega) hz2, ?_⟩⟩
        -- the numbers
        refine ⟨_, rfl, _, rfl, .inl ⟨p, _, 3, _, rfl, rfl, sq_of hp5, rfl, 7919, kk + 1, rfl, rfl, .inl ⟨by decide, by decide⟩, z, _, rfl, rfl, _, 1, rfl, rfl, _, 48271, rfl, rfl, .inr ⟨by decide, by decide⟩, .inl ⟨_, rfl, _, 2147483647, rfl, rfl, (by show (0 : Int) < 2147483647; decide), ?_⟩⟩⟩
        dsimp only
        generalize h1 : (z + 7919 * (kk + 1) + 1) * 48271 % 2147483647 = n1
        have b1 : 0 ≤ n1 ∧ n1 < 2147483647 := by rw [← h1]; exact ⟨Int.emod_nonneg _ (by decide), Int.emod_lt_of_pos _ (by decide)⟩
        refine ⟨_, rfl, _, rfl, n1, 1009, rfl, rfl, ⟨by decide, by decide⟩, _, 69621, rfl, rfl, n1, _, rfl, rfl, .inl ⟨by omega, by omega⟩, .inl ⟨_, rfl, _, 2147483647, rfl, rfl, (by show (0 : Int) < 2147483647; decide), ?_⟩⟩
        dsimp only
        generalize h2 : n1 * (n1 / 1009 + 69621) % 2147483647 = n2
        have b2 : 0 ≤ n2 ∧ n2 < 2147483647 := by rw [← h2]; exact ⟨Int.emod_nonneg _ (by decide), Int.emod_lt_of_pos _ (by decide)⟩
        refine ⟨_, rfl, _, rfl, n2, 2003, rfl, rfl, ⟨by decide, by decide⟩, _, 40692, rfl, rfl, n2, _, rfl, rfl, .inl ⟨by omega, by omega⟩, .inl ⟨_, rfl, _, 2147483399, rfl, rfl, (by show (0 : Int) < 2147483399; decide), ?_⟩⟩
        exact ⟨_, rfl, _, 16, rfl, rfl, ⟨by decide, by decide⟩, .inl ⟨_, rfl, _, rfl, _, m, rfl, rfl, (by show 0 < m; omega), k _ _ (Int.emod_nonneg _ (by omega)) (Int.emod_lt_of_pos _ (by omega)) K5 P5⟩⟩
abbrev s__law_pick : Stmt := top 28
theorem sc__law_pick : FnScope ["_law_pool_here", "_law_items"] ["_law_pool_here", "_law_items"] (defScope s__law_pick) := ⟨rfl, rfl, rfl, by decide +kernel, rfl, by decide +kernel, by decide +kernel⟩
def spPick : Sp := fun vs H Q _ => ∃ (p a : Addr) (xs : List V), vs = [.ref p, .ref a] ∧ Pool H p ∧ a ≠ p ∧ (H a = some (.lst xs) ∨ H a = some (.tup xs)) ∧ xs ≠ [] ∧ xs.length ≤ 1000 ∧ ∀ x H', x ∈ xs → Kp p H H' → Pool H' p → Q x H'
theorem ok_pick (G : Gz mg) (D : Df K mg "_law_pick" s__law_pick f fd ["_law_pool_here", "_law_items"]) (c__law_draw : Callee P w K mg base CXn 1 "_law_draw" 2 spDraw) : Callee P w K mg base CXn 2 "_law_pick" 2 spPick := by
  refine D.callee (D.fn.ok sc__law_pick (fun vs H Q E h => ?_) (fun cdv A outer s H vs Q E hr h => ⟨_, PSs.nox (pss_one (ps_ret (pe_ix (ixK (K := K) rfl) (pv 1) (pe_cl (E := En) c__law_draw (hr.mono (by decide)) rfl passN (pa_cons (pv 0) (pa_cons (pe_callB (lenK (K := K) rfl) rfl G.g_len PySem.boot_len (pa_cons (pv 1) pa_nil)) pa_nil))) (fun _ _ => rfl)))), ?_⟩))
  · obtain ⟨_, _, _, rfl, _⟩ := h
    rfl
  · obtain ⟨p, a, xs, rfl, hP, nap, hx, hne, hl, k⟩ := h
    have hlen : LenV K (.ref a) H xs.length := hx.elim (fun z => .inl ⟨_, sq_of z, rfl⟩) fun z => .inr ⟨_, st_of z, rfl⟩
    have hpos : 0 < xs.length := List.length_pos_iff.mpr hne
    refine ⟨_, rfl, _, rfl, _, rfl, .ref a, xs.length, rfl, hlen, p, _, rfl, hP, by omega, by omega, fun d H1 d0 d1 K1 P1 => ?_⟩
    obtain ⟨x, hxd⟩ : ∃ x, xs[d.toNat]? = some x := ⟨_, List.getElem?_eq_getElem (by omega)⟩
    have fin := k x H1 (List.mem_of_getElem? hxd) K1 P1
    rcases hx with hx | hx
    · exact .inl ⟨a, xs, d, x, rfl, rfl, sq_of (K1.k _ _ nap hx), at_of (j := d.toNat) (by omega) hxd, fin⟩
    · exact .inr (.inl ⟨a, xs, d, x, rfl, rfl, st_of (K1.k _ _ nap hx), at_of (j := d.toNat) (by omega) hxd, fin⟩)
def sg (c : Nat) : Str := ⟨#[c]⟩
abbrev abc : Str := "abcdefghijklmnopqrstuvwxyz"
theorem abc_at : ∀ j : Fin 26, abc.cps.toList[j.1]? = some (97 + j.1) := by decide +kernel
theorem abc_len : abc.cps.toList.length = 26 := by decide +kernel
theorem abc_mem {c : Nat} (h : c ∈ abc.cps.toList) : 97 ≤ c ∧ c ≤ 122 := by
  obtain ⟨j, hj⟩ := List.getElem?_of_mem h
  have hl := (List.getElem?_eq_some_iff.mp hj).1
  rw [abc_len] at hl
  rw [abc_at ⟨j, hl⟩] at hj
  cases hj
  show 97 ≤ 97 + j ∧ 97 + j ≤ 122
  omega
theorem join_sg : ∀ cs : List Nat, (Str.join "" (cs.map sg)).cps.toList = cs
  | [] => rfl
  | [c] => rfl
  | c :: d :: r => by
    have ih := join_sg (d :: r)
    show (sg c ++ "" ++ Str.join "" ((d :: r).map sg)).cps.toList = _
    rw [Str.cps_append, Str.cps_append, Array.toList_append, Array.toList_append, ih]
    rfl
theorem txt_ext {a b : Str} (h : a.cps.toList = b.cps.toList) : a = b := str_ext h
theorem inV_str (z : Str) (zs : List Str) : inV (.str z) (zs.map V.str) = decide (z ∈ zs) := by
  unfold inV
  rw [Bool.eq_iff_iff, List.any_eq_true]
  constructor
  · rintro ⟨y, hy, e⟩
    obtain ⟨u, hu, rfl⟩ := List.mem_map.mp hy
    have e2 : (u == z) = true := e
    rw [← beq_iff_eq.mp e2]
    exact decide_eq_true hu
  · intro h
    refine ⟨.str z, List.mem_map.mpr ⟨z, of_decide_eq_true h, rfl⟩, ?_⟩
    show (z == z) = true
    exact beq_self_eq_true z
theorem flat_strs (zs : List Str) : (zs.map V.str).all flatV = true := by
  rw [List.all_eq_true]
  intro v hv
  obtain ⟨z, _, rfl⟩ := List.mem_map.mp hv
  rfl
/-- more different ones than places -/
theorem pigeon {α : Type} [DecidableEq α] : ∀ (l m : List α), l.Nodup → (∀ x ∈ l, x ∈ m) → l.length ≤ m.length
  | [], m, _, _ => Nat.zero_le _
  | a :: l, m, nd, h => by
    obtain ⟨na, nd2⟩ := List.nodup_cons.mp nd
    have ih := pigeon l (m.erase a) nd2 fun x hx => by
      have hm := h x (List.mem_cons_of_mem _ hx)
      have ne : x ≠ a := fun z => na (z ▸ hx)
      exact (List.mem_erase_of_ne ne).mpr hm
    have hm := h a List.mem_cons_self
    rw [List.length_erase_of_mem hm] at ih
    have : 0 < m.length := List.length_pos_of_mem hm
    rw [List.length_cons]
    omega
/-- the letter behind the first nine -/
def nx9 (z : Str) : V → Str
  | .str c => cutS z none (some 9) ++ c
  | _ => z
theorem cut9 (z : Str) : (cutS z none (some 9)).cps.toList = z.cps.toList.take 9 := by
  unfold cutS
  rw [HT.sIx_none]
  have e : HT.sIx z.length z.length (some 9) = min 9 z.length := HT.sIx_nat z.length z.length 9
  rw [e]
  show ((z.cps.toList.drop 0).take (min 9 z.length - 0)) = z.cps.toList.take 9
  rw [List.drop_zero, Nat.sub_zero]
  have hl : z.cps.toList.length = z.length := Array.length_toList
  rcases Nat.le_total 9 z.length with h | h
  · rw [Nat.min_eq_left h]
  · rw [Nat.min_eq_right h, List.take_of_length_le (by omega), List.take_of_length_le (by omega)]
theorem nx9_cps (z : Str) (c : Nat) : (nx9 z (.str (sg c))).cps.toList = z.cps.toList.take 9 ++ [c] := by
  show (cutS z none (some 9) ++ sg c).cps.toList = _
  rw [Str.cps_append, Array.toList_append, cut9]
  rfl
theorem nx9_inj {z : Str} {c d : Nat} (h : nx9 z (.str (sg c)) = nx9 z (.str (sg d))) : c = d := by
  have e1 := nx9_cps z c
  rw [h, nx9_cps z d] at e1
  have e2 := List.append_cancel_left e1
  simpa using e2.symm
theorem nx9_some (z : Str) (zs : List Str) (hz : zs.length ≤ 20) : ∃ c r, (chs abc).filter (fun x => !decide (nx9 z x ∈ zs)) = .str (sg c) :: r ∧ c ∈ abc.cps.toList ∧ nx9 z (.str (sg c)) ∉ zs := by
  have mem : ∀ x ∈ chs abc, ∃ c, c ∈ abc.cps.toList ∧ V.str (sg c) = x := fun x hx => by
    unfold chs at hx
    exact List.mem_map.mp hx
  cases e : (chs abc).filter (fun x => !decide (nx9 z x ∈ zs)) with
  | nil =>
    have all : ∀ x ∈ (chs abc).map (nx9 z), x ∈ zs := fun y hy => by
      obtain ⟨x, hx, rfl⟩ := List.mem_map.mp hy
      have h := List.filter_eq_nil_iff.mp e x hx
      simpa using h
    have nd : ((chs abc).map (nx9 z)).Nodup := by
      unfold chs
      rw [List.map_map]
      have nd0 : abc.cps.toList.Nodup := by decide +kernel
      exact List.Pairwise.map _ (fun c d hcd z2 => hcd (nx9_inj z2)) nd0
    have h1 := pigeon _ _ nd all
    rw [List.length_map, chs_len] at h1
    have h2 : abc.length = 26 := by decide +kernel
    omega
  | cons x r =>
    have hx : x ∈ (chs abc).filter (fun x => !decide (nx9 z x ∈ zs)) := by rw [e]; exact List.mem_cons_self
    obtain ⟨h1, h2⟩ := List.mem_filter.mp hx
    obtain ⟨c, hc, rfl⟩ := mem x h1
    exact ⟨c, r, rfl, hc, by simpa using h2⟩
theorem nx9_nm {z : Str} {c : Nat} (h : IsNm z) (hc : 97 ≤ c ∧ c ≤ 122) : IsNm (nx9 z (.str (sg c))) := by
  have e := nx9_cps z c
  have hl : (nx9 z (.str (sg c))).length = (z.cps.toList.take 9 ++ [c]).length := by rw [← e, Array.length_toList]; rfl
  rw [List.length_append, List.length_take, List.length_singleton] at hl
  refine ⟨by omega, by omega, fun d hd => ?_⟩
  rw [e] at hd
  rcases List.mem_append.mp hd with hd | hd
  · exact h.2.2 d (List.mem_of_mem_take hd)
  · rw [List.mem_singleton.mp hd]; exact hc
abbrev s__law_name : Stmt := top 29
theorem sc__law_name : FnScope ["_law_pool_here", "_law_taken", "_law_letters", "_law_size", "_law_name_here", "_law_k", "_law_letter"] ["_law_pool_here", "_law_taken"] (defScope s__law_name) := ⟨rfl, rfl, rfl, by decide +kernel, rfl, by decide +kernel, by decide +kernel⟩
def spName : Sp := fun vs H Q _ => ∃ (p a : Addr) (zs : List Str), vs = [.ref p, .ref a] ∧ Pool H p ∧ a ≠ p ∧ H a = some (.lst (zs.map V.str)) ∧ zs.length ≤ 20 ∧ ∀ z H', IsNm z → z ∉ zs → Kp p H H' → Pool H' p → Q (.str z) H'
theorem ok_name (G : Gz mg) (D : Df K mg "_law_name" s__law_name f fd ["_law_pool_here", "_law_taken"]) (c__law_draw : Callee P w K mg base CXn 1 "_law_draw" 2 spDraw) : Callee P w K mg base CXn 2 "_law_name" 2 spName := by
  refine D.callee (D.fn.ok sc__law_name (fun vs H Q E h => ?_) (fun cdv A outer s H vs Q E hr h => ⟨_, PSs.nox (pss_cons (ps_set (i := 2) sc__law_name.nd rfl (Or.inr rfl) pe_str) (pss_cons (ps_set (i := 3) sc__law_name.nd rfl (Or.inl rfl) (pe_ix (ixK (K := K) rfl) (pe_lst (pa_cons pe_int (pa_cons pe_int (pa_cons pe_int (pa_cons pe_int (pa_cons pe_int (pa_cons pe_int (pa_cons pe_int pa_nil)))))))) (pe_cl (E := En) c__law_draw (hr.mono (by decide)) rfl passN (pa_cons (pv 0) (pa_cons pe_int pa_nil))) (fun _ _ => rfl))) (pss_cons (ps_set (i := 4) sc__law_name.nd rfl (Or.inr rfl) (pe_join pe_str (pe_lc (own := [("_law_k", 5)]) rfl sc__law_name.nd (pi_range1 rfl G.g_range (pa_cons (pv 3) pa_nil)) (BlkOk.mk (N := ["_law_pool_here", "_law_taken", "_law_letters", "_law_size", "_law_name_here", "_law_k", "_law_letter"]) (sc := defScope s__law_name) rfl (by decide +kernel) (by decide +kernel) (by decide +kernel) (by decide +kernel)) (fun _ _ _ _ _ => (pg_name (i := 5) sc__law_name.nd rfl (Or.inl rfl))) (fun _ _ _ _ _ => pts_nil) (fun _ _ _ _ _ => (pe_ix (ixK (K := K) rfl) (pv 2) (pe_cl (E := En) c__law_draw (hr.mono (by decide)) rfl passN (pa_cons (pv 0) (pa_cons pe_int pa_nil))) (fun _ _ => rfl)))))) (pss_cut (ps_if (pt_cmpR (inK (K := K) rfl) (pv 4) (pv 1) (by rfl)) (pss_one (ps_set (i := 4) sc__law_name.nd rfl (Or.inr rfl) (pe_ix (ixK (K := K) rfl) (pe_lc (own := [("_law_letter", 6)]) rfl sc__law_name.nd (pi_str (pv 2)) (BlkOk.mk (N := ["_law_pool_here", "_law_taken", "_law_letters", "_law_size", "_law_name_here", "_law_k", "_law_letter"]) (sc := defScope s__law_name) rfl (by decide +kernel) (by decide +kernel) (by decide +kernel) (by decide +kernel)) (fun _ _ _ _ _ => (pg_name (i := 6) sc__law_name.nd rfl (Or.inl rfl))) (fun _ _ _ _ _ => (pts_one (pt_cmpR (notInK (K := K) rfl) (pe_op op_add_str (pe_slice sl_str (pv 4) po_none (po_some pe_int)) (pv 6)) (pv 1) (by rfl)))) (fun _ _ _ _ _ => (pe_op op_add_str (pe_slice sl_str (pv 4) po_none (po_some pe_int)) (pv 6)))) pe_int (fun _ _ => rfl)))) pss_nil) (pss_one (ps_ret (pv 4))))))), ?_⟩))
  · obtain ⟨_, _, _, rfl, _⟩ := h
    rfl
  · obtain ⟨p, a, zs, rfl, hP, nap, ha, hz, k⟩ := h
    refine ⟨(by show 7 ≤ sizeLine; decide), fun l hl => ⟨_, rfl, p, 7, rfl, hP.ex (Ex.new hl), by decide, by decide, fun d H1 d0 d1 K1' P1 => ?_⟩⟩
    have hm : ∃ m : Int, ([.int 1, .int 1, .int 2, .int 3, .int 4, .int 6, .int 10] : List V)[d.toNat]? = some (.int m) ∧ 1 ≤ m ∧ m ≤ 10 := by
      have hd : d = 0 ∨ d = 1 ∨ d = 2 ∨ d = 3 ∨ d = 4 ∨ d = 5 ∨ d = 6 := by omega
      rcases hd with rfl | rfl | rfl | rfl | rfl | rfl | rfl <;> exact ⟨_, rfl, by decide, by decide⟩
    obtain ⟨m, hm, m1, m10⟩ := hm
    have nlp : l ≠ p := fun z => hP.here (z ▸ hl)
    have K1 : Kp p H H1 := (Kp.ex (Ex.new hl) hP).trans K1'
    refine .inl ⟨l, _, d, .int m, rfl, rfl, sq_of (K1'.k l _ nlp upd_same), at_of (j := d.toNat) (by omega) hm, ?_⟩
    refine ⟨⟨_, rfl⟩, _, rfl, m, rfl, by omega, by omega, fun D hD => ?_⟩
    obtain ⟨hD0, nDp⟩ := K1.free P1 hD
    refine lc_range (fun i H' => ∃ cs : List Nat, cs.length = i ∧ (∀ c ∈ cs, 97 ≤ c ∧ c ≤ 122) ∧ H' D = some (.lst (cs.map fun c => .str (sg c))) ∧ Kp p H H' ∧ Pool H' p ∧ Apart H' p D) ?_ ?_ ?_
    · obtain ⟨_, ap⟩ := Apart.new (o := .lst []) P1 hD
      exact ⟨[], rfl, fun c hc => (nomatch hc), upd_same, K1.new P1 hD, P1.ex (Ex.new hD), ap⟩
    · rintro i H' hi ⟨cs, hcl, hcs, hd, K2, P2, A2⟩
      refine ⟨rfl, _, rfl, _, rfl, p, 26, rfl, P2, by decide, by decide, fun e H3 e0 e1 K3 P3 => ?_⟩
      have he : abc.cps.toList[e.toNat]? = some (97 + e.toNat) := abc_at ⟨e.toNat, by omega⟩
      have hd3 := K3.k D _ nDp hd
      refine .inr (.inr ⟨abc, e, 97 + e.toNat, rfl, rfl, (by decide), (by have q := atI_nat (xs := abc.cps.toList) he; rwa [show ((e.toNat : Nat) : Int) = e by omega] at q), _, hd3, ?_, ?_⟩)
      · rw [List.length_map]
        exact sz_lt (by omega)
      · have hd2 : H' D ≠ none := some_ne hd
        refine ⟨cs ++ [97 + e.toNat], by rw [List.length_append, hcl]; rfl, fun c hc => ?_, ?_, (K2.trans K3).mut hD0 nDp, P3.mut nDp (K3.a D nDp hd2 A2), Apart.mut nDp (K3.a D nDp hd2 A2)⟩
        · rcases List.mem_append.mp hc with hc | hc
          · exact hcs c hc
          · rw [List.mem_singleton.mp hc]; omega
        · rw [upd_same, List.map_append]
          rfl
    rintro H' ⟨cs, hcl, hcs, hd, K2, P2, A2⟩
    refine ⟨_, D, cs.map sg, rfl, rfl, .inl (sq_of (by rw [hd, List.map_map]; rfl)), ?_, ?_⟩
    · have h1 : (cs.map sg).map (·.length) = cs.map fun _ => 1 := by rw [List.map_map]; rfl
      have h2 : (cs.map fun _ => (1 : Nat)).sum = cs.length := by
        clear h1 hd hcs hcl
        induction cs with
        | nil => rfl
        | cons c r ih => rw [List.map_cons, List.sum_cons, ih, List.length_cons]; omega
      rw [h1, h2]
      show cs.length + (cs.map sg).length * 0 ≤ 16777216
      omega
    have hjn : (Txt.join "" (cs.map sg)).cps.toList = cs := by rw [show Txt.join "" (cs.map sg) = Str.join "" (cs.map sg) from StrLaws.glued_eq_join _ _]; exact join_sg cs
    generalize hzz : Txt.join "" (cs.map sg) = z at hjn ⊢
    have zl : z.length = cs.length := by rw [← hjn, Array.length_toList]; rfl
    have nz : IsNm z := ⟨by omega, by omega, fun c hc => hcs c (hjn ▸ hc)⟩
    have ha2 := K2.k a _ nap ha
    refine ⟨fun σ' H2 => ∃ y v5 v6, σ' = [some (.ref p), some (.ref a), some (.str abc), some (.int m), some (.str y), v5, v6] ∧ IsNm y ∧ y ∉ zs ∧ Kp p H H2 ∧ Pool H2 p, ?_, ?_⟩
    · refine ⟨_, rfl, _, rfl, a, _, rfl, .inl (sq_of ha2), rfl, flat_strs zs, _, rfl, ?_⟩
      show if (inV (.str z) (zs.map V.str)) = true then _ else _
      rw [inV_str]
      refine ite2 (fun hin => ?_) (fun hno => ⟨z, none, none, rfl, nz, fun z2 => hno (decide_eq_true z2), K2, P2⟩)
      refine ⟨_, rfl, abc, rfl, fun D2 hD2 => ?_⟩
      have lz : z.length ≤ sizeLine := Nat.le_trans nz.2.1 (by decide)
      have lc9 : ∀ c, (cutS z none (some 9)).length + (sg c).length ≤ sizeLine := fun c => by
        have h1 : (cutS z none (some 9)).length = ((cutS z none (some 9)).cps.toList).length := by rw [Array.length_toList]; rfl
        rw [cut9, List.length_take] at h1
        have h2 : (sg c).length = 1 := rfl
        exact Nat.le_trans (by omega : _ ≤ 10) (by decide)
      have mem : ∀ x ∈ chs abc, ∃ c, c ∈ abc.cps.toList ∧ V.str (sg c) = x := fun x hx => by
        unfold chs at hx
        exact List.mem_map.mp hx
      refine lc_ev (f := fun x => !decide (nx9 z x ∈ zs)) (v := fun x => .str (nx9 z x)) st_s (by rw [chs_len]; decide +kernel) (fun x => rfl) hD2 (fun x hx H3 e Q q => ?_) (fun x hx _ H3 e Q q => ?_) (fun H3 e3 hd3 => ?_)
      · obtain ⟨c, hc, rfl⟩ := mem x hx
        refine ⟨_, rfl, 9, rfl, z, rfl, lz, _, rfl, _, sg c, rfl, rfl, lc9 c, _, rfl, a, _, rfl, .inl (sq_of (e _ _ ha2)), rfl, flat_strs zs, _, rfl, ?_⟩
        show Q (!inV (.str (nx9 z (.str (sg c)))) (zs.map V.str)) H3
        rw [inV_str]
        exact q H3 (Ex.refl _)
      · obtain ⟨c, hc, rfl⟩ := mem x hx
        exact ⟨_, rfl, 9, rfl, z, rfl, lz, _, rfl, _, sg c, rfl, rfl, lc9 c, q H3 (Ex.refl _)⟩
      · obtain ⟨c, r, e, hc, hn⟩ := nx9_some z zs hz
        rw [e] at hd3
        refine .inl ⟨D2, _, 0, .str (nx9 z (.str (sg c))), rfl, rfl, sq_of hd3, (show atI _ ((0 : Nat) : Int) = _ from atI_nat rfl), ?_⟩
        exact ⟨_, _, _, rfl, nx9_nm nz (abc_mem hc), hn, K2.trans (Kp.ex e3 P2), P2.ex e3⟩
    · rintro σ' H2 ⟨y, v5, v6, rfl, ny, hy, K5, P5⟩
      exact ⟨_, rfl, k y H2 ny hy K5 P5⟩
abbrev s__law_names : Stmt := top 30
theorem sc__law_names : FnScope ["_law_pool_here", "_law_many", "_law_names_here", "_law_k"] ["_law_pool_here", "_law_many"] (defScope s__law_names) := ⟨rfl, rfl, rfl, by decide +kernel, rfl, by decide +kernel, by decide +kernel⟩
def spNames : Sp := fun vs H Q _ => ∃ (p : Addr) (m : Int), vs = [.ref p, .int m] ∧ Pool H p ∧ 0 ≤ m ∧ m ≤ 20 ∧ ∀ (a : Addr) (zs : List Str) (H' : Hp), zs.length = m.toNat → zs.Nodup → (∀ z ∈ zs, IsNm z) → Kp p H H' → Pool H' p → H a = none → a ≠ p → H' a = some (.lst (zs.map V.str)) → Q (.ref a) H'
theorem ok_names (G : Gz mg) (D : Df K mg "_law_names" s__law_names f fd ["_law_pool_here", "_law_many"]) (c__law_name : Callee P w K mg base CXn 2 "_law_name" 2 spName) : Callee P w K mg base CXn 3 "_law_names" 2 spNames := by
  refine D.callee (D.fn.ok sc__law_names (fun vs H Q E h => ?_) (fun cdv A outer s H vs Q E hr h => ⟨_, PSs.nox (pss_cons (ps_set (i := 2) sc__law_names.nd rfl (Or.inl rfl) (pe_lst pa_nil)) (pss_cons (ps_for PassesOwn.never rfl (pi_range1 rfl G.g_range (pa_cons (pv 1) pa_nil)) (pg_name (i := 3) sc__law_names.nd rfl (Or.inl rfl)) (pss_one (ps_expr (pe_bm PySem.F.plainAttrs_list PySem.F.slot_list_append PySem.F.type_list_append mt_append (pv 2) (pa_cons (pe_cl (E := En) c__law_name (hr.mono (by decide)) rfl passN (pa_cons (pv 0) (pa_cons (pv 2) pa_nil))) pa_nil))))) (pss_one (ps_ret (pv 2))))), ?_⟩))
  · obtain ⟨_, _, rfl, _⟩ := h
    rfl
  · obtain ⟨p, m, rfl, hP, m0, m20, k⟩ := h
    refine ⟨Nat.zero_le _, fun l hl => ?_⟩
    obtain ⟨nlp, al⟩ := Apart.new (o := .lst []) hP hl
    refine ⟨_, rfl, m, rfl, by omega, by omega, for_range (fun i σ' H' => (∃ v, σ' = [some (.ref p), some (.int m), some (.ref l), v]) ∧ ∃ zs : List Str, zs.length = i ∧ zs.Nodup ∧ (∀ z ∈ zs, IsNm z) ∧ H' l = some (.lst (zs.map V.str)) ∧ Kp p H H' ∧ Pool H' p ∧ Apart H' p l) ?_ ?_ ?_⟩
    · exact ⟨⟨none, rfl⟩, [], rfl, List.nodup_nil, fun z hz => (nomatch hz), upd_same, (Kp.refl p H).new hP hl, hP.ex (Ex.new hl), al⟩
    · rintro i σ' H' hi ⟨⟨v, rfl⟩, zs, hzl, nd, nm, hd, K1, P1, A1⟩
      refine ⟨_, rfl, .inl ⟨rfl, _, sq_of hd⟩, _, rfl, _, rfl, p, l, zs, rfl, P1, nlp, hd, by omega, fun z H2 nz hz K2 P2 => ?_⟩
      have hd2 := K2.k l _ nlp hd
      have A2 := K2.a l nlp (some_ne hd) A1
      refine ⟨l, _, _, rfl, rfl, hd2, ?_, ⟨_, rfl⟩, zs ++ [z], by rw [List.length_append, hzl]; rfl, ?_, ?_, ?_, (K1.trans K2).mut hl nlp, P2.mut nlp A2, Apart.mut nlp A2⟩
      · rw [List.length_map]
        exact sz_lt (by omega)
      · rw [List.nodup_append]
        refine ⟨nd, by simp, fun x hx y hy => ?_⟩
        rw [List.mem_singleton.mp hy]
        exact fun e => hz (e ▸ hx)
      · intro x hx
        rcases List.mem_append.mp hx with hx | hx
        · exact nm x hx
        · rw [List.mem_singleton.mp hx]; exact nz
      · rw [upd_same, List.map_append]
        rfl
    · rintro σ' H' ⟨⟨v, rfl⟩, zs, hzl, nd, nm, hd, K1, P1, A1⟩
      exact ⟨_, rfl, k l zs H' hzl nd nm K1 P1 hl nlp hd⟩
end
end WK

set_option Elab.async false
set_option linter.all false
set_option maxRecDepth 100000
set_option maxHeartbeats 4000000
/-! An own exception (over ValueError) whose __init__ says super().__init__(a text) and keeps its argument. -/
namespace WW
open PySem PySem.Spec PyProof.Rows L2

section
variable {prog : Program} {w : World} {A : Around} {E : Value → Shared → Prop} {h : Heap} {g : Array GenState} {d : Drawn} {t : Nat} {os : OsState}
variable {nm q : Str} {C N : Addr} {bs bm : List Value} {hdct : Bool} {sn : List Str} {sub : List Value} {ab : Bool} {col : Option Bool} {dd : Option Addr} {k0 k1 k2 k3 k5 : Option Value}
/-- the bound ValueError.__init__ called -/
theorem call_bwV {u e t0 : Addr} {rest : List Value} {Q : Value → Shared → Prop}
    (hC : h.get? C = some (excClassObj nm q C N bs bm hdct sn sub ab col dd k0 k1 k2 k3 k5 "ValueError.__new__")) (he : h.get? e = some (PySem.HandSPX.excO C t0)) (hu : h.get? u = some (PySem.W.kxs_mw "ValueError.__init__" e)) (hrest : rest.length ≤ sizeLine)
    (hq : ∀ h' t1, (∀ b o, b ≠ e → h.get? b = some o → h'.get? b = some o) → h'.get? e = some (PySem.HandSPX.excO C t1) → Q .none ⟨h', g, d, t, os⟩) :
    wpAny (model prog w) A (call (.ref u) rest) Q E ⟨h, g, d, t, os⟩ := by
  refine wpAny_call (codeAny_of_tree ?_)
  show wpAny _ A.in1 (callAny (.ref u) ⟨rest, []⟩) _ _ _
  simp only [callAny]
  refine wpAny_bind (wpAny_load hu ?_)
  simp only [PySem.W.kxs_mw, show (Value.type "method-wrapper" == Value.type "method" || Value.type "method-wrapper" == Value.type "builtin_function_or_method" || Value.type "method-wrapper" == Value.type "method-wrapper") = true by decide, if_true]
  refine PySem.W.KFB.if_so (by decide) ?_
  refine wpAny_bind (PySem.ESX.check_bound F.excBase_ValueError hC he rfl ?_)
  refine wpAny_bind (wpAny_pure (wpAny_pure ?_))
  refine ⟨Code.quiet_builtin _ (by decide +kernel), codeAny_builtin F.excBase_ValueError.initEntry ?_⟩
  rw [Around.under_plainId F.excBase_ValueError.init.plain _]
  wp_walk
  refine hq _ h.objs.size (fun b o hb ho => ?_) ?_
  · rw [Heap.get?_update_other _ _ (Ne.symm hb)]
    exact Heap.get?_push_of_some _ ho
  · rw [Heap.get?_update_self _ (Heap.get?_push_of_some _ he) rfl]
    rfl
end

/-- the context of such a body -/
def cxE (P : Program) (w : World) (K : PySem.W.Frag) (mg : Str → Option Value) (base : Heap) (par qual : Str) (scope : Scope) (f cc : Addr) (cd : Value) (A : Around) (outer : List Env) (s : Shared) (H : Hp) : Cx where
  prog := P
  w := w
  K := K
  mg := mg
  base := base
  A := A.deeper (PySem.W.ksEnv qual scope s.heap.objs.size f cd cc)
  N := ["self", par]
  s_0 := s
  H_0 := H
  env := PySem.W.ksEnv qual scope s.heap.objs.size f cd cc
  outer := outer
  stack := PySem.W.ksEnv qual scope s.heap.objs.size f cd cc :: outer
  ex := []
  calm := true
  fn := fun x => !(x == ("__class__" : Str))
  pn := []
  xe := fun _ _ => False

/-- what the written part says of such a class and its __init__ -/
structure ExD (P : Program) (K : PySem.W.Frag) (mg : Str → Option Value) (C f cc cda : Addr) (qual : Str) (params : Arguments) (body : List Stmt) (scope : Scope) (fd : FuncData) : Prop where
  T : OexC K C
  fdat : ∃ kV doc pm an ct, fd = PySem.W.ksFn "__init__" qual params body scope .none kV doc pm an (.ref cda) ct cc
  lk : ∃ oc od osl, K.lookup f = some ⟨oc, od, .func fd, osl⟩
  code : PySem.W.codeIn K (.ref cda) qual = true
  file : ∃ ccl cdd vs ccs fl tf, K.lookup cda = some ⟨ccl, cdd, .fields vs, ccs⟩ ∧ vs[2]? = some (.str fl tf) ∧ ((P.main.file : Str) == fl) = true
  cell : ∃ cl cld csl, K.lookup cc = some ⟨cl, cld, .cell (some (.ref C)), csl⟩
  cls : ∃ cd, PySem.W.clsIn K C = some cd ∧ PySem.W.alongIn K "__init__" ((cd.mro.dropWhile (· != .ref C)).drop 1) = some (some (.builtin "ValueError.__init__"))
  self : PySem.W.mroIn K C (.ref C) = some true
  ve : PySem.W.subIn K (.ref C) (.type "ValueError") = some true
  opq : PySem.W.nsIn K PySem.cStatics "thirdparty.any" = some none
  sup : mg "super" = none
  top : (P.main.scope.names.lookup ("super" : Str)).isSome = false

/-- .. of its text -/
structure ExT (par : Str) (params : Arguments) (scope : Scope) : Prop where
  arg : ∃ ar, (params.posonlyargs ++ params.args).head? = some ar ∧ ar.arg = "self"
  kind : scope.kind = .function
  co : scope.isCoroutine = false
  gen : scope.isGenerator = false
  nd : ("self" : Str) ≠ par
  sup : scope.names.lookup ("super" : Str) = some .globalImplicit
  clsn : scope.names.lookup ("__class__" : Str) = some .free
  s : scope.names.lookup ("self" : Str) = some .local
  p : scope.names.lookup par = some .local
  free : ∀ y ∈ scope.names, y.2 = .free → y.1 = "__class__"
  cell : ∀ y ∈ scope.names, y.2 ≠ .cell

section
variable {P : Program} {w : World} {K : PySem.W.Frag} {mg : Str → Option Value} {base : Heap} {C f cc cda : Addr} {qual par : Str} {params : Arguments} {body : List Stmt} {scope : Scope} {fd : FuncData} {A : Around} {outer : List Env} {s : Shared} {H : Hp}
theorem inv_startE (S : ExT par params scope) (D : ExD P K mg C f cc cda qual params body scope fd) (hd : A.handled = none) (e0 : Env0 P w K mg base A outer s H) {u0 u1 : Value} {v0 v1 : V} (r0 : RelV v0 u0) (r1 : RelV v1 u1) {h1 : Heap} {tk : Nat}
    (hns : h1.Ns s.heap.objs.size (fun x => ([(("self" : Str), u0), (par, u1)] : List (Str × Value)).reverse.lookup x)) (hk : ∀ b o, s.heap.get? b = some o → h1.get? b = some o) :
    Inv (cxE P w K mg base par qual scope f cc (.ref cda) A outer s H) [] [some v0, some v1] H { s with heap := h1, toks := tk } := by
  obtain ⟨cl, cld, csl, hcc⟩ := D.cell
  have hcb := e0.mod.kin _ _ hcc
  have hcs := e0.bs _ _ hcb
  have lkc : ∀ x c, (([(("__class__" : Str), cc)] : List (Str × Addr)).lookup x = some c) → x = "__class__" ∧ c = cc := fun x c e => by
    rw [List.lookup_cons] at e
    split at e
    · rename_i hx
      cases e
      exact ⟨beq_iff_eq.mp hx, rfl⟩
    · cases e
  have noA : ∀ b : Addr, b ∉ ([] : List Addr) := fun b z => absurd z (by simp)
  refine ⟨⟨e0.mod, S.kind, rfl, rfl, Nat.le_refl _, fun y z c h1 h2 => ?_, fun y hy => ?_, fun y c hf h => ?_, fun _ => hd, Around.frames_deeper e0.frames, .inr ⟨rfl, rfl⟩, fun b z => absurd z (noA b), e0.bs, e0.bsz, fun b _ _ => noA b, fun b z => absurd z (noA b), e0.funs, e0.frf⟩,
    rfl, e0.bare, Un.kept hk, ⟨_, hns, fun i y v h1 h2 h3 => ?_⟩, fun y c h => ?_, e0.hok.fresh (Nat.le_refl _), fun y c h => ?_, fun p hp => absurd (show p ∈ ([] : List (Addr × Obj)) from hp) (by simp), e0.hok.kept hk, rfl⟩
  · rw [(lkc _ _ h1).1, (lkc _ _ h2).1]
  · have hy : scope.names.lookup y = some .cell ∨ scope.names.lookup y = some .free := hy
    rcases hy with hy | hy
    · exact absurd rfl (S.cell _ (PySem.mem_of_lookup hy))
    · have e := S.free _ (PySem.mem_of_lookup hy) rfl
      have e : y = "__class__" := e
      subst e
      exact ⟨cc, by show ([(("__class__" : Str), cc)] : List (Str × Addr)).lookup _ = _; rw [List.lookup_cons_self]⟩
  · have e := (lkc _ _ h).1
    subst e
    have hf : (!(("__class__" : Str) == ("__class__" : Str))) = true := hf
    rw [beq_self_eq_true] at hf
    cases hf
  · match i, h1, h2 with
    | 0, h1, h2 =>
      cases h1
      cases h2
      refine ⟨u0, r0, .inl ⟨S.s, ?_⟩⟩
      show ([(par, u1), (("self" : Str), u0)] : List (Str × Value)).lookup ("self" : Str) = some u0
      rw [List.lookup_cons, show (("self" : Str) == par) = false from beq_eq_false_iff_ne.mpr S.nd]
      exact List.lookup_cons_self
    | 1, h1, h2 =>
      cases h1
      cases h2
      refine ⟨u1, r1, .inl ⟨S.p, ?_⟩⟩
      show ([(par, u1), (("self" : Str), u0)] : List (Str × Value)).lookup par = some u1
      exact List.lookup_cons_self
    | i + 2, h1, h2 => cases h1
  · obtain ⟨_, rfl⟩ := lkc _ _ h
    exact ⟨_, _, hk _ _ hcs.1, rfl⟩
  · obtain ⟨_, rfl⟩ := lkc _ _ h
    exact hcs.2

/-- its promise: the exception at a gets a dict with that one attribute -/
def spExc (C : Addr) (attr : Str) : Sp := fun vs H Q _ => ∃ a y, vs = [.ref a, y] ∧ H a = some (exo a C none) ∧ ∀ dx, H dx = none → dx ≠ a → Q .non (upd (upd H dx (exd dx [(attr, y)])) a (exo a C (some dx)))
theorem fn_exc {CX : CXT} {k : Nat} {attr msg : Str} {j : Nat} {p0 p1 p2 p3 p4 p5 p6 p7 p8 p9 : Pos} (S : ExT par params scope) (D : ExD P K mg C f cc cda qual params body scope fd)
    (hb : body = [.Expr (.Call (.Attribute (.Call (.Name "super" p0) [] [] p1) "__init__" p2) [.Constant (.str msg) j p3] [] p4) p5, .Assign [.Attribute (.Name "self" p6) attr p7] (.Name par p8) p9])
    (hno : PySem.W.findIn K (.ref C) attr = some none) (hdp : (par == ("__debug__" : Str)) = false) (hcp : (par == ("__classdict__" : Str)) = false)
    (hev : ∀ env : Env, ∃ pl : Sem Bool, eval (.Call (.Attribute (.Call (.Name "super" p0) [] [] p1) "__init__" p2) [.Constant (.str msg) j p3] [] p4) env = (do
      let ov ← attributeBase (.Call (.Name "super" p0) [] [] p1) "__init__" env (eval (.Call (.Name "super" p0) [] [] p1) env)
      standAt p2.atName
      let (f, first) ← holding [ov] (getMethod ov "__init__" pl)
      callWith p4 f first (backTo p4 (starEach [.Constant (.str msg) j p3] env)) []))
    (hsw : ∀ env, swapsWith (.Name par p8) (some (.Attribute (.Name "self" p6) attr p7)) p9.line env = pure false) :
    FnOk P w K mg base CX (k + 1) f fd ["self", par] (spExc C attr) := by
  refine ⟨fun vs H Q E h => ?_, fun A outer s H args us vs Q E hr e0 hbind r hsp => ?_⟩
  · obtain ⟨a, y, rfl, _⟩ := h
    rfl
  obtain ⟨a, y, rfl, ha, q⟩ := hsp
  obtain ⟨u1, rfl⟩ : ∃ u1, us = [.ref a, u1] := by
    match us, r with
    | [_, u1], .cons r0 (.cons _ .nil) => cases r0; exact ⟨u1, rfl⟩
  have r1 : RelV y u1 := by
    cases r with
    | cons _ rr => cases rr with
      | cons r1 _ => exact r1
  obtain ⟨oc, od, osl, lk⟩ := D.lk
  have KX : K.In s.heap := e0.mod.kin.keeps fun b o e => (e0.bs b o e).1
  have lim : s.heap.NoLimit := e0.mod.nolimit.keeps fun b o e => (e0.bs b o e).1
  obtain ⟨kV, doc, pm, an, ct, hfd⟩ := D.fdat
  subst hfd
  refine PySem.ks_codeAny_call_defAt (fd := PySem.W.ksFn "__init__" qual params body scope .none kV doc pm an (.ref cda) ct cc) (body := body) (binds := [("self", .ref a), (par, u1)]) hr.depth (KX _ _ lk) rfl lim (PySem.W.codeRec_of KX D.code) rfl hbind S.cell ?_ (fun h1 hns hk => ?_) S.co S.gen S.kind
  · intro x hx
    rcases List.mem_cons.mp hx with rfl | hx
    · exact S.s
    · rw [List.mem_singleton.mp hx]; exact S.p
  have I := inv_startE (tk := s.toks + 2) S D hr.hd e0 (u0 := .ref a) (v0 := .ref a) rfl r1 hns hk
  show PySem.wpAt (model P w) (cxE P w K mg base par qual scope f cc (.ref cda) A outer s H).A (.func body (cxE P w K mg base par qual scope f cc (.ref cda) A outer s H).env) (execs body (cxE P w K mg base par qual scope f cc (.ref cda) A outer s H).env) _ _ { s with heap := h1, toks := s.toks + 2 }
  -- the rest, from any state behind the first row
  have rest : ∀ s5, Inv (cxE P w K mg base par qual scope f cc (.ref cda) A outer s H) [] [some (.ref a), some y] H s5 → wpAny (model P w) (cxE P w K mg base par qual scope f cc (.ref cda) A outer s H).A (execs [.Assign [.Attribute (.Name "self" p6) attr p7] (.Name par p8) p9] (cxE P w K mg base par qual scope f cc (.ref cda) A outer s H).env)
      (fun fl s' => CR CX outer P w H s Q E (.ok (.ret (match fl with | .ret v => v | _ => .none))) s') (fun _ _ => False) s5 := fun s5 J => by
    have ps : PSs (cxE P w K mg base par qual scope f cc (.ref cda) A outer s H) [.Assign [.Attribute (.Name "self" p6) attr p7] (.Name par p8) p9] (tOst K attr (tVar 0) (tVar 1)) :=
      pss_one (ps_ost (pe_var (i := 0) rfl (.inl S.s)) (pe_var (i := 1) rfl (.inl S.p) hdp hcp) (hsw _))
    refine wpAny_mono (ps.run [] s5 [some (.ref a), some y] H { nx := fun _ H' => Q .non H', rt := fun _ _ => False, bk := fun _ _ => False, ct := fun _ _ => False } J ⟨y, rfl, .ref a, rfl, a, C, rfl, D.T, hno, .inl ⟨ha, fun dx n1 n2 => q dx n1 n2⟩⟩) (fun fl s' hs => ?_) fun _ _ z => z
    cases fl with
    | next =>
      obtain ⟨σ', H', J', q'⟩ := hs
      exact ⟨.non, H', J'.os, J'.bare, J'.base, J'.hok, rfl, q'⟩
    | ret u => obtain ⟨_, _, _, _, _, z⟩ := hs; exact z.elim
    | brk => obtain ⟨_, _, _, z⟩ := hs; exact z.elim
    | cont => obtain ⟨_, _, _, z⟩ := hs; exact z.elim
  obtain ⟨ar, har, hself⟩ := S.arg
  obtain ⟨ccl, cdd, vs, ccs, fl, tf, hcode, hvs, hfile⟩ := D.file
  obtain ⟨cl, cld, csl, hcell⟩ := D.cell
  obtain ⟨cd, hcd, halong⟩ := D.cls
  obtain ⟨mb, b1, b2⟩ := e0.mod.blt
  have K1 : K.In h1 := KX.keeps hk
  obtain ⟨oC, hC1, hC2⟩ : ∃ oC, h1.get? C = some oC ∧ oC.data = .cls cd := by
    unfold PySem.W.clsIn at hcd
    split at hcd
    · rename_i c d' cd' sl ho
      cases hcd
      exact ⟨_, K1 _ _ ho, rfl⟩
    · cases hcd
  obtain ⟨t0, hx⟩ := exo_at I.hok ha
  have hx : h1.get? a = some ({ cls := .ref C, dict := none, data := .fields #[.ref t0, .none, .none, .none, .bool false, .none] } : Obj) := hx
  subst hb
  have hnc : ∀ c, ({ cls := .ref C, dict := none, data := .fields #[.ref t0, .none, .none, .none, .bool false, .none] } : Obj).data ≠ .cls c := fun c z => nomatch z
  obtain ⟨pl, hpl⟩ := hev (cxE P w K mg base par qual scope f cc (.ref cda) A outer s H).env
  refine ks_wpAt_execs_cons (ks_wpAt_Expr_any (ks_wpAt_MethodCall (pl := pl) (ks_wpAt_super_base (f := f) (cc := cda) S.sup S.clsn (by decide) rfl (K1 _ _ lk) rfl har rfl (K1 _ _ hcode) rfl hvs hfile D.top ?_) hpl) I.quiet)
  refine PySem.W.ks_loadName_global S.kind S.sup (Calls.loadGlobal_builtin (e0.mod.glob.keeps I.bk) D.sup (b1.keeps I.bk) ((b2 "super" (by decide)).trans (by rfl)) ⟨rfl, ?_⟩)
  refine wpAny_loadName_free (c := cc) S.kind S.clsn rfl ⟨_, K1 _ _ hcell, rfl⟩ ?_
  rw [hself]
  refine wpAny_loadName_local S.kind S.s hns (v := .ref a) ?_ ?_
  · show ([(par, u1), (("self" : Str), Value.ref a)] : List (Str × Value)).lookup ("self" : Str) = some (.ref a)
    rw [List.lookup_cons, show (("self" : Str) == par) = false from beq_eq_false_iff_ne.mpr S.nd]
    exact List.lookup_cons_self
  refine ks_wpAny_isType_cls hC1 hC2 ⟨rfl, ?_⟩
  refine ks_wpAny_call_super hC1 hC2 hx rfl hnc (PySem.W.looks_mroIn K1 D.self) (fun h2 e2 k2 => ?_)
  have K2 : K.In h2 := K1.keeps k2
  have I2 := I.kept (t' := s.toks + 2) k2
  have hx2 := k2 _ _ hx
  have hI : PySem.W.Looks (model P w) h2 (isInstance (.ref a) (.type "ValueError")) true := (show PySem.W.InstAt h2 a _ C none from ⟨hx2, rfl, rfl, trivial⟩).type.andThen (PySem.W.looks_subIn K2 D.ve)
  have hxC : a ≠ C := fun z => by
    rw [z, hC1] at hx
    cases hx
    cases hC2
  refine PySem.W.kxs_getMethod PySem.W.kxs_ValueError e2 (PySem.W.looks_opaque K2 D.opq) (l₀ := cd.mro) (fun A Q E s k q => wpAny_bind ((PySem.W.looks_clsIn K2 hcd) A _ E s k (wpAny_pure q))) rfl K2 halong hI hxC (by decide) ?_
  have I3 := I2.kept (t' := s.toks + 2 + 1) (h' := h2.push (PySem.W.kxs_mw "ValueError.__init__" a)) fun b o e => Heap.get?_push_of_some _ e
  have hmw : (h2.push (PySem.W.kxs_mw "ValueError.__init__" a)).get? h2.objs.size = some (PySem.W.kxs_mw "ValueError.__init__" a) := Heap.get?_push_size _ rfl
  have I4 := I3.pins_of (pins' := [(h2.objs.size, PySem.W.kxs_mw "ValueError.__init__" a)]) fun p hp => by
    rw [List.mem_singleton.mp hp]
    exact ⟨hmw, I2.hok.fresh (Nat.le_refl _), Nat.ne_of_gt I2.lt, I2.nofs (Nat.le_refl _), fun v z => nomatch z⟩
  have hst : starEach [.Constant (.str msg) j p3] (cxE P w K mg base par qual scope f cc (.ref cda) A outer s H).env = (false, eval (.Constant (.str msg) j p3) (cxE P w K mg base par qual scope f cc (.ref cda) A outer s H).env) :: starEach [] (cxE P w K mg base par qual scope f cc (.ref cda) A outer s H).env := by rfl
  have pa : PA (cxE P w K mg base par qual scope f cc (.ref cda) A outer s H) [.Constant (.str msg) j p3] (tCons (tC (.str msg)) tNil) := pa_cons pe_str pa_nil
  have run := pa.run p4 _ _ _ _ (fun vs H1 => vs = [.str msg] ∧ H1 = H) I4 ⟨rfl, rfl⟩
  rw [hst] at run ⊢
  refine PySem.W.kxs_callWith (i := "ValueError.__init__") (x := a) (by rfl) ?_
  refine Calls.evalArgs_plain ?_
  refine wpAny_mono run (fun us s3 z => ?_) fun _ _ z => z.elim
  obtain ⟨vs3, H3, I5, r3, rfl, rfl⟩ := z
  have hpin := I5.pin _ (List.mem_append_right _ (List.mem_singleton.mpr rfl))
  refine ⟨hpin.1, ?_⟩
  obtain ⟨nm, q', N, bs, bm, sn, sub, ab, col, dd, k0, k1, k2', k3, k5, hCo, hbm⟩ := D.T.cls
  obtain ⟨t1, hx3⟩ := exo_at I5.hok ha
  have K5 : K.In s3.heap := I5.kIn
  obtain ⟨hp, g, d, t, os⟩ := s3
  have hlen : us.length ≤ sizeLine := by
    rw [← Paired.length r3]
    show 1 ≤ sizeLine
    decide
  refine call_bwV (K5 _ _ hCo) hx3 hpin.1 hlen fun h' t2 kk hx' => ?_
  have J := I5.write (t' := t) (x := a) (e := a) (o := exo a C none) (by rw [ha]; exact True.intro) (.inl rfl) kk ⟨_, hx'⟩ (exo_ok hx')
  have eu : upd H3 a (exo a C none) = H3 := by
    funext b
    by_cases hb : b = a
    · rw [hb, upd_same, ha]
    · rw [upd_ne hb]
  rw [eu] at J
  exact wpAt_of_wpAny (wpAny_mono (rest _ (J.pins_of (pins' := []) fun p hp => nomatch hp)) (fun _ _ z => z) fun _ _ z => z.elim)
end
end WW

set_option Elab.async false
set_option linter.all false
set_option maxRecDepth 100000
set_option maxHeartbeats 4000000
/-! raise of an own exception made with one argument that it keeps. -/
namespace WW
open PySem PySem.Spec PyProof.Rows L2
/-- the class x of the module's names can be raised with one argument, which it keeps as attr -/
structure ExR (P : Program) (w : World) (K : PySem.W.Frag) (mg : Str → Option Value) (base : Heap) (k : Nat) (x : Str) (C : Addr) (attr : Str) : Prop where
  T : OexC K C
  ini : ∃ fI fd par, PySem.W.findIn K (.ref C) "__init__" = some (some (.ref fI)) ∧ PySem.W.typeIn K (.ref fI) = some (.type "function") ∧ FnOk P w K mg base CXn k fI fd ["self", par] (spExc C attr) ∧ Binds K fd ["self", par] []
  g : mg x = some (.ref C)
/-- raise x(e) -/
def tRaiseE (C : Addr) (attr : Str) (W : WX) (te : TE) : TS := fun _ σ H => tMkO C (spExc C attr) [] (tCons te tNil) σ H fun cls d H' => W cls d σ H'
theorem ps_raiseE {X : Cx} {W : WX} {k : Nat} {x : Str} {C : Addr} {attr : Str} {e : Expr} {te : TE} {p pos pos2 : Pos} (D : ExR X.prog X.w X.K X.mg X.base k x C attr) (hc : X.calm = true) (hr : Room (k + 1) X.A) (tk : Takes X W) (hg : Gl X x) (he : PE X e te)
    (hdb : (x == ("__debug__" : Str)) = false := by decide) (hs : starEach [e] X.env = (false, eval e X.env) :: starEach [] X.env := by rfl) (hpl : (backTo pos (starEach [] X.env)).any (·.1) = false := by rfl) :
    PS X (.Raise (some (.Call (.Name x p) [e] [] pos)) none pos2) (tRaiseE C attr W te) := by
  obtain ⟨fI, fd, par, h1, h2, h3, h4⟩ := D.ini
  exact ps_raise hc tk (pmk_oex D.T h1 h2 h3 hr h4 .nil (fun _ _ _ _ _ _ _ h => h.elim) hg D.g (pa_cons he pa_nil hs) hdb hs hpl)
theorem raise_go {C : Addr} {attr : Str} {y : V} {H1 : Hp} {Q : XK} (h : ∀ d, H1 d = none → Q (.ref C) (some d) (upd H1 d (.xd [(attr, y)]))) :
    [y].length ≤ 1000 ∧ ∀ a, H1 a = none → spExc C attr (.ref a :: ([y] ++ [])) (upd H1 a (exo a C none)) (fun v H2 => v = .non ∧ ∃ (d : Addr) (fs : List (Str × V)), H2 a = some (exo a C (some d)) ∧ H2 d = some (exd d fs) ∧ H1 d = none ∧ Q (.ref C) (some d) (upd (del H2 a) d (.xd fs))) (fun _ _ _ => False) := by
  refine ⟨show 1 ≤ 1000 by decide, fun a ha => ⟨a, y, rfl, upd_same, fun dx hd hne => ⟨rfl, dx, [(attr, y)], upd_same, ?_, ?_, ?_⟩⟩⟩
  · rw [upd_ne hne, upd_same]
  · rw [upd_ne hne] at hd; exact hd
  · have e : upd (del (upd (upd (upd H1 a (exo a C none)) dx (exd dx [(attr, y)])) a (exo a C (some dx))) a) dx (.xd [(attr, y)]) = upd H1 dx (.xd [(attr, y)]) := by
      funext b
      by_cases hb : b = dx
      · subst hb; rw [upd_same, upd_same]
      · rw [upd_ne hb, upd_ne hb]
        by_cases hc : b = a
        · subst hc; rw [del_same, ha]
        · rw [del_ne hc, upd_ne hc, upd_ne hb, upd_ne hc]
    rw [e]
    exact h dx (by rw [upd_ne hne] at hd; exact hd)
end WW

set_option Elab.async false
set_option linter.all false
set_option maxRecDepth 100000
set_option maxHeartbeats 4000000
/-! try with several clauses «except x as n». -/
namespace WW
open PySem PySem.Spec PyProof.Rows L2
abbrev Suite : Type := Addr → Value → Option Addr → TS
/-- the clauses' wishes of an exception, from the first on; a clause is (class, slot of its name, suite) -/
def wAsM (K : PySem.W.Frag) (Wout : WX) (D : Ends) : List (Value × Nat × Suite) → WX
  | [] => Wout
  | (c, i, ts) :: r => wAs K c i ts (wAsM K Wout D r) D
inductive HdsAs (X : Cx) : List ExceptHandler → List (Value × Nat × Suite) → Prop
  | done : HdsAs X [] []
  | clause {x n : Str} {c : Value} {i : Nat} {ts : Suite} {b : Stmt} {bs : List Stmt} {p q : Pos} {hds : List ExceptHandler} {l : List (Value × Nat × Suite)} (hc : Names X x c) (hi : X.N[i]? = some n) (hk : X.env.kindOf n = some .local)
      (body : ∀ (a : Addr) (oe : Obj) (cls : Value) (d : Option Addr) (pn : List (Addr × Obj)), Zc cls d oe → (∃ vs, oe.data = .fields vs) → PSs (X.suite a ((a, oe) :: pn)) (b :: bs) (ts a cls d)) (more : HdsAs X hds l) :
      HdsAs X (.ExceptHandler (some (.Name x p)) (some n) (b :: bs) q :: hds) ((c, i, ts) :: l)
/-- the exception a has come to the clauses -/
structure Came (X : Cx) (pins : List (Addr × Obj)) (σ : L2.St) (H : Hp) (B : Heap) (a : Addr) (cls : Value) (d : Option Addr) (s : Shared) : Prop where
  fly : PySem.HandSPX.FlyingZ B (X.env :: X.outer) a (Zc cls d) s.heap
  inv : ∀ h, PySem.HandSPX.FlyingZ B (X.env :: X.outer) a (Zc cls d) h → s.heap.UpToSlots h → Inv X pins σ H { s with heap := h }
  na : H a = none
  nL : a ≠ X.env.locals
  nF : a ∉ X.fs
section
variable {X : Cx} {pins : List (Addr × Obj)} {σ : L2.St} {H : Hp} {B : Heap} {a : Addr} {cls : Value} {d : Option Addr} {s : Shared} {D : Ends} {Wout : WX}
/-- with the exception pinned, as the suite sees it -/
theorem Came.suite (Z : Came X pins σ H B a cls d s) {h : Heap} (f : PySem.HandSPX.FlyingZ B (X.env :: X.outer) a (Zc cls d) h) (u : s.heap.UpToSlots h) :
    ∃ oe, Zc cls d oe ∧ (∃ vs, oe.data = .fields vs) ∧ h.get? a = some oe ∧ Inv (X.suite a ((a, oe) :: (X.pn ++ pins))) [] σ H { s with heap := h } := by
  obtain ⟨oe, vs, e, z, dt⟩ := f.there
  exact ⟨oe, z, ⟨vs, dt⟩, e, (Z.inv h f u).suite e dt Z.na Z.nL Z.nF⟩
/-- no clause takes it -/
theorem Came.pass (Z : Came X pins σ H B a cls d s) (hf : X.env.frame = some X.env.locals) (out : ∀ h, PySem.HandSPX.HeldZ B (X.env :: X.outer) a (Zc cls d) X.env.locals h → s.heap.UpToSlots h → X.xe (.ref a) { s with heap := h }) :
    wpAny (model X.prog X.w) X.A (handleBy (.ref a) X.env []) (SP X pins D) X.xe s := by
  refine wpAny_handleBy_nil ?_
  have up : wpAny (model X.prog X.w) X.A (setFlight (.ref a) X.env.frame) (fun _ t => wpAny (model X.prog X.w) X.A (throw (.ref a) : Sem Flow) (SP X pins D) X.xe t) X.xe s := by
    rw [hf]
    exact PySem.HandSPX.setFlight_upZ Z.fly fun h hh u => wpAny_throw (out h hh u)
  obtain ⟨_, _, _, oe, vs, T, _, _, e, _, dt, v1, _⟩ := id Z.fly
  have nn : ¬ ((Value.ref T == Value.none) = true) := by simp
  unfold PySem.passOn
  refine wpAny_bind (wpAny_field e dt v1 ?_)
  rw [if_neg nn]
  first
    | exact wpAny_bind up
    | exact wpAny_bind (wpAny_pure (wpAny_bind up))
theorem Came.clauses (hN : X.N.Nodup) (ok : X.Ok) (hf : X.env.frame = some X.env.locals) : ∀ {hds : List ExceptHandler} {l : List (Value × Nat × Suite)}, HdsAs X hds l → Came X pins σ H B a cls d s →
    (Wout cls d σ H → ∀ h, PySem.HandSPX.HeldZ B (X.env :: X.outer) a (Zc cls d) X.env.locals h → s.heap.UpToSlots h → X.xe (.ref a) { s with heap := h }) → wAsM X.K Wout D l cls d σ H →
    wpAny (model X.prog X.w) X.A (handleBy (.ref a) X.env hds) (SP X pins D) X.xe s
  | _, _, .done, Z, out, w => Z.pass hf (out w)
  | _, _, .clause (x := x) (n := n) (c := c) (i := i) (ts := ts) (p := p) (q := q) hc hi hk body more, Z, out, w => by
    obtain ⟨yes, hm, wy, wn⟩ := w
    obtain ⟨oe, z, hd, e, S⟩ := Z.suite Z.fly (Heap.UpToSlots.refl _)
    have named : ∀ {R : Value → Shared → Prop} {F : Value → Shared → Prop}, R c s → wpAny (model X.prog X.w) (X.A.mark (some (.ref a))) (eval (.Name x p) X.env) R F s := fun {R F} r =>
      match hc with
      | ⟨g, nd, .inl m⟩ => ld_glob (X := X.suite a ((a, oe) :: (X.pn ++ pins))) S g m r nd
      | ⟨g, nd, .inr ⟨m, b, nn⟩⟩ => ld_blt (X := X.suite a ((a, oe) :: (X.pn ++ pins))) S g m b r nn nd
    have ofCls : PySem.W.Looks (model X.prog X.w) s.heap (typeOf (.ref a)) cls := fun _ _ _ _ k r => wpAny_typeOf_ref (k _ _ e) (by rw [z.1]; exact r)
    refine wpAny_handleBy_cons (codeAny_handlers_test (named ((PySem.W.exm_one (M := model X.prog X.w) S.kIn ofCls hm).here ?_))) (fun r => nomatch r)
    cases yes with
    | false => exact Came.clauses hN ok hf more Z out (wn rfl)
    | true =>
      refine codeAny_handlers_suite_as (PySem.HandSPX.lands_againZ Z.fly fun h f u => ?_)
      obtain ⟨ob, zb, hb, eb, Sb⟩ := Z.suite f u
      refine store_ok (X := X.suite a ((a, ob) :: (X.pn ++ pins))) (v := .ref a) Sb hN hi (.inl hk) rfl (fun t St => ?_) (.inr hk)
      refine wpAny_mono ((body a ob cls d (X.pn ++ pins) zb hb).run [] t _ H _ St (wy rfl a Z.na)) (fun fl t2 r => ?_) fun _ _ r => r.elim
      have gone : ∀ {σ2 : L2.St} {H2 : Hp} {R : Shared → Prop}, Inv (X.suite a ((a, ob) :: (X.pn ++ pins))) [] σ2 H2 t2 → (∀ t3, Inv X pins (σ2.set i none) H2 t3 → R t3) →
          wpAny (model X.prog X.w) X.A (do bindName X.env n .none; unbindBehindTheSuite X.env n q) (fun _ t3 => R t3) X.xe t2 := fun I2 k => gone_ok (I2.unsuite ok) hN hi hk k
      cases fl with
      | ret u =>
        obtain ⟨v2, σ2, H2, I2, rv, k⟩ := r
        exact gone I2 fun _ J => ⟨v2, _, H2, J, rv, k⟩
      | next =>
        obtain ⟨σ2, H2, I2, k⟩ := r
        exact gone I2 fun _ J => ⟨_, H2, J, k⟩
      | brk =>
        obtain ⟨σ2, H2, I2, k⟩ := r
        exact gone I2 fun _ J => ⟨_, H2, J, k⟩
      | cont =>
        obtain ⟨σ2, H2, I2, k⟩ := r
        exact gone I2 fun _ J => ⟨_, H2, J, k⟩
/-- try: body / except c1 as n1: .. / except c2 as n2: .. -/
theorem ps_try_asM {body : List Stmt} {h0 : ExceptHandler} {hds : List ExceptHandler} {l : List (Value × Nat × Suite)} {tb : WX → TS} {pos : Pos} (hs : X.stack = X.env :: X.outer) (hf : X.env.frame = some X.env.locals) (hN : X.N.Nodup) (tk : Takes X Wout)
    (hb : ∀ (W : WX) (pn : List (Addr × Obj)) (xe : Value → Shared → Prop), Takes (X.tr pn xe) W → PassesOwn (model X.prog X.w) X.A X.env xe → PSs (X.tr pn xe) body (tb W)) (hh : HdsAs X (h0 :: hds) l) :
    PS X (.Try body (h0 :: hds) [] [] pos) (fun D σ H => tb (wAsM X.K Wout D l) D σ H) := by
  refine ⟨fun pins s σ H D I h => wpAny_Try_except ?_⟩
  have caught : Takes (X.tr (X.pn ++ pins) fun e s1 => wpAny (model X.prog X.w) X.A (noteFrame e X.env) (fun _ s2 => wpAny (model X.prog X.w) X.A (setFlight e none) (fun _ s3 => wpAny (model X.prog X.w) X.A (handleBy e X.env (h0 :: hds)) (SP X pins D) X.xe s3) X.xe s2) X.xe s1) (wAsM X.K Wout D l) := by
    intro v t x
    obtain ⟨a, B, sI, pins2, σ2, H2, cls, d, rfl, J2, nb, up, sky, na, os, ag, w⟩ := x
    have J := J2.ofTry (pins := pins) I.ok
    have sk : Sky B (X.env :: X.outer) a (Zc cls d) X.env.locals t.heap := hs ▸ sky
    have fr : X.A.frames = some (X.env :: X.outer) := I.ok.frames.trans (congrArg some hs)
    show wpAny (model X.prog X.w) X.A (noteFrame (.ref a) X.env) _ _ _
    refine Sky.land Zc.steady fr hf sk fun h f u => ?_
    have far : a ∉ frs (X.env :: X.outer) := fun m => by
      obtain ⟨oe, vs, e, _, dt⟩ := f.there
      obtain ⟨_, oe2, e2, nf⟩ := PySem.Heap.FunFrames.mem f.2.2.1 m
      cases e.symm.trans e2
      exact nf _ dt
    have Z : Came X pins σ2 H2 B a cls d { t with heap := h } := {
      fly := f
      inv := fun h2 f2 u2 => J.landed nb f2.1 ((up.trans u).trans u2) os ag
      na := na
      nL := fun z => far (List.mem_filterMap.mpr ⟨X.env, List.mem_cons_self, hf.trans (congrArg some z.symm)⟩)
      nF := fun m => by
        obtain ⟨en, me, fe⟩ := List.mem_filterMap.mp m
        exact far (List.mem_filterMap.mpr ⟨en, List.mem_cons_of_mem _ me, fe⟩) }
    exact Z.clauses hN I.ok hf hh (fun w h2 held u2 => tk _ _ ⟨a, B, sI, pins, σ2, H2, cls, d, rfl, J, nb, (up.trans u).trans u2, .inr (.inr (hs ▸ held)), na, os, ag, w⟩) w
  refine wpAny_mono ((hb _ (X.pn ++ pins) _ caught PassesOwn.looking).run [] s σ H D (I.toTry _) h) (fun fl t r => ?_) fun _ _ z => z
  cases fl with
  | next =>
    obtain ⟨σ2, H2, J, k⟩ := r
    exact wpAny_execs_nil ⟨σ2, H2, J.ofTry I.ok, k⟩
  | ret u =>
    obtain ⟨v, σ2, H2, J, rv, k⟩ := r
    exact ⟨v, σ2, H2, J.ofTry I.ok, rv, k⟩
  | brk =>
    obtain ⟨σ2, H2, J, k⟩ := r
    exact ⟨σ2, H2, J.ofTry I.ok, k⟩
  | cont =>
    obtain ⟨σ2, H2, J, k⟩ := r
    exact ⟨σ2, H2, J.ofTry I.ok, k⟩
end
end WW

set_option Elab.async false
set_option linter.all false
set_option maxRecDepth 100000
set_option maxHeartbeats 4000000
/-! Calls of what may raise, inside a try: a def by its name, a class. -/
namespace WW
open PySem PySem.Spec PyProof.Rows L2
section
variable {X : Cx} {CX : CXT} {k n : Nat} {f C : Addr} {fd : FuncData} {ps : List Str} {sp : Sp} {E : L2.St → XK} {x : Str} {p pos : Pos} {e : Expr} {es : List Expr} {t : TA}
theorem pe_clS (c : Callee X.prog X.w X.K X.mg X.base CX k x n sp) (hr : Room k X.A) (hg : Gl X x) (hx : ∀ σ, PassesAt CX X σ (E σ)) (ha : PA X (e :: es) t)
    (hdb : (x == ("__debug__" : Str)) = false := by decide) (he : starEach (e :: es) X.env = (false, eval e X.env) :: starEach es X.env := by rfl) (hpl : (backTo pos (starEach es X.env)).any (·.1) = false := by rfl) :
    PE X (.Call (.Name x p) (e :: es) [] pos) (tCallS sp E t) := by
  obtain ⟨f, fd, ps, _, F, hm, hk, hb⟩ := c.ex
  exact pe_callS F hr hg hm hk hb hx ha hdb he hpl
/-- C(..), whose __init__ may raise -/
def tMakeS (C : Addr) (sp : Sp) (E : L2.St → XK) (t : TA) : TE := fun σ H Q => t σ H fun vs H1 => ∀ o m, H1 o = none → H1 m = none → m ≠ o → sp (.ref o :: vs) (upd (upd H1 m (.own o)) o (.ins C m [])) (fun v H2 => v = .non ∧ Q (.ref o) H2) (E σ)
theorem pe_makeS (M : Mk X.K C f) (F : FnOk X.prog X.w X.K X.mg X.base CX k f fd ps sp) (hr : Room (k + 1) X.A) (hg : Gl X x) (hm : X.mg x = some (.ref C)) (hb : Binds X.K fd ps []) (hx : ∀ σ, PassesAt CX X σ (E σ)) (ha : PA X (e :: es) t)
    (hdb : (x == ("__debug__" : Str)) = false := by decide) (he : starEach (e :: es) X.env = (false, eval e X.env) :: starEach es X.env := by rfl) (hpl : (backTo pos (starEach es X.env)).any (·.1) = false := by rfl) :
    PE X (.Call (.Name x p) (e :: es) [] pos) (tMakeS C sp E t) := by
  refine ⟨fun pins s σ H Q I h => wpAny_Call_Name_kw (ld_glob I hg hm (PySem.W.callWith_K (h₀ := X.base) I.ok.mod.kin M.kp (thn (ha.run pos pins s σ H _ I h) fun us s1 z => ?_) he hpl) hdb)⟩
  obtain ⟨vs, H1, I1, r, q⟩ := z
  refine ⟨I1.kIn, ?_⟩
  have low : s1.heap.objs.size ≤ s1.heap.objs.size + 1 := Nat.le_succ _
  have new := q (s1.heap.objs.size + 1) s1.heap.objs.size (I1.hok.fresh low) (I1.hok.fresh (Nat.le_refl _)) (Nat.ne_of_lt (Nat.lt_succ_self _))
  have rs : Vals (V.ref (s1.heap.objs.size + 1) :: vs) (Value.ref (s1.heap.objs.size + 1) :: us) := .cons rfl r
  have J := I1.made (C := C)
  have many : (Value.ref (s1.heap.objs.size + 1) :: us ++ []).length = ps.length := by rw [List.append_nil, ← rs.length, F.len _ _ _ _ new]
  have bs := hb _ (Value.ref (s1.heap.objs.size + 1) :: us) J.kIn many
  rw [List.append_nil] at bs
  refine wpAny_call (make_map (f := f) I1.kIn M.makes M.init (beq_iff_eq.mp M.fn) (codeAny_mono (F.run _ X.stack _ _ ⟨Value.ref (s1.heap.objs.size + 1) :: us, []⟩ _ _ _ (E σ) (hr.make C us []) (J.env0.make C us []) bs rs new) fun a t z => ?_))
  match a, z with
  | .error _, z => exact hx σ _ _ _ _ t J z
  | .ok (.ret u), z =>
    obtain ⟨v, H2, J2, rv, rfl, k2⟩ := J.after z
    exact ⟨rv, .ref (s1.heap.objs.size + 1), H2, J2, rfl, k2⟩
  | .ok .next, z => exact False.elim z
  | .ok .brk, z => exact False.elim z
  | .ok .cont, z => exact False.elim z
end
end WW

set_option Elab.async false
set_option linter.all false
set_option maxRecDepth 100000
set_option maxHeartbeats 4000000
/-! A head's facts: those of the layer, defs found anyhow, one more Bool. -/
namespace WW
open PySem PySem.Spec PyProof.Rows L2 He
def obsB (fa : List Fa) (fn : List He5.DefA) (ex : PySem.W.Frag → Bool) (K : PySem.W.Frag) : He.AlD := (((fa.all fun f => f.ok K) && ex K) && fn.all fun d => d.ok K, fn.map fun d => He5.fnA K (d.at_ K))
def SaysB (fa : List Fa) (fn : List He5.DefA) (ex : PySem.W.Frag → Bool) (K : PySem.W.Frag) : Prop := obsB fa fn ex K = He5.valA fn
def obsBG (n : Nat) (fa : List Fa) (fn : List He5.DefA) (ex : PySem.W.Frag → Bool) (g : Addr → Option Obj) : He.AlD := obsB fa fn ex (frG g (He5.asA g n))
def hookB (n : Nat) (fa : List Fa) (fn : List He5.DefA) (ex : PySem.W.Frag → Bool) : PySem.W.Hook where
  α := He.AlD
  obs := fun s => obsBG n fa fn ex s.heap.get?
  val := fun _ => He5.valA fn
  says := fun _ h => ∃ K : PySem.W.Frag, K.In h ∧ SaysB fa fn ex K
  of := fun _ _ e => ⟨_, frG_in, e⟩
  keeps := fun _ _ _ ⟨K, hK, c⟩ k => ⟨K, PySem.W.Frag.In.keeps hK k, c⟩
theorem obsBG_eq {n : Nat} {fa : List Fa} {fn : List He5.DefA} {ex : PySem.W.Frag → Bool} {g : Addr → Option Obj} {s : Shared} (h : ∀ a, g a = s.heap.get? a) : obsBG n fa fn ex g = (hookB n fa fn ex).obs s := by
  have e : g = s.heap.get? := funext h
  rw [e] <;> rfl
section
variable {fa : List Fa} {fn : List He5.DefA} {ex : PySem.W.Frag → Bool} {K : PySem.W.Frag}
theorem SaysB.fact (c : SaysB fa fn ex K) {f : Fa} (h : f ∈ fa) : f.ok K = true := by
  have c1 := (ba (ba (show (((fa.all fun f => f.ok K) && ex K) && fn.all fun d => d.ok K) = true from congrArg (fun z : He.AlD => z.1) c)).1).1
  exact List.all_eq_true.mp c1 f h
theorem SaysB.ext (c : SaysB fa fn ex K) : ex K = true :=
  (ba (ba (show (((fa.all fun f => f.ok K) && ex K) && fn.all fun d => d.ok K) = true from congrArg (fun z : He.AlD => z.1) c)).1).2
theorem SaysB.def_ (c : SaysB fa fn ex K) (i : Nat) {d : He5.DefA} (h : fn[i]? = some d := by rfl) : ∃ fd, L2.FunD K d.name d.qual d.params d.body d.scope (d.dvs K) (d.kws K) (d.at_ K) fd := by
  have c2 := (ba (show (((fa.all fun f => f.ok K) && ex K) && fn.all fun d => d.ok K) = true from congrArg (fun z : He.AlD => z.1) c)).2
  have e : fn.map (fun d => He5.fnA K (d.at_ K)) = fn.map He5.DefA.val := congrArg (fun z : He.AlD => z.2) c
  have e2 : (fn.map fun d => He5.fnA K (d.at_ K))[i]? = (fn.map He5.DefA.val)[i]? := by rw [e]
  rw [List.getElem?_map, List.getElem?_map, h] at e2
  exact He5.DefA.funD (Option.some.inj e2) (List.all_eq_true.mp c2 d (List.mem_of_getElem? h))
end
/-- the getter of a property -/
def getr (K : PySem.W.Frag) (C : Addr) (f : Str) : Addr := match PySem.W.recIn K (ma K C f) "property" with
  | some (.ref g :: _) => g
  | _ => 0
def propB (K : PySem.W.Frag) (C : Addr) (f : Str) : Bool := eqO (PySem.W.findIn K (.ref C) f) (some (some (.ref (ma K C f)))) && (eqO (PySem.W.specialIn K (.ref (ma K C f)) "__get__") (some (some (.builtin "property.__get__"))) &&
  (decide (PySem.W.takesIn K (.ref (ma K C f)) = some true) && (match PySem.W.recIn K (ma K C f) "property" with
    | some (.ref g :: _) => true
    | _ => false)))
theorem propB_ok {K : PySem.W.Frag} {C : Addr} {f : Str} (h : propB K C f = true) : PropOf K C f (ma K C f) (getr K C f) := by
  obtain ⟨h1, h⟩ := ba h
  obtain ⟨h2, h⟩ := ba h
  obtain ⟨h3, h4⟩ := ba h
  refine ⟨eqO_ok h1, eqO_ok h2, of_decide_eq_true h3, ?_⟩
  unfold getr
  cases e : PySem.W.recIn K (ma K C f) "property" with
  | none => rw [e] at h4; cases h4
  | some l =>
    cases l with
    | nil => rw [e] at h4; cases h4
    | cons v r =>
      cases v with
      | ref g => exact ⟨r, rfl⟩
      | _ => rw [e] at h4; cases h4
end WW

set_option Elab.async false
set_option linter.all false
set_option maxRecDepth 100000
set_option maxHeartbeats 4000000
/-! A head's facts of own exceptions whose __init__ says super(). -/
namespace WW
open PySem PySem.Spec PyProof.Rows L2 He
def oexB (K : PySem.W.Frag) (C : Addr) : Bool := (match K.lookup C with
  | some ⟨.type "type", _, .cls cd, sl⟩ => (match cd.mro, sl.toList with
    | .ref C' :: bm, [_, _, _, _, some (.builtin n), _] => decide (C' = C) && (decide (n = "ValueError.__new__") && (!cd.hasDel && (cd.hasDict && PySem.HandSPX.refsVE bm)))
    | _, _ => false)
  | _ => false) && (eqO (PySem.W.findIn K (.ref C) "__setattr__") (some (some (.builtin "object.__setattr__"))) && (decide (PySem.W.subIn K (.ref C) (.type "BaseException") = some true) && (decide (PySem.W.typeIn K (.ref C) = some (.type "type")) && PySem.W.keepIn K (.ref C))))
theorem oexB_ok {K : PySem.W.Frag} {C : Addr} (h : oexB K C = true) : OexC K C := by
  obtain ⟨q, h⟩ := ba h
  obtain ⟨h2, h⟩ := ba h
  obtain ⟨h3, h⟩ := ba h
  obtain ⟨h4, h5⟩ := ba h
  refine ⟨?_, eqO_ok h2, of_decide_eq_true h3, of_decide_eq_true h4, h5⟩
  split at q
  · rename_i dd cd sl ho
    split at q
    · rename_i C' bm k0 k1 k2 k3 n k5 hm hs
      simp only [Bool.and_eq_true, decide_eq_true_eq, Bool.not_eq_true'] at q
      obtain ⟨rfl, rfl, hdel, hdict, ht⟩ := q
      obtain ⟨nm, bs, mro, ns, qn, hd, sn, sub, ab, col, del⟩ := cd
      dsimp only at hm hdel hdict
      subst hm hdel hdict
      have hsl : sl = #[k0, k1, k2, k3, some (.builtin "ValueError.__new__"), k5] := by
        obtain ⟨l⟩ := sl
        simp only at hs
        rw [hs]
      subst hsl
      exact ⟨nm, qn, ns, bs, bm, sn, sub, ab, col, dd, k0, k1, k2, k3, k5, ho, ht⟩
    · cases q
  · cases q

abbrev FnE : Type := Option (Str × Str × Arguments × FuncBody × Scope × Addr × List Str × Addr)
def fnE (K : PySem.W.Frag) (a : Addr) : FnE := match K.lookup a with
  | some ⟨_, _, .func fd, _⟩ => some (fd.name, fd.qualname, fd.params, fd.body, fd.scope, fd.globals, fd.closure.map (·.1), fd.builtins)
  | _ => none
structure DefE where
  cls : Str
  qual : Str
  params : Arguments
  body : List Stmt
  scope : Scope
def DefE.val (d : DefE) : FnE := some ("__init__", d.qual, d.params, .stmts d.body, d.scope, mainGlobals, ["__class__"], builtinsNs)
def exI (K : PySem.W.Frag) (x : Str) : Addr := ma K (ga K x) "__init__"
def exCda (K : PySem.W.Frag) (x : Str) : Addr := match K.lookup (exI K x) with
  | some ⟨_, _, .func fd, _⟩ => (match fd.code with
    | .ref c => c
    | _ => 0)
  | _ => 0
def exCc (K : PySem.W.Frag) (x : Str) : Addr := match K.lookup (exI K x) with
  | some ⟨_, _, .func fd, _⟩ => (match fd.closure with
    | [(_, c)] => c
    | _ => 0)
  | _ => 0
def exdB (file : Str) (K : PySem.W.Frag) (d : DefE) : Bool := oexB K (ga K d.cls) && (PySem.W.codeIn K (.ref (exCda K d.cls)) d.qual && ((match K.lookup (exCda K d.cls) with
    | some ⟨_, _, .fields vs, _⟩ => (match (vs[2]? : Option Value) with
      | some (.str fl _) => file == fl
      | _ => false)
    | _ => false) && ((match K.lookup (exCc K d.cls) with
    | some ⟨_, _, .cell (some (.ref D)), _⟩ => decide (D = ga K d.cls)
    | _ => false) && ((match PySem.W.clsIn K (ga K d.cls) with
    | some cd => eqO (PySem.W.alongIn K "__init__" ((cd.mro.dropWhile (· != .ref (ga K d.cls))).drop 1)) (some (some (.builtin "ValueError.__init__")))
    | none => false) && (decide (PySem.W.mroIn K (ga K d.cls) (.ref (ga K d.cls)) = some true) && (decide (PySem.W.subIn K (.ref (ga K d.cls)) (.type "ValueError") = some true) && (eqO (PySem.W.nsIn K PySem.cStatics "thirdparty.any") (some none) && ((match K.lookup (exI K d.cls) with
    | some ⟨_, _, .func fd, _⟩ => decide (fd.code = .ref (exCda K d.cls)) && decide (fd.defaults = .none)
    | _ => false) && (eqO (PySem.W.findIn K (.ref (ga K d.cls)) "__init__") (some (some (.ref (exI K d.cls)))) && decide (PySem.W.typeIn K (.ref (exI K d.cls)) = some (.type "function")))))))))))
theorem exdB_ok {P : Program} {K : PySem.W.Frag} {mg : Str → Option Value} {d : DefE} (h : exdB P.main.file K d = true) (e : fnE K (exI K d.cls) = d.val) (hs : mg "super" = none) (ht : (P.main.scope.names.lookup ("super" : Str)).isSome = false) :
    ∃ fd, ExD P K mg (ga K d.cls) (exI K d.cls) (exCc K d.cls) (exCda K d.cls) d.qual d.params d.body d.scope fd ∧ PySem.W.findIn K (.ref (ga K d.cls)) "__init__" = some (some (.ref (exI K d.cls))) ∧ PySem.W.typeIn K (.ref (exI K d.cls)) = some (.type "function") := by
  obtain ⟨h1, h⟩ := ba h
  obtain ⟨h2, h⟩ := ba h
  obtain ⟨h3, h⟩ := ba h
  obtain ⟨h4, h⟩ := ba h
  obtain ⟨h5, h⟩ := ba h
  obtain ⟨h6, h⟩ := ba h
  obtain ⟨h7, h⟩ := ba h
  obtain ⟨h8, h⟩ := ba h
  obtain ⟨h9, h⟩ := ba h
  obtain ⟨h10, h11⟩ := ba h
  have hcc : exCc K d.cls = (match K.lookup (exI K d.cls) with
    | some ⟨_, _, .func fd, _⟩ => (match fd.closure with
      | [(_, c)] => c
      | _ => 0)
    | _ => 0) := rfl
  cases q : K.lookup (exI K d.cls) with
  | none => rw [q] at h9; cases h9
  | some o =>
    obtain ⟨oc, od, dt, osl⟩ := o
    rw [q] at h9 hcc
    unfold fnE at e
    rw [q] at e
    cases dt with
    | func fd =>
      obtain ⟨n1, n2, n3, n4, n5, n6, n7, n8, n9, n10, n11, n12, n13, n14, n15⟩ := fd
      have e2 : (some (n1, n2, n3, n4, n5, n6, n7.map (·.1), n15) : FnE) = some (("__init__" : Str), d.qual, d.params, FuncBody.stmts d.body, d.scope, mainGlobals, [("__class__" : Str)], builtinsNs) := e
      simp only [Option.some.injEq, Prod.mk.injEq] at e2
      obtain ⟨e1, e2, e3, e4, e5, e6, e7, e8⟩ := e2
      obtain ⟨g1, g2⟩ := ba h9
      have g3 : n13 = .ref (exCda K d.cls) := of_decide_eq_true g1
      have g4 : n8 = .none := of_decide_eq_true g2
      match n7, e7, hcc with
      | [(x, c)], e7, hcc =>
        have ex : x = "__class__" := by simpa using e7
        have hc2 : exCc K d.cls = c := hcc
        subst ex
        rw [← hc2] at q
        refine ⟨_, ⟨oexB_ok h1, ⟨n9, n10, n11, n12, n14, rfl⟩, ⟨oc, od, osl, ?_⟩, h2, ?_, ?_, ?_, of_decide_eq_true h6, of_decide_eq_true h7, eqO_ok h8, hs, ht⟩, eqO_ok h10, of_decide_eq_true h11⟩
        · rw [q, e1, e2, e3, e4, e5, e6, e8, g3, g4]
        · cases z : K.lookup (exCda K d.cls) with
          | none => rw [z] at h3; cases h3
          | some o3 =>
            obtain ⟨a1, a2, a3, a4⟩ := o3
            rw [z] at h3
            cases a3 with
            | fields vs =>
              have h3 : (match (vs[2]? : Option Value) with
                | some (.str fl _) => P.main.file == fl
                | _ => false) = true := h3
              split at h3
              · rename_i fl tf hv
                exact ⟨_, _, vs, _, fl, tf, rfl, hv, h3⟩
              · cases h3
            | _ => cases h3
        · cases z : K.lookup (exCc K d.cls) with
          | none => rw [z] at h4; cases h4
          | some o4 =>
            rw [z] at h4
            split at h4
            · rename_i D a4 hq
              cases hq
              have hD := of_decide_eq_true h4
              subst hD
              exact ⟨_, _, _, rfl⟩
            · cases h4
        · cases z : PySem.W.clsIn K (ga K d.cls) with
          | none => rw [z] at h5; cases h5
          | some cd =>
            rw [z] at h5
            exact ⟨cd, rfl, eqO_ok h5⟩
      | [], e7, _ => cases e7
      | _ :: _ :: _, e7, _ => exact absurd (congrArg List.length e7) (by simp)
    | _ => cases h9
end WW

set_option Elab.async false
set_option linter.all false
set_option maxRecDepth 100000
set_option maxHeartbeats 4000000
/-! A head's facts with the __init__s of own exceptions. -/
namespace WW
open PySem PySem.Spec PyProof.Rows L2 He
abbrev AlE : Type := He.AlD × List FnE
def obsE (fa : List Fa) (fn : List He5.DefA) (fe : List DefE) (ex : PySem.W.Frag → Bool) (K : PySem.W.Frag) : AlE := (obsB fa fn ex K, fe.map fun d => fnE K (exI K d.cls))
def valE (fn : List He5.DefA) (fe : List DefE) : AlE := (He5.valA fn, fe.map DefE.val)
def SaysE (fa : List Fa) (fn : List He5.DefA) (fe : List DefE) (ex : PySem.W.Frag → Bool) (K : PySem.W.Frag) : Prop := obsE fa fn fe ex K = valE fn fe
def obsEG (n : Nat) (fa : List Fa) (fn : List He5.DefA) (fe : List DefE) (ex : PySem.W.Frag → Bool) (g : Addr → Option Obj) : AlE := obsE fa fn fe ex (frG g (He5.asA g n))
def hookE (n : Nat) (fa : List Fa) (fn : List He5.DefA) (fe : List DefE) (ex : PySem.W.Frag → Bool) : PySem.W.Hook where
  α := AlE
  obs := fun s => obsEG n fa fn fe ex s.heap.get?
  val := fun _ => valE fn fe
  says := fun _ h => ∃ K : PySem.W.Frag, K.In h ∧ SaysE fa fn fe ex K
  of := fun _ _ e => ⟨_, frG_in, e⟩
  keeps := fun _ _ _ ⟨K, hK, c⟩ k => ⟨K, PySem.W.Frag.In.keeps hK k, c⟩
theorem obsEG_eq {n : Nat} {fa : List Fa} {fn : List He5.DefA} {fe : List DefE} {ex : PySem.W.Frag → Bool} {g : Addr → Option Obj} {s : Shared} (h : ∀ a, g a = s.heap.get? a) : obsEG n fa fn fe ex g = (hookE n fa fn fe ex).obs s := by
  have e : g = s.heap.get? := funext h
  rw [e] <;> rfl
section
variable {fa : List Fa} {fn : List He5.DefA} {fe : List DefE} {ex : PySem.W.Frag → Bool} {K : PySem.W.Frag}
theorem SaysE.b (c : SaysE fa fn fe ex K) : SaysB fa fn ex K := congrArg (fun z : AlE => z.1) c
theorem SaysE.exc (c : SaysE fa fn fe ex K) (i : Nat) {d : DefE} (h : fe[i]? = some d := by rfl) : fnE K (exI K d.cls) = d.val := by
  have e : fe.map (fun d => fnE K (exI K d.cls)) = fe.map DefE.val := congrArg (fun z : AlE => z.2) c
  have e2 : (fe.map fun d => fnE K (exI K d.cls))[i]? = (fe.map DefE.val)[i]? := by rw [e]
  rw [List.getElem?_map, List.getElem?_map, h] at e2
  exact Option.some.inj e2
end
theorem all_at {l : List Bool} {b : Bool} (h : l.all id = true) (i : Nat) (e : l[i]? = some b) : b = true := List.all_eq_true.mp h b (List.mem_of_getElem? e)
theorem ExD.binds {P : Program} {K : PySem.W.Frag} {mg : Str → Option Value} {C f cc cda : Addr} {qual par : Str} {params : Arguments} {body : List Stmt} {scope : Scope} {fd : FuncData} (D : ExD P K mg C f cc cda qual params body scope fd)
    (h : ∀ (kV doc pm : Value) (an : Option Addr) (ct : Value) (us : List Value), us.length = 2 → bindArgs (PySem.W.ksFn "__init__" qual params body scope .none kV doc pm an (.ref cda) ct cc) ⟨us, []⟩ = pure ((["self", par] : List Str).zip us)) : Binds K fd ["self", par] [] := by
  obtain ⟨kV, doc, pm, an, ct, rfl⟩ := D.fdat
  exact .all fun us hl => h kV doc pm an ct us hl
/-- a promise that never speaks of what is raised: nothing is -/
theorem fn_none {P : Program} {w : World} {K : PySem.W.Frag} {mg : Str → Option Value} {base : Heap} {k : Nat} {f : Addr} {fd : FuncData} {ps : List Str} {sp : Sp} (F : FnOk P w K mg base (L2.CX P w) k f fd ps sp) (h : ∀ vs H Q E, sp vs H Q E → sp vs H Q En) : FnOk P w K mg base CXn k f fd ps sp := by
  refine ⟨F.len, fun A outer s H args us vs Q E hr e0 hbind r hsp => codeAny_mono (F.run A outer s H args us vs Q En hr e0 hbind r (h _ _ _ _ hsp)) fun a t z => ?_⟩
  match a, z with
  | .error _, z =>
    obtain ⟨_, _, _, _, _, _, _, _, _, _, _, _, q⟩ := z
    exact q.elim
  | .ok (.ret u), z => exact z
  | .ok .next, z => exact z
  | .ok .brk, z => exact z
  | .ok .cont, z => exact z
end WW

set_option Elab.async false
set_option linter.all false
set_option maxRecDepth 100000
set_option maxHeartbeats 4000000
/-! a or b, a anything whose truth is told. -/
namespace WW
open PySem PySem.Spec PyProof.Rows L2
def tOrT (K : PySem.W.Frag) (ta tb : TE) : TE := fun σ H Q => ta σ H fun x H1 => ∃ c, TruV K x H1 c ∧ if c = true then Q x H1 else tb σ H1 Q
theorem pe_orT {X : Cx} {a b : Expr} {rest : List Expr} {pos : Pos} {ta tb : TE} (ha : PE X a ta) (hb : PE X (.BoolOp .Or (b :: rest) pos) tb) : PE X (.BoolOp .Or (a :: b :: rest) pos) (tOrT X.K ta tb) := by
  refine ⟨fun pins s σ H Q I h => ?_⟩
  refine BoolOp_or (thn (ha.run pins s σ H _ I h) fun v s1 ⟨x, H1, I1, r1, c, hc, q1⟩ => ?_)
  refine thn (tru_ok pins s1 σ H1 x v (fun k H2 => k = c ∧ H2 = H1) I1 r1 ⟨c, hc, rfl, rfl⟩) fun k s2 ⟨H2, I2, ek, eh⟩ => ?_
  subst ek eh
  cases k with
  | false => exact hb.run pins s2 σ H2 Q I2 q1
  | true => exact ⟨x, H2, I2, r1, q1⟩
end WW

set_option Elab.async false
set_option linter.all false
set_option maxRecDepth 100000
set_option maxHeartbeats 4000000
/-! o[i] by a class's own __getitem__; o.m(..) that may raise, inside a try. -/
namespace WW
open PySem PySem.Spec PyProof.Rows L2
/-- the def at f is what answers o[i] -/
structure OwnIx (K : PySem.W.Frag) (C f : Addr) : Prop where
  at_ : PySem.W.findIn K (.ref C) "__getitem__" = some (some (.ref f))
  def_ : PySem.W.fnIn K f = true
  fn : PySem.W.isFn K (.ref f) = true
def rOwnIx (C : Addr) (sp : Sp) (E : XK) : R2 := fun x y H Q => ∃ a dx fs, x = .ref a ∧ H a = some (.ins C dx fs) ∧ sp [x, y] H Q E
section
variable {X : Cx} {CX : CXT} {C f : Addr} {fd : FuncData} {ps : List Str} {sp : Sp} {E : XK} {n : Nat} {a b : Expr} {ta tb : TE} {pos : Pos}
theorem pe_ownIx (O : OwnIx X.K C f) (F : FnOk X.prog X.w X.K X.mg X.base CX n f fd ps sp) (hr : Room (n + 1) X.A) (hb : Binds X.K fd ps []) (hx : Passes CX X E) (pa : PE X a ta) (pb : PE X b tb)
    (hsl : ∀ o i, subscripted b true (.ref o) i = runValue (.builtin "lifetime.subscript" ⟨[.ref o, i], []⟩)) : PE X (.Subscript a b pos) (tOp (rOwnIx C sp E) ta tb) := by
  refine ⟨fun pins s σ H Q I h => ?_⟩
  refine Subscript_ (binT pa pb I h fun v u s2 x y H2 I2 rx ry q => ?_)
  obtain ⟨o, dx, fs, rfl, ho, q⟩ := q
  cases rx
  obtain ⟨mA, J, _⟩ := ins_get I2.hok ho
  obtain ⟨od, J, _⟩ := J.look
  obtain ⟨m, hF⟩ := I2.fr
  refine PySem.W.sub_K hF I2.ok.mod.kin J O.at_ O.def_ O.fn ?_ (hsl _ _)
  have hl := F.len _ _ _ _ q
  have bd : BindsTo s2 fd ⟨[.ref o, u], []⟩ (ps.zip [.ref o, u]) := by
    have z := hb s2 [.ref o, u] I2.kIn (by simpa using hl)
    simpa using z
  refine wpAny_call (codeAny_mono (F.run X.A.in1 X.stack s2 H2 ⟨[.ref o, u], []⟩ [.ref o, u] [.ref o, y] _ E hr.in1 I2.env0.in1 bd (.cons rfl (.cons ry .nil)) q) fun r s' hq => ?_)
  cases r with
  | error e => exact hx pins σ H2 s2 e s' I2 hq
  | ok fl =>
    cases fl with
    | ret u => exact I2.after hq
    | next => exact False.elim hq
    | brk => exact False.elim hq
    | cont => exact False.elim hq
end
section
variable {X : Cx} {CX : CXT} {k : Nat} {f C : Addr} {fd : FuncData} {ps : List Str} {sp : Sp} {E : L2.St → XK} {x m : Str} {p pos apos : Pos} {e o : Expr} {es : List Expr} {ta : TE} {t : TA}
def tMethS (C : Addr) (m : Str) (sp : Sp) (E : L2.St → XK) (ta : TE) (t : TA) : TE := fun σ H Q => ta σ H fun x H1 => ∃ a dx fs, x = .ref a ∧ H1 a = some (.ins C dx fs) ∧ fs.lookup m = none ∧ t σ H1 fun vs H2 => sp (x :: vs) H2 Q (E σ)
theorem pe_methS {pl : Sem Bool} (he : PE X o ta) (c : Cls X.K C) (hm : Meth X.K C m f) (F : FnOk X.prog X.w X.K X.mg X.base CX k f fd ps sp) (hr : Room k X.A) (hb : Binds X.K fd ps []) (hx : ∀ σ, PassesAt CX X σ (E σ)) (ha : PA X (e :: es) t)
    (hst : starEach (e :: es) X.env = (false, eval e X.env) :: starEach es X.env := by rfl) (hpl : (backTo pos (starEach es X.env)).any (·.1) = false := by rfl)
    (ht : eval (.Call (.Attribute o m apos) (e :: es) [] pos) X.env = (do
      let ov ← eval o X.env
      standAt apos.atName
      let (f, first) ← holding [ov] (getMethod ov m pl)
      callWith pos f first (backTo pos (starEach (e :: es) X.env)) (backToKw pos (keywordEach [] X.env))) := by rfl) :
    PE X (.Call (.Attribute o m apos) (e :: es) [] pos) (tMethS C m sp E ta t) := by
  refine ⟨fun pins s σ H Q I h => ?_⟩
  refine PySem.W.methodCall_KW (pl := pl) (thn (he.run pins s σ H _ I h) fun u s1 ⟨x, H1, I1, rx, a, dx, fs, ex, ea, l, q⟩ => ?_) ht
  subst ex
  obtain rfl : u = Value.ref a := rx
  refine getmeth_ok I1 ea c hm l ?_
  refine PySem.W.callWith_K (first := [.ref a]) (h₀ := X.base) I.ok.mod.kin hm.kp (thn (ha.run pos pins s1 σ H1 _ I1 q) fun us s2 ⟨vs, H2, I2, r, q2⟩ => ⟨I2.kIn, ?_⟩) hst hpl
  exact run_fnS (us := .ref a :: us) (vs := .ref a :: vs) F hr hb (hx σ) I2 (.cons rfl r) q2
end
end WW

set_option Elab.async false
set_option linter.all false
set_option maxRecDepth 100000
set_option maxHeartbeats 4000000
/-! sorted of a list or a dict of texts; len of a set of texts; walks that only make things. -/
namespace WW
open PySem PySem.Spec PyProof.Rows L2 Evl
theorem leS_of_lt {a b : Str} (h : ltCps b.cps.toList a.cps.toList = false) : leS a b = true := by
  rw [ltCps_eq] at h
  unfold leS
  exact decide_eq_true (List.not_lt.mp (of_decide_eq_false h))
theorem rising_pw : ∀ {p : Str} {l : List Str}, risingS p l = true → (p :: l).Pairwise (fun a b => leS a b = true)
  | p, [], _ => List.pairwise_singleton _ _
  | p, x :: r, h => by
    have h2 : (!ltCps x.cps.toList p.cps.toList && risingS x r) = true := h
    rw [Bool.and_eq_true, Bool.not_eq_true'] at h2
    have ih := rising_pw h2.2
    have px := leS_of_lt h2.1
    refine List.pairwise_cons.mpr ⟨fun y hy => ?_, ih⟩
    rcases List.mem_cons.mp hy with rfl | hy
    · exact px
    · exact leS_trans _ _ _ px ((List.pairwise_cons.mp ih).1 y hy)
theorem sortS_of {ys ks : List Str} (p : ys.Perm ks) (h : sortedS ys = true) : ys = sortS ks := by
  have pw : ys.Pairwise (fun a b => leS a b = true) := by
    cases ys with
    | nil => exact .nil
    | cons x r => exact rising_pw h
  exact List.Perm.eq_of_pairwise (fun a b _ _ => leS_anti a b) pw (sortS_sorted ks) (p.trans (sortS_perm ks).symm)
section
variable {X : Cx} {K : PySem.W.Frag}
/-- sorted of a list or a tuple of texts -/
def rSortL (K : PySem.W.Frag) : List V → Hp → VK → Prop := fun vs H Q => ∃ (a : Addr) (xs : List Str), vs = [V.ref a] ∧ SqL K H a (xs.map V.str) ∧ xs.length < 64 ∧ ∀ p, H p = none → Q (.ref p) (upd H p (.lst ((sortS xs).map V.str)))
theorem cr_sortL (h : X.K = K) : CallR X (.builtin "sorted") (rSortL K) := by
  intro pins s σ H vs us Q I r q
  obtain ⟨a, xs, e, hs, h64, q⟩ := q
  exact cr_sortedS pins s σ H vs us Q I r ⟨a, xs, e, h ▸ hs, h64, fun ys p hp hy hn => by rw [sortS_of hp hy]; exact q p hn⟩
/-- sorted of a dict -/
def rSortK : List V → Hp → VK → Prop := fun vs H Q => ∃ (a : Addr) (kvs : List (Key × V)) (ks : List Str), vs = [.ref a] ∧ Rd H a (.dK kvs) ∧ kvs.map (·.1) = ks.map Sum.inr ∧ ks.length < 64 ∧ ∀ p, H p = none → Q (.ref p) (upd H p (.lst ((sortS ks).map V.str)))
theorem cr_sortK (hc : X.calm = true) : CallR X (.builtin "sorted") rSortK := by
  intro pins s σ H vs us Q I r q
  obtain ⟨a, kvs, ks, e, hd, hk, h64, q⟩ := q
  exact call_sortedD hc pins s σ H vs us Q I r ⟨a, kvs, ks, e, hd, hk, h64, fun ys p hp hy hn => by rw [sortS_of hp hy]; exact q p hn⟩
/-- len of a set of texts -/
def rLenS (P : Program) (w : World) : List V → Hp → VK → Prop := fun vs H Q => ∃ (a : Addr) (ks : List Str), vs = [.ref a] ∧ H a = some (SSO P w a ks) ∧ Q (.int ks.length) H
theorem cr_lenS : CallR X (.builtin "len") (rLenS X.prog X.w) := by
  intro pins s σ H vs us Q I r q
  obtain ⟨a, ks, rfl, ha, q⟩ := q
  rw [Vals.ref1 r]
  obtain ⟨o, es, ep, t, ho, hex, hd, nd, pr, hz, hf, _⟩ := sso_get I ha
  have hl : ks.length = es.size := by rw [Paired.length pr]; simp
  refine call_len_set ho hex hd hf (by unfold scanBound at hz; omega) ⟨.int ks.length, H, I.tok _, ⟨_, by rw [hl]⟩, q⟩
end
section
variable {J : It} {H : Hp} {xs : List V} {D : Addr} {σ : L2.St} {vs : List Nat} {j n : Nat} {g : TG} {tt : TT} {te tk tv : TE} {Q : Hp → Prop}
/-- a comprehension that only makes things, and puts all in -/
theorem lc_walk (v : Nat → V) (hn : n < 100000) (go : ∀ i H', Ex H H' → i < n → J.go i H') (stop : ∀ H', Ex H H' → J.stop n H') (hD : H D = none)
    (step : ∀ i H' x H'', Ex H H' → i < n → J.yld i H' x H'' → ∀ (N : V → Hp → Prop) (M : Hp → Prop), (∀ H4, Ex H' H4 → N (v i) H4) → g x (wipe σ vs) H'' fun σ2 H2 => wipe σ2 vs = wipe σ vs ∧ tt σ2 H2 fun b H3 => if b = true then te σ2 H3 fun y H4 => N y H4 else M H3)
    (q : ∀ H', Ex H H' → H' D = some (.lst ((List.range n).map v)) → Q H') :
    ∃ W : Nat → Nat → Hp → Prop, (∃ m, W 0 m (upd H D (.lst []))) ∧ ∀ i m H, W i m H →
      (J.stop i H ∧ Q H) ∨ (J.go i H ∧ ∃ Nx : Hp → Prop, (∀ H', Nx H' → ∃ m', m' < m ∧ W (i + 1) m' H') ∧ ∀ x H', J.yld i H x H' → g x (wipe σ vs) H' fun σ2 H2 => wipe σ2 vs = wipe σ vs ∧ tt σ2 H2 fun b H3 =>
        if b = true then te σ2 H3 fun y H4 => ∃ acc, H4 D = some (.lst acc) ∧ acc.length < sizeLine ∧ Nx (upd H4 D (.lst (acc ++ [y]))) else Nx H3) := by
  refine ⟨fun i m H' => m = n - i ∧ i ≤ n ∧ Ex H H' ∧ H' D = some (.lst ((List.range i).map v)), ⟨n, by simp, Nat.zero_le _, Ex.new hD, upd_same⟩, ?_⟩
  rintro i m H' ⟨rfl, hi, e, hd⟩
  by_cases hlt : i < n
  · refine .inr ⟨go i H' e hlt, fun H' => Ex H H' ∧ H' D = some (.lst ((List.range (i + 1)).map v)), fun H'' p' => ⟨n - (i + 1), by omega, rfl, hlt, p'⟩, fun x H'' y => ?_⟩
    refine step i H' x H'' e hlt y (fun y H4 => ∃ acc, H4 D = some (.lst acc) ∧ acc.length < sizeLine ∧ (Ex H (upd H4 D (.lst (acc ++ [y]))) ∧ (upd H4 D (.lst (acc ++ [y]))) D = some (.lst ((List.range (i + 1)).map v)))) _ fun H4 e4 => ⟨_, e4 _ _ hd, ?_, (e.trans e4).mut hD, ?_⟩
    · rw [List.length_map, List.length_range]
      exact sz_lt (by omega)
    · rw [upd_same, List.range_succ, List.map_append]
      rfl
  · have e1 : i = n := by omega
    subst e1
    exact .inl ⟨stop H' e, q H' e hd⟩
/-- {k: v for x in ..}, no key twice, that only makes things -/
theorem dc_ev {u : V → Str} {v : V → V} (S : Steady J H xs) (hz : xs.length < 100000) (nd : (xs.map u).Nodup) (hw : ∀ x, wipe ((wipe σ vs).set j (some x)) vs = wipe σ vs) (hD : H D = none)
    (hk : ∀ x ∈ xs, Ev tk ((wipe σ vs).set j (some x)) H (.str (u x))) (hv : ∀ x ∈ xs, Ev tv ((wipe σ vs).set j (some x)) H (v x))
    (q : ∀ H', Ex H H' → H' D = some (.dK (xs.map fun x => (.inr (u x), v x))) → Q H') :
    ∃ W : Nat → Nat → Hp → Prop, (∃ m, W 0 m (upd H D (.dK []))) ∧ ∀ i m H, W i m H →
      (J.stop i H ∧ Q H) ∨ (J.go i H ∧ ∃ Nx : Hp → Prop, (∀ H', Nx H' → ∃ m', m' < m ∧ W (i + 1) m' H') ∧ ∀ x H', J.yld i H x H' → gName j x (wipe σ vs) H' fun σ2 H2 => wipe σ2 vs = wipe σ vs ∧ tYes σ2 H2 fun b H3 =>
        if b = true then tk σ2 H3 fun y H4 => tv σ2 H4 fun z H5 => ∃ kvs k, y = kV k ∧ H5 D = some (.dK kvs) ∧ kvs.length < sizeLine ∧ Nx (upd H5 D (.dK (putK kvs k z))) else Nx H3) := by
  refine ⟨fun i m H' => m = xs.length - i ∧ i ≤ xs.length ∧ Ex H H' ∧ H' D = some (.dK ((xs.take i).map fun x => (.inr (u x), v x))), ⟨xs.length, by simp, Nat.zero_le _, Ex.new hD, upd_same⟩, ?_⟩
  rintro i m H' ⟨rfl, hi, e, hd⟩
  by_cases hlt : i < xs.length
  · refine .inr ⟨S.go i H' e hlt, fun H' => Ex H H' ∧ H' D = some (.dK ((xs.take (i + 1)).map fun x => (.inr (u x), v x))), fun H'' p' => ⟨xs.length - (i + 1), by omega, rfl, hlt, p'⟩, fun x H'' y => ?_⟩
    obtain ⟨e1, hx⟩ := S.yld i H' x H'' e hlt y
    subst e1
    have mx : x ∈ xs := List.mem_of_getElem? hx
    refine ⟨hw x, ?_⟩
    unfold tYes
    refine hk x mx _ e _ fun H2 e2 => hv x mx H2 (e.trans e2) _ fun H3 e3 => ⟨_, .inr (u x), rfl, e3 _ _ (e2 _ _ hd), ?_, (e.trans e2 |>.trans e3).mut hD, ?_⟩
    · rw [List.length_map, List.length_take]
      exact sz_lt (by omega)
    · rw [upd_same, putK_new, take_snoc hx, List.map_append]
      · rfl
      · cases ev : valV ((xs.take i).map fun x => ((.inr (u x) : Key), v x)) (.inr (u x)) with
        | none => rfl
        | some z =>
          exfalso
          have ha : (((xs.take i).map fun x => ((.inr (u x) : Key), v x)).any fun kv => decide (kv.1 = (Sum.inr (u x) : Key))) = true := by rw [valV_any, ev]; rfl
          obtain ⟨q2, hq, eq⟩ := List.any_eq_true.mp ha
          obtain ⟨z2, hz2, rfl⟩ := List.mem_map.mp hq
          have e2 : u z2 = u x := Sum.inr.inj (of_decide_eq_true eq)
          have nd2 := nd.sublist ((List.take_sublist (i + 1) xs).map u)
          rw [take_snoc hx, List.map_append, List.nodup_append] at nd2
          exact nd2.2.2 (u z2) (List.mem_map_of_mem hz2) (u x) (by simp) e2
  · have e1 : i = xs.length := by omega
    subst e1
    rw [List.take_length] at hd
    exact .inl ⟨S.stop H' e, q H' e hd⟩
end
end WW

set_option Elab.async false
set_option linter.all false
set_option maxRecDepth 100000
set_option maxHeartbeats 4000000
/-! d.copy() -/
namespace WW
open PySem PySem.Spec PyProof.Rows L2
def rDCopy : V → List V → Hp → VK → Prop := fun x vs H Q => ∃ (a : Addr) (kvs : List (Key × V)), x = .ref a ∧ vs = [] ∧ H a = some (.dK kvs) ∧ ∀ p, H p = none → Q (.ref p) (upd H p (.dK kvs))
theorem pairs_byValue {P : Program} {w : World} {s : Shared} {fs : Array DictEntry} : ∀ {es : List DictEntry} {vs : List (Key × Value)}, Pairs (mixKind P w) es vs → ∀ e ∈ es, KeyApart s fs e
  | _, _, .nil, e, he => by cases he
  | _, _, .cons h1 _ r, e, he => by
    rcases List.mem_cons.mp he with rfl | he
    · exact .inl ((mixKind P w).byValue _ _ h1)
    · exact pairs_byValue r e he
theorem mtd_copy {X : Cx} : MtR X "dict.copy" rDCopy := by
  intro pins s σ H x vs v us Q I rx rv h
  obtain ⟨a, kvs, rfl, rfl, ha, q⟩ := h
  obtain rfl : v = Value.ref a := rx
  obtain rfl := rv.zero
  obtain ⟨z, ns, ws, rel, o, es, ep, ho, hex, hd, kf, pr, nd⟩ := dk_of I.hok ha
  have hl : es.size = kvs.length := by rw [← Array.length_toList, pr.length, rel.length]
  refine call_copy_raw ns ⟨o, ho, hex, hd⟩ (by omega) (pairs_byValue pr) fun h' raw keep => ?_
  obtain ⟨o2, h2, x2, d2⟩ := raw
  refine ⟨.ref _, upd H s.heap.objs.size (.dK kvs), I.laid (a := s.heap.objs.size) (o := .dK kvs) (t' := s.toks) keep (Nat.le_refl _) (dk_new z (beq_eq_false_iff_ne.mpr (Ne.symm (Nat.ne_of_lt I.big))) rel ⟨o2, es, 0, h2, x2, d2, kf, pr, nd⟩), rfl, q _ (I.hok.fresh (Nat.le_refl _))⟩
/-- d.copy(), told at K -/
theorem pe_copyK {X : Cx} {K : PySem.W.Frag} {o : Expr} {to : TE} {apos cpos : Pos} (h : X.K = K) (ho : PE X o to) (base : attributeBase o "copy" X.env (eval o X.env) = eval o X.env := by rfl) (line : (apos.endLine == cpos.line) = true := by rfl) :
    PE X (.Call (.Attribute o "copy" apos) [] [] cpos) (tBM0 K "dict" rDCopy to) := by
  subst h
  exact pe_bm0 PySem.F.plainAttrs_dict PySem.F.slot_dict_copy PySem.F.type_dict_copy mtd_copy ho base line
end WW

set_option Elab.async false
set_option linter.all false
set_option maxRecDepth 100000
set_option maxHeartbeats 4000000
/-! Dicts with None among their keys. -/
namespace WW
open PySem PySem.Spec PyProof.Rows L2
section
variable {prog : Program} {w : World} {A : Around} {E : Value → Shared → Prop} {s : Shared}
/-- what None hashes to -/
def hNone : Int := 0xFCA86420
theorem hash_none {Q : Int → Shared → Prop} (h : Q hNone { s with toks := s.toks + 1 }) : wpAny (model prog w) A (pyHash .none) Q E s := by
  have hT : s.TypeIs .none "NoneType" := rfl
  have look := F.slot_NoneType_hash.lookup
  unfold pyHash pyHashByItsType
  have hv : [Value.none].any Value.onHeap = false := rfl
  refine wpAny_bind ?_
  rw [cRoomFor, if_neg (by rw [hv]; exact Bool.false_ne_true)]
  refine wpAny_pure ?_
  refine wpAny_bind (wpAny_specialOf hT look ?_)
  show wpAny _ _ (if (some (Value.builtin "NoneType.__hash__") == some Value.none) = true then _ else _) Q E s
  rw [if_neg (by decide +kernel)]
  refine wpAny_bind (wpAny_specialOf hT look ?_)
  show wpAny _ _ (callSpecialIfBoundUnlessNone? .none "__hash__" _ >>= _) Q E s
  refine wpAny_bind (wpAny_callSpecialIfBoundUnlessNone?_slot hT F.slot_NoneType_hash (wpAny_call_entry F.slot_NoneType_hash hT F.entry_NoneType_hash
    (show wpAny _ _ (do ret (← mkInt hNone)) _ _ s from wpAny_ret_mkInt ?_) (F.args_NoneType_hash_1 _)))
  show wpAny _ _ (if (decide (-(2 : Int) ^ 63 ≤ hNone) && decide (hNone < 2 ^ 63)) = true then _ else _) Q E _
  rw [if_pos (by decide)]
  exact wpAny_pure h
theorem eq_none {Q : Bool → Shared → Prop} (h : Q true s) : wpAny (model prog w) A (eqBool .none .none) Q E s := by
  exact SeqAt.EqAt.same (A := A) (s := s) .none prog w E _ h
end
def isNone : Unit → Value → Bool
  | _, .none => true
  | _, _ => false
theorem isNone_shape {k : Unit} {v : Value} (h : isNone k v = true) : v = .none := by
  cases v <;> first | rfl | cases h
/-- None as the only key -/
def noneKind (prog : Program) (w : World) : PySem.KeyKind prog w Unit where
  is := isNone
  hash := fun _ => hNone
  inj := fun _ _ _ _ _ => rfl
  byValue := fun k v h => by rw [isNone_shape h]; rfl
  pyHash := fun hv h => by rw [isNone_shape hv]; exact hash_none h
  eqBool := fun hu hv h => by
    rw [isNone_shape hu, isNone_shape hv]
    rw [decide_eq_true rfl] at h
    exact eq_none h
  «strs» := fun k x t v h => by cases h
/-- a dict whose only key is None -/
def noneD (prog : Program) (w : World) (a : Addr) (v : V) : HO := .ext fun h => (a == sysModules) = false ∧ ∃ u, RelV v u ∧ h.DictOf (noneKind prog w) a [((), u)]
theorem noneD_ok {prog : Program} {w : World} {H : Hp} {h : Heap} {a : Addr} {v : V} {u : Value} (n : (a == sysModules) = false) (r : RelV v u) (d : h.DictOf (noneKind prog w) a [((), u)]) : ObjOk prog w H h a (noneD prog w a v) := by
  refine ⟨⟨n, u, r, d⟩, let ⟨o, _, _, e, _⟩ := d; ⟨o, e⟩, fun h1 h2 ⟨n, u, r, o, es, ep, e, x⟩ k => ⟨n, u, r, o, es, ep, k o e, x⟩⟩
section
variable {X : Cx}
theorem noneD_of {pins : List (Addr × Obj)} {σ : L2.St} {H : Hp} {s : Shared} {a : Addr} {v : V} (I : Inv X pins σ H s) (h : H a = some (noneD X.prog X.w a v)) : (a == sysModules) = false ∧ ∃ u, RelV v u ∧ s.heap.DictOf (noneKind X.prog X.w) a [((), u)] :=
  (show ObjOk X.prog X.w H s.heap a (noneD X.prog X.w a v) from I.hok a _ h).1
/-- len of it -/
def rLenN (P : Program) (w : World) : List V → Hp → VK → Prop := fun xs H Q => ∃ a v, xs = [.ref a] ∧ H a = some (noneD P w a v) ∧ Q (.int 1) H
theorem call_lenN : CallR X (.builtin "len") (rLenN X.prog X.w) := by
  intro pins s σ H xs us Q I r h
  obtain ⟨a, v, rfl, ha, q⟩ := h
  obtain ⟨u, rfl, ru⟩ := vals1 r
  cases ru
  obtain ⟨n, x, rx, dd⟩ := noneD_of I ha
  refine call_len_dict n dd (by show ((1 : Nat) : Int) < 2 ^ 63; decide) ?_
  exact ⟨.int 1, H, I.tok _, ⟨_, rfl⟩, q⟩
/-- isinstance of it -/
def rIsiN (P : Program) (w : World) (K : PySem.W.Frag) : List V → Hp → VK → Prop := fun xs H Q => ∃ (a : Addr) (v c : V) (u : Value) (b : Bool), xs = [.ref a, c] ∧ ClsV c u ∧ H a = some (noneD P w a v) ∧ PySem.W.kitOne K (.type "dict") u = some b ∧ Q (.bl b) H
theorem call_isiN : CallR X (.builtin "isinstance") (rIsiN X.prog X.w X.K) := by
  intro pins s σ H xs us Q I r h
  obtain ⟨a, v, c, u, b, rfl, k, ha, e, q⟩ := h
  obtain ⟨u1, u2, rfl, r1, r2⟩ := vals2 r
  have e2 := k.eq r2
  subst e2
  cases r1
  obtain ⟨n, x, rx, o, es, ep, ho, hx, _⟩ := noneD_of I ha
  exact PySem.W.kia_one PySem.W.kitx_dict I.kIn ⟨o, ho, hx.1⟩ e (fun z => nomatch z) fun tk => ⟨.bl b, H, I.tok tk, rfl, q⟩
/-- == of two of them, alike -/
def rEqN (P : Program) (w : World) : R2 := fun x y H Q => ∃ a b v, x = .ref a ∧ y = .ref b ∧ H a = some (noneD P w a v) ∧ H b = some (noneD P w b v) ∧ flatB v = true ∧ Q (.bl true) H
theorem op_eqN (hu : X.A.units < cLine) : OpR X (compareOp .Eq) (rEqN X.prog X.w) := by
  intro pins s σ H x y v u Q I rx ry h
  obtain ⟨a, b, z, rfl, rfl, ea, eb, fl, q⟩ := h
  obtain rfl : v = Value.ref a := rx
  obtain rfl : u = Value.ref b := ry
  obtain ⟨na, xa, ra, da⟩ := noneD_of I ea
  obtain ⟨nb, xb, rb, db⟩ := noneD_of I eb
  exact PySem.W.keq_eq (knd := noneKind X.prog X.w) (r := true) na nb da db hu (fun _ => .hit (e := true) (b := true) (y := xb) (by rfl) (eqAt_same ra rb fl) .nil) (fin_bl I q (by rfl))
theorem apartN {P : Program} {w : World} {s : Shared} {fs : Array DictEntry} : ∀ {es : List DictEntry} {vs : List (Unit × Value)}, Pairs (noneKind P w) es vs → ∀ e ∈ es, KeyApart s fs e
  | _, _, .nil, e, he => by cases he
  | _, _, .cons h1 _ r, e, he => by
    rcases List.mem_cons.mp he with rfl | he
    · exact .inl ((noneKind P w).byValue _ _ h1)
    · exact apartN r e he
/-- its copy -/
def rCopyN (P : Program) (w : World) : V → List V → Hp → VK → Prop := fun x vs H Q => ∃ (a : Addr) (v : V), x = .ref a ∧ vs = [] ∧ H a = some (noneD P w a v) ∧ ∀ p, H p = none → Q (.ref p) (upd H p (noneD P w p v))
theorem mtd_copyN : MtR X "dict.copy" (rCopyN X.prog X.w) := by
  intro pins s σ H x vs v us Q I rx rv h
  obtain ⟨a, z, rfl, rfl, ha, q⟩ := h
  obtain rfl : v = Value.ref a := rx
  obtain rfl := rv.zero
  obtain ⟨ns, y, ry, o, es, ep, ho, hex, hd, kf, pr, nd⟩ := noneD_of I ha
  have hl : es.size = 1 := by rw [← Array.length_toList, pr.length]; rfl
  refine call_copy_raw ns ⟨o, ho, hex, hd⟩ (by rw [hl]; decide) (apartN pr) fun h' raw keep => ?_
  obtain ⟨o2, h2, x2, d2⟩ := raw
  exact ⟨.ref _, upd H s.heap.objs.size (noneD X.prog X.w s.heap.objs.size z), I.laid (a := s.heap.objs.size) (o := noneD X.prog X.w s.heap.objs.size z) (t' := s.toks) keep (Nat.le_refl _) (noneD_ok (beq_eq_false_iff_ne.mpr (Ne.symm (Nat.ne_of_lt I.big))) ry ⟨o2, es, 0, h2, x2, d2, kf, pr, nd⟩), rfl, q _ (I.hok.fresh (Nat.le_refl _))⟩
/-- {None: e} -/
def tDispN (P : Program) (w : World) (trs : List (TE × TE)) : TE := fun σ H Q => ∀ p, H p = none → tPairs trs σ (upd H p (.dK [])) fun ps H2 => H2 p = some (.dK []) ∧ ∃ v, ps = [(.non, v)] ∧ Q (.ref p) (upd H2 p (noneD P w p v))
theorem dict_none {P : Program} {w : World} {h : Heap} {a : Addr} (d : h.DictOf (mixKind P w) a []) : h.DictOf (noneKind P w) a [] := by
  obtain ⟨o, es, ep, ho, hx, hd, hk, hp, nd⟩ := d
  have e0 : es.toList = [] := List.eq_nil_of_length_eq_zero hp.length
  refine ⟨o, es, ep, ho, hx, hd, fun e he => ?_, by rw [e0]; exact .nil, List.nodup_nil⟩
  have := Array.mem_toList_iff.mpr he
  rw [e0] at this
  cases this
theorem pe_dispN {pos : Pos} {key : Option Expr} {value : Expr} {trs : List (TE × TE)} (h : PPs X pos [key] [value] trs) (hall : [key].all (·.isSome) = true) : PE X (.Dict [key] [value] pos) (tDispN X.prog X.w trs) := by
  refine ⟨fun pins s σ H Q I q => ?_⟩
  have fresh := I.hok.fresh (Nat.le_refl s.heap.objs.size)
  have J := I.laid (a := s.heap.objs.size) (o := .dK []) (h' := s.heap.push { cls := .type "dict", data := .dict #[] }) (t' := s.toks) (fun _ _ z => Heap.get?_push_of_some _ z) (Nat.le_refl _) (dk_empty s.heap I.big)
  refine wpAny_Dict_walk (knd := noneKind X.prog X.w) hall rfl (List.cons_ne_nil _ _) (by show 1 ≤ 15; decide) (thn (h.run pins _ σ _ _ J (q _ fresh)) fun ws t ⟨ps, H2, I2, rel, e, v, ep, q2⟩ => ?_)
  subst ep
  cases rel with
  | @cons _ b _ bs hb rest =>
    cases rest
    obtain ⟨b1, b2⟩ := b
    obtain ⟨hk, hv⟩ := hb
    obtain rfl : b1 = Value.none := hk
    obtain ⟨z, ns, vs0, r0, dd⟩ := dk_of I2.hok e
    cases r0
    refine ⟨[((), b2)], ⟨rfl, rfl, trivial⟩, dict_none dd, fun h' dd' hs => ⟨.ref s.heap.objs.size, upd H2 s.heap.objs.size (noneD X.prog X.w s.heap.objs.size v), ?_, rfl, q2⟩⟩
    have there : ∃ x, h'.get? s.heap.objs.size = some x := let ⟨x, _, _, hx, _⟩ := dd'; ⟨x, hx⟩
    exact d_write I2 (by rw [e]; exact trivial) hs there (noneD_ok ns hv dd')
end
end WW

set_option Elab.async false
set_option linter.all false
set_option maxRecDepth 100000
set_option maxHeartbeats 4000000
/-! A dict with one entry whose key is None or a tuple, by what stands at its address. -/
namespace WW
open PySem PySem.Spec PyProof.Rows L2
/-- the dict at a with the one entry kv: v, under the hash hs -/
def rawD (hs : Int) (kv v : V) (a : Addr) : HO := .ext fun h => (a == sysModules) = false ∧ ∃ uk u ep, RelV kv uk ∧ RelV v u ∧ DT.Raw h a #[⟨hs, uk, u⟩] ep
theorem rawD_ok {P : Program} {w : World} {H : Hp} {h : Heap} {a : Addr} {hs : Int} {kv v : V} {uk u : Value} {ep : Nat} (n : (a == sysModules) = false) (rk : RelV kv uk) (r : RelV v u) (d : DT.Raw h a #[⟨hs, uk, u⟩] ep) : ObjOk P w H h a (rawD hs kv v a) :=
  ⟨⟨n, uk, u, ep, rk, r, d⟩, let ⟨o, e, _⟩ := d; ⟨o, e⟩, fun h1 h2 ⟨n, uk, u, ep, rk, r, d⟩ k => ⟨n, uk, u, ep, rk, r, d.at' k⟩⟩
/-- what such a key is -/
def OddK (H : Hp) (kv : V) : Prop := kv = .non ∨ ∃ t xs, kv = .ref t ∧ H t = some (.tup xs)
section
variable {prog : Program} {w : World} {A : Around} {E : Value → Shared → Prop} {s : Shared}
theorem meets_lenRaw (d : Addr) (hd : (d == sysModules) = false) :
    MeetsIn prog w (Builtin.«dict.__len__» ⟨[.ref d], []⟩) (fun _ R s => ∃ es ep, DT.Raw s.heap d es ep ∧ R (.ok (.ret (.int es.size s.toks))) { s with toks := s.toks + 1 }) :=
  .of_wp fun A R s ⟨es, ep, hm, h⟩ => by
    obtain ⟨o, ho, hc, hdat⟩ := hm
    show wpAny _ _ (dictSize d >>= _) _ _ s
    unfold dictSize
    refine wpAny_bind (wpAny_bind (wpAny_dictEntries ho hdat (wpAny_pure ?_)))
    show wpAny _ _ (Builtin.Dict.pendingCount d >>= _) _ _ s
    refine wpAny_bind (wpAny_pendingCount_other hd ?_)
    refine wpAny_ret_mkInt ?_
    rw [Nat.add_zero]
    exact h
theorem len_bodyRaw {d : Addr} {es : Array DictEntry} {ep : Nat} {Q : Value → Shared → Prop} (hd : (d == sysModules) = false) (hm : DT.Raw s.heap d es ep) (hfit : (es.size : Int) < 2 ^ 63)
    (h : Q (.int es.size (s.toks + 1)) { s with toks := s.toks + 1 + 1 }) : wpAny (model prog w) A (Builtin.«len» ⟨[.ref d], []⟩) (fun fin s' => ∃ r, fin = .done (.ret r) ∧ Q r s') E s := by
  unfold Builtin.«len»
  refine wpAny_bind (m := oneArg "len" _) (wpAny_pure ?_)
  refine wpAny_bind (m := callSpecial? (.ref d) (Str.ofString "__len__")) (wpAny_callSpecial?_slot (name := Str.ofString "__len__") hm.typeIs F.slot_dict_len
    (call_meetsIn F.slot_dict_len hm.typeIs F.entry_dict_len (F.args_dict_len_1 _) (meets_lenRaw d hd) ⟨es, ep, hm, ?_⟩))
  show wpAny _ _ _ _ _ { s with toks := s.toks + 1 }
  refine wpAny_bind (wpAny_holding (wpAny_pure ?_))
  refine wpAny_bind (wpAny_letGo ?_)
  show wpAny _ _ (if ((es.size : Nat) : Int) < 0 then _ else _) _ _ _
  rw [if_neg (by omega)]
  show wpAny _ _ (if ((es.size : Nat) : Int) ≥ 2 ^ 63 then _ else _) _ _ _
  rw [if_neg (by omega)]
  exact wpAny_bind (wpAny_mkInt (wpAny_pure ⟨_, rfl, h⟩))
theorem call_lenRaw {d : Addr} {es : Array DictEntry} {ep : Nat} {Q : Value → Shared → Prop} (hd : (d == sysModules) = false) (hm : DT.Raw s.heap d es ep) (hfit : (es.size : Int) < 2 ^ 63)
    (h : Q (.int es.size (s.toks + 1)) { s with toks := s.toks + 1 + 1 }) : wpAny (model prog w) A (call (.builtin "len") [.ref d]) Q E s :=
  Calls.call_function_entry kind_len plain_len entry_len (args_len1 _) (len_bodyRaw hd hm hfit h)
/-- the one key is found -/
theorem find_one {d : Addr} {o : Obj} {hs : Int} {uk u : Value} {ep : Nat} {Q : Option Nat → Shared → Prop} (hk : uk = .none ∧ hs = hNone ∨ ∃ t, uk = .ref t) (ho : s.heap.get? d = some o) (hd : o.data = .dict #[⟨hs, uk, u⟩] ep)
    (h : Q (some 0) s) : wpAny (model prog w) A (dictFind d uk hs) Q E s := by
  rcases hk with ⟨rfl, rfl⟩ | ⟨t, rfl⟩
  · refine wpAny_dictFind_of (knd := noneKind prog w) (k := ()) rfl ho hd (fun e he => ⟨(), ?_⟩) ?_
    · simp at he
      subst he
      exact ⟨rfl, rfl⟩
    · rw [show Array.findIdx? (fun e => (noneKind prog w).is () e.key) #[(⟨hNone, Value.none, u⟩ : DictEntry)] = some 0 from Array.findIdx?_eq_some_iff_getElem.mpr ⟨by simp, rfl, fun j hj => absurd hj (by omega)⟩]
      exact h
  · unfold dictFind
    try with_reducible refine wpAny_holding ?_
    refine wpAny_bind (wpAny_dictEntries ho hd ?_)
    dsimp only
    have ep1 : placesWithHash (#[(⟨hs, .ref t, u⟩ : DictEntry)]).size (fun i => (#[(⟨hs, .ref t, u⟩ : DictEntry)])[i]?.map (·.hash)) hs = [0] := by
      unfold placesWithHash
      show List.filter _ (List.range 1) = [0]
      show List.filter _ [0] = [0]
      simp
    rw [ep1]
    have es1 : ([0].filterMap fun i => (#[(⟨hs, .ref t, u⟩ : DictEntry)])[i]?.map (·.key)) = [Value.ref t] := by simp
    rw [es1]
    rw [if_neg (by simp [carriedByValue])]
    rw [if_neg (by simp)]
    rw [if_pos (by simp)]
    refine wpAny_bind (wpAny_pure ?_)
    rw [if_neg (by simp)]
    refine wpAny_bind ?_
    rw [List.forIn_cons]
    refine wpAny_bind ?_
    show wpAny _ _ (if (hs == hs) = true then _ else _) _ E _
    rw [if_pos (by simp)]
    refine wpAny_bind (wpAny_dictEpoch ho hd (wpAny_bind (SeqAt.EqAt.same (A := A) (s := s) (.ref t) prog w E _ (wpAny_bind (wpAny_dictEpoch ho hd ?_)))))
    rw [if_neg (by simp)]
    rw [if_pos rfl]
    rw [if_neg (by simp)]
    refine wpAny_bind (wpAny_rule ?_)
    rw [if_pos (by simp)]
    refine wpAny_pure (wpAny_pure (wpAny_pure ?_))
    exact h
end

section
variable {X : Cx}
theorem rawD_of {pins : List (Addr × Obj)} {σ : L2.St} {H : Hp} {s : Shared} {a : Addr} {hs : Int} {kv v : V} (I : Inv X pins σ H s) (h : H a = some (rawD hs kv v a)) : (a == sysModules) = false ∧ ∃ uk u ep, RelV kv uk ∧ RelV v u ∧ DT.Raw s.heap a #[⟨hs, uk, u⟩] ep :=
  (show ObjOk X.prog X.w H s.heap a (rawD hs kv v a) from I.hok a _ h).1
/-- len of it -/
def rLenR : List V → Hp → VK → Prop := fun xs H Q => ∃ a hs kv v, xs = [.ref a] ∧ H a = some (rawD hs kv v a) ∧ Q (.int 1) H
theorem call_lenR : CallR X (.builtin "len") rLenR := by
  intro pins s σ H xs us Q I r h
  obtain ⟨a, hs, kv, v, rfl, ha, q⟩ := h
  obtain ⟨u, rfl, ru⟩ := vals1 r
  cases ru
  obtain ⟨n, uk, x, ep, rk, rx, dd⟩ := rawD_of I ha
  refine call_lenRaw n dd (by show ((1 : Nat) : Int) < 2 ^ 63; decide) ?_
  exact ⟨.int 1, H, I.tok _, ⟨_, rfl⟩, q⟩
/-- isinstance of it -/
def rIsiR (K : PySem.W.Frag) : List V → Hp → VK → Prop := fun xs H Q => ∃ (a : Addr) (hs : Int) (kv v c : V) (u : Value) (b : Bool), xs = [.ref a, c] ∧ ClsV c u ∧ H a = some (rawD hs kv v a) ∧ PySem.W.kitOne K (.type "dict") u = some b ∧ Q (.bl b) H
theorem call_isiR : CallR X (.builtin "isinstance") (rIsiR X.K) := by
  intro pins s σ H xs us Q I r h
  obtain ⟨a, hs, kv, v, c, u, b, rfl, k, ha, e, q⟩ := h
  obtain ⟨u1, u2, rfl, r1, r2⟩ := vals2 r
  have e2 := k.eq r2
  subst e2
  cases r1
  obtain ⟨n, uk, x, ep, rk, rx, o, ho, hx, _⟩ := rawD_of I ha
  exact PySem.W.kia_one PySem.W.kitx_dict I.kIn ⟨o, ho, hx.1⟩ e (fun z => nomatch z) fun tk => ⟨.bl b, H, I.tok tk, rfl, q⟩
/-- isinstance of it, of several -/
def rIsiTR (K : PySem.W.Frag) : List V → Hp → VK → Prop := fun xs H Q => ∃ (a : Addr) (hs : Int) (kv v : V) (tp : Addr) (cs : List V) (us : List Value) (b : Bool), xs = [.ref a, .ref tp] ∧ H tp = some (.tup cs) ∧ Paired ClsV cs us ∧ H a = some (rawD hs kv v a) ∧ PySem.W.kitAny K (.type "dict") us = some b ∧ Q (.bl b) H
theorem call_isiTR : CallR X (.builtin "isinstance") (rIsiTR X.K) := by
  intro pins s σ H xs us Q I r h
  obtain ⟨a, hs, kv, v, tp, cs, ws, b, rfl, hT, k, ha, e, q⟩ := h
  obtain ⟨u1, u2, rfl, r1, r2⟩ := vals2 r
  cases (show u2 = Value.ref tp from r2)
  cases r1
  obtain ⟨n, uk, x, ep, rk, rx, o, ho, hx, _⟩ := rawD_of I ha
  obtain ⟨_, its, rv, o2, h1, h2, n2, h3⟩ := (show ObjOk X.prog X.w H s.heap tp (.tup cs) from I.hok tp _ hT)
  have e3 := ClsV.all k rv
  subst e3
  obtain ⟨oc, od, dt, sl⟩ := o2
  simp only at h2 h3
  subst h2 h3
  exact PySem.W.kia_tup PySem.W.kitx_dict I.kIn ⟨o, ho, hx.1⟩ h1 e (fun z => nomatch z) fun tk => ⟨.bl b, H, I.tok tk, rfl, q⟩
theorem rawD_ty {pins : List (Addr × Obj)} {σ : L2.St} {H : Hp} {s : Shared} {a : Addr} {hs : Int} {kv v : V} (I : Inv X pins σ H s) (h : H a = some (rawD hs kv v a)) : s.TypeIs (.ref a) "dict" := by
  obtain ⟨n, uk, x, ep, rk, rx, o, ho, hx, _⟩ := rawD_of I h
  exact ⟨o, ho, hx.1⟩
theorem OddK.apart {pins : List (Addr × Obj)} {σ : L2.St} {H : Hp} {s : Shared} {kv : V} {uk u : Value} {hs : Int} (I : Inv X pins σ H s) (o : OddK H kv) (r : RelV kv uk) : ∀ e ∈ (#[(⟨hs, uk, u⟩ : DictEntry)]).toList, KeyApart s #[⟨hs, uk, u⟩] e := by
  intro e he
  simp at he
  subst he
  rcases o with rfl | ⟨t, xs, rfl, ht⟩
  · obtain rfl : uk = Value.none := r
    exact .inl rfl
  · obtain rfl : uk = Value.ref t := r
    obtain ⟨_, its, rv, ot, hot, hct, nt, hdt⟩ := (show ObjOk X.prog X.w H s.heap t (.tup xs) from I.hok t _ ht)
    exact .inr ⟨t, rfl, ⟨ot, hot, hct⟩, by simp⟩
/-- its copy -/
def rCopyR : V → List V → Hp → VK → Prop := fun x vs H Q => ∃ (a : Addr) (hs : Int) (kv v : V), x = .ref a ∧ vs = [] ∧ H a = some (rawD hs kv v a) ∧ OddK H kv ∧ ∀ p, H p = none → Q (.ref p) (upd H p (rawD hs kv v p))
theorem mtd_copyR : MtR X "dict.copy" rCopyR := by
  intro pins s σ H x vs v us Q I rx rv h
  obtain ⟨a, hs, kv, z, rfl, rfl, ha, ok, q⟩ := h
  obtain rfl : v = Value.ref a := rx
  obtain rfl := rv.zero
  obtain ⟨ns, uk, y, ep, rk, ry, o, ho, hex, hd⟩ := rawD_of I ha
  refine call_copy_raw ns ⟨o, ho, hex, hd⟩ (by show 1 ≤ sizeLine; decide) (ok.apart I rk) fun h' raw keep => ?_
  exact ⟨.ref _, upd H s.heap.objs.size (rawD hs kv z s.heap.objs.size), I.laid (a := s.heap.objs.size) (o := rawD hs kv z s.heap.objs.size) (t' := s.toks) keep (Nat.le_refl _) (rawD_ok (beq_eq_false_iff_ne.mpr (Ne.symm (Nat.ne_of_lt I.big))) rk ry raw), rfl, q _ (I.hok.fresh (Nat.le_refl _))⟩
/-- == of two of them, alike -/
def rEqR : R2 := fun x y H Q => ∃ a b hs kv v, x = .ref a ∧ y = .ref b ∧ H a = some (rawD hs kv v a) ∧ H b = some (rawD hs kv v b) ∧ (kv = .non ∧ hs = hNone ∨ ∃ t, kv = .ref t) ∧ flatB v = true ∧ Q (.bl true) H
theorem raw_pairs {prog : Program} {w : World} {A : Around} {E : Value → Shared → Prop} {s : Shared} {nm : String} {a b : Addr} {hs : Int} {uk u u' : Value} {ep ep' : Nat} {Q : Bool → Shared → Prop} (ha : (a == sysModules) = false) (hb : (b == sysModules) = false) (hk : uk = .none ∧ hs = hNone ∨ ∃ t, uk = .ref t)
    (da : DT.Raw s.heap a #[⟨hs, uk, u⟩] ep) (db : DT.Raw s.heap b #[⟨hs, uk, u'⟩] ep') (he : SeqAt.EqAt A s u u' true) (h : Q true s) : wpAny (model prog w) A (Builtin.Dict.samePairs nm a b) Q E s := by
  obtain ⟨oa, hoa, _, hda⟩ := da
  obtain ⟨ob, hob, _, hdb⟩ := db
  unfold Builtin.Dict.samePairs Builtin.Dict.showsAll
  rw [if_neg (show ¬ (a == sysModules) = true by rw [ha]; exact Bool.false_ne_true), if_neg (show ¬ (b == sysModules) = true by rw [hb]; exact Bool.false_ne_true)]
  refine wpAny_bind (wpAny_pure (wpAny_bind (wpAny_pure ?_)))
  refine wpAny_bind (wpAny_dictEntries hoa hda ?_)
  dsimp only
  refine wpAny_bind (wpAny_dictEntries hob hdb ?_)
  rw [if_neg (by simp)]
  refine wpAny_bind (wpAny_dictEpoch hoa hda ?_)
  refine wpAny_bind ?_
  rw [Std.Legacy.Range.forIn_eq_forIn_range']
  simp only [Std.Legacy.Range.size, Nat.sub_zero, Nat.add_sub_cancel, Nat.div_one]
  show wpAny _ _ (forIn [0] _ _) _ _ _
  rw [List.forIn_cons]
  refine wpAny_bind ?_
  refine wpAny_bind (wpAny_dictEntries hoa hda ?_)
  show wpAny _ _ (holding [uk, u] _ >>= _) _ _ _
  refine wpAny_bind (wpAny_holding (wpAny_bind (find_one hk hob hdb ?_)))
  refine wpAny_bind (wpAny_dictEntries hob hdb ?_)
  refine wpAny_holding (he prog w _ _ ?_)
  show wpAny _ _ (if (!true) = true then _ else _) _ _ _
  rw [if_neg (by decide)]
  refine wpAny_bind (wpAny_dictEpoch hoa hda ?_)
  rw [if_neg (by simp)]
  refine wpAny_pure ?_
  exact wpAny_pure (wpAny_pure h)
theorem op_eqR (hu : X.A.units < cLine) : OpR X (compareOp .Eq) rEqR := by
  intro pins s σ H x y v u Q I rx ry h
  obtain ⟨a, b, hs, kv, z, rfl, rfl, ea, eb, hk, fl, q⟩ := h
  obtain rfl : v = Value.ref a := rx
  obtain rfl : u = Value.ref b := ry
  obtain ⟨na, uk, xa, ep, rk, ra, da⟩ := rawD_of I ea
  obtain ⟨nb, uk', xb, ep', rk', rb, db⟩ := rawD_of I eb
  obtain ⟨e1, e2⟩ : uk' = uk ∧ (uk = .none ∧ hs = hNone ∨ ∃ t, uk = .ref t) := by
    rcases hk with ⟨rfl, e⟩ | ⟨t, rfl⟩
    · obtain rfl : uk = Value.none := rk
      obtain rfl : uk' = Value.none := rk'
      exact ⟨rfl, .inl ⟨rfl, e⟩⟩
    · obtain rfl : uk = Value.ref t := rk
      obtain rfl : uk' = Value.ref t := rk'
      exact ⟨rfl, .inr ⟨t, rfl⟩⟩
  subst e1
  refine wpAny_richCompare_same_room (op := .Eq) da.typeIs db.typeIs PySem.F.slot_dict_eq (wpAny_call_entry PySem.F.slot_dict_eq da.typeIs PySem.F.entry_dict_eq ?_ (PySem.F.args_dict_eq_2 _ _)) hu
  show wpAny _ _ (Builtin.Dict.dictSlotArgs "__eq__" ⟨[.ref a, .ref b], []⟩ >>= _) _ _ s
  refine wpAny_bind ?_
  unfold Builtin.Dict.dictSlotArgs
  refine wpAny_bind (wpAny_notOrdered_dict da.typeIs ?_)
  show wpAny _ _ (pure (Value.ref a, Value.ref b)) _ _ s
  refine wpAny_pure ?_
  refine wpAny_bind (wpAny_isInstance (T := "dict") db.typeIs PySem.F.sub_dict_dict ?_)
  simp only [Bool.not_true, Bool.false_eq_true, if_false]
  refine wpAny_bind (wpAny_pure (wpAny_bind (wpAny_pure ?_)))
  refine wpAny_bind (raw_pairs na nb e2 da db (eqAt_same ra rb fl) ?_)
  refine wpAny_pure ⟨_, rfl, ?_, ?_⟩
  · exact fun x => nomatch x
  · exact fin_bl I q (by rfl)
/-- None as the key: from the display -/
theorem noneD_raw {P : Program} {w : World} {h : Heap} {a : Addr} {u : Value} (d : h.DictOf (noneKind P w) a [((), u)]) : ∃ ep, DT.Raw h a #[⟨hNone, .none, u⟩] ep := by
  obtain ⟨o, es, ep, ho, hx, hd, hk, hp, nd⟩ := d
  have hl : es.size = 1 := by rw [← Array.length_toList, hp.length]; rfl
  obtain ⟨e, he⟩ : ∃ e, es.toList = [e] := by
    cases q : es.toList with
    | nil => have := congrArg List.length q; rw [Array.length_toList, hl] at this; cases this
    | cons e t =>
      have := congrArg List.length q
      rw [Array.length_toList, hl] at this
      have : t = [] := List.eq_nil_of_length_eq_zero (by simpa using this.symm)
      subst this
      exact ⟨e, rfl⟩
  have hm : e ∈ es := Array.mem_toList_iff.mp (by rw [he]; exact List.mem_cons_self)
  obtain ⟨k, hk1, hk2⟩ := hk e hm
  obtain ⟨g1, g2⟩ := hp.get? (i := 0) (e := e) (k := ()) (v := u) (by rw [he]; rfl) rfl
  have ee : e = ⟨hNone, .none, u⟩ := by
    obtain ⟨e1, e2, e3⟩ := e
    have h1 : e1 = hNone := hk2
    have h2 : e2 = .none := isNone_shape hk1
    have h3 : e3 = u := g2
    rw [h1, h2, h3]
  have es1 : es = #[⟨hNone, .none, u⟩] := by
    rw [← Array.toArray_toList (xs := es), he, ee]
  rw [es1] at hd
  exact ⟨ep, o, ho, hx, hd⟩
def tDispR0 (trs : List (TE × TE)) : TE := fun σ H Q => ∀ p, H p = none → tPairs trs σ (upd H p (.dK [])) fun ps H2 => H2 p = some (.dK []) ∧ ∃ v, ps = [(.non, v)] ∧ Q (.ref p) (upd H2 p (rawD hNone .non v p))
theorem pe_dispR0 {pos : Pos} {key : Option Expr} {value : Expr} {trs : List (TE × TE)} (h : PPs X pos [key] [value] trs) (hall : [key].all (·.isSome) = true) : PE X (.Dict [key] [value] pos) (tDispR0 trs) := by
  refine ⟨fun pins s σ H Q I q => ?_⟩
  have fresh := I.hok.fresh (Nat.le_refl s.heap.objs.size)
  have J := I.laid (a := s.heap.objs.size) (o := .dK []) (h' := s.heap.push { cls := .type "dict", data := .dict #[] }) (t' := s.toks) (fun _ _ z => Heap.get?_push_of_some _ z) (Nat.le_refl _) (dk_empty s.heap I.big)
  refine wpAny_Dict_walk (knd := noneKind X.prog X.w) hall rfl (List.cons_ne_nil _ _) (by show 1 ≤ 15; decide) (thn (h.run pins _ σ _ _ J (q _ fresh)) fun ws t ⟨ps, H2, I2, rel, e, v, ep, q2⟩ => ?_)
  subst ep
  cases rel with
  | @cons _ b _ bs hb rest =>
    cases rest
    obtain ⟨b1, b2⟩ := b
    obtain ⟨hk, hv⟩ := hb
    obtain rfl : b1 = Value.none := hk
    obtain ⟨z, ns, vs0, r0, dd⟩ := dk_of I2.hok e
    cases r0
    refine ⟨[((), b2)], ⟨rfl, rfl, trivial⟩, dict_none dd, fun h' dd' hs => ⟨.ref s.heap.objs.size, upd H2 s.heap.objs.size (rawD hNone .non v s.heap.objs.size), ?_, rfl, q2⟩⟩
    have there : ∃ x, h'.get? s.heap.objs.size = some x := let ⟨x, _, _, hx, _⟩ := dd'; ⟨x, hx⟩
    obtain ⟨ep, raw⟩ := noneD_raw dd'
    exact d_write I2 (by rw [e]; exact trivial) hs there (rawD_ok ns rfl hv raw)
/-- what a tuple of keys hashes to -/
def hTup (P : Program) (w : World) (k : List L2.Key) : Int := (tupleKind (mixKind P w)).hash k
/-- {(k, ..): v} -/
def tDispRT (trs : List (TE × TE)) : TE := fun σ H Q => ∀ p, H p = none → tPairs trs σ (upd H p (.dK [])) fun ps H2 => H2 p = some (.dK []) ∧ ∃ t, ∃ k : List L2.Key, ∃ v, ps = [(.ref t, v)] ∧ H2 t = some (.tup (k.map kV)) ∧ ∀ hs, Q (.ref p) (upd H2 p (rawD hs (.ref t) v p))
theorem pe_dispRT {pos : Pos} {key : Option Expr} {value : Expr} {trs : List (TE × TE)} (hu : X.A.units + 1 < cLine) (h : PPs X pos [key] [value] trs) (hall : [key].all (·.isSome) = true) : PE X (.Dict [key] [value] pos) (tDispRT trs) := by
  refine ⟨fun pins s σ H Q I q => ?_⟩
  have fresh := I.hok.fresh (Nat.le_refl s.heap.objs.size)
  have J := I.laid (a := s.heap.objs.size) (o := .dK []) (h' := s.heap.push { cls := .type "dict", data := .dict #[] }) (t' := s.toks) (fun _ _ z => Heap.get?_push_of_some _ z) (Nat.le_refl _) (dk_empty s.heap I.big)
  have hn := pairTrees_length [key] [value] X.env pos hall rfl
  rw [arm_eval_Dict, zip_pairTrees [key] [value] X.env pos hall rfl, dictDisplay_pairs (pairTrees [key] [value] X.env pos) (fun he => by rw [he] at hn; cases hn) (by rw [hn]; exact (by decide : 1 < 17))]
  refine wpAny_bind (wpAny_standAt (wpAny_bind (wpAny_subDictH (knd := tupleKind (mixKind X.prog X.w)) (Q := fun d s' => wpAny (model X.prog X.w) X.A (pure (Value.ref d)) _ X.xe s') (by show X.A.units < cLine; omega) (by rw [hn]; exact (by decide : 1 ≤ 15))
    (thn (h.run pins _ σ _ _ J (q _ fresh)) fun ws t ⟨ps, H2, I2, rel, e, ta, k, v, ep, ht, q2⟩ => ?_))))
  subst ep
  cases rel with
  | @cons _ b _ bs hb rest =>
    cases rest
    obtain ⟨b1, b2⟩ := b
    obtain ⟨hk, hv⟩ := hb
    obtain rfl : b1 = Value.ref ta := hk
    obtain ⟨z, ns, vs0, r0, dd⟩ := dk_of I2.hok e
    cases r0
    have dt0 : t.heap.DictOfH (tupleKind (mixKind X.prog X.w)) s.heap.objs.size [] := by
      obtain ⟨o, es, ep, ho, hx, hd, _, hp, _⟩ := dd
      have e0 : es.toList = [] := List.eq_nil_of_length_eq_zero hp.length
      exact ⟨o, es, ep, ho, hx, hd, e0, (fun _ z => nomatch z), List.nodup_nil⟩
    refine ⟨[(k, ta, b2)], ⟨rfl, rfl, key_of I2.hok ht, trivial⟩, dt0, fun h' tk dd' hs => wpAny_pure ⟨.ref s.heap.objs.size, upd H2 s.heap.objs.size (rawD (hTup X.prog X.w k) (.ref ta) v s.heap.objs.size), ?_, rfl, q2 _⟩⟩
    have d1 : h'.DictOfH (tupleKind (mixKind X.prog X.w)) s.heap.objs.size [(k, ta, b2)] := dd'
    obtain ⟨o, es, ep, ho, hx, hd, he, _⟩ := d1
    have es1 : es = #[⟨hTup X.prog X.w k, .ref ta, b2⟩] := by
      rw [← Array.toArray_toList (xs := es), he]
      rfl
    rw [es1] at hd
    exact d_write I2 (by rw [e]; exact trivial) hs ⟨o, ho⟩ (rawD_ok ns (show L2.RelV (.ref ta) (Value.ref ta) from rfl) hv ⟨o, ho, hx, hd⟩)

/-! ### its items -/
def Itr (d : Addr) (o : Obj) (hs : Int) (kv v : V) : It :=
  ⟨fun i H => H d = some (.frz o (rawD hs kv v d)) ∧ i < 1, fun _ H x H' => ∃ T, x = .ref T ∧ H T = none ∧ H' = upd H T (.tup [kv, v]), fun i H => H d = some (.frz o (rawD hs kv v d)) ∧ 1 ≤ i⟩
theorem frzR {pins : List (Addr × Obj)} {σ : L2.St} {H : Hp} {s : Shared} {d : Addr} {o : Obj} {hs : Int} {kv v : V} (I : Inv X pins σ H s) (h : H d = some (.frz o (rawD hs kv v d))) :
    (d == sysModules) = false ∧ s.heap.get? d = some o ∧ o.ExactDict ∧ ∃ uk u ep, RelV kv uk ∧ RelV v u ∧ o.data = .dict #[⟨hs, uk, u⟩] ep := by
  obtain ⟨hd, n, uk, u, ep, rk, ru, o', ho, hx, hdt⟩ := (show s.heap.get? d = some o ∧ _ ∧ _ from let ⟨a, b, _⟩ := (show ObjOk X.prog X.w H s.heap d (.frz o (rawD hs kv v d)) from I.hok d _ h); ⟨a, b⟩)
  rw [hd] at ho
  cases ho
  exact ⟨n, hd, hx, uk, u, ep, rk, ru, hdt⟩
theorem turn_itemsR {P : Program} {w : World} {K : PySem.W.Frag} {elts : List Expr} {kk : Nat} {tpos : Pos} {d : Addr} {o : Obj} {hs : Int} {kv v : V} {uk u : Value} {ep : Nat} (it : Addr) (hod : o.data = .dict #[⟨hs, uk, u⟩] ep) :
    Turn P w K (.Tuple elts kk tpos) (Itr d o hs kv v) [it] it (fun i h => ∃ ok ov, IsItemIter h it d i 1 ep ok ov) where
  mem := by simp
  obj := fun i h st b hb => by
    have e : b = it := by simpa using hb
    subst e
    obtain ⟨ok, ov, e⟩ := st
    exact ⟨_, e, fun v z => nomatch z⟩
  keep := fun i h h' st k => let ⟨ok, ov, e⟩ := st; ⟨ok, ov, k it (by simp) _ e⟩
  item := by
    intro X hP hw hK hc i pins s σ H E I hf st hg
    subst hP hw hK
    obtain ⟨hd, hi⟩ := hg
    obtain ⟨hs', hgd, hx, uk', u', ep', rk, ru, hdt⟩ := frzR I hd
    obtain ⟨e1, rfl⟩ := dict_ep hod hdt
    cases e1
    obtain ⟨ok, ov, he⟩ := st
    have hlt : it < s.heap.objs.size := Heap.lt_size he
    obtain rfl : i = 0 := by omega
    refine DT.nextI (es := #[⟨hs, uk, u⟩]) (ep := ep') he ⟨o, hgd, hx, hod⟩ (by simp) fun h' ho hT hz hk => ?_
    refine ⟨_, rfl, wpAny_letOwnedTupleGo_items (s := { s with heap := h' }) ho fun h'' he' sb => ?_⟩
    have hT2 : h''.get? s.heap.objs.size = some { cls := .type "tuple", data := .seq #[uk, u] } := (sb.2 _ (Nat.ne_of_gt hlt)).trans hT
    have new : ObjOk X.prog X.w (upd H s.heap.objs.size (.tup [kv, v])) h'' s.heap.objs.size (.tup [kv, v]) :=
      ⟨by show 2 ≤ sizeLine; decide, [uk, u], .cons rk (.cons ru .nil), ⟨_, hT2, rfl, _, rfl⟩⟩
    have I1 : Inv X pins σ (upd H s.heap.objs.size (.tup [kv, v])) { s with heap := h'' } :=
      I.turnedNew (t' := s.toks) (ch := [it]) (fun b ob hb e => (sb.2 b (by simpa using hb)).trans (hk b ob (by simpa using hb) e)) hf (Nat.le_refl _) new
    refine ⟨.ref s.heap.objs.size, _, I1, rfl, ⟨_, rfl, I.hok.fresh (Nat.le_refl _), rfl⟩, ⟨uk, u, ?_⟩, fun b hb => ?_⟩
    · exact he'
    · have e : b = it := by simpa using hb
      rw [e, upd_ne (Nat.ne_of_lt hlt)]
      exact (hf it (by simp)).1
  done := by
    intro X hP hw hK hc i pins s σ H E I hf st hg
    subst hP hw hK
    obtain ⟨hd, hi⟩ := hg
    obtain ⟨f0, f1, f2, f3, f4, f5⟩ := hf it (by simp)
    obtain ⟨hs', hgd, hx, uk', u', ep', rk, ru, hdt⟩ := frzR I hd
    obtain ⟨e1, rfl⟩ := dict_ep hod hdt
    obtain ⟨ok, ov, he⟩ := st
    exact DT.endI (es := #[⟨hs, uk, u⟩]) (I.ok.hd hc) he ⟨o, hgd, hx, hod⟩ hi fun h' eb => ⟨rfl, I.turned (t' := s.toks) (fun b ob hb e => eb b ob hb e) f0 f1 f3 f4 f5⟩
  self := fun A i s Q E st h => let ⟨_, _, e⟩ := st; PySem.W.kcp_self e h
def iItemsR (td : TE) : TI := fun σ H R => td σ H fun x H1 => ∃ d o hs kv v, x = .ref d ∧ H1 d = some (.frz o (rawD hs kv v d)) ∧ R (Itr d o hs kv v) H1
theorem pi_itemsR {e : Expr} {td : TE} {apos cpos : Pos} {elts : List Expr} {kk : Nat} {tpos : Pos} (he : PE X e td) (hbase : attributeBase e "items" X.env (eval e X.env) = eval e X.env := by rfl) (hline : (apos.endLine == cpos.line) = true := by rfl) :
    PI X (.Tuple elts kk tpos) (.Call (.Attribute e "items" apos) [] [] cpos) (iItemsR td) := by
  refine ⟨fun pins s σ H R I h => ?_⟩
  refine wpAny_Call_method (T := "dict") (id := "dict.items") hbase rfl hline F.plainAttrs_dict F.slot_dict_items F.type_dict_items (thn (he.run pins s σ H _ I h) fun u s1 ⟨x, H1, I1, rx, d, o, hs, kv, v, ex, hd, q⟩ => ?_)
  subst ex
  obtain rfl : u = Value.ref d := rx
  obtain ⟨hs', hgd, hx, uk, uu, ep, rk, ru, hdt⟩ := frzR I1 hd
  have raw : DT.Raw s1.heap d #[⟨hs, uk, uu⟩] ep := ⟨o, hgd, hx, hdt⟩
  refine ⟨raw.typeIs, fun b z => (by cases z; exact ⟨o, hgd, hx.2.1⟩), ?_⟩
  have I2 : Inv X pins σ H1 { s1 with heap := s1.heap.push { cls := .type "dict_items", data := .fields #[.ref d] } } := I1.kept (t' := s1.toks) fun b ob q => Heap.get?_push_of_some _ q
  have fin : wpAny (model X.prog X.w) X.A (pyIter (.ref s1.heap.objs.size)) (PIE X pins σ (.Tuple elts kk tpos) R) X.xe { s1 with heap := s1.heap.push { cls := .type "dict_items", data := .fields #[.ref d] } } := by
    refine DT.iterI (d := d) (es := #[⟨hs, uk, uu⟩]) (ep := ep) ⟨_, Heap.get?_push_size _ rfl, rfl, rfl⟩ (raw.push _) (pi_one (tk := s1.toks) I2 _ (turn_itemsR _ hdt) ⟨.none, .none, ?_⟩ q)
    exact Heap.get?_push_size _ rfl
  show wpAny _ _ (callWith cpos (.builtin "dict.items") [.ref d] [] []) _ X.xe s1
  exact method_meetsIn F.slot_dict_items F.entry_dict_items rfl (PySem.evalArgs_none ⟨rfl, raw.typeIs, F.args_dict_items_1 _, _, DT.meetsItems (es := #[⟨hs, uk, uu⟩]) (ep := ep) hs', raw, fin⟩)
end
end WW

set_option Elab.async false
set_option linter.all false
set_option maxRecDepth 100000
set_option maxHeartbeats 4000000
/-! == of two dicts of texts, equal or not. -/
namespace WW
open PySem PySem.Spec PyProof.Rows L2
def sameV (ls ks : List (Key × V)) : Bool := ks.all fun p => decide (valV ls p.1 = some p.2)
/-- both are dicts of texts with the same keys -/
structure Txts (ks ls : List (Key × V)) : Prop where
  len : ks.length = ls.length
  at_ : ∀ p ∈ ks, ∃ z z', p.2 = V.str z ∧ valV ls p.1 = some (V.str z')
def rEqDS : R2 := fun x y H Q => ∃ a b ks ls, x = .ref a ∧ y = .ref b ∧ H a = some (.dK ks) ∧ H b = some (.dK ls) ∧ Txts ks ls ∧ Q (.bl (sameV ls ks)) H
theorem eqAt_str {A : Around} {s : Shared} {a b : Str} {t u : Tok} : SeqAt.EqAt A s (.str a t) (.str b u) (decide (a = b)) := fun prog w E Q h => wpAny_eqBool_str h
theorem hits_txt {A : Around} {s : Shared} {ls : List (Key × V)} {vb : List (Key × Value)} (rb : KV ls vb) : ∀ {ks : List (Key × V)} {va : List (Key × Value)}, KV ks va → (∀ p ∈ ks, ∃ z z', p.2 = V.str z ∧ valV ls p.1 = some (V.str z')) → PySem.W.KeqHits A s vb va (sameV ls ks)
  | _, _, .nil, _ => .nil
  | p :: ks, _, .cons (b := q) h t, hp => by
    obtain ⟨h1, h2⟩ := h
    obtain ⟨z, z', e1, e2⟩ := hp p List.mem_cons_self
    have ih := hits_txt (A := A) (s := s) rb t fun p' hm => hp p' (List.mem_cons_of_mem _ hm)
    have rr : RelO (some (V.str z')) (valueAt vb p.1) := by rw [← e2]; exact rb.val p.1
    obtain ⟨y, hy, ry⟩ := rr.some_of
    obtain ⟨k, v⟩ := q
    have h1' : p.1 = k := h1
    have h2' : RelV (.str z) v := by rw [← e1]; exact h2
    rw [h1'] at hy
    obtain ⟨t1, rfl⟩ := h2'
    obtain ⟨t2, rfl⟩ := ry
    have ee : sameV ls (p :: ks) = (decide (z = z') && sameV ls ks) := by
      unfold sameV
      rw [List.all_cons, e1, e2]
      congr 1
      rw [Bool.eq_iff_iff, decide_eq_true_iff, decide_eq_true_iff]
      exact ⟨fun w => (by cases w; rfl), fun w => by rw [w]⟩
    rw [ee]
    exact .hit hy eqAt_str ih
section
variable {X : Cx}
theorem op_eqDS (hu : X.A.units < cLine) : OpR X (compareOp .Eq) rEqDS := by
  intro pins s σ H x y v u Q I rx ry h
  obtain ⟨a, b, ks, ls, rfl, rfl, ea, eb, tx, q⟩ := h
  obtain rfl : v = Value.ref a := rx
  obtain rfl : u = Value.ref b := ry
  obtain ⟨_, ya, va, ra, da⟩ := (show ObjOk X.prog X.w H s.heap a (.dK ks) from I.hok a _ ea)
  obtain ⟨_, yb, vb, rb, db⟩ := (show ObjOk X.prog X.w H s.heap b (.dK ls) from I.hok b _ eb)
  have hl : va.length = vb.length := by rw [← ra.length, ← rb.length]; exact tx.len
  exact PySem.W.keq_eq (knd := mixKind X.prog X.w) ya yb da db hu (fun _ => hits_txt rb ra tx.at_) (fin_bl I q (by simp [hl]))
end
end WW

set_option Elab.async false
set_option linter.all false
set_option maxRecDepth 100000
set_option maxHeartbeats 4000000
namespace WK
open PySem PySem.Spec PyProof.Rows L2 WW Evl
def Tu (H H' : Hp) : Prop := ∀ b ys, H b = some (.tup ys) → H' b = some (.tup ys)
theorem Tu.trans {H H1 H2 : Hp} (a : Tu H H1) (b : Tu H1 H2) : Tu H H2 := fun c ys h => b c ys (a c ys h)
theorem Tu.ex {H H' : Hp} (e : Ex H H') : Tu H H' := fun b ys h => e _ _ h
theorem Tu.lst {H : Hp} {l : Addr} {xs : List V} {o : HO} (h : H l = some (.lst xs)) : Tu H (upd H l o) := fun b ys hb => by
  rw [upd_ne (fun z => by rw [z, h] at hb; cases hb)]
  exact hb
theorem Kp.tu {p : Addr} {H H' : Hp} (hP : Pool H p) (k : Kp p H H') : Tu H H' := fun b ys hb => by
  obtain ⟨g, s, n, kk, gs, ss, h1, _⟩ := hP
  exact k.k b _ (fun z => by rw [z, h1] at hb; cases hb) hb
theorem prd_at {α β : Type} {R : α → β → Prop} : ∀ {xs : List α} {os : List β} {i : Nat} {x : α}, Paired R xs os → xs[i]? = some x → ∃ o, os[i]? = some o ∧ R x o
  | _, _, i, _, .nil, e => by simp at e
  | _, _, 0, _, .cons g _, e => by simp at e; subst e; exact ⟨_, rfl, g⟩
  | _, _, i + 1, _, .cons _ r, e => by simpa using prd_at r (by simpa using e)
/-- the thing at D while it is filled; B: what stood before -/
structure Fil (p D : Addr) (B H : Hp) : Prop where
  kp : Kp p B H
  pool : Pool H p
  ap : Apart H p D
theorem Fil.draw {p D : Addr} {B H H2 : Hp} {o : HO} (h : Fil p D B H) (n : D ≠ p) (hd : H D = some o) (K : Kp p H H2) (P : Pool H2 p) : Fil p D B H2 ∧ H2 D = some o :=
  ⟨⟨h.kp.trans K, P, K.a D n (some_ne hd) h.ap⟩, K.k D o n hd⟩
theorem Fil.put {p D : Addr} {B H : Hp} {o : HO} (h : Fil p D B H) (n : D ≠ p) (hb : B D = none) : Fil p D B (upd H D o) := ⟨h.kp.mut hb n, h.pool.mut n h.ap, Apart.mut n h.ap⟩
theorem Fil.new {p D : Addr} {B : Hp} {o : HO} (hP : Pool B p) (hb : B D = none) : Fil p D B (upd B D o) ∧ D ≠ p := by
  obtain ⟨n, a⟩ := Apart.new (o := o) hP hb
  exact ⟨⟨(Kp.refl p B).new hP hb, hP.ex (Ex.new hb), a⟩, n⟩
theorem Fil.ex {p D : Addr} {B H H2 : Hp} {o : HO} (h : Fil p D B H) (n : D ≠ p) (hd : H D = some o) (e : Ex H H2) : Fil p D B H2 ∧ H2 D = some o := h.draw n hd (Kp.ex e h.pool) (h.pool.ex e)
theorem st_k {H : Hp} {d : Addr} {o : Obj} {kvs : List (Key × V)} (h : H d = some (.frz o (.dK kvs))) : Steady (Itk d o kvs) H (kvs.map fun q => kV q.1) where
  go := fun i H' e hi => ⟨e _ _ h, by simpa using hi⟩
  yld := fun i H' x H'' e _ y => by
    obtain ⟨e1, k, v, hk, rfl⟩ := y
    refine ⟨e1, ?_⟩
    rw [List.getElem?_map, hk]
    rfl
  stop := fun H' e => ⟨e _ _ h, by simp⟩
theorem unlock_ex {H H' : Hp} {d : Addr} {o : Obj} {u : HO} (h : H d = some u) (e : Ex (upd H d (.frz o u)) H') : Ex H (upd H' d u) := fun b x hb => by
  by_cases z : b = d
  · rw [z] at hb ⊢
    rw [upd_same, ← hb, h]
  · rw [upd_ne z]
    exact e b x (by rw [upd_ne z]; exact hb)
theorem frz_get {H H' : Hp} {d : Addr} {o : Obj} {kvs : List (Key × V)} {k : Key} (h : H d = some (.frz o (.dK kvs))) : DGet H d (kV k) (valV kvs k) := .inl ⟨kvs, k, .inr ⟨o, h⟩, rfl, rfl⟩
/-- an instrument that is drawn: a lock holds ws, a sensor shows sg for ws -/
structure Ins where
  lk : Bool
  nm : Str
  po : Int
  ws : List Str
  sg : List Str
  co : Int
def kvsOf (ws sg : List Str) : List (Key × V) := (ws.zip sg).map fun q => (.inr q.1, .str q.2)
def Ins.thing (r : Ins) : HO := if r.lk = true then .lst (r.ws.map V.str) else .dK (kvsOf r.ws r.sg)
structure Ins.Ok (r : Ins) : Prop where
  nm : IsNm r.nm
  po : r.po = 0 ∨ r.po = 1
  co : 1 ≤ r.co ∧ r.co ≤ 1000
  ne : r.ws ≠ []
  le : r.ws.length ≤ 10
  nd : r.ws.Nodup
  ws : ∀ x ∈ r.ws, IsNm x
  sl : r.lk = false → r.sg.length = r.ws.length
  sg : ∀ x ∈ r.sg, IsNm x
theorem kvs_put {ws sg : List Str} {x n : Str} (hl : sg.length = ws.length) (h : x ∉ ws) : putK (kvsOf ws sg) (.inr x) (.str n) = kvsOf (ws ++ [x]) (sg ++ [n]) := by
  have hv : valV (kvsOf ws sg) (.inr x : Key) = none := by
    cases e : valV (kvsOf ws sg) (.inr x : Key) with
    | none => rfl
    | some v =>
      exfalso
      have ha : ((kvsOf ws sg).any fun kv => decide (kv.1 = (Sum.inr x : Key))) = true := by rw [valV_any, e]; rfl
      obtain ⟨q, hq, eq⟩ := List.any_eq_true.mp ha
      obtain ⟨z, hz, rfl⟩ := List.mem_map.mp hq
      have e1 := of_decide_eq_true eq
      have e2 : z.1 = x := Sum.inr.inj e1
      exact h (e2 ▸ (List.of_mem_zip hz).1)
  rw [putK_new _ hv]
  unfold kvsOf
  rw [List.zip_append hl.symm, List.map_append]
  rfl
/-- a promise that holds of good ones alone: nothing is raised -/
theorem calm {P : Program} {w : World} {K : PySem.W.Frag} {mg : Str → Option Value} {base : Heap} {k : Nat} {f : Addr} {fd : FuncData} {ps : List Str} {sp sp0 : Sp} (F : FnOk P w K mg base (L2.CX P w) k f fd ps sp) (h : ∀ vs H Q E, sp0 vs H Q E → sp vs H Q E) (h2 : ∀ vs H Q E, sp0 vs H Q E → sp0 vs H Q En) : FnOk P w K mg base CXn k f fd ps sp0 :=
  fn_none (F.imp h) h2
theorem Callee.calm {P : Program} {w : World} {K : PySem.W.Frag} {mg : Str → Option Value} {base : Heap} {k n : Nat} {x : Str} {sp sp0 : Sp} (c : Callee P w K mg base (L2.CX P w) k x n sp) (h : ∀ vs H Q E, sp0 vs H Q E → sp vs H Q E) (h2 : ∀ vs H Q E, sp0 vs H Q E → sp0 vs H Q En) : Callee P w K mg base CXn k x n sp0 := by
  obtain ⟨f, fd, ps, l, F, r⟩ := c
  exact ⟨f, fd, ps, l, WK.calm F h h2, r⟩
theorem nmB_of {z : Str} (h : IsNm z) : nmB (.str z) = true := by
  rw [nmB_str, decide_eq_true (show (1 : Int) ≤ z.length by have := h.1; omega), decide_eq_true (show (z.length : Int) ≤ 10 by have := h.2.1; omega)]
  simp only [Bool.true_and]
  refine List.all_eq_true.mpr fun c hc => ?_
  have := h.2.2 c hc
  unfold ltB
  rw [decide_eq_true this.1, decide_eq_true this.2]
  rfl
section
variable {P : Program} {w : World} {K : PySem.W.Frag} {mg : Str → Option Value} {base : Heap} {f : Addr} {fd : FuncData}
theorem nmz {x : Str} (h : IsNm x) : ∀ z, V.str x = .str z → z.length ≤ 1000 := fun z e => by cases e; have := h.2.1; omega
def inB (m : Int) : V → Bool
  | .int i => decide (0 ≤ i) && decide (i < m)
  | _ => false
theorem inB_no {m : Int} {v : V} (h : isI v = false) : inB m v = false := by cases v <;> first | rfl | exact nomatch (show true = false from h)
abbrev s_is_index : Stmt := top 14
theorem sc_is_index : FnScope ["thing", "many"] ["thing", "many"] (defScope s_is_index) := ⟨rfl, rfl, rfl, by decide +kernel, rfl, by decide +kernel, by decide +kernel⟩
def spIsIndexG : Sp := fun vs H Q _ => ∃ v m, vs = [v, .int m] ∧ Pl H v ∧ ∀ H', Ex H H' → Q (.bl (inB m v)) H'
theorem okg_is_index (D : Df K mg "is_index" s_is_index f fd ["thing", "many"]) (c_is_integer : Callee P w K mg base CXn 1 "is_integer" 1 spIsIntegerG) : Callee P w K mg base CXn 2 "is_index" 2 spIsIndexG := by
  refine D.callee (D.fn.ok sc_is_index (fun vs H Q E h => ?_) (fun cdv A outer s H vs Q E hr h => ⟨_, PSs.nox (pss_one (ps_ret (L2.pe_and (pe_cl (E := En) c_is_integer (hr.mono (by decide)) rfl passN (pa_cons (pv 0) pa_nil)) (pe_one (pe_chain op_le op_lt pe_int (pv 0) (pv 1)))))), ?_⟩))
  · obtain ⟨_, _, rfl, _⟩ := h
    rfl
  · obtain ⟨v, m, rfl, hv, k⟩ := h
    refine ⟨_, rfl, v, rfl, hv, fun H1 e1 => ⟨_, rfl, ?_⟩⟩
    have q := k H1 e1
    cases hi : isI v with
    | false =>
      rw [inB_no hi] at q
      exact q
    | true =>
      cases v with
      | int i =>
        have e : inB m (.int i) = (decide (0 ≤ i) && decide (i < m)) := rfl
        rw [e] at q
        refine ⟨_, rfl, 0, i, rfl, rfl, decide ((0 : Int) ≤ i), rfl, ?_⟩
        cases hd : decide ((0 : Int) ≤ i) with
        | false =>
          rw [hd] at q
          exact q
        | true =>
          rw [hd] at q
          exact ⟨_, rfl, i, m, rfl, rfl, q⟩
      | _ => exact nomatch (show false = true from hi)
abbrev s_is_post : Stmt := top 13
theorem sc_is_post : FnScope ["thing"] ["thing"] (defScope s_is_post) := ⟨rfl, rfl, rfl, by decide +kernel, rfl, by decide +kernel, by decide +kernel⟩
def spIsPostG : Sp := fun vs H Q _ => ∃ v, vs = [v] ∧ Pl H v ∧ ∀ H', Ex H H' → Q (.bl (inB 2 v)) H'
theorem okg_is_post (D : Df K mg "is_post" s_is_post f fd ["thing"]) (c_is_index : Callee P w K mg base CXn 2 "is_index" 2 spIsIndexG) : Callee P w K mg base CXn 3 "is_post" 1 spIsPostG := by
  refine D.callee (D.fn.ok sc_is_post (fun vs H Q E h => ?_) (fun cdv A outer s H vs Q E hr h => ⟨_, PSs.nox (pss_one (ps_ret (pe_cl (E := En) c_is_index (hr.mono (by decide)) rfl passN (pa_cons (pv 0) (pa_cons pe_int pa_nil))))), ?_⟩))
  · obtain ⟨_, rfl, _⟩ := h
    rfl
  · obtain ⟨v, rfl, hv, k⟩ := h
    exact ⟨_, rfl, v, 2, rfl, hv, fun H1 e1 => k H1 e1⟩
abbrev s_check_name : Stmt := top 20
theorem sc_check_name : FnScope ["name"] ["name"] (defScope s_check_name) := ⟨rfl, rfl, rfl, by decide +kernel, rfl, by decide +kernel, by decide +kernel⟩
def spCkNameG (C : Addr) : Sp := fun vs H Q E => ∃ v, vs = [v] ∧ Pl H v ∧ (∀ z, v = .str z → z.length ≤ 1000) ∧ (nmB v = false → ∀ H' d, Ex H H' → H' d = none → E (.ref C) (some d) (upd H' d (.xd [("value", v)]))) ∧ (nmB v = true → ∀ H', Ex H H' → Q .non H')
theorem okg_check_name {C_BadName : Addr} (D : Df K mg "check_name" s_check_name f fd ["name"]) (X_BadName : ExR P w K mg base 1 "BadName" C_BadName "value") (c_is_name : Callee P w K mg base CXn 1 "is_name" 1 spIsNameG) : Callee P w K mg base (L2.CX P w) 3 "check_name" 1 (spCkNameG C_BadName) := by
  refine D.callee (D.fn.ok sc_check_name (fun vs H Q E h => ?_) (fun cdv A outer s H vs Q E hr h => ⟨_, (pss_one (ps_if (pt_not (pt_val (pe_cl (E := En) c_is_name (hr.mono (by decide)) rfl passN (pa_cons (pv 0) pa_nil)))) (pss_one (ps_raiseE X_BadName rfl (hr.mono (by decide)) (takes_of rfl rfl rfl rfl) rfl (pv 0))) pss_nil)), ?_⟩))
  · obtain ⟨_, rfl, _⟩ := h
    rfl
  · obtain ⟨v, rfl, hv, hz, bad, good⟩ := h
    refine ⟨_, rfl, v, rfl, hv, hz, fun H1 e1 => ⟨nmB v, rfl, ?_⟩⟩
    cases hb : nmB v with
    | false =>
      refine iteT ⟨_, rfl, ?_⟩
      exact raise_go fun d hd => bad hb H1 d e1 hd
    | true => exact iteF (good hb H1 e1)
/-- of a name -/
def spCkName0 : Sp := fun vs H Q _ => ∃ z, vs = [.str z] ∧ IsNm z ∧ ∀ H', Ex H H' → Q .non H'
theorem ckName0 {C : Addr} (vs : List V) (H : Hp) (Q : VK) (E : XK) (h : spCkName0 vs H Q E) : spCkNameG C vs H Q E := by
  obtain ⟨z, rfl, hz, k⟩ := h
  exact ⟨_, rfl, .str z, (fun y e => by cases e; have := hz.2.1; omega), fun n => absurd ((nmB_of hz).symm.trans n) (by decide), fun _ => k⟩
abbrev s_check_post : Stmt := top 21
theorem sc_check_post : FnScope ["post"] ["post"] (defScope s_check_post) := ⟨rfl, rfl, rfl, by decide +kernel, rfl, by decide +kernel, by decide +kernel⟩
def spCkPostG (C : Addr) : Sp := fun vs H Q E => ∃ v, vs = [v] ∧ Pl H v ∧ (inB 2 v = false → ∀ H' d, Ex H H' → H' d = none → E (.ref C) (some d) (upd H' d (.xd [("value", v)]))) ∧ (inB 2 v = true → ∀ H', Ex H H' → Q .non H')
theorem okg_check_post {C_BadPost : Addr} (D : Df K mg "check_post" s_check_post f fd ["post"]) (X_BadPost : ExR P w K mg base 1 "BadPost" C_BadPost "value") (c_is_post : Callee P w K mg base CXn 3 "is_post" 1 spIsPostG) : Callee P w K mg base (L2.CX P w) 4 "check_post" 1 (spCkPostG C_BadPost) := by
  refine D.callee (D.fn.ok sc_check_post (fun vs H Q E h => ?_) (fun cdv A outer s H vs Q E hr h => ⟨_, (pss_one (ps_if (pt_not (pt_val (pe_cl (E := En) c_is_post (hr.mono (by decide)) rfl passN (pa_cons (pv 0) pa_nil)))) (pss_one (ps_raiseE X_BadPost rfl (hr.mono (by decide)) (takes_of rfl rfl rfl rfl) rfl (pv 0))) pss_nil)), ?_⟩))
  · obtain ⟨_, rfl, _⟩ := h
    rfl
  · obtain ⟨v, rfl, hv, bad, good⟩ := h
    refine ⟨_, rfl, v, rfl, hv, fun H1 e1 => ⟨inB 2 v, rfl, ?_⟩⟩
    cases hb : inB 2 v with
    | false =>
      refine iteT ⟨_, rfl, ?_⟩
      exact raise_go fun d hd => bad hb H1 d e1 hd
    | true => exact iteF (good hb H1 e1)
def IsPo (i : Int) : Prop := i = 0 ∨ i = 1
theorem inB_of {i : Int} (h : IsPo i) : inB 2 (.int i) = true := by rcases h with rfl | rfl <;> rfl
def spCkPost0 : Sp := fun vs H Q _ => ∃ i, vs = [.int i] ∧ IsPo i ∧ ∀ H', Ex H H' → Q .non H'
theorem ckPost0 {C : Addr} (vs : List V) (H : Hp) (Q : VK) (E : XK) (h : spCkPost0 vs H Q E) : spCkPostG C vs H Q E := by
  obtain ⟨i, rfl, hi, k⟩ := h
  exact ⟨_, rfl, .int i, fun n => absurd ((inB_of hi).symm.trans n) (by decide), fun _ => k⟩
def coB : V → Bool
  | .int i => decide (1 ≤ i) && decide (i ≤ 1000)
  | _ => false
theorem coB_no {v : V} (h : isI v = false) : coB v = false := by cases v <;> first | rfl | exact nomatch (show true = false from h)
/-- an error with a value -/
def RaiseV (E : XK) (C : Addr) (H : Hp) (v : V) : Prop := ∀ H' d, Ex H H' → H' d = none → E (.ref C) (some d) (upd H' d (.xd [("value", v)]))
theorem RaiseV.ex {E : XK} {C : Addr} {H H' : Hp} {v : V} (e : Ex H H') (h : RaiseV E C H v) : RaiseV E C H' v := fun H2 d e2 hd => h H2 d (e.trans e2) hd
abbrev s_check_cost : Stmt := top 22
theorem sc_check_cost : FnScope ["cost"] ["cost"] (defScope s_check_cost) := ⟨rfl, rfl, rfl, by decide +kernel, rfl, by decide +kernel, by decide +kernel⟩
def spCkCostG (C : Addr) : Sp := fun vs H Q E => ∃ v, vs = [v] ∧ Pl H v ∧ (coB v = false → RaiseV E C H v) ∧ (coB v = true → ∀ H', Ex H H' → Q .non H')
theorem okg_check_cost {C_BadCost : Addr} (gc : ∃ t, mg "MOST_COST" = some (.int 1000 t)) (D : Df K mg "check_cost" s_check_cost f fd ["cost"]) (X_BadCost : ExR P w K mg base 1 "BadCost" C_BadCost "value") (c_is_integer : Callee P w K mg base CXn 1 "is_integer" 1 spIsIntegerG) : Callee P w K mg base (L2.CX P w) 3 "check_cost" 1 (spCkCostG C_BadCost) := by
  obtain ⟨tc, g_MOST_COST⟩ := gc
  have r_MOST_COST : RelV (.int 1000) (.int 1000 tc) := ⟨_, rfl⟩
  refine D.callee (D.fn.ok sc_check_cost (fun vs H Q E h => ?_) (fun cdv A outer s H vs Q E hr h => ⟨_, (pss_one (ps_if (PW.pt (pw_or (pt_not (pt_val (pe_cl (E := En) c_is_integer (hr.mono (by decide)) rfl passN (pa_cons (pv 0) pa_nil)))) (pw_or1 (pt_not (pt_chain op_le op_le pe_int (pv 0) (pe_glob rfl g_MOST_COST r_MOST_COST)))))) (pss_one (ps_raiseE X_BadCost rfl (hr.mono (by decide)) (takes_of rfl rfl rfl rfl) rfl (pv 0))) pss_nil)), ?_⟩))
  · obtain ⟨_, rfl, _⟩ := h
    rfl
  · obtain ⟨v, rfl, hv, bad, good⟩ := h
    refine ⟨_, rfl, v, rfl, hv, fun H1 e1 => ?_⟩
    cases hi : isI v with
    | false => exact ⟨false, rfl, iteT ⟨_, rfl, raise_go fun d hd => bad (coB_no hi) H1 d e1 hd⟩⟩
    | true =>
      cases v with
      | int i =>
        have e : coB (.int i) = (decide (1 ≤ i) && decide (i ≤ 1000)) := rfl
        refine ⟨true, rfl, iteF ?_⟩
        refine ⟨_, rfl, 1, i, rfl, rfl, decide ((1 : Int) ≤ i), rfl, ?_⟩
        cases h1 : decide ((1 : Int) ≤ i) with
        | false =>
          rw [h1] at e
          exact ⟨false, rfl, iteT ⟨_, rfl, raise_go fun d hd => bad e H1 d e1 hd⟩⟩
        | true =>
          refine ⟨i, 1000, rfl, rfl, decide (i ≤ (1000 : Int)), rfl, ?_⟩
          cases h2 : decide (i ≤ (1000 : Int)) with
          | false =>
            rw [h1, h2] at e
            exact iteT ⟨_, rfl, raise_go fun d hd => bad e H1 d e1 hd⟩
          | true =>
            rw [h1, h2] at e
            exact iteF (good e H1 e1)
      | _ => exact nomatch (show false = true from hi)
/-- plain, and no dict -/
inductive NoD (H : Hp) : V → Prop where
  | non : NoD H .non
  | bl (b : Bool) : NoD H (.bl b)
  | int (i : Int) : NoD H (.int i)
  | str (z : Str) : NoD H (.str z)
  | lst {a : Addr} {xs : List V} (h : H a = some (.lst xs)) : NoD H (.ref a)
  | tup {a : Addr} {xs : List V} (h : H a = some (.tup xs)) : NoD H (.ref a)
theorem NoD.ex {H H' : Hp} {v : V} (e : Ex H H') (h : NoD H v) : NoD H' v := by
  cases h with
  | non => exact .non
  | bl b => exact .bl b
  | int i => exact .int i
  | str z => exact .str z
  | lst h => exact .lst (e _ _ h)
  | tup h => exact .tup (e _ _ h)
theorem NoD.kin {H : Hp} {v : V} (h : NoD H v) : ∃ t, TyX K H v t ∧ PySem.W.kitOne K t (.type "dict") = some false := by
  cases h with
  | non => exact ⟨.type "NoneType", .base .non, kit_ty (r := false) (by decide +kernel)⟩
  | bl b => exact ⟨.type "bool", .base (.bl b), kit_ty (r := false) (by decide +kernel)⟩
  | int i => exact ⟨.type "int", .base (.int i), kit_ty (r := false) (by decide +kernel)⟩
  | str z => exact ⟨.type "str", .base (.str z), kit_ty (r := false) (by decide +kernel)⟩
  | lst h => exact ⟨.type "list", .base (.lst h), kit_ty (r := false) (by decide +kernel)⟩
  | tup h => exact ⟨.type "tuple", .base (.tup h), kit_ty (r := false) (by decide +kernel)⟩
/-- not too long, where it is a text -/
def Sh (v : V) : Prop := ∀ z, v = .str z → z.length ≤ 1000
def entB (q : Key × V) : Bool := nmB (kV q.1) && nmB q.2
/-- a dict of sights: what is told of it -/
def tabB (kvs : List (Key × V)) : Bool := decide ((1 : Int) ≤ (kvs.length : Int)) && (decide ((kvs.length : Int) ≤ 10) && kvs.all entB)
/-- None, a truth value, a number, a text -/
def Lf : V → Prop | .non => True | .bl _ => True | .int _ => True | .str _ => True | _ => False
theorem Lf.pl {H : Hp} {v : V} (h : Lf v) : Pl H v := by
  cases v <;> first | exact .non | exact .bl _ | exact .int _ | exact .str _ | exact h.elim
theorem Lf.nod {H : Hp} {v : V} (h : Lf v) : NoD H v := by
  cases v <;> first | exact .non | exact .bl _ | exact .int _ | exact .str _ | exact h.elim
theorem Lf.flat {H : Hp} {v : V} (h : Lf v) : isL H v = false ∧ isT H v = false := by
  cases v <;> first | exact ⟨rfl, rfl⟩ | exact h.elim
theorem Lf.scal {v : V} (h : Lf v) : scal v v = true := by
  cases v <;> first | rfl | exact h.elim
theorem OddK.pl {H : Hp} {v : V} (h : OddK H v) : Pl H v := by
  rcases h with rfl | ⟨t, xs, rfl, h⟩
  · exact .non
  · exact .tup h
theorem OddK.nm {H : Hp} {v : V} (h : OddK H v) : nmB v = false := by
  rcases h with rfl | ⟨t, xs, rfl, h⟩ <;> rfl
theorem OddK.sh {H : Hp} {v : V} (h : OddK H v) : Sh v := by
  rcases h with rfl | ⟨t, xs, rfl, h⟩ <;> exact fun z e => nomatch e
/-- a dict's keys and values may be asked for names -/
def Ask (kvs : List (Key × V)) : Prop := ∀ q ∈ kvs, Sh (kV q.1) ∧ Lf q.2 ∧ Sh q.2
def valB (kvs : List (Key × V)) (i : Nat) : V := match kvs[i]? with | some q => .bl (entB q) | none => .bl true
theorem valB_all (kvs : List (Key × V)) : ((List.range kvs.length).map (valB kvs)) = kvs.map fun q => .bl (entB q) := by
  apply List.ext_getElem
  · simp
  · intro i h1 h2
    have hi : i < kvs.length := by simpa using h1
    simp only [List.getElem_map, List.getElem_range]
    unfold valB
    rw [List.getElem?_eq_getElem hi]
/-- what is passed as sights: told right or wrong -/
def SgIn (H : Hp) (v : V) (b : Bool) : Prop := (NoD H v ∧ b = false) ∨ (∃ D kvs, v = .ref D ∧ H D = some (.dK kvs) ∧ kvs.length ≤ 1000 ∧ Ask kvs ∧ b = tabB kvs) ∨ ∃ D hs kv x, v = .ref D ∧ H D = some (rawD hs kv x D) ∧ OddK H kv ∧ b = false
theorem OddK.ex {H H' : Hp} {v : V} (e : Ex H H') (h : OddK H v) : OddK H' v := h.imp id fun ⟨t, xs, z, h⟩ => ⟨t, xs, z, e _ _ h⟩
theorem SgIn.ex {H H' : Hp} {v : V} {b : Bool} (e : Ex H H') (h : SgIn H v b) : SgIn H' v b := by
  rcases h with ⟨nd, z⟩ | ⟨D, kvs, rfl, hD, h⟩ | ⟨D, hs, kv, x, rfl, hD, ok, z⟩
  · exact .inl ⟨nd.ex e, z⟩
  · exact .inr (.inl ⟨D, kvs, rfl, e _ _ hD, h⟩)
  · exact .inr (.inr ⟨D, hs, kv, x, rfl, e _ _ hD, WK.OddK.ex e ok, z⟩)
abbrev s_is_table_of_sights : Stmt := top 23
theorem sc_is_table_of_sights : FnScope ["thing", "word", "sight"] ["thing"] (defScope s_is_table_of_sights) := ⟨rfl, rfl, rfl, by decide +kernel, rfl, by decide +kernel, by decide +kernel⟩
def spIsTableG : Sp := fun vs H Q _ => ∃ v b, vs = [v] ∧ SgIn H v b ∧ ∀ H', Ex H H' → Q (.bl b) H'
theorem okg_is_table (G : Gz mg) (gc : ∃ t, mg "MOST_WORDS_OF_AN_INSTRUMENT" = some (.int 10 t)) (D : Df K mg "is_table_of_sights" s_is_table_of_sights f fd ["thing"]) (c_is_name : Callee P w K mg base CXn 1 "is_name" 1 spIsNameG) : Callee P w K mg base CXn 2 "is_table_of_sights" 1 spIsTableG := by
  obtain ⟨tc, g_MOST_WORDS_OF_AN_INSTRUMENT⟩ := gc
  have r_MOST_WORDS_OF_AN_INSTRUMENT : RelV (.int 10) (.int 10 tc) := ⟨_, rfl⟩
  refine D.callee (D.fn.ok sc_is_table_of_sights (fun vs H Q E h => ?_) (fun cdv A outer s H vs Q E hr h => ⟨_, PSs.nox (pss_cons (ps_if (PW.pt (pw_or (pt_not (pt_val (pe_callB (cr_or (isiK (K := K) rfl) call_isiR) rfl G.g_isinstance (by rfl) (pa_cons (pv 0) (pa_cons (pe_bltn (v := .ty "dict") rfl G.g_dict (by rfl) rfl) pa_nil))))) (pw_or1 (pt_not (pt_chain op_le op_le pe_int (pe_callB (cr_or call_lenD call_lenR) rfl G.g_len PySem.boot_len (pa_cons (pv 0) pa_nil)) (pe_glob rfl g_MOST_WORDS_OF_AN_INSTRUMENT r_MOST_WORDS_OF_AN_INSTRUMENT)))))) (pss_one (ps_ret pe_bl)) pss_nil) (pss_one (ps_ret (pe_callB (cr_all rfl) rfl G.g_all (by rfl) (pa_cons (pe_lock (pe_lc (own := [("word", 1), ("sight", 2)]) rfl sc_is_table_of_sights.nd (pi_or (pi_items (pv 0)) (pi_itemsR (pv 0))) (BlkOk.mk (N := ["thing", "word", "sight"]) (sc := defScope s_is_table_of_sights) rfl (by decide +kernel) (by decide +kernel) (by decide +kernel) (by decide +kernel)) (fun _ _ _ _ _ => (show PG _ _ (gTup K 2 (gCons (gName 1) (gCons (gName 2) gNil))) from pg_tup (n := 2) rfl (pgs_cons (pg_name (i := 1) sc_is_table_of_sights.nd rfl (Or.inl rfl)) (pgs_cons (pg_name (i := 2) sc_is_table_of_sights.nd rfl (Or.inl rfl)) pgs_nil)))) (fun _ _ _ _ _ => pts_nil) (fun _ _ _ _ _ => (L2.pe_and (pe_cl (E := En) c_is_name (hr.mono (by decide)) rfl passN (pa_cons (pv 1) pa_nil)) (pe_one (pe_cl (E := En) c_is_name (hr.mono (by decide)) rfl passN (pa_cons (pv 2) pa_nil))))))) pa_nil))))), ?_⟩))
  · obtain ⟨_, _, rfl, _⟩ := h
    rfl
  · obtain ⟨v, b, rfl, ⟨nd, rfl⟩ | ⟨D, kvs, rfl, hD, km, ask, rfl⟩ | ⟨D, hs, kv, x, rfl, hD, ok, rfl⟩, k⟩ := h
    · obtain ⟨t, ty, g⟩ := nd.kin (K := K)
      exact ⟨_, rfl, .inl ⟨v, .ty "dict", t, .type "dict", false, rfl, .ty _, ty, g, false, rfl, iteT (k H (Ex.refl _))⟩⟩
    · refine ⟨_, rfl, .inl ⟨.ref D, .ty "dict", .type "dict", .type "dict", true, rfl, .ty _, .base (.dK hD), kit_ty (r := true) (by decide +kernel), true, rfl, iteF ?_⟩⟩
      refine ⟨_, rfl, .inl ⟨D, kvs, rfl, hD, 1, (kvs.length : Int), rfl, rfl, decide ((1 : Int) ≤ (kvs.length : Int)), rfl, ?_⟩⟩
      have q0 := k H (Ex.refl _)
      cases h1 : decide ((1 : Int) ≤ (kvs.length : Int)) with
      | false =>
        unfold tabB at q0
        rw [h1] at q0
        exact ⟨false, rfl, iteT q0⟩
      | true =>
        refine ⟨(kvs.length : Int), 10, rfl, rfl, decide ((kvs.length : Int) ≤ 10), rfl, ?_⟩
        cases h2 : decide ((kvs.length : Int) ≤ (10 : Int)) with
        | false =>
          unfold tabB at q0
          rw [h1, h2] at q0
          exact iteT q0
        | true =>
          have e0 : tabB kvs = kvs.all entB := by unfold tabB; rw [h1, h2]; rfl
          rw [e0] at k
          refine iteF ?_
          refine ⟨D, .dK kvs, hD, trivial, fun od => ?_⟩
          have hf : upd H D (.frz od (.dK kvs)) D = some (.frz od (.dK kvs)) := upd_same
          refine .inl ⟨_, rfl, D, od, kvs, rfl, hf, fun N hN => ?_⟩
          refine lc_walk (n := kvs.length) (valB kvs) (by omega) (fun i H' e hi => ⟨e _ _ hf, hi⟩) (fun H' e => ⟨e _ _ hf, Nat.le_refl _⟩) hN (fun i H' x H'' e hi y N M q => ?_) (fun H' e hd => ⟨e _ _ hf, ?_⟩)
          · obtain ⟨T, ky, v, hk, rfl, hT, rfl⟩ := y
            obtain ⟨s1, pv, s2⟩ := ask _ (List.mem_of_getElem? hk)
            have ev : valB kvs i = .bl (nmB (kV ky) && nmB v) := by unfold valB; rw [hk]; rfl
            rw [ev] at q
            have e2 : Ex H' (upd H' T (.tup [kV ky, v])) := Ex.new hT
            refine ⟨T, _, rfl, st_of upd_same, rfl, _, _, rfl, _, _, rfl, rfl, rfl, ?_⟩
            refine ⟨_, rfl, kV ky, rfl, (by cases ky <;> first | exact .int _ | exact .str _), s1, fun H3 e3 => ⟨_, rfl, ?_⟩⟩
            cases hk1 : nmB (kV ky) with
            | false =>
              rw [hk1] at q
              exact q H3 (e2.trans e3)
            | true =>
              rw [hk1] at q
              refine ⟨_, rfl, v, rfl, pv.pl, s2, fun H4 e4 => ?_⟩
              exact q H4 (e2.trans (e3.trans e4))
          · have ex := unlock_ex hD e
            have nND : N ≠ D := fun z => by rw [z, hf] at hN; cases hN
            refine ⟨N, kvs.map entB, rfl, sq_of ?_, ?_⟩
            · rw [upd_ne nND, hd, valB_all, List.map_map]
              rfl
            · have e3 : (kvs.map entB).all id = kvs.all entB := by rw [List.all_map]; rfl
              rw [e3]
              exact k _ ex
    · refine ⟨_, rfl, .inr ⟨D, hs, kv, x, .ty "dict", .type "dict", true, rfl, .ty _, hD, kit_ty (r := true) (by decide +kernel), true, rfl, iteF ?_⟩⟩
      refine ⟨_, rfl, .inr ⟨D, hs, kv, x, rfl, hD, 1, 1, rfl, rfl, true, rfl, ?_⟩⟩
      refine ⟨1, 10, rfl, rfl, true, rfl, iteF ?_⟩
      refine ⟨D, rawD hs kv x D, hD, trivial, fun od => ?_⟩
      have hf : upd H D (.frz od (rawD hs kv x D)) D = some (.frz od (rawD hs kv x D)) := upd_same
      have pk' : Pl (upd H D (.frz od (rawD hs kv x D))) kv := by
        rcases ok with rfl | ⟨t, xs, rfl, ht⟩
        · exact .non
        · exact .tup (a := t) (xs := xs) (by rw [upd_ne (fun z => by rw [z, hD] at ht; cases ht)]; exact ht)
      refine .inr ⟨_, rfl, D, od, hs, kv, x, rfl, hf, fun N hN => ?_⟩
      refine lc_walk (n := 1) (fun _ => .bl false) (by decide) (fun i H' e hi => ⟨e _ _ hf, hi⟩) (fun H' e => ⟨e _ _ hf, Nat.le_refl _⟩) hN (fun i H' x' H'' e hi y N M q => ?_) (fun H' e hd => ⟨e _ _ hf, ?_⟩)
      · obtain ⟨T, rfl, hT, rfl⟩ := y
        have e2 : Ex H' (upd H' T (.tup [kv, x])) := Ex.new hT
        refine ⟨T, _, rfl, st_of upd_same, rfl, _, _, rfl, _, _, rfl, rfl, rfl, ?_⟩
        refine ⟨_, rfl, kv, rfl, pk'.ex (e.trans e2), OddK.sh ok, fun H3 e3 => ⟨_, rfl, ?_⟩⟩
        rw [OddK.nm ok]
        exact q H3 (e2.trans e3)
      · have ex := unlock_ex hD e
        have nND : N ≠ D := fun z => by rw [z, hf] at hN; cases hN
        refine ⟨N, [false], rfl, sq_of ?_, k _ ex⟩
        rw [upd_ne nND, hd]
        rfl
end
end WK

set_option Elab.async false
set_option linter.all false
set_option maxRecDepth 100000
set_option maxHeartbeats 4000000
/-! set(xs), xs a tuple of texts. -/
namespace WW
open PySem PySem.Spec PyProof.Rows L2
section
variable {P : Program} {w : World} {κ : Type} [DecidableEq κ] {knd : PySem.KeyKind P w κ} {A : Around} {E : Value → Shared → Prop} {s : Shared}
theorem setw_of_tuple {l : Addr} {items : Array Value} (xs : List κ) {Q : Value → Shared → Prop} (hh : A.handled = none) (hl : s.heap.IsTuple l items) (hn : xs.length = items.size) (hb : items.size + 1 < scanBound)
    (hit : ∀ (i : Nat) v, items[i]? = some v → ∃ x, xs[i]? = some x ∧ knd.is x v = true ∧ v.scannable = true)
    (q : ∀ (h' : Heap) (tk : Nat) ks, SetW knd h' s.heap.objs.size ks → (∀ x, x ∈ ks ↔ x ∈ xs) → (∀ b o, s.heap.get? b = some o → h'.get? b = some o) → Q (.ref s.heap.objs.size) { s with heap := h', toks := tk }) :
    wpAny (model P w) A (call (.type "set") [.ref l]) Q E s := by
  obtain ⟨cc, cr, mro⟩ := F.called_set.mro
  have mde := F.called_set.made; have sbb := F.called_set.sub
  refine wpAny_call (codeAny_of_tree ?_); show wpAny _ _ (callAny (Value.type "set") _) _ _ _
  refine wpAny_pure ⟨Code.quiet_builtin _ (by decide +kernel), codeAny_builtin F.entry_type_call ?_⟩; rw [Around.under_plain (weight_type_call_type "set" [Value.ref l] []) rfl]
  have nty := F.called_set.notType; have ccr := F.called_set.canCreate
  have tcl := F.typeCall_set_1 (Value.ref l)
  repeat (any_goals (first | wp_step | assumption))
  refine codeAny_mono (code_set_led1 (Value.ref l) (E := E) (Q₁ := fun ob s1 => ob = .ref s.heap.objs.size ∧ s1 = { s with heap := s.heap.push (noneIn w) }) ⟨rfl, rfl⟩) fun r s1 hr => ?_
  cases r with
  | error e => exact hr
  | ok fl =>
    cases fl with
    | ret ob =>
      obtain ⟨rfl, rfl⟩ := hr
      have at1 : (s.heap.push (noneIn w)).get? s.heap.objs.size = some (noneIn w) := Heap.get?_push_size _ rfl
      have ty1 : Shared.TypeIs { s with heap := s.heap.push (noneIn w) } (.ref s.heap.objs.size) "set" := ⟨_, at1, rfl⟩
      have ilk := F.called_set.init.lookup; have ibd := F.called_set.init.bind (.ref s.heap.objs.size)
      repeat (any_goals (first | wp_step | assumption))
      refine codeAny_mono (codeAny_call_builtin (R := wants (fun r s2 => r = .none ∧ ∃ h' tk ks, s2 = { s with heap := h', toks := tk } ∧ SetW knd h' s.heap.objs.size ks ∧ (∀ x, x ∈ ks ↔ x ∈ xs) ∧ ∀ b o, s.heap.get? b = some o → h'.get? b = some o) E) F.called_set.init.plain F.entry_set_init (check_set_init_1 ty1 ?_)) fun r2 s2 hr2 => ?_
      · obtain ⟨⟨cl1, dc1, da1, sl1⟩, ho1, hc1, nn1, hd1⟩ := hl
        simp only at hc1 hd1; subst hc1; subst hd1
        have ho2 : (s.heap.push (noneIn w)).get? l = some { cls := .type "tuple", dict := dc1, data := .seq items nn1, slots := sl1 } := Heap.get?_push_of_some _ ho1
        have nls := F.sub_tuple_set; have nlf := F.sub_tuple_frozenset
        have nld : (Value.type "tuple" == Value.type "dict") = false := by decide
        have il1 : (s.heap.push (noneIn w)).IsTuple l items := ⟨_, ho2, rfl, nn1, rfl⟩
        unfold Builtin.«set.__init__» noKeywords Builtin.Frozenset.updateFrom; generalize hgen : pyIter = itf
        wp_walk
        subst hgen
        refine wpAny_pyIter_tuple il1 (wpAny_bind (wpAny_runValue ?_))
        have ls : l < s.heap.objs.size := Heap.lt_size ho1
        have sz1 : (s.heap.push (noneIn w)).objs.size = s.heap.objs.size + 1 := Heap.size_push ..
        have han : A.in1.in1.in1.handled = none := by simp only [hh, Around.in1]
        have ne1 : l ≠ (s.heap.push (noneIn w)).objs.size := by rw [sz1]; exact Nat.ne_of_lt (Nat.lt_succ_of_lt ls)
        have away : s.heap.objs.size ∉ [(s.heap.push (noneIn w)).objs.size, l] := by
          rw [sz1]
          intro z
          rcases List.mem_cons.mp z with z | z
          · exact Nat.ne_of_lt (Nat.lt_succ_self _) z
          · exact Nat.ne_of_gt ls (List.mem_singleton.mp z)
        refine setw_loop (knd := knd) ((Walks.tuple han _ l ne1 items).toS) s.heap.objs.size away xs hn hb hit (items.size - 0) 0 _ [] (by omega) (Nat.zero_le _) ⟨⟨_, Heap.get?_push_size _ rfl, rfl, rfl⟩, (il1.push _)⟩
          (setw_none (Heap.get?_push_of_some _ at1)) (Nat.le_refl 0) (fun x => by simp) fun s3 ks mv S3 m3 => ?_
        obtain ⟨h3, g3, d3, t3, o3⟩ := s3
        obtain rfl : g3 = s.gens := mv.gens
        obtain rfl : d3 = s.drawn := mv.drawn
        obtain rfl : o3 = s.os := mv.os
        show wpAny _ _ _ _ _ _
        refine wpAny_pure ?_; show wpAny _ _ (ret Value.none) _ _ _
        refine wpAny_pure ⟨rfl, h3, t3, ks, rfl, S3, m3, fun b o e => mv.heap b o (fun z => ?_) (Heap.get?_push_of_some _ (Heap.get?_push_of_some _ e))⟩
        have lb := Heap.lt_size e
        rcases List.mem_cons.mp z with z | z
        · exact Nat.ne_of_lt lb z
        · have z2 := List.mem_singleton.mp z
          rw [sz1] at z2
          exact Nat.ne_of_lt (Nat.lt_succ_of_lt lb) z2
      · cases r2 with
        | error e => exact hr2
        | ok fl2 =>
          cases fl2 with
          | ret r =>
            obtain ⟨rfl, h3, t3, ks, rfl, S3, m3, k3⟩ := hr2
            repeat (any_goals (first | wp_step | assumption))
            exact q h3 t3 ks S3 m3 k3
          | _ => exact hr2.elim
    | _ => exact hr.elim
end
section
variable {X : Cx}
/-- set(xs), xs a list of texts -/
def rSetOfT (K : PySem.W.Frag) (P : Program) (w : World) : List V → Hp → VK → Prop := fun vs H Q => ∃ (l : Addr) (zs : List Str), vs = [V.ref l] ∧ SqT K H l (zs.map V.str) ∧ zs.length + 1 < scanBound ∧
  ∀ a ks, H a = none → ks.Nodup → (∀ x, x ∈ ks ↔ x ∈ zs) → Q (.ref a) (upd H a (SSO P w a ks))
theorem cr_setOfT (hc : X.calm = true) : CallR X (.type "set") (rSetOfT X.K X.prog X.w) := by
  intro pins s σ H xs us Q I r h
  obtain ⟨l, zs, rfl, hl, hb, q⟩ := h
  rw [Vals.ref1 r]
  obtain ⟨its, rv, pl, hz⟩ := I.tuple hl
  have free : H s.heap.objs.size = none := I.hok.fresh (Nat.le_refl _)
  have le : zs.length = its.toArray.size := by rw [List.size_toArray, ← rv.length, List.length_map]
  have sa : StrsAre its zs := by
    clear pl hl hz le q hb
    induction zs generalizing its with
    | nil => cases rv; exact .nil
    | cons z zs ih =>
      cases rv with
      | cons r1 r2 =>
        obtain ⟨t, rfl⟩ := r1
        exact .cons z t (ih _ r2)
  refine setw_of_tuple (knd := PySem.strKind X.prog X.w) zs (I.ok.hd hc) pl le (by rw [← le]; exact hb) (fun i v hv => ?_) fun h' tk ks R m k => ?_
  · have hv2 : its[i]? = some v := by simpa using hv
    have li : i < zs.length := by
      have := (List.getElem?_eq_some_iff.mp hv2).1
      rw [le, List.size_toArray]
      exact this
    obtain ⟨t, rfl⟩ := SS.strs_at sa i v hv2
    refine ⟨zs.getD i Str.empty, ?_, strKind_is _ _ _ _, rfl⟩
    rw [List.getD_eq_getElem?_getD, List.getElem?_eq_getElem li]
    rfl
  · have nd : ks.Nodup := by
      obtain ⟨_, _, _, _, _, _, _, nd, _⟩ := R
      exact nd
    exact ⟨.ref s.heap.objs.size, upd H s.heap.objs.size (SSO X.prog X.w s.heap.objs.size ks), I.laid (t' := tk) k (Nat.le_refl _) (sso_new R), rfl, q _ ks free nd m⟩
end
end WW

set_option Elab.async false
set_option linter.all false
set_option maxRecDepth 100000
set_option maxHeartbeats 4000000
namespace WK
open PySem PySem.Spec PyProof.Rows L2 WW Evl
/-- a dict of names -/
structure TabS (kvs : List (Key × V)) : Prop where
  least : 1 ≤ kvs.length
  most : kvs.length ≤ 10
  each : ∀ q ∈ kvs, ∃ x y : Str, q = (.inr x, .str y) ∧ IsNm x ∧ IsNm y
/-- a row of words -/
structure RowW (ws : List Str) : Prop where
  least : 1 ≤ ws.length
  most : ws.length ≤ 10
  nd : ws.Nodup
  each : ∀ x ∈ ws, IsNm x
/-! ### what is in a sensor, in a lock -/
def sf (nm : Str) (po : Int) (d : Addr) (co : Int) : List (Str × V) := putF "_cost" (.int co) (putF "_sights" (.ref d) (putF "_post" (.int po) (putF "_name" (.str nm) [])))
def lf (nm : Str) (po : Int) (d : Addr) (co : Int) : List (Str × V) := putF "_cost" (.int co) (putF "_words" (.ref d) (putF "_post" (.int po) (putF "_name" (.str nm) [])))
theorem i12 : ¬ (("_name" : Str) = "_post") := by decide +kernel
theorem i13 : ¬ (("_name" : Str) = "_sights") := by decide +kernel
theorem i13' : ¬ (("_name" : Str) = "_words") := by decide +kernel
theorem i14 : ¬ (("_name" : Str) = "_cost") := by decide +kernel
theorem i23 : ¬ (("_post" : Str) = "_sights") := by decide +kernel
theorem i23' : ¬ (("_post" : Str) = "_words") := by decide +kernel
theorem i24 : ¬ (("_post" : Str) = "_cost") := by decide +kernel
theorem i34 : ¬ (("_sights" : Str) = "_cost") := by decide +kernel
theorem i34' : ¬ (("_words" : Str) = "_cost") := by decide +kernel
section
variable {nm : Str} {po co : Int} {d : Addr}
theorem sf1 : (sf nm po d co).lookup ("_name" : Str) = some (.str nm) := by unfold sf; rw [lookup_putF, if_neg i14, lookup_putF, if_neg i13, lookup_putF, if_neg i12, lookup_putF, if_pos rfl]
theorem sf2 : (sf nm po d co).lookup ("_post" : Str) = some (.int po) := by unfold sf; rw [lookup_putF, if_neg i24, lookup_putF, if_neg i23, lookup_putF, if_pos rfl]
theorem sf3 : (sf nm po d co).lookup ("_sights" : Str) = some (.ref d) := by unfold sf; rw [lookup_putF, if_neg i34, lookup_putF, if_pos rfl]
theorem lf1 : (lf nm po d co).lookup ("_name" : Str) = some (.str nm) := by unfold lf; rw [lookup_putF, if_neg i14, lookup_putF, if_neg i13', lookup_putF, if_neg i12, lookup_putF, if_pos rfl]
theorem lf2 : (lf nm po d co).lookup ("_post" : Str) = some (.int po) := by unfold lf; rw [lookup_putF, if_neg i24, lookup_putF, if_neg i23', lookup_putF, if_pos rfl]
theorem lf3 : (lf nm po d co).lookup ("_words" : Str) = some (.ref d) := by unfold lf; rw [lookup_putF, if_neg i34', lookup_putF, if_pos rfl]
end
/-- a sensor's words and sights, looked up -/
def Ins.tab (r : Ins) : List (Key × V) := kvsOf r.ws r.sg
def strOf : V → Str | .str x => x | _ => Str.empty
/-- the value at a text -/
def valAt (kvs : List (Key × V)) : V → V | .str x => (valV kvs (.inr x)).getD .non | _ => .non
/-- what a sensor keeps -/
def Ins.tabX (r : Ins) : List (Key × V) := ((sortS r.ws).map V.str).map fun x => ((.inr (strOf x) : Key), valAt r.tab x)
/-- what stands of an instrument -/
def InsAtD (CS CL : Addr) (H : Hp) (v : V) (r : Ins) (d : Addr) : Prop := ∃ a dx, v = .ref a ∧
  ((r.lk = true ∧ H a = some (.ins CL dx (lf r.nm r.po d r.co)) ∧ H d = some (.lst ((sortS r.ws).map V.str))) ∨
   (r.lk = false ∧ H a = some (.ins CS dx (sf r.nm r.po d r.co)) ∧ H d = some (.dK r.tabX)))
def InsAt (CS CL : Addr) (H : Hp) (v : V) (r : Ins) : Prop := ∃ a dx d, v = .ref a ∧
  ((r.lk = true ∧ H a = some (.ins CL dx (lf r.nm r.po d r.co)) ∧ H d = some (.lst ((sortS r.ws).map V.str))) ∨
   (r.lk = false ∧ H a = some (.ins CS dx (sf r.nm r.po d r.co)) ∧ H d = some (.dK r.tabX)))
theorem InsAtD.at {CS CL : Addr} {H : Hp} {v : V} {r : Ins} {d : Addr} (h : InsAtD CS CL H v r d) : InsAt CS CL H v r := let ⟨a, dx, e, z⟩ := h; ⟨a, dx, d, e, z⟩
theorem InsAt.ex {CS CL : Addr} {H H' : Hp} {v : V} {r : Ins} (e : Ex H H') (h : InsAt CS CL H v r) : InsAt CS CL H' v r := by
  obtain ⟨a, dx, d, rfl, ⟨h0, h1, h2⟩ | ⟨h0, h1, h2⟩⟩ := h
  · exact ⟨a, dx, d, rfl, .inl ⟨h0, e _ _ h1, e _ _ h2⟩⟩
  · exact ⟨a, dx, d, rfl, .inr ⟨h0, e _ _ h1, e _ _ h2⟩⟩
/-- the classes of instruments -/
structure ICl (K : PySem.W.Frag) (mg : Str → Option Value) (CS CL : Addr) : Prop where
  clS : Cls K CS
  clL : Cls K CL
  atS : mg "Sensor" = some (.ref CS)
  atL : mg "Lock" = some (.ref CL)
  s1 : NoAttr K CS "_name"
  s2 : NoAttr K CS "_post"
  s3 : NoAttr K CS "_sights"
  s4 : NoAttr K CS "_cost"
  l1 : NoAttr K CL "_name"
  l2 : NoAttr K CL "_post"
  l3 : NoAttr K CL "_words"
  l4 : NoAttr K CL "_cost"
  isaS : ∀ (H : Hp) (a dx : Addr) (fs : List (Str × V)), H a = some (.ins CS dx fs) → TyOf K H (.ref a) (.ref CS)
  isaL : ∀ (H : Hp) (a dx : Addr) (fs : List (Str × V)), H a = some (.ins CL dx fs) → TyOf K H (.ref a) (.ref CL)
  kSS : PySem.W.kitOne K (.ref CS) (.ref CS) = some true
  kSL : PySem.W.kitOne K (.ref CS) (.ref CL) = some false
  kLS : PySem.W.kitOne K (.ref CL) (.ref CS) = some false
  kLL : PySem.W.kitOne K (.ref CL) (.ref CL) = some true
theorem valV_fn (g : Str → V) : ∀ (l : List Str) (x : Str), valV (l.map fun y => ((.inr y : Key), g y)) (.inr x) = if x ∈ l then some (g x) else none
  | [], x => by simp; rfl
  | y :: l, x => by
    rw [List.map_cons]
    by_cases z : y = x
    · rw [valV_pos (by rw [z]), if_pos (by rw [z]; exact List.mem_cons_self), z]
    · rw [valV_neg (by intro q; exact z (Sum.inr.inj q)), valV_fn g l x]
      by_cases m : x ∈ l
      · rw [if_pos m, if_pos (List.mem_cons_of_mem _ m)]
      · rw [if_neg m, if_neg (fun q => (List.mem_cons.mp q).elim (fun q => z q.symm) m)]
theorem kvs_keys : ∀ {ws sg : List Str}, sg.length = ws.length → (kvsOf ws sg).map (·.1) = ws.map Sum.inr
  | [], _, _ => by simp [kvsOf]
  | w :: ws, [], h => by simp at h
  | w :: ws, g :: sg, h => by
    have ih := kvs_keys (ws := ws) (sg := sg) (by simpa using h)
    unfold kvsOf at *
    simp only [List.zip_cons_cons, List.map_cons, ih]
theorem val_some {κ : Type} [DecidableEq κ] {kvs : List (κ × V)} {k : κ} : (∃ v, valV kvs k = some v) ↔ k ∈ kvs.map (·.1) := by
  constructor
  · rintro ⟨v, h⟩
    have ha : (kvs.any fun kv => decide (kv.1 = k)) = true := by rw [valV_any, h]; rfl
    obtain ⟨q, hq, e⟩ := List.any_eq_true.mp ha
    exact of_decide_eq_true e ▸ List.mem_map_of_mem hq
  · intro h
    obtain ⟨q, hq, rfl⟩ := List.mem_map.mp h
    cases e : valV kvs q.1 with
    | some v => exact ⟨v, rfl⟩
    | none =>
      have ha : (kvs.any fun kv => decide (kv.1 = q.1)) = true := List.any_eq_true.mpr ⟨q, hq, by simp⟩
      rw [valV_any, e] at ha
      cases ha
theorem Ins.Ok.row {r : Ins} (h : r.Ok) : RowW r.ws := ⟨by have := h.ne; cases e : r.ws with | nil => exact absurd e this | cons _ _ => simp, h.le, h.nd, h.ws⟩
theorem Ins.Ok.keys {r : Ins} (h : r.Ok) (s : r.lk = false) : r.tab.map (·.1) = r.ws.map Sum.inr := kvs_keys (h.sl s)
theorem Ins.Ok.tabLen {r : Ins} (h : r.Ok) (s : r.lk = false) : r.tab.length = r.ws.length := by
  have := congrArg List.length (h.keys s)
  simpa using this
theorem Ins.Ok.tabS {r : Ins} (h : r.Ok) (s : r.lk = false) : TabS r.tab := by
  refine ⟨by rw [h.tabLen s]; exact h.row.least, by rw [h.tabLen s]; exact h.le, fun q hq => ?_⟩
  unfold Ins.tab kvsOf at hq
  obtain ⟨z, hz, rfl⟩ := List.mem_map.mp hq
  exact ⟨z.1, z.2, rfl, h.ws _ (List.of_mem_zip hz).1, h.sg _ (List.of_mem_zip hz).2⟩
theorem Ins.Ok.isPo {r : Ins} (h : r.Ok) : IsPo r.po := h.po

/-- the first of several questions that is not answered so -/
def Fst : List (Bool × Prop) → Prop → Prop
  | [], g => g
  | (b, x) :: r, g => if b = true then Fst r g else x
theorem Fst.imp4 {b1 b2 b3 b4 : Bool} {x1 x2 x3 x4 g y1 y2 y3 y4 k : Prop} (h : Fst [(b1, x1), (b2, x2), (b3, x3), (b4, x4)] g) (h1 : x1 → y1) (h2 : x2 → y2) (h3 : x3 → y3) (h4 : x4 → y4) (hg : b1 = true → b2 = true → b3 = true → b4 = true → g → k) : Fst [(b1, y1), (b2, y2), (b3, y3), (b4, y4)] k := by
  cases b1 with
  | false => exact h1 h
  | true =>
    cases b2 with
    | false => exact h2 h
    | true =>
      cases b3 with
      | false => exact h3 h
      | true =>
        cases b4 with
        | false => exact h4 h
        | true => exact hg rfl rfl rfl rfl h
/-- what is passed as words -/
def WdIn (H : Hp) (v : V) (b : Bool) : Prop := (Pl H v ∧ rowB H v 1 10 = false ∧ b = false) ∨ ∃ a xs, v = .ref a ∧ SqX H a xs ∧ 1 ≤ xs.length ∧ xs.length ≤ 10 ∧
  ((b = false ∧ (xs.all nmB = false) ∧ ∀ x ∈ xs, Pl H x ∧ Sh x) ∨ ∃ ws : List Str, xs = ws.map V.str ∧ (∀ x ∈ ws, IsNm x) ∧ b = decide ws.Nodup)
theorem rowB_ex {H H' : Hp} {v : V} {l m : Int} (e : Ex H H') (h : Pl H v) : rowB H' v l m = rowB H v l m := by
  have at_ : ∀ {a : Addr} {o : HO}, H a = some o → rlen H' (.ref a) = rlen H (.ref a) := fun {a o} h => (rlen_at (e _ _ h)).trans (rlen_at h).symm
  have go : rlen H' v = rlen H v := by
    cases h with
    | lst h => exact at_ h
    | tup h => exact at_ h
    | dct h => exact at_ h
    | _ => rfl
  unfold rowB
  rw [go]
theorem WdIn.ex {H H' : Hp} {v : V} {b : Bool} (e : Ex H H') (h : WdIn H v b) : WdIn H' v b := by
  rcases h with ⟨p, r, z⟩ | ⟨a, xs, rfl, sq, l, m, h⟩
  · exact .inl ⟨p.ex e, by rw [rowB_ex e p]; exact r, z⟩
  · exact .inr ⟨a, xs, rfl, sq.ex e, l, m, h.imp (fun ⟨z, n, al⟩ => ⟨z, n, fun x hx => ⟨(al x hx).1.ex e, (al x hx).2⟩⟩) id⟩
theorem iseq_goX {K : PySem.W.Frag} {H H2 : Hp} {a : Addr} {xs : List V} {σ : L2.St} {i : Nat} {R : It → Hp → Prop} (h : σ[i]? = some (some (.ref a))) (hx : SqX H a xs) (e : Ex H H2) (k : ∀ J, Steady J H xs → R J H2) : iOr (iList K (tVar i)) (iTup K (tVar i)) σ H2 R := by
  rcases hx with hx | hx
  · exact .inl ⟨_, h, a, rfl, ⟨xs, sq_of (e _ _ hx)⟩, k _ (st_l (sq_of hx))⟩
  · exact .inr ⟨_, h, a, rfl, ⟨xs, st_of (e _ _ hx)⟩, k _ (st_t (st_of hx))⟩
theorem nd_of {α : Type} [DecidableEq α] : ∀ (ws ks : List α), ks.Nodup → (∀ x ∈ ks, x ∈ ws) → ws.length ≤ ks.length → ws.Nodup
  | [], _, _, _, _ => List.nodup_nil
  | a :: ws, ks, nd, sub, le => by
    by_cases h : a ∈ ws
    · have sub' : ∀ x ∈ ks, x ∈ ws := fun x hx => (List.mem_cons.mp (sub x hx)).elim (fun z => z ▸ h) id
      have := pigeon ks ws nd sub'
      rw [List.length_cons] at le
      omega
    · refine List.nodup_cons.mpr ⟨h, nd_of ws (ks.erase a) (nd.sublist List.erase_sublist) (fun x hx => ?_) ?_⟩
      · have hx2 := List.mem_of_mem_erase hx
        rcases List.mem_cons.mp (sub x hx2) with z | z
        · subst z
          exact absurd hx (fun q => by have := (List.Nodup.mem_erase_iff nd).mp q; exact this.1 rfl)
        · exact z
      · rw [List.length_cons] at le
        rw [List.length_erase]
        split <;> omega
theorem len_nodup {ks ws : List Str} (nd : ks.Nodup) (hm : ∀ x, x ∈ ks ↔ x ∈ ws) : decide (V.int ((ks.length : Nat) : Int) = V.int ((ws.length : Nat) : Int)) = decide ws.Nodup := by
  have le : ks.length ≤ ws.length := pigeon ks ws nd fun x hx => (hm x).mp hx
  rw [Bool.eq_iff_iff, decide_eq_true_iff, decide_eq_true_iff]
  constructor
  · intro h
    have e : ks.length = ws.length := by have := V.int.inj h; omega
    exact nd_of ws ks nd (fun x hx => (hm x).mp hx) (by omega)
  · intro h
    have := pigeon ws ks h fun x hx => (hm x).mpr hx
    have e : ks.length = ws.length := by omega
    rw [e]
section
variable {P : Program} {w : World} {K : PySem.W.Frag} {mg : Str → Option Value} {base : Heap} {f : Addr} {fd : FuncData}
abbrev s_is_row_of_words : Stmt := top 24
theorem sc_is_row_of_words : FnScope ["thing", "word"] ["thing"] (defScope s_is_row_of_words) := ⟨rfl, rfl, rfl, by decide +kernel, rfl, by decide +kernel, by decide +kernel⟩
def spIsRowWG : Sp := fun vs H Q _ => ∃ v b, vs = [v] ∧ WdIn H v b ∧ ∀ H', Ex H H' → Q (.bl b) H'
theorem okg_is_rowW (G : Gz mg) (gc : ∃ t, mg "MOST_WORDS_OF_AN_INSTRUMENT" = some (.int 10 t)) (D : Df K mg "is_row_of_words" s_is_row_of_words f fd ["thing"]) (c_is_name : Callee P w K mg base CXn 1 "is_name" 1 spIsNameG) (c_is_row_of : Callee P w K mg base CXn 2 "is_row_of" 3 spIsRowOfG) : Callee P w K mg base CXn 3 "is_row_of_words" 1 spIsRowWG := by
  obtain ⟨tc, g_MOST_WORDS_OF_AN_INSTRUMENT⟩ := gc
  have r_MOST_WORDS_OF_AN_INSTRUMENT : RelV (.int 10) (.int 10 tc) := ⟨_, rfl⟩
  refine D.callee (D.fn.ok sc_is_row_of_words (fun vs H Q E h => ?_) (fun cdv A outer s H vs Q E hr h => ⟨_, PSs.nox (pss_cons (ps_if (PW.pt (pw_or (pt_not (pt_val (pe_cl (E := En) c_is_row_of (hr.mono (by decide)) rfl passN (pa_cons (pv 0) (pa_cons pe_int (pa_cons (pe_glob rfl g_MOST_WORDS_OF_AN_INSTRUMENT r_MOST_WORDS_OF_AN_INSTRUMENT) pa_nil)))))) (pw_or1 (pt_not (pt_val (pe_callB (cr_all rfl) rfl G.g_all (by rfl) (pa_cons (pe_lc (own := [("word", 1)]) rfl sc_is_row_of_words.nd (pi_or (pi_list (pv 0)) (pi_tup (pv 0))) (BlkOk.mk (N := ["thing", "word"]) (sc := defScope s_is_row_of_words) rfl (by decide +kernel) (by decide +kernel) (by decide +kernel) (by decide +kernel)) (fun _ _ _ _ _ => (pg_name (i := 1) sc_is_row_of_words.nd rfl (Or.inl rfl))) (fun _ _ _ _ _ => pts_nil) (fun _ _ _ _ _ => (pe_cl (E := En) c_is_name (hr.mono (by decide)) rfl passN (pa_cons (pv 1) pa_nil)))) pa_nil))))))) (pss_one (ps_ret pe_bl)) pss_nil) (pss_one (ps_ret (pe_cmpR op_eq (pe_callB cr_lenS rfl G.g_len PySem.boot_len (pa_cons (pe_callTy (cr_or (cr_setOfS rfl) (cr_setOfT rfl)) rfl G.g_set (by rfl) (pa_cons (pv 0) pa_nil)) pa_nil)) (pe_callB (lenK (K := K) rfl) rfl G.g_len PySem.boot_len (pa_cons (pv 0) pa_nil)) (nomark _))))), ?_⟩))
  · obtain ⟨_, _, rfl, _⟩ := h
    rfl
  · obtain ⟨v, b, rfl, ⟨pv, hrow, rfl⟩ | ⟨a, xs, rfl, sq, l1, l10, h⟩, k⟩ := h
    · refine ⟨_, rfl, v, 1, 10, rfl, pv, fun H1 e1 => ?_⟩
      rw [hrow]
      exact ⟨false, rfl, iteT (k H1 e1)⟩
    · have hrow : rowB H (.ref a) 1 10 = true := by
        have e : rlen H (.ref a) = some xs.length := sq.elim (fun z => rlen_at z) fun z => rlen_at z
        unfold rowB
        rw [e]
        show (decide ((1 : Int) ≤ (xs.length : Int)) && decide ((xs.length : Int) ≤ 10)) = true
        rw [decide_eq_true (show (1 : Int) ≤ (xs.length : Int) by omega), decide_eq_true (show (xs.length : Int) ≤ (10 : Int) by omega)]
        rfl
      have al : ∀ x ∈ xs, Pl H x ∧ Sh x := by
        rcases h with ⟨_, _, al⟩ | ⟨ws, rfl, nm, _⟩
        · exact al
        · intro x hx
          obtain ⟨z, hz, rfl⟩ := List.mem_map.mp hx
          exact ⟨.str z, nmz (nm z hz)⟩
      refine ⟨_, rfl, .ref a, 1, 10, rfl, sq.elim .lst .tup, fun H1 e1 => ?_⟩
      rw [hrow]
      refine ⟨true, rfl, iteF ?_⟩
      refine iseq_goX rfl (sq.ex e1) (Ex.refl _) fun J S N hN => ?_
      refine lc_ev (f := fun _ => true) (v := fun x => .bl (nmB x)) S (by omega) (fun x => rfl) hN (fun x _ H2 e Q q => q H2 (Ex.refl _)) (fun x hx _ H2 e Q q => ?_) (fun H2 e hd => ?_)
      · obtain ⟨px, sx⟩ := al x hx
        exact ⟨_, rfl, x, rfl, px.ex (e1.trans e), sx, fun H3 e3 => q H3 e3⟩
      · refine ⟨N, xs.map nmB, rfl, sq_of ?_, ?_⟩
        · rw [hd, List.filter_eq_self.mpr (fun _ _ => rfl), List.map_map]
          rfl
        · have e3 : (xs.map nmB).all id = xs.all nmB := by rw [List.all_map]; rfl
          rw [e3]
          have e2 := e1.trans e
          rcases h with ⟨rfl, na, _⟩ | ⟨ws, rfl, nm, rfl⟩
          · rw [na]
            exact ⟨false, rfl, iteT (k _ e2)⟩
          · have ya : (ws.map V.str).all nmB = true := by
              rw [List.all_map, List.all_eq_true]
              exact fun x hx => nmB_of (nm x hx)
            rw [ya]
            refine ⟨true, rfl, iteF ?_⟩
            have sb : ws.length + 1 < scanBound := by
              rw [List.length_map] at l10
              have : (1002 : Nat) ≤ scanBound := by decide
              omega
            have fin : ∀ (S : Addr) (ks : List Str), H2 S = none → ks.Nodup → (∀ x, x ∈ ks ↔ x ∈ ws) → ∀ {R : VK}, (∀ v H', v = .bl (decide ws.Nodup) → Ex H H' → R v H') → R (.bl (decide (V.int ((ks.length : Nat) : Int) = V.int ((ws.length : Nat) : Int)))) (upd H2 S (SSO P w S ks)) := fun S ks hS nd hm R r => r _ _ (by rw [len_nodup nd hm]) (e2.trans (Ex.new hS))
            rcases sq with sq | sq
            · refine ⟨_, rfl, .inl ⟨a, ws, rfl, sq_of (e2 _ _ sq), sb, fun S ks hS nd hm => ⟨S, ks, rfl, upd_same, ?_⟩⟩⟩
              have e4 := e2.trans (Ex.new hS (o := SSO P w S ks))
              refine ⟨_, rfl, .ref a, ws.length, rfl, .inl ⟨_, sq_of (e4 _ _ sq), by rw [List.length_map]⟩, rfl, ?_⟩
              exact fin S ks hS nd hm fun v H' z e => by subst z; exact k H' e
            · refine ⟨_, rfl, .inr ⟨a, ws, rfl, st_of (e2 _ _ sq), sb, fun S ks hS nd hm => ⟨S, ks, rfl, upd_same, ?_⟩⟩⟩
              have e4 := e2.trans (Ex.new hS (o := SSO P w S ks))
              refine ⟨_, rfl, .ref a, ws.length, rfl, .inr ⟨_, st_of (e4 _ _ sq), by rw [List.length_map]⟩, rfl, ?_⟩
              exact fin S ks hS nd hm fun v H' z e => by subst z; exact k H' e
end
end WK

set_option Elab.async false
set_option linter.all false
set_option maxRecDepth 100000
set_option maxHeartbeats 4000000
/-! sorted of a list or a tuple of texts. -/
namespace WW
open PySem PySem.Spec PyProof.Rows L2 Evl
theorem prd_str {K : PySem.W.Frag} {H : Hp} : ∀ zs : List Str, Paired (fun v b => (fun (v : V) (b : Str) => v = .str b) v b ∧ DpE K H PyData.str v b) (zs.map V.str) zs
  | [] => .nil
  | z :: zs => .cons ⟨rfl, .str z⟩ (prd_str zs)
theorem of_prd_str : ∀ {ys : List V} {zs : List Str}, Paired (fun (v : V) (b : Str) => v = .str b) ys zs → ys = zs.map V.str
  | _, _, .nil => rfl
  | _, _, .cons g r => by rw [g, of_prd_str r]; rfl
/-- sorted(a row of texts) -/
theorem sortX_go {K : PySem.W.Frag} {H : Hp} {a : Addr} {zs : List Str} {Q : VK} (hx : SqX H a (zs.map V.str)) (k : ∀ p, H p = none → Q (.ref p) (upd H p (.lst ((sortS zs).map V.str)))) : rOr3 (rSortD K PyData.str) (rSortDT K PyData.str) [.ref a] H Q := by
  have fin : ∀ (ys : List V) (p : Addr), Paired (fun (v : V) (b : Str) => v = .str b) ys (zs.mergeSort (PySem.W.dataLe false PyData.str)) → H p = none → Q (.ref p) (upd H p (.lst ys)) := fun ys p hy hn => by
    rw [le_str_eq] at hy
    rw [of_prd_str hy]
    exact k p hn
  have al : ∀ b b' : Str, PySem.W.alike (PyData.str b) (PyData.str b') = true := fun b b' => by simp [PySem.W.alike]
  have so : PySem.W.Sortable (zs.map PyData.str) := PySem.W.Sortable.others fun b => ⟨by simp, by simp⟩
  rcases hx with hx | hx
  · exact .inl ⟨a, _, zs, fun (v : V) (b : Str) => v = .str b, rfl, sq_of hx, prd_str zs, al, so, fun b => by show 0 ≤ 32; omega, fin⟩
  · exact .inr ⟨a, _, zs, fun (v : V) (b : Str) => v = .str b, rfl, st_of hx, prd_str zs, al, so, fun b => by show 0 ≤ 32; omega, fin⟩
end WW

set_option Elab.async false
set_option linter.all false
set_option maxRecDepth 100000
set_option maxHeartbeats 4000000
namespace WK
open PySem PySem.Spec PyProof.Rows L2 WW Evl
theorem nmB_str_of {v : V} (h : nmB v = true) : ∃ z, v = .str z := by
  cases v <;> first | exact ⟨_, rfl⟩ | exact nomatch (show false = true from h)
section
variable {P : Program} {w : World} {K : PySem.W.Frag} {mg : Str → Option Value} {base : Heap} {f : Addr} {fd : FuncData}
abbrev s_Sensor___init__ : Stmt := inClass (top 18) 0
theorem sc_Sensor___init__ : FnScope ["self", "name", "post", "sights", "cost", "word"] ["self", "name", "post", "sights", "cost"] (defScope s_Sensor___init__) := ⟨rfl, rfl, rfl, by decide +kernel, rfl, by decide +kernel, by decide +kernel⟩
def spInitSG (CS CL CN CP CG CC : Addr) : Sp := fun vs H Q E => ∃ (H0 : Hp) (p dx : Addr) (nm po sh co : V) (b : Bool), vs = [.ref p, nm, po, sh, co] ∧ Ex H0 H ∧ H0 p = none ∧ H p = some (.ins CS dx []) ∧ Pl H0 nm ∧ Sh nm ∧ Pl H0 po ∧ Pl H0 co ∧ SgIn H0 sh b ∧
  Fst [(nmB nm, RaiseV E CN H0 nm), (inB 2 po, RaiseV E CP H0 po), (b, RaiseV E CG H0 sh), (coB co, RaiseV E CC H0 co)] (∃ (d : Addr) (r : Ins), sh = .ref d ∧ r.lk = false ∧ r.Ok ∧ nm = .str r.nm ∧ po = .int r.po ∧ co = .int r.co ∧ H0 d = some (.dK r.tab) ∧ ∀ H' d', Ex H0 H' → InsAtD CS CL H' (.ref p) r d' → H0 d' = none → Q .non H')
theorem okg_initS {CS CL C_BadName C_BadPost C_BadSights C_BadCost : Addr} (G : Gz mg) (T : ICl K mg CS CL) (D : FunD K "__init__" "Sensor.__init__" (defArgs s_Sensor___init__) (defBody s_Sensor___init__) (defScope s_Sensor___init__) [] [] f fd)
    (X_BadSights : ExR P w K mg base 1 "BadSights" C_BadSights "value") (c_check_name : Callee P w K mg base (L2.CX P w) 3 "check_name" 1 (spCkNameG C_BadName)) (c_check_post : Callee P w K mg base (L2.CX P w) 4 "check_post" 1 (spCkPostG C_BadPost)) (c_is_table_of_sights : Callee P w K mg base CXn 2 "is_table_of_sights" 1 spIsTableG) (c_check_cost : Callee P w K mg base (L2.CX P w) 3 "check_cost" 1 (spCkCostG C_BadCost)) :
    FnOk P w K mg base (L2.CX P w) 5 f fd ["self", "name", "post", "sights", "cost"] (spInitSG CS CL C_BadName C_BadPost C_BadSights C_BadCost) := by
  refine D.ok sc_Sensor___init__ (fun vs H Q E h => ?_) (fun cdv A outer s H vs Q E hr h => ⟨_, (pss_cons (ps_expr (pe_clS c_check_name (hr.mono (by decide)) rfl (fun σ => passAt (takes_of rfl rfl rfl rfl) σ) (pa_cons (pv 1) pa_nil))) (pss_cons (ps_expr (pe_clS c_check_post (hr.mono (by decide)) rfl (fun σ => passAt (takes_of rfl rfl rfl rfl) σ) (pa_cons (pv 2) pa_nil))) (pss_cons (ps_if (pt_not (pt_val (pe_cl (E := En) c_is_table_of_sights (hr.mono (by decide)) rfl passN (pa_cons (pv 3) pa_nil)))) (pss_one (ps_raiseE X_BadSights rfl (hr.mono (by decide)) (takes_of rfl rfl rfl rfl) rfl (pv 3))) pss_nil) (pss_cons (ps_expr (pe_clS c_check_cost (hr.mono (by decide)) rfl (fun σ => passAt (takes_of rfl rfl rfl rfl) σ) (pa_cons (pv 4) pa_nil))) (pss_cons (ps_fld (pv 0) (pv 1) rfl) (pss_cons (ps_fld (pv 0) (pv 2) rfl) (pss_cons (ps_fld (pv 0) (pe_dc (own := [("word", 5)]) rfl sc_Sensor___init__.nd (pi_list (pe_callB (cr_sortK rfl) rfl G.g_sorted (by rfl) (pa_cons (pv 3) pa_nil))) (BlkOk.mk (N := ["self", "name", "post", "sights", "cost", "word"]) (sc := defScope s_Sensor___init__) rfl (by decide +kernel) (by decide +kernel) (by decide +kernel) (by decide +kernel)) (fun _ _ _ _ _ => (pg_name (i := 5) sc_Sensor___init__.nd rfl (Or.inl rfl))) (fun _ _ _ _ _ => pts_nil) (fun _ _ _ _ _ => (pv 5)) (fun _ _ _ _ _ => (pe_dget (room1 hr) (pv 3) (pv 5) (fun _ _ => rfl)))) rfl) (pss_one (ps_fld (pv 0) (pv 4) rfl))))))))), ?_⟩)
  · obtain ⟨_, _, _, _, _, _, _, _, rfl, _⟩ := h
    rfl
  · obtain ⟨H0, p, dx, nm, po, sh, co, b, rfl, e0, p0, hp, pn, sn, pp, pc, si, out⟩ := h
    refine ⟨_, rfl, nm, rfl, pn.ex e0, sn, fun hb => ?_, fun hb H1 e1 => ?_⟩
    · rw [hb] at out
      exact RaiseV.ex e0 out
    rw [hb] at out
    refine ⟨_, rfl, po, rfl, pp.ex (e0.trans e1), fun hb2 => ?_, fun hb2 H2 e2 => ?_⟩
    · rw [hb2] at out
      exact RaiseV.ex (e0.trans e1) out
    rw [hb2] at out
    refine ⟨_, rfl, sh, b, rfl, si.ex (e0.trans (e1.trans e2)), fun H3 e3 => ?_⟩
    cases b with
    | false => exact ⟨false, rfl, iteT ⟨_, rfl, raise_go fun d hd => (RaiseV.ex (e0.trans (e1.trans (e2.trans e3))) out) H3 d (Ex.refl _) hd⟩⟩
    | true =>
    refine ⟨true, rfl, iteF ?_⟩
    refine ⟨_, rfl, co, rfl, pc.ex (e0.trans (e1.trans (e2.trans e3))), fun hb4 => ?_, fun hb4 H4 e4 => ?_⟩
    · rw [hb4] at out
      exact RaiseV.ex (e0.trans (e1.trans (e2.trans e3))) out
    rw [hb4] at out
    obtain ⟨d, r, rfl, lk, ok, rfl, rfl, rfl, hd, k⟩ := out
    have E4 : Ex H0 H4 := e0.trans (e1.trans (e2.trans (e3.trans e4)))
    have P4 := (e1.trans (e2.trans (e3.trans e4))) _ _ hp
    clear e1 e2 e3 e4 hp e0
    refine ⟨_, rfl, _, rfl, p, CS, dx, [], rfl, P4, T.clS, T.s1, (by decide), ?_⟩
    have E5 := E4.mut (o := .ins CS dx (putF "_name" (.str r.nm) [])) p0
    refine ⟨_, rfl, _, rfl, p, CS, dx, _, rfl, upd_same, T.clS, T.s2, (Nat.lt_of_le_of_lt (putF_le _) (by show 1 < 1000; decide)), ?_⟩
    generalize hf2e : putF "_post" (.int r.po) (putF "_name" (.str r.nm) []) = f2
    have l2 : f2.length ≤ 2 := by
      rw [← hf2e]
      have h1 := putF_le (f := "_post") (y := .int r.po) (putF "_name" (.str r.nm) [])
      have h2 := putF_le (f := "_name") (y := .str r.nm) []
      simp at h2
      omega
    have E6 := E5.mut (o := .ins CS dx f2) p0
    have P6 : upd (upd H4 p (.ins CS dx (putF "_name" (.str r.nm) []))) p (.ins CS dx f2) p = some (.ins CS dx f2) := upd_same
    generalize upd (upd H4 p (.ins CS dx (putF "_name" (.str r.nm) []))) p (.ins CS dx f2) = H6 at E6 P6
    clear E4 E5 P4
    have h64 : r.ws.length < 64 := by have := ok.le; omega
    refine ⟨_, rfl, d, r.tab, r.ws, rfl, .inl (E6 _ _ hd), ok.keys lk, h64, fun L hL => ?_⟩
    have e7 : Ex H6 (upd H6 L (.lst ((sortS r.ws).map V.str))) := Ex.new hL
    have hL7 : upd H6 L (.lst ((sortS r.ws).map V.str)) L = some (.lst ((sortS r.ws).map V.str)) := upd_same
    generalize upd H6 L (.lst ((sortS r.ws).map V.str)) = H7 at e7 hL7
    have E7 := E6.trans e7
    have P7 := e7 _ _ P6
    refine ⟨L, rfl, ⟨_, sq_of hL7⟩, fun N hN => ?_⟩
    refine dc_ev (u := strOf) (v := valAt r.tab) (st_l (K := K) (sq_of hL7)) (by rw [List.length_map, sortS_len]; omega) ?_ (fun x => rfl) hN (fun x hx H8 e8 Q q => ?_) (fun x hx H8 e8 Q q => ?_) (fun H8 e8 hN8 => ?_)
    · rw [List.map_map, show (strOf ∘ V.str) = (fun x : Str => x) from rfl, List.map_id']
      exact (sortS_perm _).nodup_iff.mpr ok.nd
    · obtain ⟨z, _, rfl⟩ := List.mem_map.mp hx
      exact ⟨_, rfl, q H8 (Ex.refl _)⟩
    · obtain ⟨z, hz, rfl⟩ := List.mem_map.mp hx
      obtain ⟨vz, hvz⟩ := val_some.mpr (show (Sum.inr z : Key) ∈ r.tab.map (·.1) by rw [ok.keys lk]; exact List.mem_map_of_mem (sortS_mem.mp hz))
      have q1 := q H8 (Ex.refl _)
      rw [show valAt r.tab (.str z) = vz by show (valV r.tab (.inr z)).getD .non = vz; rw [hvz]; rfl] at q1
      exact ⟨_, rfl, _, rfl, d, vz, rfl, .inl ⟨r.tab, .inr z, .inl ((E7.trans e8) _ _ hd), rfl, hvz.symm⟩, q1⟩
    have P8 := e8 _ _ P7
    have E8 := E7.trans e8
    have nNp : N ≠ p := fun z => by rw [z, P7] at hN; cases hN
    refine ⟨_, rfl, p, CS, dx, _, rfl, P8, T.clS, T.s3, (by omega), ?_⟩
    have E9 := E8.mut (o := .ins CS dx (putF "_sights" (.ref N) f2)) p0
    refine ⟨_, rfl, _, rfl, p, CS, dx, _, rfl, upd_same, T.clS, T.s4, (by have := putF_le (f := "_sights") (y := .ref N) f2; omega), ?_⟩
    refine k _ N (E9.mut p0) ⟨p, dx, rfl, .inr ⟨lk, by rw [upd_same, ← hf2e]; rfl, by rw [upd_ne nNp, upd_ne nNp]; exact hN8⟩⟩ (fresh_back E7 hN)
abbrev s_Lock___init__ : Stmt := inClass (top 19) 0
theorem sc_Lock___init__ : FnScope ["self", "name", "post", "words", "cost"] ["self", "name", "post", "words", "cost"] (defScope s_Lock___init__) := ⟨rfl, rfl, rfl, by decide +kernel, rfl, by decide +kernel, by decide +kernel⟩
def spInitLG (CS CL CN CP CG CC : Addr) : Sp := fun vs H Q E => ∃ (H0 : Hp) (p dx : Addr) (nm po sh co : V) (b : Bool), vs = [.ref p, nm, po, sh, co] ∧ Ex H0 H ∧ H0 p = none ∧ H p = some (.ins CL dx []) ∧ Pl H0 nm ∧ Sh nm ∧ Pl H0 po ∧ Pl H0 co ∧ WdIn H0 sh b ∧
  Fst [(nmB nm, RaiseV E CN H0 nm), (inB 2 po, RaiseV E CP H0 po), (b, RaiseV E CG H0 sh), (coB co, RaiseV E CC H0 co)] (∃ (d : Addr) (r : Ins), sh = .ref d ∧ r.lk = true ∧ r.Ok ∧ nm = .str r.nm ∧ po = .int r.po ∧ co = .int r.co ∧ SqX H0 d (r.ws.map V.str) ∧ ∀ H' d', Ex H0 H' → InsAtD CS CL H' (.ref p) r d' → H0 d' = none → Q .non H')
theorem okg_initL {CS CL C_BadName C_BadPost C_BadWords C_BadCost : Addr} (G : Gz mg) (T : ICl K mg CS CL) (D : FunD K "__init__" "Lock.__init__" (defArgs s_Lock___init__) (defBody s_Lock___init__) (defScope s_Lock___init__) [] [] f fd)
    (X_BadWords : ExR P w K mg base 1 "BadWords" C_BadWords "value") (c_check_name : Callee P w K mg base (L2.CX P w) 3 "check_name" 1 (spCkNameG C_BadName)) (c_check_post : Callee P w K mg base (L2.CX P w) 4 "check_post" 1 (spCkPostG C_BadPost)) (c_is_row_of_words : Callee P w K mg base CXn 3 "is_row_of_words" 1 spIsRowWG) (c_check_cost : Callee P w K mg base (L2.CX P w) 3 "check_cost" 1 (spCkCostG C_BadCost)) :
    FnOk P w K mg base (L2.CX P w) 5 f fd ["self", "name", "post", "words", "cost"] (spInitLG CS CL C_BadName C_BadPost C_BadWords C_BadCost) := by
  refine D.ok sc_Lock___init__ (fun vs H Q E h => ?_) (fun cdv A outer s H vs Q E hr h => ⟨_, (pss_cons (ps_expr (pe_clS c_check_name (hr.mono (by decide)) rfl (fun σ => passAt (takes_of rfl rfl rfl rfl) σ) (pa_cons (pv 1) pa_nil))) (pss_cons (ps_expr (pe_clS c_check_post (hr.mono (by decide)) rfl (fun σ => passAt (takes_of rfl rfl rfl rfl) σ) (pa_cons (pv 2) pa_nil))) (pss_cons (ps_if (pt_not (pt_val (pe_cl (E := En) c_is_row_of_words (hr.mono (by decide)) rfl passN (pa_cons (pv 3) pa_nil)))) (pss_one (ps_raiseE X_BadWords rfl (hr.mono (by decide)) (takes_of rfl rfl rfl rfl) rfl (pv 3))) pss_nil) (pss_cons (ps_expr (pe_clS c_check_cost (hr.mono (by decide)) rfl (fun σ => passAt (takes_of rfl rfl rfl rfl) σ) (pa_cons (pv 4) pa_nil))) (pss_cons (ps_fld (pv 0) (pv 1) rfl) (pss_cons (ps_fld (pv 0) (pv 2) rfl) (pss_cons (ps_fld (pv 0) (pe_callB (cr_or (cr_sortD PyData.str hr.units) (cr_sortDT PyData.str rfl hr.units)) rfl G.g_sorted (by rfl) (pa_cons (pv 3) pa_nil)) rfl) (pss_one (ps_fld (pv 0) (pv 4) rfl))))))))), ?_⟩)
  · obtain ⟨_, _, _, _, _, _, _, _, rfl, _⟩ := h
    rfl
  · obtain ⟨H0, p, dx, nm, po, sh, co, b, rfl, e0, p0, hp, pn, sn, pp, pc, si, out⟩ := h
    refine ⟨_, rfl, nm, rfl, pn.ex e0, sn, fun hb => ?_, fun hb H1 e1 => ?_⟩
    · rw [hb] at out
      exact RaiseV.ex e0 out
    rw [hb] at out
    refine ⟨_, rfl, po, rfl, pp.ex (e0.trans e1), fun hb2 => ?_, fun hb2 H2 e2 => ?_⟩
    · rw [hb2] at out
      exact RaiseV.ex (e0.trans e1) out
    rw [hb2] at out
    refine ⟨_, rfl, sh, b, rfl, si.ex (e0.trans (e1.trans e2)), fun H3 e3 => ?_⟩
    cases b with
    | false => exact ⟨false, rfl, iteT ⟨_, rfl, raise_go fun d hd => (RaiseV.ex (e0.trans (e1.trans (e2.trans e3))) out) H3 d (Ex.refl _) hd⟩⟩
    | true =>
    refine ⟨true, rfl, iteF ?_⟩
    refine ⟨_, rfl, co, rfl, pc.ex (e0.trans (e1.trans (e2.trans e3))), fun hb4 => ?_, fun hb4 H4 e4 => ?_⟩
    · rw [hb4] at out
      exact RaiseV.ex (e0.trans (e1.trans (e2.trans e3))) out
    rw [hb4] at out
    obtain ⟨d, r, rfl, lk, ok, rfl, rfl, rfl, hd, k⟩ := out
    have E4 : Ex H0 H4 := e0.trans (e1.trans (e2.trans (e3.trans e4)))
    have P4 := (e1.trans (e2.trans (e3.trans e4))) _ _ hp
    clear e1 e2 e3 e4 hp e0
    refine ⟨_, rfl, _, rfl, p, CL, dx, [], rfl, P4, T.clL, T.l1, (by decide), ?_⟩
    have E5 := E4.mut (o := .ins CL dx (putF "_name" (.str r.nm) [])) p0
    refine ⟨_, rfl, _, rfl, p, CL, dx, _, rfl, upd_same, T.clL, T.l2, (Nat.lt_of_le_of_lt (putF_le _) (by show 1 < 1000; decide)), ?_⟩
    generalize hf2e : putF "_post" (.int r.po) (putF "_name" (.str r.nm) []) = f2
    have l2 : f2.length ≤ 2 := by
      rw [← hf2e]
      have h1 := putF_le (f := "_post") (y := .int r.po) (putF "_name" (.str r.nm) [])
      have h2 := putF_le (f := "_name") (y := .str r.nm) []
      simp at h2
      omega
    have E6 := E5.mut (o := .ins CL dx f2) p0
    have P6 : upd (upd H4 p (.ins CL dx (putF "_name" (.str r.nm) []))) p (.ins CL dx f2) p = some (.ins CL dx f2) := upd_same
    generalize upd (upd H4 p (.ins CL dx (putF "_name" (.str r.nm) []))) p (.ins CL dx f2) = H6 at E6 P6
    clear E4 E5 P4
    have h64 : r.ws.length < 64 := by have := ok.le; omega
    refine ⟨_, rfl, sortX_go (K := K) (hd.ex E6) fun L hL => ?_⟩
    have e7 : Ex H6 (upd H6 L (.lst ((sortS r.ws).map V.str))) := Ex.new hL
    have hL7 : upd H6 L (.lst ((sortS r.ws).map V.str)) L = some (.lst ((sortS r.ws).map V.str)) := upd_same
    have nLp : L ≠ p := fun z => by rw [z, P6] at hL; cases hL
    generalize upd H6 L (.lst ((sortS r.ws).map V.str)) = H7 at e7 hL7
    have E7 := E6.trans e7
    have P7 := e7 _ _ P6
    refine ⟨_, rfl, p, CL, dx, _, rfl, P7, T.clL, T.l3, (by omega), ?_⟩
    have E9 := E7.mut (o := .ins CL dx (putF "_words" (.ref L) f2)) p0
    refine ⟨_, rfl, _, rfl, p, CL, dx, _, rfl, upd_same, T.clL, T.l4, (by have := putF_le (f := "_words") (y := .ref L) f2; omega), ?_⟩
    exact k _ L (E9.mut p0) ⟨p, dx, rfl, .inl ⟨lk, by rw [upd_same, ← hf2e]; rfl, by rw [upd_ne nLp, upd_ne nLp]; exact hL7⟩⟩ (fresh_back E6 hL)
end
end WK

set_option Elab.async false
set_option linter.all false
set_option maxRecDepth 100000
set_option maxHeartbeats 4000000
/-! ==, !=, in of data whose texts may hold any signs. -/
namespace WW
open PySem PySem.Spec PyProof.Rows L2
/-- no dict within, not too deep -/
def okP (d : PyData) : Bool := d.plain && decide (d.depth ≤ 60)
section
variable {X : Cx}
def rEqP (K : PySem.W.Frag) : R2 := fun x y H Q => ∃ d e, Dp K H x d ∧ Dp K H y e ∧ okP d = true ∧ okP e = true ∧ Q (.bl (PyData.eqv d e)) H
def rNeP (K : PySem.W.Frag) : R2 := fun x y H Q => ∃ d e, Dp K H x d ∧ Dp K H y e ∧ okP d = true ∧ okP e = true ∧ Q (.bl (!PyData.eqv d e)) H
def rInP (K : PySem.W.Frag) : R2 := fun x y H Q => ∃ d ds, Dp K H x d ∧ Dp K H y (.list ds) ∧ okP d = true ∧ okP (.list ds) = true ∧ Q (.bl (ds.any fun z => PyData.eqv z d)) H
theorem okP_p {d : PyData} (h : okP d = true) : d.plain = true ∧ d.depth ≤ 60 := by
  unfold okP at h
  rw [Bool.and_eq_true, decide_eq_true_eq] at h
  exact h
theorem op_eqP (hu : X.A.units + 64 < cLine) : OpR X (compareOp .Eq) (rEqP X.K) := by
  intro pins s σ H x y v u Q I rx ry h
  obtain ⟨d, e, hd, he, sd, se, q⟩ := h
  obtain ⟨as, r1⟩ := Dp.reads I d x v hd rx
  obtain ⟨bs, r2⟩ := Dp.reads I e y u he ry
  have h1 := (okP_p sd).2
  have h2 : min d.depth e.depth ≤ d.depth := Nat.min_le_left _ _
  exact SeqAt.eq_plain r1 r2 (okP_p sd).1 (okP_p se).1 (by omega) ⟨.bl _, H, I, rfl, q⟩
theorem op_neP (hu : X.A.units + 64 < cLine) : OpR X (compareOp .NotEq) (rNeP X.K) := by
  intro pins s σ H x y v u Q I rx ry h
  obtain ⟨d, e, hd, he, sd, se, q⟩ := h
  obtain ⟨as, r1⟩ := Dp.reads I d x v hd rx
  obtain ⟨bs, r2⟩ := Dp.reads I e y u he ry
  have h1 := (okP_p sd).2
  have h2 : min d.depth e.depth ≤ d.depth := Nat.min_le_left _ _
  exact SeqAt.ne_plain r1 r2 (okP_p sd).1 (okP_p se).1 (by omega) ⟨.bl _, H, I, rfl, q⟩
theorem op_inP (hu : X.A.units + 64 < cLine) : OpR X (compareOp .In) (rInP X.K) := by
  intro pins s σ H x y v u Q I rx ry h
  obtain ⟨d, ds, hd, he, sd, se, q⟩ := h
  obtain ⟨as, r1⟩ := Dp.reads I d x v hd rx
  obtain ⟨bs, r2⟩ := Dp.reads I (.list ds) y u he ry
  have h1 := (okP_p sd).2
  have h2 : min (PyData.depthAll ds) d.depth ≤ d.depth := Nat.min_le_right _ _
  exact SeqAt.in_list_data r2 r1 (okP_p se).1 (okP_p sd).1 (by omega) ⟨.bl _, H, I, rfl, q⟩
end
end WW

set_option Elab.async false
set_option linter.all false
set_option maxRecDepth 100000
set_option maxHeartbeats 4000000
/-! == of two dicts whose values are compared by a class's own __eq__ (which only makes things), whatever it answers. -/
namespace WW
open PySem PySem.Spec PyProof.Rows L2
section
variable {prog : Program} {w : World} {κ : Type} [DecidableEq κ] {knd : KeyKind prog w κ} {A : Around} {E : Value → Shared → Prop} {s : Shared}
/-- entry by entry, while both dicts stay just what they are and J holds on -/
theorem dict_pairsJ {nm : String} {a b : Addr} {ka kb : List (κ × Value)} {oa ob : Obj} {es es' : Array DictEntry} {ep ep' : Nat} {ok : Nat → Bool} {Q : Bool → Shared → Prop} (J : Shared → Prop)
    (na : (a == sysModules) = false) (nb : (b == sysModules) = false) (ia : ∀ t, J t → t.heap.get? a = some oa) (ib : ∀ t, J t → t.heap.get? b = some ob)
    (ea : oa.data = .dict es ep) (eb : ob.data = .dict es' ep') (hka : KeysOf knd es) (hkb : KeysOf knd es') (pa : Pairs knd es.toList ka) (pb : Pairs knd es'.toList kb) (same : ka.length = kb.length)
    (turn : ∀ i k v, ka[i]? = some (k, v) → ∃ y, valueAt kb k = some y ∧ ∀ t, J t → wpAny (model prog w) A (eqBool v y) (fun r t' => r = ok i ∧ J t') E t)
    (start : J s) (fin : ∀ t, J t → Q ((List.range ka.length).all ok) t) : wpAny (model prog w) A (Builtin.Dict.samePairs nm a b) Q E s := by
  have la : ka.length = es.size := by rw [← pa.length]; exact Array.length_toList
  have lb : kb.length = es'.size := by rw [← pb.length]; exact Array.length_toList
  have sz : es.size = es'.size := by rw [← la, ← lb]; exact same
  have look : ∀ k, findBy knd.is es' k = valueAt kb k := fun k => by
    rw [← pb.find k]
    clear lb pb hkb eb sz
    obtain ⟨l⟩ := es'
    simp [findBy]
  have stop : ∀ i, i < ka.length → ok i = false → (List.range ka.length).all ok = false := fun i hi h => by
    rw [List.all_eq_false]
    exact ⟨i, List.mem_range.mpr hi, by rw [h]; decide⟩
  unfold Builtin.Dict.samePairs Builtin.Dict.showsAll
  rw [if_neg (show ¬ (a == sysModules) = true by rw [na]; exact Bool.false_ne_true), if_neg (show ¬ (b == sysModules) = true by rw [nb]; exact Bool.false_ne_true)]
  refine wpAny_bind (wpAny_pure (wpAny_bind (wpAny_pure ?_)))
  refine wpAny_bind (wpAny_dictEntries (ia s start) ea ?_)
  dsimp only
  refine wpAny_bind (wpAny_dictEntries (ib s start) eb ?_)
  rw [if_neg (by rw [sz]; simp)]
  refine wpAny_bind (wpAny_dictEpoch (ia s start) ea ?_)
  refine wpAny_bind ?_
  rw [Std.Legacy.Range.forIn_eq_forIn_range']
  simp only [Std.Legacy.Range.size, Nat.sub_zero, Nat.add_sub_cancel, Nat.div_one]
  refine wpAny_forIn_list _ (fun rest q t => J t ∧ q = (none, ()) ∧ ∃ i, rest = List.range' i (es.size - i) ∧ i ≤ es.size ∧ ∀ j, j < i → ok j = true) _ ?_ ?_ _ _ ⟨start, rfl, 0, by simp, Nat.zero_le _, fun j h => absurd h (Nat.not_lt_zero j)⟩
  · rintro x rest q t ⟨hJ, rfl, i, hr, hi, before⟩
    have hlt : i < es.size := by
      rcases Nat.lt_or_ge i es.size with h | h
      · exact h
      · rw [Nat.sub_eq_zero_of_le h] at hr; simp at hr
    obtain ⟨rfl, hrest⟩ : x = i ∧ rest = List.range' (i + 1) (es.size - (i + 1)) := by
      have e : es.size - i = (es.size - (i + 1)) + 1 := by omega
      rw [e, List.range'_succ] at hr
      injection hr with h1 h2
      exact ⟨h1, h2⟩
    refine wpAny_bind (wpAny_dictEntries (ia t hJ) ea ?_)
    rw [Array.getElem?_eq_getElem hlt]
    have hlt' : x < ka.length := by rw [la]; exact hlt
    obtain ⟨k, v, hkv⟩ : ∃ k v, ka[x]? = some (k, v) := ⟨_, _, List.getElem?_eq_getElem hlt'⟩
    obtain ⟨hkey, hval⟩ := pa.get? (i := x) (e := es[x]) (k := k) (v := v) (by rw [Array.getElem?_toList]; exact Array.getElem?_eq_getElem hlt) hkv
    obtain ⟨k', hk', hh⟩ := hka es[x] (Array.getElem_mem hlt)
    have ekk : k' = k := knd.inj _ _ _ hk' hkey
    rw [ekk] at hh
    obtain ⟨y, hy, step⟩ := turn x k v hkv
    show wpAny _ _ (holding [es[x].key, es[x].val] _ >>= _) _ _ _
    rw [hh]
    refine wpAny_bind (wpAny_holding (wpAny_bind (wpAny_dictFind_of hkey (ib t hJ) eb hkb ?_)))
    cases hj : es'.findIdx? fun e => knd.is k e.key with
    | none =>
      have hn : valueAt kb k = none := by rw [← look k, findBy_of_findIdx?, hj]
      rw [hn] at hy
      exact nomatch hy
    | some j =>
      obtain ⟨hjlt, _, _⟩ := Array.findIdx?_eq_some_iff_getElem.mp hj
      have hv' : valueAt kb k = some es'[j].val := by
        rw [← look k, findBy_of_findIdx?, hj]
        simp [Array.getElem?_eq_getElem hjlt]
      refine wpAny_bind (wpAny_dictEntries (ib t hJ) eb ?_)
      rw [Array.getElem?_eq_getElem hjlt]
      have ey : es'[j].val = y := Option.some.inj (hv'.symm.trans hy)
      have st := step t hJ
      rw [← ey, ← hval] at st
      refine wpAny_holding (wpAny_mono st (fun r t' hr' => ?_) fun _ _ z => z)
      obtain ⟨rfl, hJ'⟩ := hr'
      cases hok : ok x with
      | false =>
        have q := fin t' hJ'
        rw [stop x hlt' hok] at q
        show wpAny _ _ (if (!false) = true then _ else _) _ _ _
        rw [if_pos (by decide)]
        exact wpAny_pure (wpAny_pure q)
      | true =>
        show wpAny _ _ (if (!true) = true then _ else _) _ _ _
        rw [if_neg (by decide)]
        refine wpAny_bind (wpAny_dictEpoch (ia t' hJ') ea ?_)
        rw [if_neg (by simp)]
        refine wpAny_pure ⟨hJ', rfl, x + 1, hrest, hlt, fun j h => ?_⟩
        rcases Nat.lt_succ_iff_lt_or_eq.mp h with h | rfl
        · exact before j h
        · exact hok
  · rintro q t ⟨hJ, rfl, i, hr, hi, before⟩
    have hin : i = es.size := by
      rcases Nat.lt_or_ge i es.size with h | h
      · have e : es.size - i = (es.size - (i + 1)) + 1 := by omega
        rw [e, List.range'_succ] at hr; exact nomatch hr
      · exact Nat.le_antisymm hi h
    have q := fin t hJ
    rw [List.all_eq_true.mpr (fun j h => before j (by rw [hin, ← la]; exact List.mem_range.mp h))] at q
    exact wpAny_pure q
/-- the same as == -/
theorem dict_eqJ {a b : Addr} {ka kb : List (κ × Value)} {oa ob : Obj} {es es' : Array DictEntry} {ep ep' : Nat} {ok : Nat → Bool} {Q : Value → Shared → Prop} (J : Shared → Prop)
    (na : (a == sysModules) = false) (nb : (b == sysModules) = false) (ia : ∀ t, J t → t.heap.get? a = some oa) (ib : ∀ t, J t → t.heap.get? b = some ob)
    (ta : s.TypeIs (.ref a) "dict") (tb : s.TypeIs (.ref b) "dict")
    (ea : oa.data = .dict es ep) (eb : ob.data = .dict es' ep') (hka : KeysOf knd es) (hkb : KeysOf knd es') (pa : Pairs knd es.toList ka) (pb : Pairs knd es'.toList kb) (same : ka.length = kb.length)
    (turn : ∀ i k v, ka[i]? = some (k, v) → ∃ y, valueAt kb k = some y ∧ ∀ t, J t → wpAny (model prog w) A.in1 (eqBool v y) (fun r t' => r = ok i ∧ J t') E t)
    (hu : A.units < cLine) (start : J s) (fin : ∀ t, J t → Q (.bool ((List.range ka.length).all ok)) t) : wpAny (model prog w) A (richCompare .Eq (.ref a) (.ref b)) Q E s := by
  refine wpAny_richCompare_same_room (op := .Eq) ta tb PySem.F.slot_dict_eq (wpAny_call_entry PySem.F.slot_dict_eq ta PySem.F.entry_dict_eq ?_ (PySem.F.args_dict_eq_2 _ _)) hu
  show wpAny _ _ (Builtin.Dict.dictSlotArgs "__eq__" ⟨[.ref a, .ref b], []⟩ >>= _) _ _ s
  refine wpAny_bind ?_
  unfold Builtin.Dict.dictSlotArgs
  refine wpAny_bind (wpAny_notOrdered_dict ta ?_)
  show wpAny _ _ (pure (Value.ref a, Value.ref b)) _ _ s
  refine wpAny_pure ?_
  refine wpAny_bind (wpAny_isInstance (T := "dict") tb PySem.F.sub_dict_dict ?_)
  simp only [Bool.not_true, Bool.false_eq_true, if_false]
  refine wpAny_bind (wpAny_pure (wpAny_bind (wpAny_pure ?_)))
  exact wpAny_bind (dict_pairsJ J na nb ia ib ea eb hka hkb pa pb same turn start fun t h => wpAny_pure ⟨_, rfl, (fun x => nomatch x), by simpa using fin t h⟩)
end
theorem prd_atW {α β : Type} {R : α → β → Prop} : ∀ {xs : List α} {os : List β} {i : Nat} {x : α}, Paired R xs os → xs[i]? = some x → ∃ o, os[i]? = some o ∧ R x o
  | _, _, _, _, .nil, e => by simp at e
  | _, _, 0, _, .cons h _, e => by
    simp at e
    subst e
    exact ⟨_, rfl, h⟩
  | _, _, i + 1, _, .cons _ r, e => by simpa using prd_atW r (by simpa using e)
/-- how two values compare, by the abstract heap -/
abbrev EqvB := V → V → Bool → Hp → Prop
def EqB (X : Cx) (n : Nat) (D : EqvB) : Prop :=
  ∀ (A : Around) (pins : List (Addr × Obj)) (s : Shared) (σ : L2.St) (H : Hp) (x y : V) (u v : Value) (r : Bool), Sub X n A → Inv X pins σ H s → RelV x u → RelV y v → D x y r H →
    wpAny (model X.prog X.w) A (eqBool u v) (fun r' s' => r' = r ∧ ∃ H', Inv X pins σ H' s' ∧ Ext H H') X.xe s
def rEqOwnD (D : EqvB) : R2 := fun x y H Q => ∃ (a b : Addr) (ks ls : List (Key × V)) (e : Nat → Bool), x = .ref a ∧ y = .ref b ∧ a ≠ b ∧ H a = some (.dK ks) ∧ H b = some (.dK ls) ∧ ks.length = ls.length ∧
  (∀ oa ob i k v, ks[i]? = some (k, v) → ∃ y, valV ls k = some y ∧ ∀ H', Ext (upd (upd H a (.frz oa (.dK ks))) b (.frz ob (.dK ls))) H' → D v y (e i) H') ∧
  ∀ H', Ext H H' → Q (.bl ((List.range ks.length).all e)) H'
section
variable {X : Cx} {n : Nat} {D : EqvB}
theorem op_eqOwnD (h : EqB X n D) (hr : Room (n + 1) X.A) : OpR X (compareOp .Eq) (rEqOwnD D) := by
  intro pins s σ H x y v u Q I rx ry hq
  obtain ⟨a, b, ks, ls, e, rfl, rfl, nab, ha, hb, hl, hp, q⟩ := hq
  cases rx
  cases ry
  show wpAny (model X.prog X.w) X.A (richCompare .Eq (.ref a) (.ref b)) (EP X pins σ Q) X.xe s
  have muA : Mut (some (HO.dK ks)) := trivial
  have muB : Mut (some (HO.dK ls)) := trivial
  obtain ⟨oa, I1⟩ := I.lock ha muA
  have hb1 : upd H a (.frz oa (.dK ks)) b = some (.dK ls) := by rw [upd_ne (Ne.symm nab)]; exact hb
  have nfA := I.nofrz ha muA
  have nfB := I.nofrz hb muB
  obtain ⟨ob, I2⟩ := I1.lock hb1 muB
  have la : upd (upd H a (.frz oa (.dK ks))) b (.frz ob (.dK ls)) a = some (.frz oa (.dK ks)) := by rw [upd_ne nab, upd_same]
  have lb : upd (upd H a (.frz oa (.dK ks))) b (.frz ob (.dK ls)) b = some (.frz ob (.dK ls)) := upd_same
  have hp' := hp oa ob
  have e12 : ∀ H', Ext (upd (upd H a (.frz oa (.dK ks))) b (.frz ob (.dK ls))) H' → Ext H (upd (upd H' a (.dK ks)) b (.dK ls)) := fun H' ex c o hc => by
    by_cases c2 : c = b
    · rw [c2, upd_same, ← hb, ← c2, hc]
    · rw [upd_ne c2]
      by_cases c1 : c = a
      · rw [c1, upd_same, ← ha, ← c1, hc]
      · rw [upd_ne c1]
        exact ex c o (by rw [upd_ne c2, upd_ne c1]; exact hc)
  clear hp
  generalize upd (upd H a (.frz oa (.dK ks))) b (.frz ob (.dK ls)) = H2 at I2 la lb hp' e12
  obtain ⟨na, ga, xa, es, ep, va, da, _, ra, fa⟩ := I2.frzK la
  obtain ⟨nb, gb, xb, es', ep', vb, db, _, rb, fb⟩ := I2.frzK lb
  obtain ⟨oa', es1, ga', xa', da', ka, pa, _⟩ := fa
  obtain ⟨ob', es2, gb', xb', db', kb, pb, _⟩ := fb
  have t1 : s.heap.get? a = some oa := ga
  rw [ga] at ga'; cases ga'
  rw [gb] at gb'; cases gb'
  have z1 := da.symm.trans da'
  have z2 := db.symm.trans db'
  cases z1
  cases z2
  have stay : ∀ t, (∃ H', Inv X pins σ H' t ∧ Ext H2 H') → t.heap.get? a = some oa ∧ t.heap.get? b = some ob := fun t ⟨H', I', ex⟩ => ⟨(I'.frzK (ex _ _ la)).2.1, (I'.frzK (ex _ _ lb)).2.1⟩
  refine dict_eqJ (knd := mixKind X.prog X.w) (ok := e) (fun t => ∃ H', Inv X pins σ H' t ∧ Ext H2 H') na nb (fun t h => (stay t h).1) (fun t h => (stay t h).2) ⟨oa, ga, xa.1⟩ ⟨ob, gb, xb.1⟩ da db ka kb pa pb (by rw [← ra.length, ← rb.length]; exact hl) ?_ hr.units0 ⟨H2, I2, Ext.rfl'⟩ ?_
  · intro i k v hi
    have k1 : i < ks.length := by rw [ra.length]; exact (List.getElem?_eq_some_iff.mp hi).1
    obtain ⟨⟨kk, vv⟩, hkv⟩ : ∃ q : Key × V, ks[i]? = some q := ⟨_, List.getElem?_eq_getElem k1⟩
    obtain ⟨q2, hq2, rk, rv⟩ := prd_atW ra hkv
    rw [hi] at hq2
    cases hq2
    obtain rfl : kk = k := rk
    obtain ⟨y, hy, hD⟩ := hp' i _ _ hkv
    have rr : RelO (some y) (valueAt vb kk) := by rw [← hy]; exact rb.val kk
    obtain ⟨y', hy', ry⟩ := rr.some_of
    refine ⟨y', hy', fun t ⟨H', I', ex⟩ => ?_⟩
    refine wpAny_mono (h X.A.in1 pins t σ H' _ _ v y' (e i) ⟨hr.in1, rfl⟩ I' rv ry (hD H' ex)) (fun r t' z => ?_) fun _ _ z => z
    obtain ⟨z1, H'', I'', ex'⟩ := z
    exact ⟨z1, H'', I'', ex.trans ex'⟩
  · rintro t ⟨H', I', ex⟩
    have I3 := I'.unlock (ex _ _ la) nfA
    have I4 := I3.unlock (d := b) (by rw [upd_ne (Ne.symm nab)]; exact ex _ _ lb) nfB
    rw [← ra.length]
    exact ⟨.bl _, _, I4, rfl, q _ (e12 H' ex)⟩
end
/-- instances of the class at C, compared by its own __eq__ -/
def DInsB (K : PySem.W.Frag) (C : Addr) (R : EqvB) : EqvB := fun x y r H => ∃ a dx fs b C' dy gs, x = .ref a ∧ y = .ref b ∧ (a = b → r = true) ∧ H a = some (.ins C dx fs) ∧ H b = some (.ins C' dy gs) ∧ PySem.W.notFirst K C (.ref C') = true ∧ R x y r H
def spEqB (R : EqvB) : Sp := fun vs H Q _ => ∃ x y r, vs = [x, y] ∧ R x y r H ∧ ∀ H', Ext H H' → Q (.bl r) H'
section
variable {X : Cx} {n : Nat} {D D' : EqvB}
theorem EqB.mono {m : Nat} (h : EqB X n D) (hn : n ≤ m) : EqB X m D := fun A pins s σ H x y u v r sb => h A pins s σ H x y u v r (sb.mono hn)
theorem EqB.or (h : EqB X n D) (h' : EqB X n D') : EqB X n (fun x y r H => D x y r H ∨ D' x y r H) := fun A pins s σ H x y u v r sb I rx ry d => by
  rcases d with d | d
  · exact h A pins s σ H x y u v r sb I rx ry d
  · exact h' A pins s σ H x y u v r sb I rx ry d
theorem eqB_ins {CX : CXT} {C f : Addr} {fd : FuncData} {ps : List Str} {R : EqvB} {E : XK} (F : FnOk X.prog X.w X.K X.mg X.base CX n f fd ps (spEqB R))
    (hs : PySem.W.findIn X.K (.ref C) "__eq__" = some (some (.ref f))) (hf : PySem.W.isFn X.K (.ref f) = true) (hb : Binds X.K fd ps []) (hx : Passes CX X E) : EqB X n (DInsB X.K C R) := by
  intro A pins s σ H x y u v r sb I rx ry d
  obtain ⟨a, dx, fs, b, C', dy, gs, rfl, rfl, nab, ha, hb', hn, hr⟩ := d
  cases rx
  cases ry
  by_cases hab : a = b
  · rw [nab hab]
    subst hab
    exact SeqAt.EqAt.same (A := A) (s := s) (.ref a) X.prog X.w X.xe _ ⟨rfl, H, I, Ext.rfl'⟩
  refine GQ.eqBool_refG hab ?_
  obtain ⟨mA, J, _⟩ := ins_get I.hok ha
  obtain ⟨mB, J', _⟩ := ins_get I.hok hb'
  obtain ⟨od, J, _⟩ := J.look
  obtain ⟨od', J', _⟩ := J'.look
  obtain ⟨m, hF⟩ := I.fr
  refine PySem.W.cmp_K (op := .Eq) (tb := .ref C') sb.room.units0 hF I.ok.mod.kin J J'.type hn hs hf ?_
  have hsp : spEqB R [.ref a, .ref b] H (fun v H' => v = .bl r ∧ Ext H H') E := ⟨_, _, r, rfl, hr, fun H' e => ⟨rfl, e⟩⟩
  have e0 : Env0 X.prog X.w X.K X.mg X.base A X.stack s H := by
    have e := I.env0
    exact ⟨by rw [sb.fr]; exact e.frames, e.mod, e.bs, e.bsz, e.funs, e.frf, e.hok, e.bare⟩
  have hl := F.len _ _ _ _ hsp
  have r2 : Vals [V.ref a, V.ref b] [Value.ref a, Value.ref b] := .cons rfl (.cons rfl .nil)
  refine wpAny_call (codeAny_mono (F.run A X.stack s H ⟨[.ref a, .ref b], []⟩ [.ref a, .ref b] [.ref a, .ref b] _ E sb.room e0 (by
    have := hb s [.ref a, .ref b] I.kIn (by simpa using hl)
    simpa using this) r2 hsp) fun r' s' hq => ?_)
  cases r' with
  | error e => exact hx pins σ H s e s' I hq
  | ok fl =>
    cases fl with
    | ret w =>
      obtain ⟨z, H', I', rz, ez, ex⟩ := I.after hq
      subst ez
      cases rz
      exact ⟨r, rfl, rfl, H', I', ex⟩
    | next => exact False.elim hq
    | brk => exact False.elim hq
    | cont => exact False.elim hq
end
end WW

set_option Elab.async false
set_option linter.all false
set_option maxRecDepth 100000
set_option maxHeartbeats 4000000
namespace WK
open PySem PySem.Spec PyProof.Rows L2 WW Evl
theorem eqv_refl {d : PyData} (h : okP d = true) : PyData.eqv d d = true := SeqAt.eqv_refl_plain d (okP_p h).1
theorem eqvA_str : ∀ xs ys : List Str, PyData.eqvAll (xs.map PyData.str) (ys.map PyData.str) = decide (xs = ys)
  | [], [] => by simp [PyData.eqvAll]
  | [], _ :: _ => by simp [PyData.eqvAll]
  | _ :: _, [] => by simp [PyData.eqvAll]
  | x :: xs, y :: ys => by
    rw [List.map_cons, List.map_cons, PyData.eqvAll, eqvA_str xs ys, PyData.eqv, Bool.eq_iff_iff]
    simp
theorem eqvL_str (xs ys : List Str) : PyData.eqv (.list (xs.map PyData.str)) (.list (ys.map PyData.str)) = decide (xs = ys) := by
  rw [PyData.eqv, eqvA_str]
theorem plnA_str : ∀ xs : List Str, PyData.plainAll (xs.map PyData.str) = true ∧ PyData.depthAll (xs.map PyData.str) = 0
  | [] => ⟨rfl, rfl⟩
  | x :: xs => by
    obtain ⟨h1, h2⟩ := plnA_str xs
    refine ⟨by rw [List.map_cons, PyData.plainAll, h1]; rfl, ?_⟩
    rw [List.map_cons, PyData.depthAll, h2]
    rfl
theorem okP_strs (xs : List Str) : okP (.list (xs.map PyData.str)) = true := by
  obtain ⟨h1, h2⟩ := plnA_str xs
  unfold okP
  rw [show (PyData.list (xs.map PyData.str)).plain = true from h1, decide_eq_true (by rw [PyData.depth, h2]; decide)]
  rfl
theorem dpA_str {K : PySem.W.Frag} {H : Hp} : ∀ xs : List Str, DpAll K H (xs.map V.str) (xs.map PyData.str)
  | [] => .nil
  | x :: xs => .cons (.str x) (dpA_str xs)
theorem dp_strs {K : PySem.W.Frag} {H : Hp} {l : Addr} {xs : List Str} (h : H l = some (.lst (xs.map V.str))) : Dp K H (.ref l) (.list (xs.map PyData.str)) := .lst (sq_of h) (dpA_str xs)
theorem sf4 {nm : Str} {po co : Int} {d : Addr} : (sf nm po d co).lookup ("_cost" : Str) = some (.int co) := by unfold sf; rw [lookup_putF, if_pos rfl]
theorem lf4 {nm : Str} {po co : Int} {d : Addr} : (lf nm po d co).lookup ("_cost" : Str) = some (.int co) := by unfold lf; rw [lookup_putF, if_pos rfl]
theorem tabX_keys (r : Ins) : r.tabX.map (·.1) = (sortS r.ws).map Sum.inr := by
  unfold Ins.tabX
  rw [List.map_map, List.map_map]
  rfl
theorem tabX_ok {r : Ins} (ok : r.Ok) (lk : r.lk = false) : ∀ p ∈ r.tabX, valV r.tabX p.1 = some p.2 ∧ flatB p.2 = true := by
  have nd : (r.tabX.map (·.1)).Nodup := by
    rw [tabX_keys]
    exact List.pairwise_map.mpr (List.Pairwise.imp (fun h e => h (Sum.inr.inj e)) ((sortS_perm _).nodup_iff.mpr ok.nd))
  intro p hp
  refine ⟨val_nodup nd p hp, ?_⟩
  unfold Ins.tabX at hp
  obtain ⟨x, hx, rfl⟩ := List.mem_map.mp hp
  obtain ⟨z, hz, rfl⟩ := List.mem_map.mp hx
  obtain ⟨vz, hvz⟩ := val_some.mpr (show (Sum.inr z : Key) ∈ r.tab.map (·.1) by rw [ok.keys lk]; exact List.mem_map_of_mem (sortS_mem.mp hz))
  show flatB ((valV r.tab (.inr z)).getD .non) = true
  rw [hvz]
  have mem : ∀ {l : List (Key × V)} {k : Key} {v : V}, valV l k = some v → (k, v) ∈ l := by
    intro l
    induction l with
    | nil => intro k v h; cases h
    | cons q l ih =>
      intro k v h
      by_cases e : q.1 = k
      · rw [valV_pos e] at h
        cases h
        rw [← e]
        exact List.mem_cons_self
      · rw [valV_neg e] at h
        exact List.mem_cons_of_mem _ (ih h)
  obtain ⟨x, y, e, _, _⟩ := (ok.tabS lk).each _ (mem hvz)
  cases e
  rfl

theorem tabX_form (r : Ins) : r.tabX = (sortS r.ws).map fun y => ((.inr y : Key), valAt r.tab (.str y)) := by
  unfold Ins.tabX
  rw [List.map_map]
  rfl
theorem tab_some {r : Ins} (ok : r.Ok) (lk : r.lk = false) {x : Str} (h : x ∈ r.ws) : ∃ z, valV r.tab (.inr x) = some (.str z) := by
  obtain ⟨vz, hvz⟩ := val_some.mpr (show (Sum.inr x : Key) ∈ r.tab.map (·.1) by rw [ok.keys lk]; exact List.mem_map_of_mem h)
  have mem : ∀ {l : List (Key × V)} {k : Key} {v : V}, valV l k = some v → (k, v) ∈ l := by
    intro l
    induction l with
    | nil => intro k v h; cases h
    | cons q l ih =>
      intro k v h
      by_cases e : q.1 = k
      · rw [valV_pos e] at h
        cases h
        rw [← e]
        exact List.mem_cons_self
      · rw [valV_neg e] at h
        exact List.mem_cons_of_mem _ (ih h)
  obtain ⟨a, b, e, _, _⟩ := (ok.tabS lk).each _ (mem hvz)
  cases e
  exact ⟨b, hvz⟩
theorem tabX_val {r : Ins} (ok : r.Ok) (lk : r.lk = false) {x : Str} (h : x ∈ r.ws) : valV r.tabX (.inr x) = valV r.tab (.inr x) := by
  rw [tabX_form, valV_fn, if_pos (sortS_mem.mpr h)]
  obtain ⟨z, hz⟩ := tab_some ok lk h
  show some ((valV r.tab (.inr x)).getD .non) = _
  rw [hz]
  rfl
theorem tabX_mem {r : Ins} (ok : r.Ok) (lk : r.lk = false) {p : Key × V} (h : p ∈ r.tabX) : ∃ x z, p = (.inr x, .str z) ∧ x ∈ r.ws ∧ valV r.tab (.inr x) = some (.str z) := by
  rw [tabX_form] at h
  obtain ⟨y, hy, rfl⟩ := List.mem_map.mp h
  obtain ⟨z, hz⟩ := tab_some ok lk (sortS_mem.mp hy)
  exact ⟨y, z, by show (_, (valV r.tab (.inr y)).getD .non) = _; rw [hz]; rfl, sortS_mem.mp hy, hz⟩
/-- two sensors' sights agree; of locks nothing is asked -/
def agr (r s : Ins) : Bool := r.lk || decide (∀ x ∈ r.ws, valV r.tab (.inr x : Key) = valV s.tab (.inr x))
def eqI (r s : Ins) : Bool := decide (r.nm = s.nm) && (decide (r.po = s.po) && (agr r s && decide (r.co = s.co)))
theorem agr_comm {r s : Ins} (hl : r.lk = s.lk) (hm : s.ws.Perm r.ws) : agr s r = agr r s := by
  unfold agr
  rw [hl, Bool.eq_iff_iff]
  simp only [Bool.or_eq_true, decide_eq_true_iff]
  exact ⟨fun h => h.imp id fun h x hx => (h x (hm.mem_iff.mpr hx)).symm, fun h => h.imp id fun h x hx => (h x (hm.mem_iff.mp hx)).symm⟩
theorem eqI_comm {r s : Ins} (hl : r.lk = s.lk) (hm : s.ws.Perm r.ws) : eqI s r = eqI r s := by
  unfold eqI
  rw [agr_comm hl hm]
  congr 1
  · rw [Bool.eq_iff_iff, decide_eq_true_iff, decide_eq_true_iff]; exact eq_comm
  · congr 1
    · rw [Bool.eq_iff_iff, decide_eq_true_iff, decide_eq_true_iff]; exact eq_comm
    · congr 1
      rw [Bool.eq_iff_iff, decide_eq_true_iff, decide_eq_true_iff]; exact eq_comm
theorem txts_X {r s : Ins} (ok : r.Ok) (ok2 : s.Ok) (lk : r.lk = false) (lk2 : s.lk = false) (hm : s.ws.Perm r.ws) : Txts r.tabX s.tabX := by
  refine ⟨?_, fun p hp => ?_⟩
  · rw [tabX_form, tabX_form, List.length_map, List.length_map, sortS_len, sortS_len, hm.length_eq]
  · obtain ⟨x, z, rfl, hx, hz⟩ := tabX_mem ok lk hp
    obtain ⟨z', hz'⟩ := tab_some ok2 lk2 (hm.mem_iff.mpr hx)
    exact ⟨z, z', rfl, by rw [tabX_val ok2 lk2 (hm.mem_iff.mpr hx)]; exact hz'⟩
theorem sameX {r s : Ins} (ok : r.Ok) (ok2 : s.Ok) (lk : r.lk = false) (lk2 : s.lk = false) (hm : s.ws.Perm r.ws) : sameV s.tabX r.tabX = agr r s := by
  unfold sameV agr
  rw [lk, Bool.false_or, Bool.eq_iff_iff, List.all_eq_true, decide_eq_true_iff]
  constructor
  · intro h x hx
    obtain ⟨z, hz⟩ := tab_some ok lk hx
    have hp : ((.inr x : Key), V.str z) ∈ r.tabX := by
      rw [tabX_form]
      refine List.mem_map.mpr ⟨x, sortS_mem.mpr hx, ?_⟩
      show (_, (valV r.tab (.inr x)).getD .non) = _
      rw [hz]
      rfl
    have := of_decide_eq_true (h _ hp)
    rw [hz, ← tabX_val ok2 lk2 (hm.mem_iff.mpr hx)]
    exact this.symm
  · intro h p hp
    obtain ⟨x, z, rfl, hx, hz⟩ := tabX_mem ok lk hp
    refine decide_eq_true ?_
    show valV s.tabX (.inr x) = some (.str z)
    rw [tabX_val ok2 lk2 (hm.mem_iff.mpr hx), ← h x hx, hz]
section
variable {P : Program} {w : World} {K : PySem.W.Frag} {mg : Str → Option Value} {base : Heap} {f : Addr} {fd : FuncData}
/-- == of an instrument -/
def spEqG (b : Bool) (CS CL : Addr) : Sp := fun vs H Q _ => ∃ v u r s, vs = [v, u] ∧ InsAt CS CL H v r ∧ r.lk = b ∧ r.Ok ∧ InsAt CS CL H u s ∧ ((s.lk = !b ∧ Q (.bl false) H) ∨ (s.lk = b ∧ s.Ok ∧ s.ws.Perm r.ws ∧ Q (.bl (eqI r s)) H))
theorem dec_str (a b : Str) : decide (V.str a = V.str b) = decide (a = b) := by rw [Bool.eq_iff_iff]; simp
theorem dec_int (a b : Int) : decide (V.int a = V.int b) = decide (a = b) := by rw [Bool.eq_iff_iff]; simp
abbrev s_Sensor___eq__ : Stmt := inClass (top 18) 1
theorem sc_Sensor___eq__ : FnScope ["self", "other"] ["self", "other"] (defScope s_Sensor___eq__) := ⟨rfl, rfl, rfl, by decide +kernel, rfl, by decide +kernel, by decide +kernel⟩
theorem okg_eqS {C_Sensor C_Lock : Addr} (G : Gz mg) (T : ICl K mg C_Sensor C_Lock) (D : FunD K "__eq__" "Sensor.__eq__" (defArgs s_Sensor___eq__) (defBody s_Sensor___eq__) (defScope s_Sensor___eq__) [] [] f fd) : FnOk P w K mg base CXn 1 f fd ["self", "other"] (spEqG false C_Sensor C_Lock) := by
  have g_Sensor := T.atS
  refine D.ok sc_Sensor___eq__ (fun vs H Q E h => ?_) (fun cdv A outer s H vs Q E hr h => ⟨_, PSs.nox (pss_one (ps_ret (L2.pe_and (pe_callB (isiK (K := K) rfl) rfl G.g_isinstance (by rfl) (pa_cons (pv 1) (pa_cons (pe_glob (v := .ref C_Sensor) rfl g_Sensor rfl) pa_nil))) (L2.pe_and (pe_cmpR op_eq (pe_fld (pv 0) rfl) (pe_fld (pv 1) rfl) (nomark _)) (L2.pe_and (pe_cmpR op_eq (pe_fld (pv 0) rfl) (pe_fld (pv 1) rfl) (nomark _)) (L2.pe_and (pe_cmpR (op_eqDS hr.units0) (pe_fld (pv 0) rfl) (pe_fld (pv 1) rfl) (nomark _)) (pe_one (pe_cmpR op_eq (pe_fld (pv 0) rfl) (pe_fld (pv 1) rfl) (nomark _))))))))), ?_⟩)
  · obtain ⟨_, _, _, _, rfl, _⟩ := h
    rfl
  · obtain ⟨v, u, i, j, rfl, h1, lk, ok, h2, out⟩ := h
    obtain ⟨a, dx, d, rfl, ⟨z, _⟩ | ⟨_, ha, hd⟩⟩ := h1
    · rw [lk] at z
      cases z
    rcases out with ⟨lk2, k⟩ | ⟨lk2, ok2, hm, k⟩
    · obtain ⟨b, dy, d', rfl, ⟨_, hb, _⟩ | ⟨z, _⟩⟩ := h2
      · exact ⟨_, rfl, .ref b, .ref C_Sensor, .ref C_Lock, .ref C_Sensor, false, rfl, .own _, .base (T.isaL _ _ _ _ hb), T.kLS, false, rfl, k⟩
      · rw [lk2] at z
        cases z
    obtain ⟨b, dy, d', rfl, ⟨z, _⟩ | ⟨_, hb, hd'⟩⟩ := h2
    · rw [lk2] at z
      cases z
    refine ⟨_, rfl, .ref b, .ref C_Sensor, .ref C_Sensor, .ref C_Sensor, true, rfl, .own _, .base (T.isaS _ _ _ _ hb), T.kSS, true, rfl, ?_⟩
    refine ⟨_, rfl, a, C_Sensor, dx, _, _, rfl, ha, T.clS, T.s1, sf1, _, rfl, b, C_Sensor, dy, _, _, rfl, hb, T.clS, T.s1, sf1, rfl, decide (i.nm = j.nm), congrArg V.bl (dec_str _ _), ?_⟩
    unfold eqI at k
    cases e1 : decide (i.nm = j.nm) with
    | false =>
      rw [e1] at k
      exact k
    | true =>
    rw [e1] at k
    refine ⟨_, rfl, a, C_Sensor, dx, _, _, rfl, ha, T.clS, T.s2, sf2, _, rfl, b, C_Sensor, dy, _, _, rfl, hb, T.clS, T.s2, sf2, rfl, decide (i.po = j.po), congrArg V.bl (dec_int _ _), ?_⟩
    cases e2 : decide (i.po = j.po) with
    | false =>
      rw [e2] at k
      exact k
    | true =>
    rw [e2] at k
    refine ⟨_, rfl, a, C_Sensor, dx, _, _, rfl, ha, T.clS, T.s3, sf3, _, rfl, b, C_Sensor, dy, _, _, rfl, hb, T.clS, T.s3, sf3, d, d', i.tabX, j.tabX, rfl, rfl, hd, hd', txts_X ok ok2 lk lk2 hm, agr i j, congrArg V.bl (sameX ok ok2 lk lk2 hm), ?_⟩
    cases e3 : agr i j with
    | false =>
      rw [e3] at k
      exact k
    | true =>
    rw [e3] at k
    refine ⟨_, rfl, a, C_Sensor, dx, _, _, rfl, ha, T.clS, T.s4, sf4, _, rfl, b, C_Sensor, dy, _, _, rfl, hb, T.clS, T.s4, sf4, rfl, ?_⟩
    have q : Q (.bl (decide (i.co = j.co))) H := k
    rw [← dec_int] at q
    exact q
abbrev s_Lock___eq__ : Stmt := inClass (top 19) 1
theorem sc_Lock___eq__ : FnScope ["self", "other"] ["self", "other"] (defScope s_Lock___eq__) := ⟨rfl, rfl, rfl, by decide +kernel, rfl, by decide +kernel, by decide +kernel⟩
theorem okg_eqL {C_Sensor C_Lock : Addr} (G : Gz mg) (T : ICl K mg C_Sensor C_Lock) (D : FunD K "__eq__" "Lock.__eq__" (defArgs s_Lock___eq__) (defBody s_Lock___eq__) (defScope s_Lock___eq__) [] [] f fd) : FnOk P w K mg base CXn 1 f fd ["self", "other"] (spEqG true C_Sensor C_Lock) := by
  have g_Lock := T.atL
  refine D.ok sc_Lock___eq__ (fun vs H Q E h => ?_) (fun cdv A outer s H vs Q E hr h => ⟨_, PSs.nox (pss_one (ps_ret (L2.pe_and (pe_callB (isiK (K := K) rfl) rfl G.g_isinstance (by rfl) (pa_cons (pv 1) (pa_cons (pe_glob (v := .ref C_Lock) rfl g_Lock rfl) pa_nil))) (L2.pe_and (pe_cmpR op_eq (pe_fld (pv 0) rfl) (pe_fld (pv 1) rfl) (nomark _)) (L2.pe_and (pe_cmpR op_eq (pe_fld (pv 0) rfl) (pe_fld (pv 1) rfl) (nomark _)) (L2.pe_and (pe_cmpR (op_eqP hr.units) (pe_fld (pv 0) rfl) (pe_fld (pv 1) rfl) (nomark _)) (pe_one (pe_cmpR op_eq (pe_fld (pv 0) rfl) (pe_fld (pv 1) rfl) (nomark _))))))))), ?_⟩)
  · obtain ⟨_, _, _, _, rfl, _⟩ := h
    rfl
  · obtain ⟨v, u, i, j, rfl, h1, lk, ok, h2, out⟩ := h
    obtain ⟨a, dx, d, rfl, ⟨_, ha, hd⟩ | ⟨z, _⟩⟩ := h1
    rotate_left
    · rw [lk] at z
      cases z
    rcases out with ⟨lk2, k⟩ | ⟨lk2, ok2, hm, k⟩
    · obtain ⟨b, dy, d', rfl, ⟨z, _⟩ | ⟨_, hb, _⟩⟩ := h2
      · rw [lk2] at z
        cases z
      · exact ⟨_, rfl, .ref b, .ref C_Lock, .ref C_Sensor, .ref C_Lock, false, rfl, .own _, .base (T.isaS _ _ _ _ hb), T.kSL, false, rfl, k⟩
    obtain ⟨b, dy, d', rfl, ⟨_, hb, hd'⟩ | ⟨z, _⟩⟩ := h2
    rotate_left
    · rw [lk2] at z
      cases z
    refine ⟨_, rfl, .ref b, .ref C_Lock, .ref C_Lock, .ref C_Lock, true, rfl, .own _, .base (T.isaL _ _ _ _ hb), T.kLL, true, rfl, ?_⟩
    refine ⟨_, rfl, a, C_Lock, dx, _, _, rfl, ha, T.clL, T.l1, lf1, _, rfl, b, C_Lock, dy, _, _, rfl, hb, T.clL, T.l1, lf1, rfl, decide (i.nm = j.nm), congrArg V.bl (dec_str _ _), ?_⟩
    unfold eqI at k
    cases e1 : decide (i.nm = j.nm) with
    | false =>
      rw [e1] at k
      exact k
    | true =>
    rw [e1] at k
    refine ⟨_, rfl, a, C_Lock, dx, _, _, rfl, ha, T.clL, T.l2, lf2, _, rfl, b, C_Lock, dy, _, _, rfl, hb, T.clL, T.l2, lf2, rfl, decide (i.po = j.po), congrArg V.bl (dec_int _ _), ?_⟩
    cases e2 : decide (i.po = j.po) with
    | false =>
      rw [e2] at k
      exact k
    | true =>
    rw [e2] at k
    have e3 : agr i j = true := by unfold agr; rw [lk]; rfl
    rw [e3] at k
    refine ⟨_, rfl, a, C_Lock, dx, _, _, rfl, ha, T.clL, T.l3, lf3, _, rfl, b, C_Lock, dy, _, _, rfl, hb, T.clL, T.l3, lf3, _, _, dp_strs hd, dp_strs hd', okP_strs _, okP_strs _, true, (by rw [sortS_congr hm, show PyData.eqv (.list ((sortS i.ws).map PyData.str)) (.list ((sortS i.ws).map PyData.str)) = true from eqv_refl (okP_strs _)]), ?_⟩
    refine ⟨_, rfl, a, C_Lock, dx, _, _, rfl, ha, T.clL, T.l4, lf4, _, rfl, b, C_Lock, dy, _, _, rfl, hb, T.clL, T.l4, lf4, rfl, ?_⟩
    have q : Q (.bl (decide (i.co = j.co))) H := k
    rw [← dec_int] at q
    exact q
end
end WK

set_option Elab.async false
set_option linter.all false
set_option maxRecDepth 100000
set_option maxHeartbeats 4000000
namespace WK
open PySem PySem.Spec PyProof.Rows L2 WW Evl
theorem Ins.Ok.ask {r : Ins} (h : r.Ok) (s : r.lk = false) : Ask r.tab := fun q hq => by
  obtain ⟨x, y, rfl, h1, h2⟩ := (h.tabS s).each q hq
  exact ⟨nmz h1, trivial, nmz h2⟩
theorem tabB_of {kvs : List (Key × V)} (h : TabS kvs) : tabB kvs = true := by
  have h1 := h.least
  have h2 := h.most
  unfold tabB
  rw [decide_eq_true (show (1 : Int) ≤ (kvs.length : Int) by omega), decide_eq_true (show (kvs.length : Int) ≤ 10 by omega)]
  simp only [Bool.true_and]
  refine List.all_eq_true.mpr fun q hq => ?_
  obtain ⟨x, y, rfl, hx, hy⟩ := h.each q hq
  show (nmB (.str x) && nmB (.str y)) = true
  rw [nmB_of hx, nmB_of hy]
  rfl
theorem Ins.Ok.coB {r : Ins} (h : r.Ok) : WK.coB (.int r.co) = true := by
  show (decide (1 ≤ r.co) && decide (r.co ≤ 1000)) = true
  rw [decide_eq_true h.co.1, decide_eq_true h.co.2]
  rfl
theorem Ins.Ok.sgIn {r : Ins} {H : Hp} {d : Addr} (h : r.Ok) (s : r.lk = false) (hd : H d = some (.dK r.tab)) : SgIn H (.ref d) true :=
  .inr (.inl ⟨d, r.tab, rfl, hd, by have := (h.tabS s).most; omega, h.ask s, (tabB_of (h.tabS s)).symm⟩)
theorem Ins.Ok.wdIn {r : Ins} {H : Hp} {d : Addr} (h : r.Ok) (hd : SqX H d (r.ws.map V.str)) : WdIn H (.ref d) true :=
  .inr ⟨d, _, rfl, hd, by rw [List.length_map]; exact h.row.least, by rw [List.length_map]; exact h.le, .inr ⟨r.ws, rfl, h.ws, (decide_eq_true h.nd).symm⟩⟩
section
variable {P : Program} {w : World} {K : PySem.W.Frag} {mg : Str → Option Value} {base : Heap} {f : Addr} {fd : FuncData}
/-- a good sensor is made -/
def spInitS0 (CS CL : Addr) : Sp := fun vs H Q _ => ∃ (H0 : Hp) (p dx d : Addr) (r : Ins), vs = [.ref p, .str r.nm, .int r.po, .ref d, .int r.co] ∧ Ex H0 H ∧ H0 p = none ∧ H p = some (.ins CS dx []) ∧ r.lk = false ∧ r.Ok ∧ H0 d = some (.dK r.tab) ∧
  ∀ H' d', Ex H0 H' → InsAtD CS CL H' (.ref p) r d' → H0 d' = none → Q .non H'
theorem initS0 {CS CL CN CP CG CC : Addr} (vs : List V) (H : Hp) (Q : VK) (E : XK) (h : spInitS0 CS CL vs H Q E) : spInitSG CS CL CN CP CG CC vs H Q E := by
  obtain ⟨H0, p, dx, d, r, rfl, e0, p0, hp, lk, ok, hd, k⟩ := h
  refine ⟨H0, p, dx, _, _, _, _, true, rfl, e0, p0, hp, .str _, nmz ok.nm, .int _, .int _, ok.sgIn lk hd, ?_⟩
  rw [nmB_of ok.nm, inB_of ok.isPo, ok.coB]
  exact ⟨d, r, rfl, lk, ok, rfl, rfl, rfl, hd, k⟩
/-- a good lock is made -/
def spInitL0 (CS CL : Addr) : Sp := fun vs H Q _ => ∃ (H0 : Hp) (p dx d : Addr) (r : Ins), vs = [.ref p, .str r.nm, .int r.po, .ref d, .int r.co] ∧ Ex H0 H ∧ H0 p = none ∧ H p = some (.ins CL dx []) ∧ r.lk = true ∧ r.Ok ∧ SqX H0 d (r.ws.map V.str) ∧
  ∀ H' d', Ex H0 H' → InsAtD CS CL H' (.ref p) r d' → H0 d' = none → Q .non H'
theorem initL0 {CS CL CN CP CG CC : Addr} (vs : List V) (H : Hp) (Q : VK) (E : XK) (h : spInitL0 CS CL vs H Q E) : spInitLG CS CL CN CP CG CC vs H Q E := by
  obtain ⟨H0, p, dx, d, r, rfl, e0, p0, hp, lk, ok, hd, k⟩ := h
  refine ⟨H0, p, dx, _, _, _, _, true, rfl, e0, p0, hp, .str _, nmz ok.nm, .int _, .int _, ok.wdIn hd, ?_⟩
  rw [nmB_of ok.nm, inB_of ok.isPo, ok.coB]
  exact ⟨d, r, rfl, lk, ok, rfl, rfl, rfl, hd, k⟩
abbrev s_Sensor_name : Stmt := inClass (top 18) 2
theorem sc_Sensor_name : FnScope ["self"] ["self"] (defScope s_Sensor_name) := ⟨rfl, rfl, rfl, by decide +kernel, rfl, by decide +kernel, by decide +kernel⟩
theorem ok_nameS {CS : Addr} (cl : Cls K CS) (n : NoAttr K CS "_name") (D : FunD K "name" "Sensor.name" (defArgs s_Sensor_name) (defBody s_Sensor_name) (defScope s_Sensor_name) [] [] f fd) : FnOk P w K mg base CXn 1 f fd ["self"] (getSp CS "_name") := by
  refine D.ok sc_Sensor_name (fun vs H Q E h => ?_) (fun cdv A outer s H vs Q E hr h => ⟨_, PSs.nox (pss_one (ps_ret (pe_fld (pv 0) rfl))), ?_⟩)
  · obtain ⟨_, _, _, _, rfl, _⟩ := h
    rfl
  · obtain ⟨a, dx, fs, v, rfl, ha, hl, k⟩ := h
    exact ⟨_, rfl, a, CS, dx, fs, v, rfl, ha, cl, n, hl, k⟩
abbrev s_Lock_name : Stmt := inClass (top 19) 2
theorem sc_Lock_name : FnScope ["self"] ["self"] (defScope s_Lock_name) := ⟨rfl, rfl, rfl, by decide +kernel, rfl, by decide +kernel, by decide +kernel⟩
theorem ok_nameL {CL : Addr} (cl : Cls K CL) (n : NoAttr K CL "_name") (D : FunD K "name" "Lock.name" (defArgs s_Lock_name) (defBody s_Lock_name) (defScope s_Lock_name) [] [] f fd) : FnOk P w K mg base CXn 1 f fd ["self"] (getSp CL "_name") := by
  refine D.ok sc_Lock_name (fun vs H Q E h => ?_) (fun cdv A outer s H vs Q E hr h => ⟨_, PSs.nox (pss_one (ps_ret (pe_fld (pv 0) rfl))), ?_⟩)
  · obtain ⟨_, _, _, _, rfl, _⟩ := h
    rfl
  · obtain ⟨a, dx, fs, v, rfl, ha, hl, k⟩ := h
    exact ⟨_, rfl, a, CL, dx, fs, v, rfl, ha, cl, n, hl, k⟩
abbrev s_Sensor_post : Stmt := inClass (top 18) 3
theorem sc_Sensor_post : FnScope ["self"] ["self"] (defScope s_Sensor_post) := ⟨rfl, rfl, rfl, by decide +kernel, rfl, by decide +kernel, by decide +kernel⟩
theorem ok_postS {CS : Addr} (cl : Cls K CS) (n : NoAttr K CS "_post") (D : FunD K "post" "Sensor.post" (defArgs s_Sensor_post) (defBody s_Sensor_post) (defScope s_Sensor_post) [] [] f fd) : FnOk P w K mg base CXn 1 f fd ["self"] (getSp CS "_post") := by
  refine D.ok sc_Sensor_post (fun vs H Q E h => ?_) (fun cdv A outer s H vs Q E hr h => ⟨_, PSs.nox (pss_one (ps_ret (pe_fld (pv 0) rfl))), ?_⟩)
  · obtain ⟨_, _, _, _, rfl, _⟩ := h
    rfl
  · obtain ⟨a, dx, fs, v, rfl, ha, hl, k⟩ := h
    exact ⟨_, rfl, a, CS, dx, fs, v, rfl, ha, cl, n, hl, k⟩
abbrev s_Lock_post : Stmt := inClass (top 19) 3
theorem sc_Lock_post : FnScope ["self"] ["self"] (defScope s_Lock_post) := ⟨rfl, rfl, rfl, by decide +kernel, rfl, by decide +kernel, by decide +kernel⟩
theorem ok_postL {CL : Addr} (cl : Cls K CL) (n : NoAttr K CL "_post") (D : FunD K "post" "Lock.post" (defArgs s_Lock_post) (defBody s_Lock_post) (defScope s_Lock_post) [] [] f fd) : FnOk P w K mg base CXn 1 f fd ["self"] (getSp CL "_post") := by
  refine D.ok sc_Lock_post (fun vs H Q E h => ?_) (fun cdv A outer s H vs Q E hr h => ⟨_, PSs.nox (pss_one (ps_ret (pe_fld (pv 0) rfl))), ?_⟩)
  · obtain ⟨_, _, _, _, rfl, _⟩ := h
    rfl
  · obtain ⟨a, dx, fs, v, rfl, ha, hl, k⟩ := h
    exact ⟨_, rfl, a, CL, dx, fs, v, rfl, ha, cl, n, hl, k⟩
abbrev s_Sensor_cost : Stmt := inClass (top 18) 6
theorem sc_Sensor_cost : FnScope ["self"] ["self"] (defScope s_Sensor_cost) := ⟨rfl, rfl, rfl, by decide +kernel, rfl, by decide +kernel, by decide +kernel⟩
theorem ok_costS {CS : Addr} (cl : Cls K CS) (n : NoAttr K CS "_cost") (D : FunD K "cost" "Sensor.cost" (defArgs s_Sensor_cost) (defBody s_Sensor_cost) (defScope s_Sensor_cost) [] [] f fd) : FnOk P w K mg base CXn 1 f fd ["self"] (getSp CS "_cost") := by
  refine D.ok sc_Sensor_cost (fun vs H Q E h => ?_) (fun cdv A outer s H vs Q E hr h => ⟨_, PSs.nox (pss_one (ps_ret (pe_fld (pv 0) rfl))), ?_⟩)
  · obtain ⟨_, _, _, _, rfl, _⟩ := h
    rfl
  · obtain ⟨a, dx, fs, v, rfl, ha, hl, k⟩ := h
    exact ⟨_, rfl, a, CS, dx, fs, v, rfl, ha, cl, n, hl, k⟩
abbrev s_Lock_cost : Stmt := inClass (top 19) 5
theorem sc_Lock_cost : FnScope ["self"] ["self"] (defScope s_Lock_cost) := ⟨rfl, rfl, rfl, by decide +kernel, rfl, by decide +kernel, by decide +kernel⟩
theorem ok_costL {CL : Addr} (cl : Cls K CL) (n : NoAttr K CL "_cost") (D : FunD K "cost" "Lock.cost" (defArgs s_Lock_cost) (defBody s_Lock_cost) (defScope s_Lock_cost) [] [] f fd) : FnOk P w K mg base CXn 1 f fd ["self"] (getSp CL "_cost") := by
  refine D.ok sc_Lock_cost (fun vs H Q E h => ?_) (fun cdv A outer s H vs Q E hr h => ⟨_, PSs.nox (pss_one (ps_ret (pe_fld (pv 0) rfl))), ?_⟩)
  · obtain ⟨_, _, _, _, rfl, _⟩ := h
    rfl
  · obtain ⟨a, dx, fs, v, rfl, ha, hl, k⟩ := h
    exact ⟨_, rfl, a, CL, dx, fs, v, rfl, ha, cl, n, hl, k⟩
abbrev s_Sensor_sights : Stmt := inClass (top 18) 4
theorem sc_Sensor_sights : FnScope ["self"] ["self"] (defScope s_Sensor_sights) := ⟨rfl, rfl, rfl, by decide +kernel, rfl, by decide +kernel, by decide +kernel⟩
def spSights (CS CL : Addr) : Sp := fun vs H Q _ => ∃ v r, vs = [v] ∧ InsAt CS CL H v r ∧ r.lk = false ∧ ∀ (D : Addr) H', Ex H H' → H D = none → H' D = some (.dK r.tabX) → Q (.ref D) H'
theorem ok_sights {CS CL : Addr} (G : Gz mg) (T : ICl K mg CS CL) (D : FunD K "sights" "Sensor.sights" (defArgs s_Sensor_sights) (defBody s_Sensor_sights) (defScope s_Sensor_sights) [] [] f fd) : FnOk P w K mg base CXn 1 f fd ["self"] (spSights CS CL) := by
  refine D.ok sc_Sensor_sights (fun vs H Q E h => ?_) (fun cdv A outer s H vs Q E hr h => ⟨_, PSs.nox (pss_one (ps_ret (pe_callTy call_dictD rfl G.g_dict (by rfl) (pa_cons (pe_fld (pv 0) rfl) pa_nil)))), ?_⟩)
  · obtain ⟨_, _, rfl, _⟩ := h
    rfl
  · obtain ⟨v, r, rfl, ⟨a, dx, d, rfl, ⟨z, _⟩ | ⟨_, h1, h2⟩⟩, lk, k⟩ := h
    · rw [lk] at z
      cases z
    · exact ⟨_, rfl, a, CS, dx, _, _, rfl, h1, T.clS, T.s3, sf3, d, r.tabX, rfl, .inl h2, fun p hp => k p _ (Ex.new hp) hp upd_same⟩
/-- the words of an instrument -/
def spWordsI (b : Bool) (CS CL : Addr) : Sp := fun vs H Q _ => ∃ v r, vs = [v] ∧ InsAt CS CL H v r ∧ r.lk = b ∧ r.Ok ∧ ∀ (D : Addr) H', Ex H H' → H D = none → H' D = some (.lst ((sortS r.ws).map V.str)) → Q (.ref D) H'
abbrev s_Sensor_words : Stmt := inClass (top 18) 5
theorem sc_Sensor_words : FnScope ["self"] ["self"] (defScope s_Sensor_words) := ⟨rfl, rfl, rfl, by decide +kernel, rfl, by decide +kernel, by decide +kernel⟩
theorem ok_wordsS {CS CL : Addr} (G : Gz mg) (T : ICl K mg CS CL) (D : FunD K "words" "Sensor.words" (defArgs s_Sensor_words) (defBody s_Sensor_words) (defScope s_Sensor_words) [] [] f fd) : FnOk P w K mg base CXn 1 f fd ["self"] (spWordsI false CS CL) := by
  refine D.ok sc_Sensor_words (fun vs H Q E h => ?_) (fun cdv A outer s H vs Q E hr h => ⟨_, PSs.nox (pss_one (ps_ret (pe_callTy (call_listD rfl) rfl G.g_list (by rfl) (pa_cons (pe_fld (pv 0) rfl) pa_nil)))), ?_⟩)
  · obtain ⟨_, _, rfl, _⟩ := h
    rfl
  · obtain ⟨v, r, rfl, ⟨a, dx, d, rfl, ⟨z, _⟩ | ⟨_, h1, h2⟩⟩, lk, ok, k⟩ := h
    · rw [lk] at z
      cases z
    · refine ⟨_, rfl, a, CS, dx, _, _, rfl, h1, T.clS, T.s3, sf3, d, r.tabX, rfl, .inl h2, fun p hp => ?_⟩
      have e : r.tabX.map (fun q => kV q.1) = (sortS r.ws).map V.str := by rw [tabX_form, List.map_map]; rfl
      rw [e]
      exact k p _ (Ex.new hp) hp upd_same
abbrev s_Lock_words : Stmt := inClass (top 19) 4
theorem sc_Lock_words : FnScope ["self"] ["self"] (defScope s_Lock_words) := ⟨rfl, rfl, rfl, by decide +kernel, rfl, by decide +kernel, by decide +kernel⟩
theorem ok_wordsL {CS CL : Addr} (G : Gz mg) (T : ICl K mg CS CL) (D : FunD K "words" "Lock.words" (defArgs s_Lock_words) (defBody s_Lock_words) (defScope s_Lock_words) [] [] f fd) : FnOk P w K mg base CXn 1 f fd ["self"] (spWordsI true CS CL) := by
  refine D.ok sc_Lock_words (fun vs H Q E h => ?_) (fun cdv A outer s H vs Q E hr h => ⟨_, PSs.nox (pss_one (ps_ret (pe_callTy (listOfK (K := K) rfl) rfl G.g_list (by rfl) (pa_cons (pe_fld (pv 0) rfl) pa_nil)))), ?_⟩)
  · obtain ⟨_, _, rfl, _⟩ := h
    rfl
  · obtain ⟨v, r, rfl, ⟨a, dx, d, rfl, ⟨_, h1, h2⟩ | ⟨z, _⟩⟩, lk, ok, k⟩ := h
    · exact ⟨_, rfl, a, CL, dx, _, _, rfl, h1, T.clL, T.l3, lf3, d, _, rfl, .inl (sq_of h2), fun p hp => k p _ (Ex.new hp) hp upd_same⟩
    · rw [lk] at z
      cases z
/-- the properties -/
structure IPr (P : Program) (w : World) (K : PySem.W.Frag) (mg : Str → Option Value) (base : Heap) (CS CL : Addr) : Prop where
  nameS : ∃ p g fd, PropOf K CS "name" p g ∧ FnOk P w K mg base CXn 1 g fd ["self"] (getSp CS "_name") ∧ Binds K fd ["self"] []
  nameL : ∃ p g fd, PropOf K CL "name" p g ∧ FnOk P w K mg base CXn 1 g fd ["self"] (getSp CL "_name") ∧ Binds K fd ["self"] []
  postS : ∃ p g fd, PropOf K CS "post" p g ∧ FnOk P w K mg base CXn 1 g fd ["self"] (getSp CS "_post") ∧ Binds K fd ["self"] []
  postL : ∃ p g fd, PropOf K CL "post" p g ∧ FnOk P w K mg base CXn 1 g fd ["self"] (getSp CL "_post") ∧ Binds K fd ["self"] []
  costS : ∃ p g fd, PropOf K CS "cost" p g ∧ FnOk P w K mg base CXn 1 g fd ["self"] (getSp CS "_cost") ∧ Binds K fd ["self"] []
  costL : ∃ p g fd, PropOf K CL "cost" p g ∧ FnOk P w K mg base CXn 1 g fd ["self"] (getSp CL "_cost") ∧ Binds K fd ["self"] []
  sights : ∃ p g fd, PropOf K CS "sights" p g ∧ FnOk P w K mg base CXn 1 g fd ["self"] (spSights CS CL) ∧ Binds K fd ["self"] []
  wordsS : ∃ p g fd, PropOf K CS "words" p g ∧ FnOk P w K mg base CXn 1 g fd ["self"] (spWordsI false CS CL) ∧ Binds K fd ["self"] []
  wordsL : ∃ p g fd, PropOf K CL "words" p g ∧ FnOk P w K mg base CXn 1 g fd ["self"] (spWordsI true CS CL) ∧ Binds K fd ["self"] []
theorem name_or {CS CL : Addr} {H : Hp} {v : V} {r : Ins} {Q : VK} {σ : L2.St} {i : Nat} (hv : σ[i]? = some (some v)) (h : InsAt CS CL H v r) (q : Q (.str r.nm) H) :
    tProp CS (getSp CS "_name") [] En (tVar i) σ H Q ∨ tProp CL (getSp CL "_name") [] En (tVar i) σ H Q := by
  obtain ⟨a, dx, d, rfl, ⟨_, h1, _⟩ | ⟨_, h1, _⟩⟩ := h
  · exact .inr ⟨_, hv, a, dx, _, rfl, h1, a, dx, _, _, rfl, h1, lf1, q⟩
  · exact .inl ⟨_, hv, a, dx, _, rfl, h1, a, dx, _, _, rfl, h1, sf1, q⟩
theorem post_or {CS CL : Addr} {H : Hp} {v : V} {r : Ins} {Q : VK} {σ : L2.St} {i : Nat} (hv : σ[i]? = some (some v)) (h : InsAt CS CL H v r) (q : Q (.int r.po) H) :
    tProp CS (getSp CS "_post") [] En (tVar i) σ H Q ∨ tProp CL (getSp CL "_post") [] En (tVar i) σ H Q := by
  obtain ⟨a, dx, d, rfl, ⟨_, h1, _⟩ | ⟨_, h1, _⟩⟩ := h
  · exact .inr ⟨_, hv, a, dx, _, rfl, h1, a, dx, _, _, rfl, h1, lf2, q⟩
  · exact .inl ⟨_, hv, a, dx, _, rfl, h1, a, dx, _, _, rfl, h1, sf2, q⟩
theorem cost_or {CS CL : Addr} {H : Hp} {v : V} {r : Ins} {Q : VK} {σ : L2.St} {i : Nat} (hv : σ[i]? = some (some v)) (h : InsAt CS CL H v r) (q : Q (.int r.co) H) :
    tProp CS (getSp CS "_cost") [] En (tVar i) σ H Q ∨ tProp CL (getSp CL "_cost") [] En (tVar i) σ H Q := by
  obtain ⟨a, dx, d, rfl, ⟨_, h1, _⟩ | ⟨_, h1, _⟩⟩ := h
  · exact .inr ⟨_, hv, a, dx, _, rfl, h1, a, dx, _, _, rfl, h1, lf4, q⟩
  · exact .inl ⟨_, hv, a, dx, _, rfl, h1, a, dx, _, _, rfl, h1, sf4, q⟩
theorem words_or {CS CL : Addr} {H : Hp} {v : V} {r : Ins} {Q : VK} {σ : L2.St} {i : Nat} (hv : σ[i]? = some (some v)) (h : InsAt CS CL H v r) (ok : r.Ok) (q : ∀ (D : Addr) H', Ex H H' → H D = none → H' D = some (.lst ((sortS r.ws).map V.str)) → Q (.ref D) H') :
    tProp CS (spWordsI false CS CL) [] En (tVar i) σ H Q ∨ tProp CL (spWordsI true CS CL) [] En (tVar i) σ H Q := by
  have h0 := h
  obtain ⟨a, dx, d, rfl, ⟨lk, h1, _⟩ | ⟨lk, h1, _⟩⟩ := h
  · exact .inr ⟨_, hv, a, dx, _, rfl, h1, .ref a, r, rfl, h0, lk, ok, q⟩
  · exact .inl ⟨_, hv, a, dx, _, rfl, h1, .ref a, r, rfl, h0, lk, ok, q⟩
end
end WK

set_option Elab.async false
set_option linter.all false
set_option maxRecDepth 100000
set_option maxHeartbeats 4000000
namespace WK
open PySem PySem.Spec PyProof.Rows L2 WW Evl
/-- the same leaf, or two dicts that are alike; none of it is at p -/
def Dq (p : Addr) (H : Hp) (v u : V) : Prop := ∃ a b kvs, v = .ref a ∧ u = .ref b ∧ a ≠ p ∧ b ≠ p ∧ H a = some (.dK kvs) ∧ H b = some (.dK kvs) ∧ (kvs.map (·.1)).Nodup ∧ ∀ q ∈ kvs, flatB q.2 = true
def Rq (p : Addr) (H : Hp) (v u : V) : Prop := ∃ a b hs kv x, v = .ref a ∧ u = .ref b ∧ a ≠ p ∧ b ≠ p ∧ H a = some (rawD hs kv x a) ∧ H b = some (rawD hs kv x b) ∧ (kv = .non ∧ hs = hNone ∨ ∃ t, kv = .ref t) ∧ flatB x = true
def Lq (p : Addr) (H : Hp) (v u : V) : Prop := (v = u ∧ Lf v) ∨ Dq p H v u
/-- alike, n levels deep -/
def Alq (p : Addr) : Nat → Hp → V → V → Prop
  | 0, H, v, u => Lq p H v u
  | n + 1, H, v, u => Lq p H v u ∨ ∃ a b xs ys, v = .ref a ∧ u = .ref b ∧ a ≠ p ∧ b ≠ p ∧ ((H a = some (.lst xs) ∧ H b = some (.lst ys)) ∨ (H a = some (.tup xs) ∧ H b = some (.tup ys))) ∧ xs.length ≤ 1000 ∧ Paired (Alq p n H) xs ys
theorem Lq.keep {p : Addr} {H H' : Hp} {v u : V} (e : ∀ b o, b ≠ p → H b = some o → H' b = some o) (h : Lq p H v u) : Lq p H' v u :=
  h.imp id fun ⟨a, b, kvs, e1, e2, n1, n2, h1, h2, r⟩ => ⟨a, b, kvs, e1, e2, n1, n2, e _ _ n1 h1, e _ _ n2 h2, r⟩
theorem Rq.keep {p : Addr} {H H' : Hp} {v u : V} (e : ∀ b o, b ≠ p → H b = some o → H' b = some o) (h : Rq p H v u) : Rq p H' v u :=
  let ⟨a, b, hs, kv, x, e1, e2, n1, n2, h1, h2, r⟩ := h; ⟨a, b, hs, kv, x, e1, e2, n1, n2, e _ _ n1 h1, e _ _ n2 h2, r⟩
theorem Alq.keep {p : Addr} {H H' : Hp} (e : ∀ b o, b ≠ p → H b = some o → H' b = some o) : ∀ {n : Nat} {v u : V}, Alq p n H v u → Alq p n H' v u
  | 0, _, _, h => Lq.keep e h
  | n + 1, _, _, h => h.imp (Lq.keep e) fun ⟨a, b, xs, ys, e1, e2, n1, n2, h, l, p⟩ => ⟨a, b, xs, ys, e1, e2, n1, n2, h.imp (fun z => ⟨e _ _ n1 z.1, e _ _ n2 z.2⟩) (fun z => ⟨e _ _ n1 z.1, e _ _ n2 z.2⟩), l, Paired.mapP p fun _ _ q => Alq.keep e q⟩
theorem Alq.ex {p : Addr} {H H' : Hp} (e : Ex H H') {n : Nat} {v u : V} (h : Alq p n H v u) : Alq p n H' v u := h.keep fun b o _ z => e b o z
theorem Alq.kp {p : Addr} {H H' : Hp} (e : Kp p H H') {n : Nat} {v u : V} (h : Alq p n H v u) : Alq p n H' v u := h.keep e.k
theorem Alq.leaf {p : Addr} {H : Hp} {v : V} (h : Lf v) : ∀ n, Alq p n H v v
  | 0 => .inl ⟨rfl, h⟩
  | _ + 1 => .inl (.inl ⟨rfl, h⟩)
theorem Lq.pl {p : Addr} {H : Hp} {v u : V} (h : Lq p H v u) : Pl H v ∧ Pl H u ∧ isB v = isB u ∧ isL H v = false ∧ isL H u = false ∧ isT H v = false ∧ isT H u = false := by
  rcases h with ⟨rfl, h⟩ | ⟨a, b, kvs, rfl, rfl, _, _, h1, h2, _⟩
  · exact ⟨h.pl, h.pl, rfl, h.flat.1, h.flat.1, h.flat.2, h.flat.2⟩
  · exact ⟨.dct h1, .dct h2, rfl, isL_at h1, isL_at h2, isT_at h1, isT_at h2⟩
theorem scal_bl (a b : Bool) : scal (.bl a) (.bl b) = true := rfl
theorem prd_get {α β : Type} {F : α → β → Prop} {xs : List α} {ys : List β} (h : Paired F xs ys) {i : Nat} (hi : i < xs.length) : ∃ x y, xs[i]? = some x ∧ ys[i]? = some y ∧ F x y := by
  obtain ⟨y, hy, g⟩ := prd_at h (List.getElem?_eq_getElem hi)
  exact ⟨_, y, List.getElem?_eq_getElem hi, hy, g⟩
/-- alike, or two odd dicts that are -/
def AlR (p : Addr) (n : Nat) (H : Hp) (v u : V) : Prop := Alq p n H v u ∨ Rq p H v u
theorem AlR.ex {p : Addr} {H H' : Hp} (e : Ex H H') {n : Nat} {v u : V} (h : AlR p n H v u) : AlR p n H' v u := h.imp (Alq.ex e) (Rq.keep fun b o _ z => e b o z)
theorem AlR.kp {p : Addr} {H H' : Hp} (e : Kp p H H') {n : Nat} {v u : V} (h : AlR p n H v u) : AlR p n H' v u := h.imp (Alq.kp e) (Rq.keep e.k)
def spA : Nat → Sp
  | 0 => fun _ _ _ _ => False
  | n + 1 => fun vs H Q _ => ∃ pp v u, vs = [v, u] ∧ AlR pp n H v u ∧ ∀ H', Ex H H' → Q (.bl true) H'
section
variable {P : Program} {w : World} {K : PySem.W.Frag} {mg : Str → Option Value} {base : Heap} {f : Addr} {fd : FuncData}
abbrev s__law_alike : Stmt := top 31
theorem sc__law_alike : FnScope ["_law_one", "_law_other", "_law_at"] ["_law_one", "_law_other"] (defScope s__law_alike) := ⟨rfl, rfl, rfl, by decide +kernel, rfl, by decide +kernel, by decide +kernel⟩
theorem ok_alike0 (D : Df K mg "_law_alike" s__law_alike f fd ["_law_one", "_law_other"]) : Callee P w K mg base CXn 0 "_law_alike" 2 (spA 0) := by
  refine D.callee ⟨fun _ _ _ _ h => h.elim, fun _ _ _ _ _ _ _ _ _ _ _ _ _ h => h.elim⟩
theorem ok_alike (G : Gz mg) (D : Df K mg "_law_alike" s__law_alike f fd ["_law_one", "_law_other"]) (n : Nat) (c__law_alike : Callee P w K mg base CXn n "_law_alike" 2 (spA n)) : Callee P w K mg base CXn (n + 1) "_law_alike" 2 (spA (n + 1)) := by
  refine D.callee (D.fn.ok sc__law_alike (fun vs H Q E h => ?_) (fun cdv A outer s H vs Q E hr h => ⟨_, PSs.nox (pss_cons (ps_if (pt_cmpR op_ne (pe_callB (cr_or (isiK (K := K) rfl) call_isiR) rfl G.g_isinstance (by rfl) (pa_cons (pv 0) (pa_cons (pe_bltn (v := .ty "bool") rfl G.g_bool (by rfl) rfl) pa_nil))) (pe_callB (cr_or (isiK (K := K) rfl) call_isiR) rfl G.g_isinstance (by rfl) (pa_cons (pv 1) (pa_cons (pe_bltn (v := .ty "bool") rfl G.g_bool (by rfl) rfl) pa_nil))) (nomark _)) (pss_one (ps_ret pe_bl)) pss_nil) (pss_cons (ps_if (pt_val (pe_callB (cr_or call_isiT call_isiTR) rfl G.g_isinstance (by rfl) (pa_cons (pv 1) (pa_cons (pe_tup (pa_cons (pe_bltn (v := .ty "list") rfl G.g_list (by rfl) rfl) (pa_cons (pe_bltn (v := .ty "tuple") rfl G.g_tuple (by rfl) rfl) pa_nil))) pa_nil)))) (pss_cons (ps_if (PW.pt (pw_or (pt_cmpR op_ne (pe_callB (isiK (K := K) rfl) rfl G.g_isinstance (by rfl) (pa_cons (pv 0) (pa_cons (pe_bltn (v := .ty "list") rfl G.g_list (by rfl) rfl) pa_nil))) (pe_callB (isiK (K := K) rfl) rfl G.g_isinstance (by rfl) (pa_cons (pv 1) (pa_cons (pe_bltn (v := .ty "list") rfl G.g_list (by rfl) rfl) pa_nil))) (nomark _)) (pw_or1 (pt_cmpR op_ne (pe_callB (isiK (K := K) rfl) rfl G.g_isinstance (by rfl) (pa_cons (pv 0) (pa_cons (pe_bltn (v := .ty "tuple") rfl G.g_tuple (by rfl) rfl) pa_nil))) (pe_callB (isiK (K := K) rfl) rfl G.g_isinstance (by rfl) (pa_cons (pv 1) (pa_cons (pe_bltn (v := .ty "tuple") rfl G.g_tuple (by rfl) rfl) pa_nil))) (nomark _))))) (pss_one (ps_ret pe_bl)) pss_nil) (pss_cons (ps_if (pt_cmpR op_ne (pe_callB (lenK (K := K) rfl) rfl G.g_len PySem.boot_len (pa_cons (pv 0) pa_nil)) (pe_callB (lenK (K := K) rfl) rfl G.g_len PySem.boot_len (pa_cons (pv 1) pa_nil)) (nomark _)) (pss_one (ps_ret pe_bl)) pss_nil) (pss_one (ps_ret (pe_cmpR op_eq (pe_callB (lenK (K := K) rfl) rfl G.g_len PySem.boot_len (pa_cons (pe_lc (own := [("_law_at", 2)]) rfl sc__law_alike.nd (pi_range1 rfl G.g_range (pa_cons (pe_callB (lenK (K := K) rfl) rfl G.g_len PySem.boot_len (pa_cons (pv 1) pa_nil)) pa_nil)) (BlkOk.mk (N := ["_law_one", "_law_other", "_law_at"]) (sc := defScope s__law_alike) rfl (by decide +kernel) (by decide +kernel) (by decide +kernel) (by decide +kernel)) (fun _ _ _ _ _ => (pg_name (i := 2) sc__law_alike.nd rfl (Or.inl rfl))) (fun _ _ _ _ _ => (pts_one (pt_not (pt_val (pe_cl (E := En) c__law_alike (hr.mono (Nat.le_refl _)) rfl passN (pa_cons (pe_ix (ixK (K := K) rfl) (pv 0) (pv 2) (fun _ _ => rfl)) (pa_cons (pe_ix (ixK (K := K) rfl) (pv 1) (pv 2) (fun _ _ => rfl)) pa_nil))))))) (fun _ _ _ _ _ => (pv 2))) pa_nil)) pe_int (nomark _)))))) pss_nil) (pss_one (ps_ret (pe_cmpR (OpR.or (OpR.or op_eq (op_eq_dict hr.units0)) (op_eqR hr.units0)) (pv 0) (pv 1) (nomark _)))))), ?_⟩))
  · obtain ⟨_, _, _, rfl, _⟩ := h
    rfl
  · obtain ⟨pp, v, u, rfl, hal, k⟩ := h
    have nb : ∀ x : Bool, (!decide (V.bl x = V.bl x)) = false := fun x => by rw [decide_eq_true rfl]; rfl
    rcases hal with hal | ⟨a, b, hs, kv, x, rfl, rfl, na, nb', ha, hb, hk, fx⟩
    rotate_left
    · refine ⟨_, rfl, .inr ⟨a, hs, kv, x, .ty "bool", .type "bool", false, rfl, .ty _, ha, kit_ty (r := false) (by decide +kernel), ?_⟩⟩
      refine ⟨_, rfl, .inr ⟨b, hs, kv, x, .ty "bool", .type "bool", false, rfl, .ty _, hb, kit_ty (r := false) (by decide +kernel), rfl, false, (by rw [nb]), iteF ?_⟩⟩
      refine ⟨_, rfl, (by decide), fun p hp => ?_⟩
      have e1 : Ex H (upd H p (.tup [.ty "list", .ty "tuple"])) := Ex.new hp
      refine .inr ⟨b, hs, kv, x, p, _, [.type "list", .type "tuple"], false, rfl, upd_same, .cons (.ty _) (.cons (.ty _) .nil), e1 _ _ hb, ?_, _, rfl, iteF ?_⟩
      · exact kitAny_cons (kit_ty (r := false) (by decide +kernel)) (fun z => kitAny_cons (kit_ty (r := false) (by decide +kernel)) (fun z2 => rfl) (fun z2 => nomatch z2)) (fun z => nomatch z)
      · exact ⟨_, rfl, _, rfl, .inr ⟨a, b, hs, kv, x, rfl, rfl, e1 _ _ ha, e1 _ _ hb, hk, fx, k _ e1⟩⟩
    -- what both are
    have kinds : Pl H v ∧ Pl H u ∧ isB v = isB u ∧ isL H v = isL H u ∧ isT H v = isT H u := by
      have leaf : ∀ {v u : V}, Lq pp H v u → Pl H v ∧ Pl H u ∧ isB v = isB u ∧ isL H v = isL H u ∧ isT H v = isT H u := fun {v u} h => by
        obtain ⟨h1, h2, h3, h4, h5, h6, h7⟩ := h.pl
        exact ⟨h1, h2, h3, h4.trans h5.symm, h6.trans h7.symm⟩
      cases n with
      | zero => exact leaf hal
      | succ m =>
        rcases hal with h | ⟨a, b, xs, ys, rfl, rfl, _, _, ⟨ha, hb⟩ | ⟨ha, hb⟩, _⟩
        · exact leaf h
        · exact ⟨.lst ha, .lst hb, rfl, (isL_at ha).trans (isL_at hb).symm, (isT_at ha).trans (isT_at hb).symm⟩
        · exact ⟨.tup ha, .tup hb, rfl, (isL_at ha).trans (isL_at hb).symm, (isT_at ha).trans (isT_at hb).symm⟩
    obtain ⟨pv', pu', kb, kl, kt⟩ := kinds
    obtain ⟨t, g⟩ := pv'.kin (K := K)
    obtain ⟨t2, g2⟩ := pu'.kin (K := K)
    refine ⟨_, rfl, .inl ⟨v, .ty "bool", t, .type "bool", isB v, rfl, .ty _, g.ty, g.bool, ?_⟩⟩
    refine ⟨_, rfl, .inl ⟨u, .ty "bool", t2, .type "bool", isB u, rfl, .ty _, g2.ty, g2.bool, rfl, false, (by rw [kb, nb]), iteF ?_⟩⟩
    refine ⟨_, rfl, (by decide), fun p hp => ?_⟩
    have e1 : Ex H (upd H p (.tup [.ty "list", .ty "tuple"])) := Ex.new hp
    obtain ⟨t3, g3⟩ := (pu'.ex e1).kin (K := K)
    have same : isL (upd H p (.tup [.ty "list", .ty "tuple"])) u = isL H u ∧ isT (upd H p (.tup [.ty "list", .ty "tuple"])) u = isT H u := by
      cases pu' with
      | lst h => exact ⟨(isL_at (e1 _ _ h)).trans (isL_at h).symm, (isT_at (e1 _ _ h)).trans (isT_at h).symm⟩
      | tup h => exact ⟨(isL_at (e1 _ _ h)).trans (isL_at h).symm, (isT_at (e1 _ _ h)).trans (isT_at h).symm⟩
      | dct h => exact ⟨(isL_at (e1 _ _ h)).trans (isL_at h).symm, (isT_at (e1 _ _ h)).trans (isT_at h).symm⟩
      | _ => exact ⟨rfl, rfl⟩
    refine .inl ⟨u, p, _, t3, [.type "list", .type "tuple"], isL H u || isT H u, rfl, upd_same, .cons (.ty _) (.cons (.ty _) .nil), g3.ty, ?_, _, rfl, ?_⟩
    · rw [← same.1, ← same.2]
      exact kitAny_cons g3.list (fun z => by rw [z]; exact kitAny_cons g3.tuple (fun z2 => by rw [z2]; rfl) (fun z2 => by rw [z2]; rfl)) (fun z => by rw [z]; rfl)
    have leafEnd : ∀ {H1 : Hp} {v u : V}, Lq pp H1 v u → (∀ {Q : VK}, Q (.bl true) H1 → ((rEq v u H1 Q ∨ ∃ a b kvs, v = .ref a ∧ u = .ref b ∧ H1 a = some (.dK kvs) ∧ H1 b = some (.dK kvs) ∧ (kvs.map (·.1)).Nodup ∧ (∀ p ∈ kvs, flatB p.2 = true) ∧ Q (.bl true) H1) ∨ rEqR v u H1 Q)) := fun {H1 v u} h Q q => by
      rcases h with ⟨rfl, h⟩ | ⟨a, b, kvs, rfl, rfl, _, _, h1, h2, nd, fl⟩
      · refine .inl (.inl ⟨h.scal, ?_⟩)
        rw [decide_eq_true rfl]
        exact q
      · exact .inl (.inr ⟨a, b, kvs, rfl, rfl, h1, h2, nd, fl, q⟩)
    cases n with
    | zero =>
      obtain ⟨_, _, _, _, f1, _, f2⟩ := Lq.pl hal
      rw [f1, f2]
      refine iteF ?_
      exact ⟨_, rfl, _, rfl, leafEnd (Lq.keep (fun b o _ z => e1 b o z) hal) (k _ e1)⟩
    | succ m =>
      rcases hal with hal | ⟨a, b, xs, ys, rfl, rfl, _, _, hab, x1, pr⟩
      · obtain ⟨_, _, _, _, f1, _, f2⟩ := Lq.pl hal
        rw [f1, f2]
        refine iteF ?_
        exact ⟨_, rfl, _, rfl, leafEnd (Lq.keep (fun b o _ z => e1 b o z) hal) (k _ e1)⟩
      have xl := Paired.length pr
      have row : (isL H (.ref b) || isT H (.ref b)) = true := by
        rcases hab with ⟨_, hb⟩ | ⟨_, hb⟩
        · rw [show isL H (.ref b) = true from isL_at hb]; rfl
        · rw [show isL H (.ref b) = false from isL_at hb, show isT H (.ref b) = true from isT_at hb]; rfl
      rw [row]
      refine iteT ?_
      obtain ⟨tv, gv⟩ := (pv'.ex e1).kin (K := K)
      have samev : isL (upd H p (.tup [.ty "list", .ty "tuple"])) (.ref a) = isL (upd H p (.tup [.ty "list", .ty "tuple"])) (.ref b) ∧ isT (upd H p (.tup [.ty "list", .ty "tuple"])) (.ref a) = isT (upd H p (.tup [.ty "list", .ty "tuple"])) (.ref b) := by
        rcases hab with ⟨ha, hb⟩ | ⟨ha, hb⟩
        · exact ⟨(isL_at (e1 _ _ ha)).trans (isL_at (e1 _ _ hb)).symm, (isT_at (e1 _ _ ha)).trans (isT_at (e1 _ _ hb)).symm⟩
        · exact ⟨(isL_at (e1 _ _ ha)).trans (isL_at (e1 _ _ hb)).symm, (isT_at (e1 _ _ ha)).trans (isT_at (e1 _ _ hb)).symm⟩
      generalize hH1 : upd H p (.tup [.ty "list", .ty "tuple"]) = H1 at e1 gv g3 samev
      refine ⟨_, rfl, .ref a, .ty "list", tv, .type "list", isL H1 (.ref a), rfl, .ty _, gv.ty, gv.list, ?_⟩
      refine ⟨_, rfl, .ref b, .ty "list", t3, .type "list", isL H1 (.ref b), rfl, .ty _, g3.ty, g3.list, rfl, false, (by rw [samev.1, nb]), iteF ?_⟩
      refine ⟨_, rfl, .ref a, .ty "tuple", tv, .type "tuple", isT H1 (.ref a), rfl, .ty _, gv.ty, gv.tuple, ?_⟩
      refine ⟨_, rfl, .ref b, .ty "tuple", t3, .type "tuple", isT H1 (.ref b), rfl, .ty _, g3.ty, g3.tuple, rfl, false, (by rw [samev.2, nb]), iteF ?_⟩
      have la : ∀ {H' : Hp}, Ex H H' → LenV K (.ref a) H' xs.length := fun e => hab.elim (fun z => .inl ⟨xs, sq_of (e _ _ z.1), rfl⟩) (fun z => .inr ⟨xs, st_of (e _ _ z.1), rfl⟩)
      have lb : ∀ {H' : Hp}, Ex H H' → LenV K (.ref b) H' ys.length := fun e => hab.elim (fun z => .inl ⟨ys, sq_of (e _ _ z.2), rfl⟩) (fun z => .inr ⟨ys, st_of (e _ _ z.2), rfl⟩)
      refine ⟨_, rfl, .ref a, xs.length, rfl, la e1, _, rfl, .ref b, ys.length, rfl, lb e1, rfl, false, (by rw [xl, decide_eq_true rfl]; rfl), iteF ?_⟩
      refine ⟨_, rfl, .ref b, ys.length, rfl, lb e1, _, rfl, by omega, by omega, fun N hN => ?_⟩
      refine lc_ev (f := fun _ => false) (v := fun x => x) st_r (by rw [List.length_map, List.length_range]; omega) (fun x => rfl) hN (fun x hx H2 e2 Q q => ?_) (fun x hx _ H2 e2 Q q => ⟨_, rfl, q H2 (Ex.refl _)⟩) (fun H2 e2 hN2 => ?_)
      · obtain ⟨i, hi, rfl⟩ := List.mem_map.mp hx
        have hi2 : i < xs.length := by have := List.mem_range.mp hi; omega
        obtain ⟨x, y, hx', hy', g⟩ := prd_get pr hi2
        have E2 := e1.trans e2
        have atA : ∀ {R : VK}, R x H2 → rIx K (.ref a) (.int (0 + (i : Int))) H2 R := fun {R} q => hab.elim (fun z => .inl ⟨a, xs, _, x, rfl, rfl, sq_of (E2 _ _ z.1), at_of (j := i) (by omega) hx', q⟩) (fun z => .inr (.inl ⟨a, xs, _, x, rfl, rfl, st_of (E2 _ _ z.1), at_of (j := i) (by omega) hx', q⟩))
        have atB : ∀ {R : VK}, R y H2 → rIx K (.ref b) (.int (0 + (i : Int))) H2 R := fun {R} q => hab.elim (fun z => .inl ⟨b, ys, _, y, rfl, rfl, sq_of (E2 _ _ z.2), at_of (j := i) (by omega) hy', q⟩) (fun z => .inr (.inl ⟨b, ys, _, y, rfl, rfl, st_of (E2 _ _ z.2), at_of (j := i) (by omega) hy', q⟩))
        refine ⟨_, rfl, _, rfl, atA ⟨_, rfl, _, rfl, atB ?_⟩⟩
        exact ⟨pp, x, y, rfl, .inl (Alq.ex E2 g), fun H3 e3 => ⟨true, rfl, q H3 e3⟩⟩
      have e0 : ((((List.range (ys.length : Int).toNat).map fun (i : Nat) => V.int (0 + (i : Int))).filter fun _ => false).map fun x => x) = [] := by
        rw [List.filter_eq_nil_iff.mpr (fun _ _ => by decide)]
        rfl
      rw [e0] at hN2
      refine ⟨.ref N, 0, rfl, .inl ⟨_, sq_of hN2, rfl⟩, rfl, ?_⟩
      have q := k _ (e1.trans e2)
      rw [← decide_eq_true (p := V.int ((0 : Nat) : Int) = V.int 0) rfl] at q
      exact q
end
end WK

set_option Elab.async false
set_option linter.all false
set_option maxRecDepth 100000
set_option maxHeartbeats 4000000
/-! list(text). -/
namespace WW
open PySem PySem.Spec PyProof.Rows L2
/-- the letters, each a text -/
def ltrs (z : Str) : List V := z.cps.toList.map fun c => .str ⟨#[c]⟩
def rListTx : List V → Hp → VK → Prop := fun xs H Q => ∃ z : Str, xs = [.str z] ∧ z.length ≤ sizeLine ∧ ∀ p, H p = none → Q (.ref p) (upd H p (.lst (ltrs z)))
theorem call_listTx {X : Cx} (hc : X.calm = true) : CallR X (.type "list") rListTx := by
  intro pins s σ H xs us Q I r h
  obtain ⟨z, rfl, hz, q⟩ := h
  obtain ⟨u, rfl, rx⟩ := vals1 r
  obtain ⟨t, rfl⟩ := rx
  refine call_list_str (I.ok.hd hc) z t (hn := hz) fun h' tk acc' c' hk hS hacc => ?_
  refine ⟨.ref s.heap.objs.size, upd H s.heap.objs.size (.lst (ltrs z)), I.laid hk (Nat.le_refl _) (show ObjOk X.prog X.w _ _ _ (.lst (ltrs z)) from ⟨?_, acc'.toList, c', ?_, ?_⟩), rfl, q _ (I.hok.fresh (Nat.le_refl _))⟩
  · unfold ltrs
    rw [List.length_map, Array.length_toList]
    exact hz
  · refine vals_of_at ?_ fun j x w h1 h2 => ?_
    · unfold ltrs
      rw [List.length_map, Array.length_toList, Array.length_toList, hacc.1]
    · obtain ⟨c, u, hc2, rfl⟩ := hacc.2 j w (by rw [← Array.getElem?_toList]; exact h2)
      unfold ltrs at h1
      rw [List.getElem?_map, Array.getElem?_toList, hc2] at h1
      cases h1
      exact ⟨u, rfl⟩
  · rw [Array.toArray_toList]
    exact hS
end WW

set_option Elab.async false
set_option linter.all false
set_option maxRecDepth 100000
set_option maxHeartbeats 4000000
namespace WK
open PySem PySem.Spec PyProof.Rows L2 WW Evl
def shB : V → Bool | .str z => decide (z.length ≤ 1000) | _ => true
theorem sh_of {v : V} (h : shB v = true) : Sh v := fun z e => by subst e; exact of_decide_eq_true h
def lfB : V → Bool | .non => true | .bl _ => true | .int _ => true | .str _ => true | _ => false
theorem lf_of {v : V} (h : lfB v = true) : Lf v := by cases v <;> first | trivial | exact nomatch (show false = true from h)
/-- a wrong thing, that stays what it is -/
def Bd (p : Addr) (H : Hp) (v : V) : Prop := Pl H v ∧ Sh v ∧ Alq p 3 H v v
theorem Alq.np {p : Addr} {H : Hp} {n : Nat} {v u : V} (h : Alq p n H v u) : v ≠ .ref p := by
  have lq : Lq p H v u → v ≠ .ref p := fun h => by
    rcases h with ⟨rfl, hl⟩ | ⟨a, b, kvs, rfl, rfl, n1, _⟩
    · intro z
      rw [z] at hl
      exact hl
    · intro z
      exact n1 (V.ref.inj z)
  cases n with
  | zero => exact lq h
  | succ n =>
    rcases h with h | ⟨a, b, xs, ys, rfl, rfl, n1, _⟩
    · exact lq h
    · intro z
      exact n1 (V.ref.inj z)
theorem Pl.keep {p : Addr} {H H' : Hp} {v : V} (e : ∀ b o, b ≠ p → H b = some o → H' b = some o) (n : v ≠ .ref p) (h : Pl H v) : Pl H' v := by
  cases h with
  | non => exact .non
  | bl b => exact .bl b
  | int i => exact .int i
  | str z => exact .str z
  | lst h => exact .lst (e _ _ (fun z => n (by rw [z])) h)
  | tup h => exact .tup (e _ _ (fun z => n (by rw [z])) h)
  | dct h => exact .dct (e _ _ (fun z => n (by rw [z])) h)
theorem Bd.kp {p : Addr} {H H' : Hp} {v : V} (k : Kp p H H') (h : Bd p H v) : Bd p H' v := ⟨WK.Pl.keep k.k h.2.2.np h.1, h.2.1, h.2.2.kp k⟩
theorem Bd.ex {p : Addr} {H H' : Hp} {v : V} (e : Ex H H') (h : Bd p H v) : Bd p H' v := ⟨h.1.ex e, h.2.1, h.2.2.ex e⟩
theorem bd_leaf {p : Addr} {H : Hp} {v : V} (h : Lf v) (s : Sh v) : Bd p H v := ⟨h.pl, s, .leaf h 3⟩
theorem prd_self {α : Type} {R : α → α → Prop} : ∀ {xs : List α}, (∀ x ∈ xs, R x x) → Paired R xs xs
  | [], _ => .nil
  | x :: xs, h => .cons (h x List.mem_cons_self) (prd_self fun y hy => h y (List.mem_cons_of_mem _ hy))
theorem alq_lst {p a : Addr} {H : Hp} {xs : List V} (n : Nat) (ne : a ≠ p) (h : H a = some (.lst xs)) (l : xs.length ≤ 1000) (al : xs.all lfB = true) : Alq p (n + 1) H (.ref a) (.ref a) :=
  .inr ⟨a, a, xs, xs, rfl, rfl, ne, ne, .inl ⟨h, h⟩, l, prd_self fun x hx => .leaf (lf_of (List.all_eq_true.mp al x hx)) n⟩
theorem alq_tup {p a : Addr} {H : Hp} {xs : List V} (n : Nat) (ne : a ≠ p) (h : H a = some (.tup xs)) (l : xs.length ≤ 1000) (al : xs.all lfB = true) : Alq p (n + 1) H (.ref a) (.ref a) :=
  .inr ⟨a, a, xs, xs, rfl, rfl, ne, ne, .inr ⟨h, h⟩, l, prd_self fun x hx => .leaf (lf_of (List.all_eq_true.mp al x hx)) n⟩
theorem bd_lst {p a : Addr} {H : Hp} {xs : List V} (ne : a ≠ p) (h : H a = some (.lst xs)) (l : xs.length ≤ 1000) (al : xs.all lfB = true) : Bd p H (.ref a) := ⟨.lst h, (fun _ z => nomatch z), alq_lst 2 ne h l al⟩
theorem bd_tup {p a : Addr} {H : Hp} {xs : List V} (ne : a ≠ p) (h : H a = some (.tup xs)) (l : xs.length ≤ 1000) (al : xs.all lfB = true) : Bd p H (.ref a) := ⟨.tup h, (fun _ z => nomatch z), alq_tup 2 ne h l al⟩
theorem alq_emp {p a : Addr} {H : Hp} (n : Nat) (ne : a ≠ p) {kvs : List (Key × V)} (h : H a = some (.dK kvs)) (nd : (kvs.map (·.1)).Nodup) (fl : kvs.all (fun q => flatB q.2) = true) : Alq p n H (.ref a) (.ref a) := by
  have lq : Lq p H (.ref a) (.ref a) := .inr ⟨a, a, kvs, rfl, rfl, ne, ne, h, h, nd, fun q hq => List.all_eq_true.mp fl q hq⟩
  cases n with
  | zero => exact lq
  | succ n => exact .inl lq
section
variable {P : Program} {w : World} {K : PySem.W.Frag} {mg : Str → Option Value} {base : Heap} {f : Addr} {fd : FuncData}
def spBad (ok : V → Bool) : Sp := fun vs H Q _ => ∃ p, vs = [.ref p] ∧ Pool H p ∧ ∀ v H', Kp p H H' → Pool H' p → Bd p H' v → ok v = false → Q v H'
abbrev s__law_bad_head : Stmt := top 32
theorem sc__law_bad_head : FnScope ["_law_pool_here"] ["_law_pool_here"] (defScope s__law_bad_head) := ⟨rfl, rfl, rfl, by decide +kernel, rfl, by decide +kernel, by decide +kernel⟩
theorem ok_bad_head (G : Gz mg) (D : Df K mg "_law_bad_head" s__law_bad_head f fd ["_law_pool_here"]) (c__law_pick : Callee P w K mg base CXn 2 "_law_pick" 2 spPick) : Callee P w K mg base CXn 3 "_law_bad_head" 1 (spBad nmB) := by
  refine D.callee (D.fn.ok sc__law_bad_head (fun vs H Q E h => ?_) (fun cdv A outer s H vs Q E hr h => ⟨_, PSs.nox (pss_one (ps_ret (pe_cl (E := En) c__law_pick (hr.mono (by decide)) rfl passN (pa_cons (pv 0) (pa_cons (pe_lst (pa_cons pe_non (pa_cons pe_int (pa_cons pe_str (pa_cons pe_str (pa_cons pe_str (pa_cons pe_str (pa_cons (pe_tup (pa_cons pe_str pa_nil)) (pa_cons (pe_lst (pa_cons pe_str pa_nil)) (pa_cons pe_bl (pa_cons pe_str (pa_cons pe_str (pa_cons (pe_op op_pow pe_int pe_int) pa_nil))))))))))))) pa_nil))))), ?_⟩))
  · obtain ⟨_, rfl, _⟩ := h
    rfl
  · obtain ⟨p, rfl, hP, k⟩ := h
    refine ⟨_, rfl, ?_⟩
    refine ⟨(by show 1 ≤ sizeLine; decide), fun A1 a1 => ?_⟩
    have e1 : Ex H (upd H A1 (.tup [(.str "a")])) := Ex.new a1
    have g1 : (upd H A1 (.tup [(.str "a")])) A1 = some (.tup [(.str "a")]) := by first | exact upd_same | (rw [upd_ne (ne_of_none upd_same t1).symm]; exact upd_same)
    have n1 : A1 ≠ p := fun z => hP.here (z ▸ a1)
    generalize upd H A1 (.tup [(.str "a")]) = H1 at e1 g1
    have P1 := hP.ex e1
    have E1 : Ex H H1 := e1
    refine ⟨(by show 1 ≤ sizeLine; decide), fun A2 a2 => ?_⟩
    have e2 : Ex H1 (upd H1 A2 (.lst [(.str "a")])) := Ex.new a2
    have g2 : (upd H1 A2 (.lst [(.str "a")])) A2 = some (.lst [(.str "a")]) := by first | exact upd_same | (rw [upd_ne (ne_of_none upd_same t2).symm]; exact upd_same)
    have n2 : A2 ≠ p := fun z => P1.here (z ▸ a2)
    generalize upd H1 A2 (.lst [(.str "a")]) = H2 at e2 g2
    have P2 := P1.ex e2
    have E2 : Ex H H2 := E1.trans e2
    refine ⟨10, 30, rfl, rfl, ⟨by decide, by decide, by decide⟩, ?_⟩
    refine ⟨(by show 12 ≤ sizeLine; decide), fun M m => ?_⟩
    refine ⟨p, M, [(.non), (.int 0), (.str ""), (.str "A"), (.str "a b"), (.str "abcdefghijk"), (.ref A1), (.ref A2), (.bl true), (.str "a-b"), (.str "a1"), (.int (10 ^ (30 : Int).toNat))], rfl, P2.ex (Ex.new m), (fun z => P2.here (z ▸ m)), .inl upd_same, (by simp), (by show 12 ≤ 1000; decide), fun x H' hx K' P' => ?_⟩
    have L2 : Ex H2 (upd H2 M (.lst [(.non), (.int 0), (.str ""), (.str "A"), (.str "a b"), (.str "abcdefghijk"), (.ref A1), (.ref A2), (.bl true), (.str "a-b"), (.str "a1"), (.int (10 ^ (30 : Int).toNat))])) := Ex.new m
    have L1 : Ex H1 (upd H2 M (.lst [(.non), (.int 0), (.str ""), (.str "A"), (.str "a b"), (.str "abcdefghijk"), (.ref A1), (.ref A2), (.bl true), (.str "a-b"), (.str "a1"), (.int (10 ^ (30 : Int).toNat))])) := e2.trans L2
    have L0 : Ex H (upd H2 M (.lst [(.non), (.int 0), (.str ""), (.str "A"), (.str "a b"), (.str "abcdefghijk"), (.ref A1), (.ref A2), (.bl true), (.str "a-b"), (.str "a1"), (.int (10 ^ (30 : Int).toNat))])) := e1.trans L1
    have KK : Kp p H H' := (Kp.ex L0 hP).trans K'
    simp only [List.mem_cons, List.not_mem_nil, or_false] at hx
    rcases hx with rfl | rfl | rfl | rfl | rfl | rfl | rfl | rfl | rfl | rfl | rfl | rfl
    · exact k _ _ KK P' (bd_leaf trivial (sh_of (by decide +kernel))) (by decide +kernel)
    · exact k _ _ KK P' (bd_leaf trivial (sh_of (by decide +kernel))) (by decide +kernel)
    · exact k _ _ KK P' (bd_leaf trivial (sh_of (by decide +kernel))) (by decide +kernel)
    · exact k _ _ KK P' (bd_leaf trivial (sh_of (by decide +kernel))) (by decide +kernel)
    · exact k _ _ KK P' (bd_leaf trivial (sh_of (by decide +kernel))) (by decide +kernel)
    · exact k _ _ KK P' (bd_leaf trivial (sh_of (by decide +kernel))) (by decide +kernel)
    · exact k _ _ KK P' (bd_tup n1 (K'.k _ _ n1 (L1 _ _ g1)) (by decide) (by decide)) rfl
    · exact k _ _ KK P' (bd_lst n2 (K'.k _ _ n2 (L2 _ _ g2)) (by decide) (by decide)) rfl
    · exact k _ _ KK P' (bd_leaf trivial (sh_of (by decide +kernel))) (by decide +kernel)
    · exact k _ _ KK P' (bd_leaf trivial (sh_of (by decide +kernel))) (by decide +kernel)
    · exact k _ _ KK P' (bd_leaf trivial (sh_of (by decide +kernel))) (by decide +kernel)
    · exact k _ _ KK P' (bd_leaf trivial (sh_of (by decide +kernel))) (by decide +kernel)
abbrev s__law_bad_post : Stmt := top 33
theorem sc__law_bad_post : FnScope ["_law_pool_here"] ["_law_pool_here"] (defScope s__law_bad_post) := ⟨rfl, rfl, rfl, by decide +kernel, rfl, by decide +kernel, by decide +kernel⟩
theorem ok_bad_post (G : Gz mg) (D : Df K mg "_law_bad_post" s__law_bad_post f fd ["_law_pool_here"]) (c__law_pick : Callee P w K mg base CXn 2 "_law_pick" 2 spPick) : Callee P w K mg base CXn 3 "_law_bad_post" 1 (spBad (inB 2)) := by
  refine D.callee (D.fn.ok sc__law_bad_post (fun vs H Q E h => ?_) (fun cdv A outer s H vs Q E hr h => ⟨_, PSs.nox (pss_one (ps_ret (pe_cl (E := En) c__law_pick (hr.mono (by decide)) rfl passN (pa_cons (pv 0) (pa_cons (pe_lst (pa_cons pe_int (pa_cons (pe_un un_neg pe_int) (pa_cons pe_bl (pa_cons pe_bl (pa_cons pe_non (pa_cons pe_str (pa_cons (pe_tup (pa_cons pe_int pa_nil)) (pa_cons (pe_op op_pow pe_int pe_int) (pa_cons (pe_lst pa_nil) (pa_cons pe_str pa_nil))))))))))) pa_nil))))), ?_⟩))
  · obtain ⟨_, rfl, _⟩ := h
    rfl
  · obtain ⟨p, rfl, hP, k⟩ := h
    refine ⟨_, rfl, ?_⟩
    refine ⟨1, rfl, ?_⟩
    refine ⟨(by show 1 ≤ sizeLine; decide), fun A1 a1 => ?_⟩
    have e1 : Ex H (upd H A1 (.tup [(.int 0)])) := Ex.new a1
    have g1 : (upd H A1 (.tup [(.int 0)])) A1 = some (.tup [(.int 0)]) := by first | exact upd_same | (rw [upd_ne (ne_of_none upd_same t1).symm]; exact upd_same)
    have n1 : A1 ≠ p := fun z => hP.here (z ▸ a1)
    generalize upd H A1 (.tup [(.int 0)]) = H1 at e1 g1
    have P1 := hP.ex e1
    have E1 : Ex H H1 := e1
    refine ⟨10, 30, rfl, rfl, ⟨by decide, by decide, by decide⟩, ?_⟩
    refine ⟨Nat.zero_le _, fun A2 a2 => ?_⟩
    have e2 : Ex H1 (upd H1 A2 (.lst [])) := Ex.new a2
    have g2 : (upd H1 A2 (.lst [])) A2 = some (.lst []) := by first | exact upd_same | (rw [upd_ne (ne_of_none upd_same t2).symm]; exact upd_same)
    have n2 : A2 ≠ p := fun z => P1.here (z ▸ a2)
    generalize upd H1 A2 (.lst []) = H2 at e2 g2
    have P2 := P1.ex e2
    have E2 : Ex H H2 := E1.trans e2
    refine ⟨(by show 10 ≤ sizeLine; decide), fun M m => ?_⟩
    refine ⟨p, M, [(.int 2), (.int (-1)), (.bl true), (.bl false), (.non), (.str "0"), (.ref A1), (.int (10 ^ (30 : Int).toNat)), (.ref A2), (.str "both")], rfl, P2.ex (Ex.new m), (fun z => P2.here (z ▸ m)), .inl upd_same, (by simp), (by show 10 ≤ 1000; decide), fun x H' hx K' P' => ?_⟩
    have L2 : Ex H2 (upd H2 M (.lst [(.int 2), (.int (-1)), (.bl true), (.bl false), (.non), (.str "0"), (.ref A1), (.int (10 ^ (30 : Int).toNat)), (.ref A2), (.str "both")])) := Ex.new m
    have L1 : Ex H1 (upd H2 M (.lst [(.int 2), (.int (-1)), (.bl true), (.bl false), (.non), (.str "0"), (.ref A1), (.int (10 ^ (30 : Int).toNat)), (.ref A2), (.str "both")])) := e2.trans L2
    have L0 : Ex H (upd H2 M (.lst [(.int 2), (.int (-1)), (.bl true), (.bl false), (.non), (.str "0"), (.ref A1), (.int (10 ^ (30 : Int).toNat)), (.ref A2), (.str "both")])) := e1.trans L1
    have KK : Kp p H H' := (Kp.ex L0 hP).trans K'
    simp only [List.mem_cons, List.not_mem_nil, or_false] at hx
    rcases hx with rfl | rfl | rfl | rfl | rfl | rfl | rfl | rfl | rfl | rfl
    · exact k _ _ KK P' (bd_leaf trivial (sh_of (by decide +kernel))) (by decide +kernel)
    · exact k _ _ KK P' (bd_leaf trivial (sh_of (by decide +kernel))) (by decide +kernel)
    · exact k _ _ KK P' (bd_leaf trivial (sh_of (by decide +kernel))) (by decide +kernel)
    · exact k _ _ KK P' (bd_leaf trivial (sh_of (by decide +kernel))) (by decide +kernel)
    · exact k _ _ KK P' (bd_leaf trivial (sh_of (by decide +kernel))) (by decide +kernel)
    · exact k _ _ KK P' (bd_leaf trivial (sh_of (by decide +kernel))) (by decide +kernel)
    · exact k _ _ KK P' (bd_tup n1 (K'.k _ _ n1 (L1 _ _ g1)) (by decide) (by decide)) rfl
    · exact k _ _ KK P' (bd_leaf trivial (sh_of (by decide +kernel))) (by decide +kernel)
    · exact k _ _ KK P' (bd_lst n2 (K'.k _ _ n2 (L2 _ _ g2)) (by decide) (by decide)) rfl
    · exact k _ _ KK P' (bd_leaf trivial (sh_of (by decide +kernel))) (by decide +kernel)
abbrev s__law_bad_cost : Stmt := top 34
theorem sc__law_bad_cost : FnScope ["_law_pool_here"] ["_law_pool_here"] (defScope s__law_bad_cost) := ⟨rfl, rfl, rfl, by decide +kernel, rfl, by decide +kernel, by decide +kernel⟩
theorem ok_bad_cost (G : Gz mg) (D : Df K mg "_law_bad_cost" s__law_bad_cost f fd ["_law_pool_here"]) (c__law_pick : Callee P w K mg base CXn 2 "_law_pick" 2 spPick) : Callee P w K mg base CXn 3 "_law_bad_cost" 1 (spBad coB) := by
  refine D.callee (D.fn.ok sc__law_bad_cost (fun vs H Q E h => ?_) (fun cdv A outer s H vs Q E hr h => ⟨_, PSs.nox (pss_one (ps_ret (pe_cl (E := En) c__law_pick (hr.mono (by decide)) rfl passN (pa_cons (pv 0) (pa_cons (pe_lst (pa_cons pe_int (pa_cons pe_int (pa_cons pe_bl (pa_cons pe_non (pa_cons pe_str (pa_cons (pe_un un_neg pe_int) (pa_cons (pe_op op_pow pe_int pe_int) (pa_cons (pe_tup (pa_cons pe_int pa_nil)) (pa_cons (pe_lst (pa_cons pe_int pa_nil)) (pa_cons pe_dnewK pa_nil))))))))))) pa_nil))))), ?_⟩))
  · obtain ⟨_, rfl, _⟩ := h
    rfl
  · obtain ⟨p, rfl, hP, k⟩ := h
    refine ⟨_, rfl, ?_⟩
    refine ⟨5, rfl, ?_⟩
    refine ⟨10, 30, rfl, rfl, ⟨by decide, by decide, by decide⟩, ?_⟩
    refine ⟨(by show 1 ≤ sizeLine; decide), fun A1 a1 => ?_⟩
    have e1 : Ex H (upd H A1 (.tup [(.int 1)])) := Ex.new a1
    have g1 : (upd H A1 (.tup [(.int 1)])) A1 = some (.tup [(.int 1)]) := by first | exact upd_same | (rw [upd_ne (ne_of_none upd_same t1).symm]; exact upd_same)
    have n1 : A1 ≠ p := fun z => hP.here (z ▸ a1)
    generalize upd H A1 (.tup [(.int 1)]) = H1 at e1 g1
    have P1 := hP.ex e1
    have E1 : Ex H H1 := e1
    refine ⟨(by show 1 ≤ sizeLine; decide), fun A2 a2 => ?_⟩
    have e2 : Ex H1 (upd H1 A2 (.lst [(.int 1)])) := Ex.new a2
    have g2 : (upd H1 A2 (.lst [(.int 1)])) A2 = some (.lst [(.int 1)]) := by first | exact upd_same | (rw [upd_ne (ne_of_none upd_same t2).symm]; exact upd_same)
    have n2 : A2 ≠ p := fun z => P1.here (z ▸ a2)
    generalize upd H1 A2 (.lst [(.int 1)]) = H2 at e2 g2
    have P2 := P1.ex e2
    have E2 : Ex H H2 := E1.trans e2
    refine fun A3 a3 => ?_
    have e3 : Ex H2 (upd H2 A3 (.dK [])) := Ex.new a3
    have g3 : (upd H2 A3 (.dK [])) A3 = some (.dK []) := by first | exact upd_same | (rw [upd_ne (ne_of_none upd_same t3).symm]; exact upd_same)
    have n3 : A3 ≠ p := fun z => P2.here (z ▸ a3)
    generalize upd H2 A3 (.dK []) = H3 at e3 g3
    have P3 := P2.ex e3
    have E3 : Ex H H3 := E2.trans e3
    refine ⟨(by show 10 ≤ sizeLine; decide), fun M m => ?_⟩
    refine ⟨p, M, [(.int 0), (.int 1001), (.bl true), (.non), (.str "1"), (.int (-5)), (.int (10 ^ (30 : Int).toNat)), (.ref A1), (.ref A2), (.ref A3)], rfl, P3.ex (Ex.new m), (fun z => P3.here (z ▸ m)), .inl upd_same, (by simp), (by show 10 ≤ 1000; decide), fun x H' hx K' P' => ?_⟩
    have L3 : Ex H3 (upd H3 M (.lst [(.int 0), (.int 1001), (.bl true), (.non), (.str "1"), (.int (-5)), (.int (10 ^ (30 : Int).toNat)), (.ref A1), (.ref A2), (.ref A3)])) := Ex.new m
    have L2 : Ex H2 (upd H3 M (.lst [(.int 0), (.int 1001), (.bl true), (.non), (.str "1"), (.int (-5)), (.int (10 ^ (30 : Int).toNat)), (.ref A1), (.ref A2), (.ref A3)])) := e3.trans L3
    have L1 : Ex H1 (upd H3 M (.lst [(.int 0), (.int 1001), (.bl true), (.non), (.str "1"), (.int (-5)), (.int (10 ^ (30 : Int).toNat)), (.ref A1), (.ref A2), (.ref A3)])) := e2.trans L2
    have L0 : Ex H (upd H3 M (.lst [(.int 0), (.int 1001), (.bl true), (.non), (.str "1"), (.int (-5)), (.int (10 ^ (30 : Int).toNat)), (.ref A1), (.ref A2), (.ref A3)])) := e1.trans L1
    have KK : Kp p H H' := (Kp.ex L0 hP).trans K'
    simp only [List.mem_cons, List.not_mem_nil, or_false] at hx
    rcases hx with rfl | rfl | rfl | rfl | rfl | rfl | rfl | rfl | rfl | rfl
    · exact k _ _ KK P' (bd_leaf trivial (sh_of (by decide +kernel))) (by decide +kernel)
    · exact k _ _ KK P' (bd_leaf trivial (sh_of (by decide +kernel))) (by decide +kernel)
    · exact k _ _ KK P' (bd_leaf trivial (sh_of (by decide +kernel))) (by decide +kernel)
    · exact k _ _ KK P' (bd_leaf trivial (sh_of (by decide +kernel))) (by decide +kernel)
    · exact k _ _ KK P' (bd_leaf trivial (sh_of (by decide +kernel))) (by decide +kernel)
    · exact k _ _ KK P' (bd_leaf trivial (sh_of (by decide +kernel))) (by decide +kernel)
    · exact k _ _ KK P' (bd_leaf trivial (sh_of (by decide +kernel))) (by decide +kernel)
    · exact k _ _ KK P' (bd_tup n1 (K'.k _ _ n1 (L1 _ _ g1)) (by decide) (by decide)) rfl
    · exact k _ _ KK P' (bd_lst n2 (K'.k _ _ n2 (L2 _ _ g2)) (by decide) (by decide)) rfl
    · exact k _ _ KK P' ⟨.dct (K'.k _ _ n3 (L3 _ _ g3)), (fun _ z => nomatch z), alq_emp 3 n3 (K'.k _ _ n3 (L3 _ _ g3)) (by decide +kernel) (by decide)⟩ rfl
end
end WK

set_option Elab.async false
set_option linter.all false
set_option maxRecDepth 100000
set_option maxHeartbeats 4000000
namespace WK
open PySem PySem.Spec PyProof.Rows L2 WW Evl
theorem NoD.keep {p : Addr} {H H' : Hp} {v : V} (e : ∀ b o, b ≠ p → H b = some o → H' b = some o) (n : v ≠ .ref p) (h : NoD H v) : NoD H' v := by
  cases h with
  | non => exact .non
  | bl b => exact .bl b
  | int i => exact .int i
  | str z => exact .str z
  | lst h => exact .lst (e _ _ (fun z => n (by rw [z])) h)
  | tup h => exact .tup (e _ _ (fun z => n (by rw [z])) h)
/-- sights that are wrong, and stay what they are -/
def BdS (p : Addr) (H : Hp) (v : V) : Prop := (NoD H v ∧ Alq p 3 H v v) ∨
  (∃ D kvs, v = .ref D ∧ D ≠ p ∧ H D = some (.dK kvs) ∧ kvs.length ≤ 1000 ∧ Ask kvs ∧ tabB kvs = false ∧ (kvs.map (·.1)).Nodup ∧ ∀ q ∈ kvs, flatB q.2 = true) ∨
  ∃ D hs kv x, v = .ref D ∧ D ≠ p ∧ H D = some (rawD hs kv x D) ∧ OddK H kv ∧ (kv = .non ∧ hs = hNone ∨ ∃ t, kv = .ref t) ∧ flatB x = true
theorem BdS.kp {p : Addr} {H H' : Hp} {v : V} (hP : Pool H p) (k : Kp p H H') (h : BdS p H v) : BdS p H' v := by
  rcases h with ⟨nd, al⟩ | ⟨D, kvs, e, n, hD, r⟩ | ⟨D, hs, kv, x, e, n, hD, ok, r⟩
  · exact .inl ⟨nd.keep k.k al.np, al.kp k⟩
  · exact .inr (.inl ⟨D, kvs, e, n, k.k _ _ n hD, r⟩)
  · exact .inr (.inr ⟨D, hs, kv, x, e, n, k.k _ _ n hD, ok.imp id fun ⟨t, xs, z, ht⟩ => ⟨t, xs, z, (k.tu hP) _ _ ht⟩, r⟩)
theorem BdS.ex {p : Addr} {H H' : Hp} {v : V} (k : Ex H H') (h : BdS p H v) : BdS p H' v := by
  rcases h with ⟨nd, al⟩ | ⟨D, kvs, e, n, hD, r⟩ | ⟨D, hs, kv, x, e, n, hD, ok, r⟩
  · exact .inl ⟨nd.ex k, al.ex k⟩
  · exact .inr (.inl ⟨D, kvs, e, n, k _ _ hD, r⟩)
  · exact .inr (.inr ⟨D, hs, kv, x, e, n, k _ _ hD, WK.OddK.ex k ok, r⟩)
/-- words that are wrong, and stay what they are -/
def BdW (p : Addr) (H : Hp) (v : V) : Prop := WdIn H v false ∧ Alq p 3 H v v
theorem rowB_keep {p : Addr} {H H' : Hp} {v : V} {l m : Int} (e : ∀ b o, b ≠ p → H b = some o → H' b = some o) (n : v ≠ .ref p) (h : Pl H v) : rowB H' v l m = rowB H v l m := by
  have at_ : ∀ {a : Addr} {o : HO}, v = .ref a → H a = some o → rlen H' (.ref a) = rlen H (.ref a) := fun {a o} z h => (rlen_at (e _ _ (fun w => n (by rw [z, w])) h)).trans (rlen_at h).symm
  have go : rlen H' v = rlen H v := by
    cases h with
    | lst h => exact at_ rfl h
    | tup h => exact at_ rfl h
    | dct h => exact at_ rfl h
    | _ => rfl
  unfold rowB
  rw [go]
theorem Alq.items {p a : Addr} {H : Hp} {n : Nat} {u : V} {xs : List V} (h : Alq p (n + 1) H (.ref a) u) (sq : SqX H a xs) : ∀ x ∈ xs, x ≠ .ref p := by
  rcases h with (⟨_, z⟩ | ⟨b, c, kvs, e, _, _, _, h1, _⟩) | ⟨b, c, ys, zs, e, _, _, _, h1, _, pr⟩
  · exact z.elim
  · cases e
    rcases sq with z | z <;> (rw [z] at h1; cases h1)
  · cases e
    have ex : xs = ys := by
      rcases sq with z | z <;> rcases h1 with ⟨w, _⟩ | ⟨w, _⟩ <;> (rw [z] at w; cases w) <;> rfl
    subst ex
    intro x hx
    obtain ⟨i, hi⟩ := List.getElem?_of_mem hx
    obtain ⟨y, _, g⟩ := prd_at pr hi
    exact g.np
theorem BdW.kp {p : Addr} {H H' : Hp} {v : V} (k : Kp p H H') (h : BdW p H v) : BdW p H' v := by
  obtain ⟨wd, al⟩ := h
  refine ⟨?_, al.kp k⟩
  rcases wd with ⟨pl, r, z⟩ | ⟨a, xs, rfl, sq, l, m, h⟩
  · exact .inl ⟨WK.Pl.keep k.k al.np pl, by rw [rowB_keep k.k al.np pl]; exact r, z⟩
  · have na : a ≠ p := fun z => al.np (by rw [z])
    exact .inr ⟨a, xs, rfl, sq.imp (k.k _ _ na) (k.k _ _ na), l, m, h.imp (fun ⟨z, n, f⟩ => ⟨z, n, fun x hx => ⟨WK.Pl.keep k.k (al.items sq x hx) (f x hx).1, (f x hx).2⟩⟩) id⟩
theorem BdW.ex {p : Addr} {H H' : Hp} {v : V} (e : Ex H H') (h : BdW p H v) : BdW p H' v := ⟨h.1.ex e, h.2.ex e⟩
def askB (kvs : List (Key × V)) : Bool := kvs.all fun q => shB (kV q.1) && (lfB q.2 && shB q.2)
theorem ask_of {kvs : List (Key × V)} (h : askB kvs = true) : Ask kvs := fun q hq => by
  have := List.all_eq_true.mp h q hq
  rw [Bool.and_eq_true, Bool.and_eq_true] at this
  exact ⟨sh_of this.1, lf_of this.2.1, sh_of this.2.2⟩
theorem nm_ne {z : Str} (h : IsNm z) : z ≠ "A" := fun e => by
  have := h.2.2 65 (by rw [e]; decide +kernel)
  omega
theorem merge2 {z : Str} (h : IsNm z) : mergeK [] [((.inr z : Key), (.str "a" : V)), ((.inr "A" : Key), (.str "a" : V))] = [((.inr z : Key), (.str "a" : V)), ((.inr "A" : Key), (.str "a" : V))] := by
  show putK (putK [] (.inr z : Key) (.str "a" : V)) (.inr "A") (.str "a") = _
  rw [putK_new _ (show valV ([] : List (Key × V)) _ = none from rfl), putK_new _ (by rw [List.nil_append, valV_neg (fun e => nm_ne h (Sum.inr.inj e))]; rfl)]
  rfl
theorem nm_of {z : Str} (h : nmB (.str z) = true) : IsNm z := by
  rw [nmB_str, Bool.and_eq_true, Bool.and_eq_true, decide_eq_true_iff, decide_eq_true_iff, List.all_eq_true] at h
  refine ⟨by omega, by omega, fun c hc => ?_⟩
  have := h.2.2 c hc
  unfold ltB at this
  simpa using this
theorem ask2 {z : Str} (h : IsNm z) : Ask [((.inr z : Key), (.str "a" : V)), ((.inr "A" : Key), (.str "a" : V))] := fun q hq => by
  simp only [List.mem_cons, List.not_mem_nil, or_false] at hq
  rcases hq with rfl | rfl
  · exact ⟨nmz h, trivial, sh_of (show shB (.str "a") = true by decide +kernel)⟩
  · exact ⟨sh_of (show shB (.str "A") = true by decide +kernel), trivial, sh_of (show shB (.str "a") = true by decide +kernel)⟩
theorem tab2 {z : Str} : tabB [((.inr z : Key), (.str "a" : V)), ((.inr "A" : Key), (.str "a" : V))] = false := by
  have e : entB ((.inr "A" : Key), (.str "a" : V)) = false := by decide +kernel
  unfold tabB
  rw [List.all_cons, List.all_cons, e]
  simp
theorem nd2 {z : Str} (h : IsNm z) : (([((.inr z : Key), (.str "a" : V)), ((.inr "A" : Key), (.str "a" : V))] : List (Key × V)).map (·.1)).Nodup := by
  refine List.nodup_cons.mpr ⟨fun m => ?_, List.nodup_cons.mpr ⟨(by simp), List.nodup_nil⟩⟩
  rw [List.map_cons, List.map_nil, List.mem_singleton] at m
  exact nm_ne h (Sum.inr.inj m)
def acc11 (i : Nat) : List (Key × V) := (((Str.ofString "abcdefghijk").cps.toList.take i).foldl (fun k c => putK k (.inr (sg c)) (.str "a")) [])
theorem acc11_len : ∀ i : Fin 12, (acc11 i.1).length ≤ 11 := by decide +kernel
theorem acc11_suc {i c : Nat} (h : (Str.ofString "abcdefghijk").cps.toList[i]? = some c) : acc11 (i + 1) = putK (acc11 i) (.inr (sg c)) (.str "a") := by
  unfold acc11
  rw [List.take_add_one, h, List.foldl_append]
  rfl
section
variable {P : Program} {w : World} {K : PySem.W.Frag} {mg : Str → Option Value} {base : Heap} {f : Addr} {fd : FuncData}
def spBadV (R : Addr → Hp → V → Prop) : Sp := fun vs H Q _ => ∃ (p W : Addr) (z : Str) (zs : List Str), vs = [.ref p, .ref W] ∧ Pool H p ∧ W ≠ p ∧ H W = some (.lst ((z :: zs).map V.str)) ∧ IsNm z ∧ ∀ v H', Kp p H H' → Pool H' p → R p H' v → Q v H'
abbrev s__law_bad_sights : Stmt := top 35
theorem sc__law_bad_sights : FnScope ["_law_pool_here", "_law_words", "_law_more", "_law_letter"] ["_law_pool_here", "_law_words"] (defScope s__law_bad_sights) := ⟨rfl, rfl, rfl, by decide +kernel, rfl, by decide +kernel, by decide +kernel⟩
theorem ok_bad_sights (G : Gz mg) (D : Df K mg "_law_bad_sights" s__law_bad_sights f fd ["_law_pool_here", "_law_words"]) (c__law_pick : Callee P w K mg base CXn 2 "_law_pick" 2 spPick) : Callee P w K mg base CXn 3 "_law_bad_sights" 2 (spBadV BdS) := by
  refine D.callee (D.fn.ok sc__law_bad_sights (fun vs H Q E h => ?_) (fun cdv A outer s H vs Q E hr h => ⟨_, PSs.nox (pss_cons (ps_set (i := 2) sc__law_bad_sights.nd rfl (Or.inl rfl) pe_dnewK) (pss_cons (ps_for PassesOwn.never rfl (pi_str pe_str) (pg_name (i := 3) sc__law_bad_sights.nd rfl (Or.inl rfl)) (pss_one (ps_dput (room1 hr) (pv 2) (pv 3) pe_str rfl))) (pss_one (ps_ret (pe_cl (E := En) c__law_pick (hr.mono (by decide)) rfl passN (pa_cons (pv 0) (pa_cons (pe_lst (pa_cons pe_dnewK (pa_cons pe_non (pa_cons (pe_lst pa_nil) (pa_cons pe_str (pa_cons (pv 2) (pa_cons (pe_disp (pps_cons pe_str pe_str pps_nil) rfl rfl (List.cons_ne_nil _ _) (by decide)) (pa_cons (pe_disp (pps_cons pe_str pe_str pps_nil) rfl rfl (List.cons_ne_nil _ _) (by decide)) (pa_cons (pe_disp (pps_cons pe_str pe_non pps_nil) rfl rfl (List.cons_ne_nil _ _) (by decide)) (pa_cons (pe_disp (pps_cons pe_int pe_str pps_nil) rfl rfl (List.cons_ne_nil _ _) (by decide)) (pa_cons (pe_dispRT (room1 hr) (pps_cons (pe_tup (pa_cons pe_str pa_nil)) pe_str pps_nil) rfl) (pa_cons (pe_dispR0 (pps_cons pe_non pe_str pps_nil) rfl) (pa_cons (pe_disp (pps_cons pe_str pe_str pps_nil) rfl rfl (List.cons_ne_nil _ _) (by decide)) (pa_cons (pe_disp (pps_cons pe_str pe_str pps_nil) rfl rfl (List.cons_ne_nil _ _) (by decide)) (pa_cons (pe_disp (pps_cons pe_str pe_str pps_nil) rfl rfl (List.cons_ne_nil _ _) (by decide)) (pa_cons (pe_lst (pa_cons (pe_tup (pa_cons pe_str (pa_cons pe_str pa_nil))) pa_nil)) (pa_cons (pe_disp (pps_cons (pe_ix (ixK (K := K) rfl) (pv 1) pe_int (fun _ _ => rfl)) pe_str (pps_cons pe_str pe_str pps_nil)) rfl rfl (List.cons_ne_nil _ _) (by decide)) (pa_cons pe_bl (pa_cons pe_int pa_nil))))))))))))))))))) pa_nil))))))), ?_⟩))
  · obtain ⟨_, _, _, _, rfl, _⟩ := h
    rfl
  · obtain ⟨p, W, z, zs, rfl, hP, nW, hW, hz, k⟩ := h
    refine fun D hD => ?_
    have nD : D ≠ p := fun z => hP.here (z ▸ hD)
    have S : Steady (Its (Str.ofString "abcdefghijk")) H (chs (Str.ofString "abcdefghijk")) := st_s
    have l11 : (chs (Str.ofString "abcdefghijk")).length = 11 := by decide +kernel
    refine ⟨_, rfl, for_go (n := (chs (Str.ofString "abcdefghijk")).length) (fun i σ' H' => ∃ v3, σ' = [some (.ref p), some (.ref W), some (.ref D), v3] ∧ Ex H H' ∧ H' D = some (.dK (acc11 i)))
      ⟨none, rfl, Ex.new hD, upd_same⟩ (fun i σ' H' hi ⟨_, _, e, _⟩ => S.go i H' e hi) (fun σ' H' ⟨_, _, e, _⟩ => S.stop H' e) ?_ ?_⟩
    · rintro i σ' H' x H'' hi ⟨v3, rfl, e, hd⟩ y
      obtain ⟨rfl, hx⟩ := S.yld i H' x H'' e hi y
      rw [l11] at hi
      unfold chs at hx
      rw [List.getElem?_map] at hx
      obtain ⟨c, hc, rfl⟩ := Option.map_eq_some_iff.mp hx
      refine ⟨_, rfl, _, rfl, D, _, rfl, DPut.k (k := .inr (sg c)) hd (sz_lt (by have q : (acc11 i).length ≤ 11 := acc11_len ⟨i, by omega⟩; omega)), ?_⟩
      exact ⟨_, rfl, e.mut hD, by rw [upd_same, acc11_suc hc]⟩
    rintro σ' Hm ⟨v3, rfl, eM, hDm⟩
    rw [l11] at hDm
    have hPm : Pool Hm p := hP.ex eM
    have hWm := eM _ _ hW
    refine ⟨_, rfl, ?_⟩
    refine fun A1 a1 => ?_
    have e1 : Ex Hm (upd Hm A1 (.dK [])) := Ex.new a1
    have g1 : (upd Hm A1 (.dK [])) A1 = some (.dK []) := by first | exact upd_same | (rw [upd_ne (ne_of_none upd_same t1).symm]; exact upd_same)
    have n1 : A1 ≠ p := fun z => hPm.here (z ▸ a1)
    generalize upd Hm A1 (.dK []) = H1 at e1 g1
    have P1 := hPm.ex e1
    have E1 : Ex Hm H1 := e1
    refine ⟨Nat.zero_le _, fun A2 a2 => ?_⟩
    have e2 : Ex H1 (upd H1 A2 (.lst [])) := Ex.new a2
    have g2 : (upd H1 A2 (.lst [])) A2 = some (.lst []) := by first | exact upd_same | (rw [upd_ne (ne_of_none upd_same t2).symm]; exact upd_same)
    have n2 : A2 ≠ p := fun z => P1.here (z ▸ a2)
    generalize upd H1 A2 (.lst []) = H2 at e2 g2
    have P2 := P1.ex e2
    have E2 : Ex Hm H2 := E1.trans e2
    refine ⟨_, rfl, ?_⟩
    refine fun A3 a3 => ⟨upd_same, [((.inr "A" : Key), (.str "a" : V))], rfl, (by show 1 ≤ 15; decide), ?_⟩
    rw [show mergeK [] [((.inr "A" : Key), (.str "a" : V))] = [((.inr "A" : Key), (.str "a" : V))] from rfl]
    have e3 : Ex H2 (upd (upd H2 A3 (.dK [])) A3 (.dK [((.inr "A" : Key), (.str "a" : V))])) := (Ex.new a3).mut a3
    have g3 : (upd (upd H2 A3 (.dK [])) A3 (.dK [((.inr "A" : Key), (.str "a" : V))])) A3 = some (.dK [((.inr "A" : Key), (.str "a" : V))]) := by first | exact upd_same | (rw [upd_ne (ne_of_none upd_same t3).symm]; exact upd_same)
    have n3 : A3 ≠ p := fun z => P2.here (z ▸ a3)
    generalize upd (upd H2 A3 (.dK [])) A3 (.dK [((.inr "A" : Key), (.str "a" : V))]) = H3 at e3 g3
    have P3 := P2.ex e3
    have E3 : Ex Hm H3 := E2.trans e3
    refine fun A4 a4 => ⟨upd_same, [((.inr "a" : Key), (.str "A" : V))], rfl, (by show 1 ≤ 15; decide), ?_⟩
    rw [show mergeK [] [((.inr "a" : Key), (.str "A" : V))] = [((.inr "a" : Key), (.str "A" : V))] from rfl]
    have e4 : Ex H3 (upd (upd H3 A4 (.dK [])) A4 (.dK [((.inr "a" : Key), (.str "A" : V))])) := (Ex.new a4).mut a4
    have g4 : (upd (upd H3 A4 (.dK [])) A4 (.dK [((.inr "a" : Key), (.str "A" : V))])) A4 = some (.dK [((.inr "a" : Key), (.str "A" : V))]) := by first | exact upd_same | (rw [upd_ne (ne_of_none upd_same t4).symm]; exact upd_same)
    have n4 : A4 ≠ p := fun z => P3.here (z ▸ a4)
    generalize upd (upd H3 A4 (.dK [])) A4 (.dK [((.inr "a" : Key), (.str "A" : V))]) = H4 at e4 g4
    have P4 := P3.ex e4
    have E4 : Ex Hm H4 := E3.trans e4
    refine fun A5 a5 => ⟨upd_same, [((.inr "a" : Key), (.non : V))], rfl, (by show 1 ≤ 15; decide), ?_⟩
    rw [show mergeK [] [((.inr "a" : Key), (.non : V))] = [((.inr "a" : Key), (.non : V))] from rfl]
    have e5 : Ex H4 (upd (upd H4 A5 (.dK [])) A5 (.dK [((.inr "a" : Key), (.non : V))])) := (Ex.new a5).mut a5
    have g5 : (upd (upd H4 A5 (.dK [])) A5 (.dK [((.inr "a" : Key), (.non : V))])) A5 = some (.dK [((.inr "a" : Key), (.non : V))]) := by first | exact upd_same | (rw [upd_ne (ne_of_none upd_same t5).symm]; exact upd_same)
    have n5 : A5 ≠ p := fun z => P4.here (z ▸ a5)
    generalize upd (upd H4 A5 (.dK [])) A5 (.dK [((.inr "a" : Key), (.non : V))]) = H5 at e5 g5
    have P5 := P4.ex e5
    have E5 : Ex Hm H5 := E4.trans e5
    refine fun A6 a6 => ⟨upd_same, [((.inl 0 : Key), (.str "a" : V))], rfl, (by show 1 ≤ 15; decide), ?_⟩
    rw [show mergeK [] [((.inl 0 : Key), (.str "a" : V))] = [((.inl 0 : Key), (.str "a" : V))] from rfl]
    have e6 : Ex H5 (upd (upd H5 A6 (.dK [])) A6 (.dK [((.inl 0 : Key), (.str "a" : V))])) := (Ex.new a6).mut a6
    have g6 : (upd (upd H5 A6 (.dK [])) A6 (.dK [((.inl 0 : Key), (.str "a" : V))])) A6 = some (.dK [((.inl 0 : Key), (.str "a" : V))]) := by first | exact upd_same | (rw [upd_ne (ne_of_none upd_same t6).symm]; exact upd_same)
    have n6 : A6 ≠ p := fun z => P5.here (z ▸ a6)
    generalize upd (upd H5 A6 (.dK [])) A6 (.dK [((.inl 0 : Key), (.str "a" : V))]) = H6 at e6 g6
    have P6 := P5.ex e6
    have E6 : Ex Hm H6 := E5.trans e6
    refine fun A7 a7 => ⟨(by show 1 ≤ sizeLine; decide), fun T7 t7 => ⟨(by rw [upd_ne (ne_of_none upd_same t7)]; exact upd_same), T7, [.inr "a"], .str "a", rfl, upd_same, fun h7 => ?_⟩⟩
    have e7 : Ex H6 (upd (upd (upd H6 A7 (.dK [])) T7 (.tup [.str "a"])) A7 (rawD h7 (.ref T7) (.str "a") A7)) := ((Ex.new a7).trans (Ex.new t7)).mut a7
    have g7 : (upd (upd (upd H6 A7 (.dK [])) T7 (.tup [.str "a"])) A7 (rawD h7 (.ref T7) (.str "a") A7)) A7 = some (rawD h7 (.ref T7) (.str "a") A7) := by first | exact upd_same | (rw [upd_ne (ne_of_none upd_same t7).symm]; exact upd_same)
    have gt7 : (upd (upd (upd H6 A7 (.dK [])) T7 (.tup [.str "a"])) A7 (rawD h7 (.ref T7) (.str "a") A7)) T7 = some (.tup [.str "a"]) := by rw [upd_ne (ne_of_none upd_same t7).symm]; exact upd_same
    have n7 : A7 ≠ p := fun z => P6.here (z ▸ a7)
    generalize upd (upd (upd H6 A7 (.dK [])) T7 (.tup [.str "a"])) A7 (rawD h7 (.ref T7) (.str "a") A7) = H7 at e7 g7 gt7
    have P7 := P6.ex e7
    have E7 : Ex Hm H7 := E6.trans e7
    refine fun A8 a8 => ⟨upd_same, .str "a", rfl, ?_⟩
    have e8 : Ex H7 (upd (upd H7 A8 (.dK [])) A8 (rawD hNone .non (.str "a") A8)) := (Ex.new a8).mut a8
    have g8 : (upd (upd H7 A8 (.dK [])) A8 (rawD hNone .non (.str "a") A8)) A8 = some (rawD hNone .non (.str "a") A8) := by first | exact upd_same | (rw [upd_ne (ne_of_none upd_same t8).symm]; exact upd_same)
    have n8 : A8 ≠ p := fun z => P7.here (z ▸ a8)
    generalize upd (upd H7 A8 (.dK [])) A8 (rawD hNone .non (.str "a") A8) = H8 at e8 g8
    have P8 := P7.ex e8
    have E8 : Ex Hm H8 := E7.trans e8
    refine fun A9 a9 => ⟨upd_same, [((.inr "a" : Key), (.str "" : V))], rfl, (by show 1 ≤ 15; decide), ?_⟩
    rw [show mergeK [] [((.inr "a" : Key), (.str "" : V))] = [((.inr "a" : Key), (.str "" : V))] from rfl]
    have e9 : Ex H8 (upd (upd H8 A9 (.dK [])) A9 (.dK [((.inr "a" : Key), (.str "" : V))])) := (Ex.new a9).mut a9
    have g9 : (upd (upd H8 A9 (.dK [])) A9 (.dK [((.inr "a" : Key), (.str "" : V))])) A9 = some (.dK [((.inr "a" : Key), (.str "" : V))]) := by first | exact upd_same | (rw [upd_ne (ne_of_none upd_same t9).symm]; exact upd_same)
    have n9 : A9 ≠ p := fun z => P8.here (z ▸ a9)
    generalize upd (upd H8 A9 (.dK [])) A9 (.dK [((.inr "a" : Key), (.str "" : V))]) = H9 at e9 g9
    have P9 := P8.ex e9
    have E9 : Ex Hm H9 := E8.trans e9
    refine fun A10 a10 => ⟨upd_same, [((.inr "a" : Key), (.str "abcdefghijk" : V))], rfl, (by show 1 ≤ 15; decide), ?_⟩
    rw [show mergeK [] [((.inr "a" : Key), (.str "abcdefghijk" : V))] = [((.inr "a" : Key), (.str "abcdefghijk" : V))] from rfl]
    have e10 : Ex H9 (upd (upd H9 A10 (.dK [])) A10 (.dK [((.inr "a" : Key), (.str "abcdefghijk" : V))])) := (Ex.new a10).mut a10
    have g10 : (upd (upd H9 A10 (.dK [])) A10 (.dK [((.inr "a" : Key), (.str "abcdefghijk" : V))])) A10 = some (.dK [((.inr "a" : Key), (.str "abcdefghijk" : V))]) := by first | exact upd_same | (rw [upd_ne (ne_of_none upd_same t10).symm]; exact upd_same)
    have n10 : A10 ≠ p := fun z => P9.here (z ▸ a10)
    generalize upd (upd H9 A10 (.dK [])) A10 (.dK [((.inr "a" : Key), (.str "abcdefghijk" : V))]) = H10 at e10 g10
    have P10 := P9.ex e10
    have E10 : Ex Hm H10 := E9.trans e10
    refine fun A11 a11 => ⟨upd_same, [((.inr "" : Key), (.str "a" : V))], rfl, (by show 1 ≤ 15; decide), ?_⟩
    rw [show mergeK [] [((.inr "" : Key), (.str "a" : V))] = [((.inr "" : Key), (.str "a" : V))] from rfl]
    have e11 : Ex H10 (upd (upd H10 A11 (.dK [])) A11 (.dK [((.inr "" : Key), (.str "a" : V))])) := (Ex.new a11).mut a11
    have g11 : (upd (upd H10 A11 (.dK [])) A11 (.dK [((.inr "" : Key), (.str "a" : V))])) A11 = some (.dK [((.inr "" : Key), (.str "a" : V))]) := by first | exact upd_same | (rw [upd_ne (ne_of_none upd_same t11).symm]; exact upd_same)
    have n11 : A11 ≠ p := fun z => P10.here (z ▸ a11)
    generalize upd (upd H10 A11 (.dK [])) A11 (.dK [((.inr "" : Key), (.str "a" : V))]) = H11 at e11 g11
    have P11 := P10.ex e11
    have E11 : Ex Hm H11 := E10.trans e11
    refine ⟨(by show 2 ≤ sizeLine; decide), fun A12 a12 => ?_⟩
    have e12 : Ex H11 (upd H11 A12 (.tup [(.str "a"), (.str "b")])) := Ex.new a12
    have g12 : (upd H11 A12 (.tup [(.str "a"), (.str "b")])) A12 = some (.tup [(.str "a"), (.str "b")]) := by first | exact upd_same | (rw [upd_ne (ne_of_none upd_same t12).symm]; exact upd_same)
    have n12 : A12 ≠ p := fun z => P11.here (z ▸ a12)
    generalize upd H11 A12 (.tup [(.str "a"), (.str "b")]) = H12 at e12 g12
    have P12 := P11.ex e12
    have E12 : Ex Hm H12 := E11.trans e12
    refine ⟨(by show 1 ≤ sizeLine; decide), fun A13 a13 => ?_⟩
    have e13 : Ex H12 (upd H12 A13 (.lst [(.ref A12)])) := Ex.new a13
    have g13 : (upd H12 A13 (.lst [(.ref A12)])) A13 = some (.lst [(.ref A12)]) := by first | exact upd_same | (rw [upd_ne (ne_of_none upd_same t13).symm]; exact upd_same)
    have n13 : A13 ≠ p := fun z => P12.here (z ▸ a13)
    generalize upd H12 A13 (.lst [(.ref A12)]) = H13 at e13 g13
    have P13 := P12.ex e13
    have E13 : Ex Hm H13 := E12.trans e13
    refine fun A14 a14 => ?_
    refine ⟨_, rfl, .inl ⟨W, _, 0, .str z, rfl, rfl, sq_of (((E13).trans (Ex.new a14)) _ _ hWm), (show atI ((z :: zs).map V.str) ((0 : Nat) : Int) = some (.str z) from atI_nat rfl), ?_⟩⟩
    refine ⟨upd_same, [((.inr z : Key), (.str "a" : V)), ((.inr "A" : Key), (.str "a" : V))], rfl, (by show 2 ≤ 15; decide), ?_⟩
    rw [show mergeK [] [((.inr z : Key), (.str "a" : V)), ((.inr "A" : Key), (.str "a" : V))] = [((.inr z : Key), (.str "a" : V)), ((.inr "A" : Key), (.str "a" : V))] from merge2 hz]
    have e14 : Ex H13 (upd (upd H13 A14 (.dK [])) A14 (.dK [((.inr z : Key), (.str "a" : V)), ((.inr "A" : Key), (.str "a" : V))])) := (Ex.new a14).mut a14
    have g14 : (upd (upd H13 A14 (.dK [])) A14 (.dK [((.inr z : Key), (.str "a" : V)), ((.inr "A" : Key), (.str "a" : V))])) A14 = some (.dK [((.inr z : Key), (.str "a" : V)), ((.inr "A" : Key), (.str "a" : V))]) := by first | exact upd_same | (rw [upd_ne (ne_of_none upd_same t14).symm]; exact upd_same)
    have n14 : A14 ≠ p := fun z => P13.here (z ▸ a14)
    generalize upd (upd H13 A14 (.dK [])) A14 (.dK [((.inr z : Key), (.str "a" : V)), ((.inr "A" : Key), (.str "a" : V))]) = H14 at e14 g14
    have P14 := P13.ex e14
    have E14 : Ex Hm H14 := E13.trans e14
    refine ⟨(by show 18 ≤ sizeLine; decide), fun M m => ?_⟩
    refine ⟨p, M, [(.ref A1), (.non), (.ref A2), (.str "a"), (.ref D), (.ref A3), (.ref A4), (.ref A5), (.ref A6), (.ref A7), (.ref A8), (.ref A9), (.ref A10), (.ref A11), (.ref A13), (.ref A14), (.bl true), (.int 0)], rfl, P14.ex (Ex.new m), (fun z => P14.here (z ▸ m)), .inl upd_same, (by simp), (by show 18 ≤ 1000; decide), fun x H' hx K' P' => ?_⟩
    have L14 : Ex H14 (upd H14 M (.lst [(.ref A1), (.non), (.ref A2), (.str "a"), (.ref D), (.ref A3), (.ref A4), (.ref A5), (.ref A6), (.ref A7), (.ref A8), (.ref A9), (.ref A10), (.ref A11), (.ref A13), (.ref A14), (.bl true), (.int 0)])) := Ex.new m
    have L13 : Ex H13 (upd H14 M (.lst [(.ref A1), (.non), (.ref A2), (.str "a"), (.ref D), (.ref A3), (.ref A4), (.ref A5), (.ref A6), (.ref A7), (.ref A8), (.ref A9), (.ref A10), (.ref A11), (.ref A13), (.ref A14), (.bl true), (.int 0)])) := e14.trans L14
    have L12 : Ex H12 (upd H14 M (.lst [(.ref A1), (.non), (.ref A2), (.str "a"), (.ref D), (.ref A3), (.ref A4), (.ref A5), (.ref A6), (.ref A7), (.ref A8), (.ref A9), (.ref A10), (.ref A11), (.ref A13), (.ref A14), (.bl true), (.int 0)])) := e13.trans L13
    have L11 : Ex H11 (upd H14 M (.lst [(.ref A1), (.non), (.ref A2), (.str "a"), (.ref D), (.ref A3), (.ref A4), (.ref A5), (.ref A6), (.ref A7), (.ref A8), (.ref A9), (.ref A10), (.ref A11), (.ref A13), (.ref A14), (.bl true), (.int 0)])) := e12.trans L12
    have L10 : Ex H10 (upd H14 M (.lst [(.ref A1), (.non), (.ref A2), (.str "a"), (.ref D), (.ref A3), (.ref A4), (.ref A5), (.ref A6), (.ref A7), (.ref A8), (.ref A9), (.ref A10), (.ref A11), (.ref A13), (.ref A14), (.bl true), (.int 0)])) := e11.trans L11
    have L9 : Ex H9 (upd H14 M (.lst [(.ref A1), (.non), (.ref A2), (.str "a"), (.ref D), (.ref A3), (.ref A4), (.ref A5), (.ref A6), (.ref A7), (.ref A8), (.ref A9), (.ref A10), (.ref A11), (.ref A13), (.ref A14), (.bl true), (.int 0)])) := e10.trans L10
    have L8 : Ex H8 (upd H14 M (.lst [(.ref A1), (.non), (.ref A2), (.str "a"), (.ref D), (.ref A3), (.ref A4), (.ref A5), (.ref A6), (.ref A7), (.ref A8), (.ref A9), (.ref A10), (.ref A11), (.ref A13), (.ref A14), (.bl true), (.int 0)])) := e9.trans L9
    have L7 : Ex H7 (upd H14 M (.lst [(.ref A1), (.non), (.ref A2), (.str "a"), (.ref D), (.ref A3), (.ref A4), (.ref A5), (.ref A6), (.ref A7), (.ref A8), (.ref A9), (.ref A10), (.ref A11), (.ref A13), (.ref A14), (.bl true), (.int 0)])) := e8.trans L8
    have L6 : Ex H6 (upd H14 M (.lst [(.ref A1), (.non), (.ref A2), (.str "a"), (.ref D), (.ref A3), (.ref A4), (.ref A5), (.ref A6), (.ref A7), (.ref A8), (.ref A9), (.ref A10), (.ref A11), (.ref A13), (.ref A14), (.bl true), (.int 0)])) := e7.trans L7
    have L5 : Ex H5 (upd H14 M (.lst [(.ref A1), (.non), (.ref A2), (.str "a"), (.ref D), (.ref A3), (.ref A4), (.ref A5), (.ref A6), (.ref A7), (.ref A8), (.ref A9), (.ref A10), (.ref A11), (.ref A13), (.ref A14), (.bl true), (.int 0)])) := e6.trans L6
    have L4 : Ex H4 (upd H14 M (.lst [(.ref A1), (.non), (.ref A2), (.str "a"), (.ref D), (.ref A3), (.ref A4), (.ref A5), (.ref A6), (.ref A7), (.ref A8), (.ref A9), (.ref A10), (.ref A11), (.ref A13), (.ref A14), (.bl true), (.int 0)])) := e5.trans L5
    have L3 : Ex H3 (upd H14 M (.lst [(.ref A1), (.non), (.ref A2), (.str "a"), (.ref D), (.ref A3), (.ref A4), (.ref A5), (.ref A6), (.ref A7), (.ref A8), (.ref A9), (.ref A10), (.ref A11), (.ref A13), (.ref A14), (.bl true), (.int 0)])) := e4.trans L4
    have L2 : Ex H2 (upd H14 M (.lst [(.ref A1), (.non), (.ref A2), (.str "a"), (.ref D), (.ref A3), (.ref A4), (.ref A5), (.ref A6), (.ref A7), (.ref A8), (.ref A9), (.ref A10), (.ref A11), (.ref A13), (.ref A14), (.bl true), (.int 0)])) := e3.trans L3
    have L1 : Ex H1 (upd H14 M (.lst [(.ref A1), (.non), (.ref A2), (.str "a"), (.ref D), (.ref A3), (.ref A4), (.ref A5), (.ref A6), (.ref A7), (.ref A8), (.ref A9), (.ref A10), (.ref A11), (.ref A13), (.ref A14), (.bl true), (.int 0)])) := e2.trans L2
    have L0 : Ex Hm (upd H14 M (.lst [(.ref A1), (.non), (.ref A2), (.str "a"), (.ref D), (.ref A3), (.ref A4), (.ref A5), (.ref A6), (.ref A7), (.ref A8), (.ref A9), (.ref A10), (.ref A11), (.ref A13), (.ref A14), (.bl true), (.int 0)])) := e1.trans L1
    have KK : Kp p Hm H' := (Kp.ex L0 hPm).trans K'
    have PM : Pool (upd H14 M (.lst [(.ref A1), (.non), (.ref A2), (.str "a"), (.ref D), (.ref A3), (.ref A4), (.ref A5), (.ref A6), (.ref A7), (.ref A8), (.ref A9), (.ref A10), (.ref A11), (.ref A13), (.ref A14), (.bl true), (.int 0)])) p := P14.ex (Ex.new m)
    simp only [List.mem_cons, List.not_mem_nil, or_false] at hx
    have K0 : Kp p H H' := (Kp.ex eM hP).trans KK
    refine k _ _ K0 P' ?_
    rcases hx with rfl | rfl | rfl | rfl | rfl | rfl | rfl | rfl | rfl | rfl | rfl | rfl | rfl | rfl | rfl | rfl | rfl | rfl
    · exact .inr (.inl ⟨_, _, rfl, n1, (K'.k _ _ n1 (L1 _ _ g1)), by decide, ask_of (by decide +kernel), by decide +kernel, by decide +kernel, fun q hq => List.all_eq_true.mp (by decide : ([] : List (Key × V)).all (fun q => flatB q.2) = true) q hq⟩)
    · exact .inl ⟨Lf.nod trivial, Alq.leaf (v := .non) trivial 3⟩
    · exact .inl ⟨.lst (K'.k _ _ n2 (L2 _ _ g2)), alq_lst 2 n2 (K'.k _ _ n2 (L2 _ _ g2)) (by decide) (by rfl)⟩
    · exact .inl ⟨Lf.nod trivial, Alq.leaf (v := .str "a") trivial 3⟩
    · exact .inr (.inl ⟨_, _, rfl, nD, (K'.k _ _ nD (L0 _ _ hDm)), by decide +kernel, ask_of (by decide +kernel), by decide +kernel, by decide +kernel, fun q hq => List.all_eq_true.mp (by decide +kernel : (acc11 11).all (fun q => flatB q.2) = true) q hq⟩)
    · exact .inr (.inl ⟨_, _, rfl, n3, (K'.k _ _ n3 (L3 _ _ g3)), by decide, ask_of (by decide +kernel), by decide +kernel, by decide +kernel, fun q hq => List.all_eq_true.mp (by decide : ([((.inr "A" : Key), (.str "a" : V))] : List (Key × V)).all (fun q => flatB q.2) = true) q hq⟩)
    · exact .inr (.inl ⟨_, _, rfl, n4, (K'.k _ _ n4 (L4 _ _ g4)), by decide, ask_of (by decide +kernel), by decide +kernel, by decide +kernel, fun q hq => List.all_eq_true.mp (by decide : ([((.inr "a" : Key), (.str "A" : V))] : List (Key × V)).all (fun q => flatB q.2) = true) q hq⟩)
    · exact .inr (.inl ⟨_, _, rfl, n5, (K'.k _ _ n5 (L5 _ _ g5)), by decide, ask_of (by decide +kernel), by decide +kernel, by decide +kernel, fun q hq => List.all_eq_true.mp (by decide : ([((.inr "a" : Key), (.non : V))] : List (Key × V)).all (fun q => flatB q.2) = true) q hq⟩)
    · exact .inr (.inl ⟨_, _, rfl, n6, (K'.k _ _ n6 (L6 _ _ g6)), by decide, ask_of (by decide +kernel), by decide +kernel, by decide +kernel, fun q hq => List.all_eq_true.mp (by decide : ([((.inl 0 : Key), (.str "a" : V))] : List (Key × V)).all (fun q => flatB q.2) = true) q hq⟩)
    · exact .inr (.inr ⟨_, _, .ref T7, .str "a", rfl, n7, (K'.k _ _ n7 (L7 _ _ g7)), .inr ⟨T7, _, rfl, (K'.tu PM) _ _ (L7 _ _ gt7)⟩, .inr ⟨T7, rfl⟩, rfl⟩)
    · exact .inr (.inr ⟨_, hNone, .non, .str "a", rfl, n8, (K'.k _ _ n8 (L8 _ _ g8)), .inl rfl, .inl ⟨rfl, rfl⟩, rfl⟩)
    · exact .inr (.inl ⟨_, _, rfl, n9, (K'.k _ _ n9 (L9 _ _ g9)), by decide, ask_of (by decide +kernel), by decide +kernel, by decide +kernel, fun q hq => List.all_eq_true.mp (by decide : ([((.inr "a" : Key), (.str "" : V))] : List (Key × V)).all (fun q => flatB q.2) = true) q hq⟩)
    · exact .inr (.inl ⟨_, _, rfl, n10, (K'.k _ _ n10 (L10 _ _ g10)), by decide, ask_of (by decide +kernel), by decide +kernel, by decide +kernel, fun q hq => List.all_eq_true.mp (by decide : ([((.inr "a" : Key), (.str "abcdefghijk" : V))] : List (Key × V)).all (fun q => flatB q.2) = true) q hq⟩)
    · exact .inr (.inl ⟨_, _, rfl, n11, (K'.k _ _ n11 (L11 _ _ g11)), by decide, ask_of (by decide +kernel), by decide +kernel, by decide +kernel, fun q hq => List.all_eq_true.mp (by decide : ([((.inr "" : Key), (.str "a" : V))] : List (Key × V)).all (fun q => flatB q.2) = true) q hq⟩)
    · exact .inl ⟨.lst (K'.k _ _ n13 (L13 _ _ g13)), .inr ⟨_, _, _, _, rfl, rfl, n13, n13, .inl ⟨(K'.k _ _ n13 (L13 _ _ g13)), (K'.k _ _ n13 (L13 _ _ g13))⟩, by simp, .cons (alq_tup 1 n12 (K'.k _ _ n12 (L12 _ _ g12)) (by decide) (by rfl)) .nil⟩⟩
    · exact .inr (.inl ⟨_, _, rfl, n14, (K'.k _ _ n14 (L14 _ _ g14)), by simp, ask2 hz, tab2, nd2 hz, fun q hq => List.all_eq_true.mp (by rfl : ([((.inr z : Key), (.str "a" : V)), ((.inr "A" : Key), (.str "a" : V))] : List (Key × V)).all (fun q => flatB q.2) = true) q hq⟩)
    · exact .inl ⟨Lf.nod trivial, Alq.leaf (v := .bl true) trivial 3⟩
    · exact .inl ⟨Lf.nod trivial, Alq.leaf (v := .int 0) trivial 3⟩
abbrev s__law_bad_words : Stmt := top 36
theorem sc__law_bad_words : FnScope ["_law_pool_here", "_law_words"] ["_law_pool_here", "_law_words"] (defScope s__law_bad_words) := ⟨rfl, rfl, rfl, by decide +kernel, rfl, by decide +kernel, by decide +kernel⟩
theorem ok_bad_words (G : Gz mg) (D : Df K mg "_law_bad_words" s__law_bad_words f fd ["_law_pool_here", "_law_words"]) (c__law_pick : Callee P w K mg base CXn 2 "_law_pick" 2 spPick) : Callee P w K mg base CXn 3 "_law_bad_words" 2 (spBadV BdW) := by
  refine D.callee (D.fn.ok sc__law_bad_words (fun vs H Q E h => ?_) (fun cdv A outer s H vs Q E hr h => ⟨_, PSs.nox (pss_one (ps_ret (pe_cl (E := En) c__law_pick (hr.mono (by decide)) rfl passN (pa_cons (pv 0) (pa_cons (pe_lst (pa_cons (pe_lst pa_nil) (pa_cons (pe_tup pa_nil) (pa_cons pe_non (pa_cons pe_str (pa_cons (pe_callTy (call_listTx rfl) rfl G.g_list (by rfl) (pa_cons pe_str pa_nil)) (pa_cons (pe_lst (pa_cons pe_str pa_nil)) (pa_cons (pe_lst (pa_cons pe_int pa_nil)) (pa_cons (pe_lst (pa_cons pe_str (pa_cons pe_non pa_nil))) (pa_cons (pe_lst (pa_cons (pe_ix (ixK (K := K) rfl) (pv 1) pe_int (fun _ _ => rfl)) (pa_cons (pe_ix (ixK (K := K) rfl) (pv 1) pe_int (fun _ _ => rfl)) pa_nil))) (pa_cons (pe_tup (pa_cons pe_str (pa_cons pe_str (pa_cons pe_str pa_nil)))) (pa_cons (pe_disp (pps_cons pe_str pe_str pps_nil) rfl rfl (List.cons_ne_nil _ _) (by decide)) (pa_cons (pe_lst (pa_cons pe_str (pa_cons (pe_tup (pa_cons pe_str pa_nil)) pa_nil))) (pa_cons (pe_lst (pa_cons pe_str pa_nil)) (pa_cons (pe_lst (pa_cons pe_str pa_nil)) (pa_cons pe_bl (pa_cons pe_int (pa_cons (pe_lst (pa_cons pe_bl pa_nil)) (pa_cons (pe_lst (pa_cons pe_str (pa_cons pe_str pa_nil))) pa_nil))))))))))))))))))) pa_nil))))), ?_⟩))
  · obtain ⟨_, _, _, _, rfl, _⟩ := h
    rfl
  · obtain ⟨p, W, z, zs, rfl, hP, nW, hW, hz, k⟩ := h
    refine ⟨_, rfl, ?_⟩
    refine ⟨Nat.zero_le _, fun A1 a1 => ?_⟩
    have e1 : Ex H (upd H A1 (.lst [])) := Ex.new a1
    have g1 : (upd H A1 (.lst [])) A1 = some (.lst []) := by first | exact upd_same | (rw [upd_ne (ne_of_none upd_same t1).symm]; exact upd_same)
    have n1 : A1 ≠ p := fun z => hP.here (z ▸ a1)
    generalize upd H A1 (.lst []) = H1 at e1 g1
    have P1 := hP.ex e1
    have E1 : Ex H H1 := e1
    refine ⟨Nat.zero_le _, fun A2 a2 => ?_⟩
    have e2 : Ex H1 (upd H1 A2 (.tup [])) := Ex.new a2
    have g2 : (upd H1 A2 (.tup [])) A2 = some (.tup []) := by first | exact upd_same | (rw [upd_ne (ne_of_none upd_same t2).symm]; exact upd_same)
    have n2 : A2 ≠ p := fun z => P1.here (z ▸ a2)
    generalize upd H1 A2 (.tup []) = H2 at e2 g2
    have P2 := P1.ex e2
    have E2 : Ex H H2 := E1.trans e2
    refine ⟨_, rfl, (by decide +kernel), fun A3 a3 => ?_⟩
    have e3 : Ex H2 (upd H2 A3 (.lst (ltrs "abcdefghijk"))) := Ex.new a3
    have g3 : (upd H2 A3 (.lst (ltrs "abcdefghijk"))) A3 = some (.lst (ltrs "abcdefghijk")) := by first | exact upd_same | (rw [upd_ne (ne_of_none upd_same t3).symm]; exact upd_same)
    have n3 : A3 ≠ p := fun z => P2.here (z ▸ a3)
    generalize upd H2 A3 (.lst (ltrs "abcdefghijk")) = H3 at e3 g3
    have P3 := P2.ex e3
    have E3 : Ex H H3 := E2.trans e3
    refine ⟨(by show 1 ≤ sizeLine; decide), fun A4 a4 => ?_⟩
    have e4 : Ex H3 (upd H3 A4 (.lst [(.str "A")])) := Ex.new a4
    have g4 : (upd H3 A4 (.lst [(.str "A")])) A4 = some (.lst [(.str "A")]) := by first | exact upd_same | (rw [upd_ne (ne_of_none upd_same t4).symm]; exact upd_same)
    have n4 : A4 ≠ p := fun z => P3.here (z ▸ a4)
    generalize upd H3 A4 (.lst [(.str "A")]) = H4 at e4 g4
    have P4 := P3.ex e4
    have E4 : Ex H H4 := E3.trans e4
    refine ⟨(by show 1 ≤ sizeLine; decide), fun A5 a5 => ?_⟩
    have e5 : Ex H4 (upd H4 A5 (.lst [(.int 0)])) := Ex.new a5
    have g5 : (upd H4 A5 (.lst [(.int 0)])) A5 = some (.lst [(.int 0)]) := by first | exact upd_same | (rw [upd_ne (ne_of_none upd_same t5).symm]; exact upd_same)
    have n5 : A5 ≠ p := fun z => P4.here (z ▸ a5)
    generalize upd H4 A5 (.lst [(.int 0)]) = H5 at e5 g5
    have P5 := P4.ex e5
    have E5 : Ex H H5 := E4.trans e5
    refine ⟨(by show 2 ≤ sizeLine; decide), fun A6 a6 => ?_⟩
    have e6 : Ex H5 (upd H5 A6 (.lst [(.str "a"), (.non)])) := Ex.new a6
    have g6 : (upd H5 A6 (.lst [(.str "a"), (.non)])) A6 = some (.lst [(.str "a"), (.non)]) := by first | exact upd_same | (rw [upd_ne (ne_of_none upd_same t6).symm]; exact upd_same)
    have n6 : A6 ≠ p := fun z => P5.here (z ▸ a6)
    generalize upd H5 A6 (.lst [(.str "a"), (.non)]) = H6 at e6 g6
    have P6 := P5.ex e6
    have E6 : Ex H H6 := E5.trans e6
    refine ⟨_, rfl, .inl ⟨W, _, 0, .str z, rfl, rfl, sq_of ((E6) _ _ hW), (show atI ((z :: zs).map V.str) ((0 : Nat) : Int) = some (.str z) from atI_nat rfl), ?_⟩⟩
    refine ⟨_, rfl, .inl ⟨W, _, 0, .str z, rfl, rfl, sq_of ((E6) _ _ hW), (show atI ((z :: zs).map V.str) ((0 : Nat) : Int) = some (.str z) from atI_nat rfl), ?_⟩⟩
    refine ⟨(by show 2 ≤ sizeLine; decide), fun A7 a7 => ?_⟩
    have e7 : Ex H6 (upd H6 A7 (.lst [(.str z), (.str z)])) := Ex.new a7
    have g7 : (upd H6 A7 (.lst [(.str z), (.str z)])) A7 = some (.lst [(.str z), (.str z)]) := by first | exact upd_same | (rw [upd_ne (ne_of_none upd_same t7).symm]; exact upd_same)
    have n7 : A7 ≠ p := fun z => P6.here (z ▸ a7)
    generalize upd H6 A7 (.lst [(.str z), (.str z)]) = H7 at e7 g7
    have P7 := P6.ex e7
    have E7 : Ex H H7 := E6.trans e7
    refine ⟨(by show 3 ≤ sizeLine; decide), fun A8 a8 => ?_⟩
    have e8 : Ex H7 (upd H7 A8 (.tup [(.str "a"), (.str "b"), (.str "a")])) := Ex.new a8
    have g8 : (upd H7 A8 (.tup [(.str "a"), (.str "b"), (.str "a")])) A8 = some (.tup [(.str "a"), (.str "b"), (.str "a")]) := by first | exact upd_same | (rw [upd_ne (ne_of_none upd_same t8).symm]; exact upd_same)
    have n8 : A8 ≠ p := fun z => P7.here (z ▸ a8)
    generalize upd H7 A8 (.tup [(.str "a"), (.str "b"), (.str "a")]) = H8 at e8 g8
    have P8 := P7.ex e8
    have E8 : Ex H H8 := E7.trans e8
    refine fun A9 a9 => ⟨upd_same, [((.inr "a" : Key), (.str "a" : V))], rfl, (by show 1 ≤ 15; decide), ?_⟩
    rw [show mergeK [] [((.inr "a" : Key), (.str "a" : V))] = [((.inr "a" : Key), (.str "a" : V))] from rfl]
    have e9 : Ex H8 (upd (upd H8 A9 (.dK [])) A9 (.dK [((.inr "a" : Key), (.str "a" : V))])) := (Ex.new a9).mut a9
    have g9 : (upd (upd H8 A9 (.dK [])) A9 (.dK [((.inr "a" : Key), (.str "a" : V))])) A9 = some (.dK [((.inr "a" : Key), (.str "a" : V))]) := by first | exact upd_same | (rw [upd_ne (ne_of_none upd_same t9).symm]; exact upd_same)
    have n9 : A9 ≠ p := fun z => P8.here (z ▸ a9)
    generalize upd (upd H8 A9 (.dK [])) A9 (.dK [((.inr "a" : Key), (.str "a" : V))]) = H9 at e9 g9
    have P9 := P8.ex e9
    have E9 : Ex H H9 := E8.trans e9
    refine ⟨(by show 1 ≤ sizeLine; decide), fun A10 a10 => ?_⟩
    have e10 : Ex H9 (upd H9 A10 (.tup [(.str "b")])) := Ex.new a10
    have g10 : (upd H9 A10 (.tup [(.str "b")])) A10 = some (.tup [(.str "b")]) := by first | exact upd_same | (rw [upd_ne (ne_of_none upd_same t10).symm]; exact upd_same)
    have n10 : A10 ≠ p := fun z => P9.here (z ▸ a10)
    generalize upd H9 A10 (.tup [(.str "b")]) = H10 at e10 g10
    have P10 := P9.ex e10
    have E10 : Ex H H10 := E9.trans e10
    refine ⟨(by show 2 ≤ sizeLine; decide), fun A11 a11 => ?_⟩
    have e11 : Ex H10 (upd H10 A11 (.lst [(.str "a"), (.ref A10)])) := Ex.new a11
    have g11 : (upd H10 A11 (.lst [(.str "a"), (.ref A10)])) A11 = some (.lst [(.str "a"), (.ref A10)]) := by first | exact upd_same | (rw [upd_ne (ne_of_none upd_same t11).symm]; exact upd_same)
    have n11 : A11 ≠ p := fun z => P10.here (z ▸ a11)
    generalize upd H10 A11 (.lst [(.str "a"), (.ref A10)]) = H11 at e11 g11
    have P11 := P10.ex e11
    have E11 : Ex H H11 := E10.trans e11
    refine ⟨(by show 1 ≤ sizeLine; decide), fun A12 a12 => ?_⟩
    have e12 : Ex H11 (upd H11 A12 (.lst [(.str "")])) := Ex.new a12
    have g12 : (upd H11 A12 (.lst [(.str "")])) A12 = some (.lst [(.str "")]) := by first | exact upd_same | (rw [upd_ne (ne_of_none upd_same t12).symm]; exact upd_same)
    have n12 : A12 ≠ p := fun z => P11.here (z ▸ a12)
    generalize upd H11 A12 (.lst [(.str "")]) = H12 at e12 g12
    have P12 := P11.ex e12
    have E12 : Ex H H12 := E11.trans e12
    refine ⟨(by show 1 ≤ sizeLine; decide), fun A13 a13 => ?_⟩
    have e13 : Ex H12 (upd H12 A13 (.lst [(.str "abcdefghijk")])) := Ex.new a13
    have g13 : (upd H12 A13 (.lst [(.str "abcdefghijk")])) A13 = some (.lst [(.str "abcdefghijk")]) := by first | exact upd_same | (rw [upd_ne (ne_of_none upd_same t13).symm]; exact upd_same)
    have n13 : A13 ≠ p := fun z => P12.here (z ▸ a13)
    generalize upd H12 A13 (.lst [(.str "abcdefghijk")]) = H13 at e13 g13
    have P13 := P12.ex e13
    have E13 : Ex H H13 := E12.trans e13
    refine ⟨(by show 1 ≤ sizeLine; decide), fun A14 a14 => ?_⟩
    have e14 : Ex H13 (upd H13 A14 (.lst [(.bl true)])) := Ex.new a14
    have g14 : (upd H13 A14 (.lst [(.bl true)])) A14 = some (.lst [(.bl true)]) := by first | exact upd_same | (rw [upd_ne (ne_of_none upd_same t14).symm]; exact upd_same)
    have n14 : A14 ≠ p := fun z => P13.here (z ▸ a14)
    generalize upd H13 A14 (.lst [(.bl true)]) = H14 at e14 g14
    have P14 := P13.ex e14
    have E14 : Ex H H14 := E13.trans e14
    refine ⟨(by show 2 ≤ sizeLine; decide), fun A15 a15 => ?_⟩
    have e15 : Ex H14 (upd H14 A15 (.lst [(.str "a"), (.str "a b")])) := Ex.new a15
    have g15 : (upd H14 A15 (.lst [(.str "a"), (.str "a b")])) A15 = some (.lst [(.str "a"), (.str "a b")]) := by first | exact upd_same | (rw [upd_ne (ne_of_none upd_same t15).symm]; exact upd_same)
    have n15 : A15 ≠ p := fun z => P14.here (z ▸ a15)
    generalize upd H14 A15 (.lst [(.str "a"), (.str "a b")]) = H15 at e15 g15
    have P15 := P14.ex e15
    have E15 : Ex H H15 := E14.trans e15
    refine ⟨(by show 18 ≤ sizeLine; decide), fun M m => ?_⟩
    refine ⟨p, M, [(.ref A1), (.ref A2), (.non), (.str "a"), (.ref A3), (.ref A4), (.ref A5), (.ref A6), (.ref A7), (.ref A8), (.ref A9), (.ref A11), (.ref A12), (.ref A13), (.bl true), (.int 0), (.ref A14), (.ref A15)], rfl, P15.ex (Ex.new m), (fun z => P15.here (z ▸ m)), .inl upd_same, (by simp), (by show 18 ≤ 1000; decide), fun x H' hx K' P' => ?_⟩
    have L15 : Ex H15 (upd H15 M (.lst [(.ref A1), (.ref A2), (.non), (.str "a"), (.ref A3), (.ref A4), (.ref A5), (.ref A6), (.ref A7), (.ref A8), (.ref A9), (.ref A11), (.ref A12), (.ref A13), (.bl true), (.int 0), (.ref A14), (.ref A15)])) := Ex.new m
    have L14 : Ex H14 (upd H15 M (.lst [(.ref A1), (.ref A2), (.non), (.str "a"), (.ref A3), (.ref A4), (.ref A5), (.ref A6), (.ref A7), (.ref A8), (.ref A9), (.ref A11), (.ref A12), (.ref A13), (.bl true), (.int 0), (.ref A14), (.ref A15)])) := e15.trans L15
    have L13 : Ex H13 (upd H15 M (.lst [(.ref A1), (.ref A2), (.non), (.str "a"), (.ref A3), (.ref A4), (.ref A5), (.ref A6), (.ref A7), (.ref A8), (.ref A9), (.ref A11), (.ref A12), (.ref A13), (.bl true), (.int 0), (.ref A14), (.ref A15)])) := e14.trans L14
    have L12 : Ex H12 (upd H15 M (.lst [(.ref A1), (.ref A2), (.non), (.str "a"), (.ref A3), (.ref A4), (.ref A5), (.ref A6), (.ref A7), (.ref A8), (.ref A9), (.ref A11), (.ref A12), (.ref A13), (.bl true), (.int 0), (.ref A14), (.ref A15)])) := e13.trans L13
    have L11 : Ex H11 (upd H15 M (.lst [(.ref A1), (.ref A2), (.non), (.str "a"), (.ref A3), (.ref A4), (.ref A5), (.ref A6), (.ref A7), (.ref A8), (.ref A9), (.ref A11), (.ref A12), (.ref A13), (.bl true), (.int 0), (.ref A14), (.ref A15)])) := e12.trans L12
    have L10 : Ex H10 (upd H15 M (.lst [(.ref A1), (.ref A2), (.non), (.str "a"), (.ref A3), (.ref A4), (.ref A5), (.ref A6), (.ref A7), (.ref A8), (.ref A9), (.ref A11), (.ref A12), (.ref A13), (.bl true), (.int 0), (.ref A14), (.ref A15)])) := e11.trans L11
    have L9 : Ex H9 (upd H15 M (.lst [(.ref A1), (.ref A2), (.non), (.str "a"), (.ref A3), (.ref A4), (.ref A5), (.ref A6), (.ref A7), (.ref A8), (.ref A9), (.ref A11), (.ref A12), (.ref A13), (.bl true), (.int 0), (.ref A14), (.ref A15)])) := e10.trans L10
    have L8 : Ex H8 (upd H15 M (.lst [(.ref A1), (.ref A2), (.non), (.str "a"), (.ref A3), (.ref A4), (.ref A5), (.ref A6), (.ref A7), (.ref A8), (.ref A9), (.ref A11), (.ref A12), (.ref A13), (.bl true), (.int 0), (.ref A14), (.ref A15)])) := e9.trans L9
    have L7 : Ex H7 (upd H15 M (.lst [(.ref A1), (.ref A2), (.non), (.str "a"), (.ref A3), (.ref A4), (.ref A5), (.ref A6), (.ref A7), (.ref A8), (.ref A9), (.ref A11), (.ref A12), (.ref A13), (.bl true), (.int 0), (.ref A14), (.ref A15)])) := e8.trans L8
    have L6 : Ex H6 (upd H15 M (.lst [(.ref A1), (.ref A2), (.non), (.str "a"), (.ref A3), (.ref A4), (.ref A5), (.ref A6), (.ref A7), (.ref A8), (.ref A9), (.ref A11), (.ref A12), (.ref A13), (.bl true), (.int 0), (.ref A14), (.ref A15)])) := e7.trans L7
    have L5 : Ex H5 (upd H15 M (.lst [(.ref A1), (.ref A2), (.non), (.str "a"), (.ref A3), (.ref A4), (.ref A5), (.ref A6), (.ref A7), (.ref A8), (.ref A9), (.ref A11), (.ref A12), (.ref A13), (.bl true), (.int 0), (.ref A14), (.ref A15)])) := e6.trans L6
    have L4 : Ex H4 (upd H15 M (.lst [(.ref A1), (.ref A2), (.non), (.str "a"), (.ref A3), (.ref A4), (.ref A5), (.ref A6), (.ref A7), (.ref A8), (.ref A9), (.ref A11), (.ref A12), (.ref A13), (.bl true), (.int 0), (.ref A14), (.ref A15)])) := e5.trans L5
    have L3 : Ex H3 (upd H15 M (.lst [(.ref A1), (.ref A2), (.non), (.str "a"), (.ref A3), (.ref A4), (.ref A5), (.ref A6), (.ref A7), (.ref A8), (.ref A9), (.ref A11), (.ref A12), (.ref A13), (.bl true), (.int 0), (.ref A14), (.ref A15)])) := e4.trans L4
    have L2 : Ex H2 (upd H15 M (.lst [(.ref A1), (.ref A2), (.non), (.str "a"), (.ref A3), (.ref A4), (.ref A5), (.ref A6), (.ref A7), (.ref A8), (.ref A9), (.ref A11), (.ref A12), (.ref A13), (.bl true), (.int 0), (.ref A14), (.ref A15)])) := e3.trans L3
    have L1 : Ex H1 (upd H15 M (.lst [(.ref A1), (.ref A2), (.non), (.str "a"), (.ref A3), (.ref A4), (.ref A5), (.ref A6), (.ref A7), (.ref A8), (.ref A9), (.ref A11), (.ref A12), (.ref A13), (.bl true), (.int 0), (.ref A14), (.ref A15)])) := e2.trans L2
    have L0 : Ex H (upd H15 M (.lst [(.ref A1), (.ref A2), (.non), (.str "a"), (.ref A3), (.ref A4), (.ref A5), (.ref A6), (.ref A7), (.ref A8), (.ref A9), (.ref A11), (.ref A12), (.ref A13), (.bl true), (.int 0), (.ref A14), (.ref A15)])) := e1.trans L1
    have KK : Kp p H H' := (Kp.ex L0 hP).trans K'
    have PM : Pool (upd H15 M (.lst [(.ref A1), (.ref A2), (.non), (.str "a"), (.ref A3), (.ref A4), (.ref A5), (.ref A6), (.ref A7), (.ref A8), (.ref A9), (.ref A11), (.ref A12), (.ref A13), (.bl true), (.int 0), (.ref A14), (.ref A15)])) p := P15.ex (Ex.new m)
    simp only [List.mem_cons, List.not_mem_nil, or_false] at hx
    refine k _ _ KK P' ?_
    rcases hx with rfl | rfl | rfl | rfl | rfl | rfl | rfl | rfl | rfl | rfl | rfl | rfl | rfl | rfl | rfl | rfl | rfl | rfl
    · exact ⟨.inl ⟨.lst (K'.k _ _ n1 (L1 _ _ g1)), (by unfold rowB; rw [rlen_at (K'.k _ _ n1 (L1 _ _ g1))]; rfl), rfl⟩, alq_lst 2 n1 (K'.k _ _ n1 (L1 _ _ g1)) (by decide) (by rfl)⟩
    · exact ⟨.inl ⟨.tup (K'.k _ _ n2 (L2 _ _ g2)), (by unfold rowB; rw [rlen_at (K'.k _ _ n2 (L2 _ _ g2))]; rfl), rfl⟩, alq_tup 2 n2 (K'.k _ _ n2 (L2 _ _ g2)) (by decide) (by rfl)⟩
    · exact ⟨.inl ⟨Lf.pl trivial, rfl, rfl⟩, Alq.leaf (v := .non) trivial 3⟩
    · exact ⟨.inl ⟨Lf.pl trivial, rfl, rfl⟩, Alq.leaf (v := .str "a") trivial 3⟩
    · exact ⟨.inl ⟨.lst (K'.k _ _ n3 (L3 _ _ g3)), (by unfold rowB; rw [rlen_at (K'.k _ _ n3 (L3 _ _ g3))]; decide +kernel), rfl⟩, alq_lst 2 n3 (K'.k _ _ n3 (L3 _ _ g3)) (by decide +kernel) (by decide +kernel)⟩
    · exact ⟨.inr ⟨_, _, rfl, .inl (K'.k _ _ n4 (L4 _ _ g4)), by decide, by decide, .inl ⟨rfl, by decide +kernel, fun x hx => ⟨(lf_of (List.all_eq_true.mp (by rfl : ([(.str "A")] : List V).all lfB = true) x hx)).pl, sh_of (List.all_eq_true.mp (by decide +kernel : ([(.str "A")] : List V).all shB = true) x hx)⟩⟩⟩, alq_lst 2 n4 (K'.k _ _ n4 (L4 _ _ g4)) (by decide) (by rfl)⟩
    · exact ⟨.inr ⟨_, _, rfl, .inl (K'.k _ _ n5 (L5 _ _ g5)), by decide, by decide, .inl ⟨rfl, by decide +kernel, fun x hx => ⟨(lf_of (List.all_eq_true.mp (by rfl : ([(.int 0)] : List V).all lfB = true) x hx)).pl, sh_of (List.all_eq_true.mp (by decide +kernel : ([(.int 0)] : List V).all shB = true) x hx)⟩⟩⟩, alq_lst 2 n5 (K'.k _ _ n5 (L5 _ _ g5)) (by decide) (by rfl)⟩
    · exact ⟨.inr ⟨_, _, rfl, .inl (K'.k _ _ n6 (L6 _ _ g6)), by decide, by decide, .inl ⟨rfl, by decide +kernel, fun x hx => ⟨(lf_of (List.all_eq_true.mp (by rfl : ([(.str "a"), (.non)] : List V).all lfB = true) x hx)).pl, sh_of (List.all_eq_true.mp (by decide +kernel : ([(.str "a"), (.non)] : List V).all shB = true) x hx)⟩⟩⟩, alq_lst 2 n6 (K'.k _ _ n6 (L6 _ _ g6)) (by decide) (by rfl)⟩
    · exact ⟨.inr ⟨_, _, rfl, .inl (K'.k _ _ n7 (L7 _ _ g7)), by simp, by simp, .inr ⟨[z, z], rfl, fun x hx => by simp at hx; rw [hx]; exact hz, (decide_eq_false (by simp)).symm⟩⟩, alq_lst 2 n7 (K'.k _ _ n7 (L7 _ _ g7)) (by simp) (by rfl)⟩
    · exact ⟨.inr ⟨_, _, rfl, .inr (K'.k _ _ n8 (L8 _ _ g8)), by simp, by simp, .inr ⟨["a", "b", "a"], rfl, fun x hx => nm_of (List.all_eq_true.mp (by decide +kernel : ((["a", "b", "a"] : List Str).all fun z => nmB (.str z)) = true) x hx), by decide +kernel⟩⟩, alq_tup 2 n8 (K'.k _ _ n8 (L8 _ _ g8)) (by simp) (by rfl)⟩
    · exact ⟨.inl ⟨.dct (K'.k _ _ n9 (L9 _ _ g9)), (by unfold rowB; rw [rlen_at (K'.k _ _ n9 (L9 _ _ g9))]; rfl), rfl⟩, alq_emp 3 n9 (K'.k _ _ n9 (L9 _ _ g9)) (by decide +kernel) (by decide)⟩
    · refine ⟨.inr ⟨_, _, rfl, .inl (K'.k _ _ n11 (L11 _ _ g11)), by simp, by simp, .inl ⟨rfl, by rfl, fun x hx => ?_⟩⟩, .inr ⟨_, _, _, _, rfl, rfl, n11, n11, .inl ⟨(K'.k _ _ n11 (L11 _ _ g11)), (K'.k _ _ n11 (L11 _ _ g11))⟩, by simp, .cons (Alq.leaf (v := .str "a") trivial 2) (.cons (alq_tup 1 n10 (K'.k _ _ n10 (L10 _ _ g10)) (by decide) (by rfl)) .nil)⟩⟩
      simp only [List.mem_cons, List.not_mem_nil, or_false] at hx
      rcases hx with rfl | rfl
      · exact ⟨.str _, sh_of (by decide +kernel)⟩
      · exact ⟨.tup (K'.k _ _ n10 (L10 _ _ g10)), fun _ z => nomatch z⟩
    · exact ⟨.inr ⟨_, _, rfl, .inl (K'.k _ _ n12 (L12 _ _ g12)), by decide, by decide, .inl ⟨rfl, by decide +kernel, fun x hx => ⟨(lf_of (List.all_eq_true.mp (by rfl : ([(.str "")] : List V).all lfB = true) x hx)).pl, sh_of (List.all_eq_true.mp (by decide +kernel : ([(.str "")] : List V).all shB = true) x hx)⟩⟩⟩, alq_lst 2 n12 (K'.k _ _ n12 (L12 _ _ g12)) (by decide) (by rfl)⟩
    · exact ⟨.inr ⟨_, _, rfl, .inl (K'.k _ _ n13 (L13 _ _ g13)), by decide, by decide, .inl ⟨rfl, by decide +kernel, fun x hx => ⟨(lf_of (List.all_eq_true.mp (by rfl : ([(.str "abcdefghijk")] : List V).all lfB = true) x hx)).pl, sh_of (List.all_eq_true.mp (by decide +kernel : ([(.str "abcdefghijk")] : List V).all shB = true) x hx)⟩⟩⟩, alq_lst 2 n13 (K'.k _ _ n13 (L13 _ _ g13)) (by decide) (by rfl)⟩
    · exact ⟨.inl ⟨Lf.pl trivial, rfl, rfl⟩, Alq.leaf (v := .bl true) trivial 3⟩
    · exact ⟨.inl ⟨Lf.pl trivial, rfl, rfl⟩, Alq.leaf (v := .int 0) trivial 3⟩
    · exact ⟨.inr ⟨_, _, rfl, .inl (K'.k _ _ n14 (L14 _ _ g14)), by decide, by decide, .inl ⟨rfl, by decide +kernel, fun x hx => ⟨(lf_of (List.all_eq_true.mp (by rfl : ([(.bl true)] : List V).all lfB = true) x hx)).pl, sh_of (List.all_eq_true.mp (by decide +kernel : ([(.bl true)] : List V).all shB = true) x hx)⟩⟩⟩, alq_lst 2 n14 (K'.k _ _ n14 (L14 _ _ g14)) (by decide) (by rfl)⟩
    · exact ⟨.inr ⟨_, _, rfl, .inl (K'.k _ _ n15 (L15 _ _ g15)), by decide, by decide, .inl ⟨rfl, by decide +kernel, fun x hx => ⟨(lf_of (List.all_eq_true.mp (by rfl : ([(.str "a"), (.str "a b")] : List V).all lfB = true) x hx)).pl, sh_of (List.all_eq_true.mp (by decide +kernel : ([(.str "a"), (.str "a b")] : List V).all shB = true) x hx)⟩⟩⟩, alq_lst 2 n15 (K'.k _ _ n15 (L15 _ _ g15)) (by decide) (by rfl)⟩
end
end WK

set_option Elab.async false
set_option linter.all false
set_option maxRecDepth 100000
set_option maxHeartbeats 4000000
namespace WK
open PySem PySem.Spec PyProof.Rows L2 WW Evl
/-- what is drawn: a wrong thing, or the right one -/
def OneC (ok : V → Bool) (p : Addr) (H : Hp) (b : Bool) (v u : V) : Prop := (b = true ∧ Bd p H v ∧ ok v = false) ∨ (b = false ∧ v = u)
theorem OneC.kp {ok : V → Bool} {p : Addr} {H H' : Hp} {b : Bool} {v u : V} (k : Kp p H H') (h : OneC ok p H b v u) : OneC ok p H' b v u := h.imp (fun ⟨z, w, q⟩ => ⟨z, w.kp k, q⟩) id
def ShC (p : Addr) (H : Hp) (b : Bool) (sh row : V) (ws sg : List Str) : Prop := (b = true ∧ BdS p H sh ∧ BdW p H row) ∨
  (b = false ∧ ∃ D L, sh = .ref D ∧ D ≠ p ∧ H D = some (.dK (kvsOf ws sg)) ∧ row = .ref L ∧ L ≠ p ∧ H L = some (.lst (ws.map V.str)))
theorem ShC.kp {p : Addr} {H H' : Hp} {b : Bool} {sh row : V} {ws sg : List Str} (hP : Pool H p) (k : Kp p H H') (h : ShC p H b sh row ws sg) : ShC p H' b sh row ws sg :=
  h.imp (fun ⟨z, w, q⟩ => ⟨z, w.kp hP k, q.kp k⟩) fun ⟨z, D, L, e1, n1, h1, e2, n2, h2⟩ => ⟨z, D, L, e1, n1, k.k _ _ n1 h1, e2, n2, k.k _ _ n2 h2⟩
/-- the right arguments -/
structure Gd (nm : Str) (po co : Int) (ws sg : List Str) : Prop where
  nmk : IsNm nm
  pok : po = 0 ∨ po = 1
  cok : 1 ≤ co ∧ co ≤ 1000
  ne : ws ≠ []
  le : ws.length ≤ 10
  nd : ws.Nodup
  wsk : ∀ x ∈ ws, IsNm x
  sl : sg.length = ws.length
  sgk : ∀ x ∈ sg, IsNm x
section
variable {P : Program} {w : World} {K : PySem.W.Frag} {mg : Str → Option Value} {base : Heap} {f : Addr} {fd : FuncData}
abbrev s__law_arguments : Stmt := top 37
theorem sc__law_arguments : FnScope ["_law_pool_here", "_law_spoils", "_law_k", "_law_words", "_law_head", "_law_post", "_law_fee", "_law_shown", "_law_word", "_law_row"] ["_law_pool_here"] (defScope s__law_arguments) := ⟨rfl, rfl, rfl, by decide +kernel, rfl, by decide +kernel, by decide +kernel⟩
def spArgs : Sp := fun vs H Q _ => ∃ p, vs = [.ref p] ∧ Pool H p ∧ ∀ (T S : Addr) (b0 b1 b2 b3 : Bool) (hd po sh row fe : V) (nm : Str) (pi co : Int) (ws sg : List Str) H', Kp p H H' → Pool H' p → Gd nm pi co ws sg →
  H' T = some (.tup [.ref S, hd, po, sh, row, fe]) → S ≠ p → H' S = some (.lst [.bl b0, .bl b1, .bl b2, .bl b3]) → OneC nmB p H' b0 hd (.str nm) → OneC (inB 2) p H' b1 po (.int pi) → ShC p H' b2 sh row ws sg → OneC coB p H' b3 fe (.int co) → Q (.ref T) H'
theorem ok_arguments (G : Gz mg) (D : Df K mg "_law_arguments" s__law_arguments f fd ["_law_pool_here"]) (c__law_draw : Callee P w K mg base CXn 1 "_law_draw" 2 spDraw) (c__law_names : Callee P w K mg base CXn 3 "_law_names" 2 spNames)
    (c__law_bad_head : Callee P w K mg base CXn 3 "_law_bad_head" 1 (spBad nmB)) (c__law_bad_post : Callee P w K mg base CXn 3 "_law_bad_post" 1 (spBad (inB 2))) (c__law_bad_cost : Callee P w K mg base CXn 3 "_law_bad_cost" 1 (spBad coB))
    (c__law_bad_sights : Callee P w K mg base CXn 3 "_law_bad_sights" 2 (spBadV BdS)) (c__law_bad_words : Callee P w K mg base CXn 3 "_law_bad_words" 2 (spBadV BdW)) : Callee P w K mg base CXn 4 "_law_arguments" 1 spArgs := by
  refine D.callee (D.fn.ok sc__law_arguments (fun vs H Q E h => ?_) (fun cdv A outer s H vs Q E hr h => ⟨_, PSs.nox (pss_cons (ps_setLc (i := 1) (y := "_law_spoils") (own := [("_law_k", 2)]) rfl sc__law_arguments.nd rfl rfl rfl (pi_range1 rfl G.g_range (pa_cons pe_int pa_nil)) (BlkOk.mk (N := ["_law_pool_here", "_law_spoils", "_law_k", "_law_words", "_law_head", "_law_post", "_law_fee", "_law_shown", "_law_word", "_law_row"]) (sc := defScope s__law_arguments) rfl (by decide +kernel) (by decide +kernel) (by decide +kernel) (by decide +kernel)) (fun _ _ _ _ _ => (pg_name (i := 2) sc__law_arguments.nd rfl (Or.inl rfl))) (fun _ _ _ _ _ => pts_nil) (fun _ _ _ _ _ => (pe_cmpR op_eq (pe_cl (E := En) c__law_draw (hr.mono (by decide)) rfl passN (pa_cons (pv 0) (pa_cons pe_int pa_nil))) pe_int (nomark _)))) (pss_cons (ps_set (i := 3) sc__law_arguments.nd rfl (Or.inl rfl) (pe_cl (E := En) c__law_names (hr.mono (by decide)) rfl passN (pa_cons (pv 0) (pa_cons (pe_op op_add pe_int (pe_cl (E := En) c__law_draw (hr.mono (by decide)) rfl passN (pa_cons (pv 0) (pa_cons pe_int pa_nil)))) pa_nil)))) (pss_cons (ps_set (i := 4) sc__law_arguments.nd rfl (Or.inl rfl) (pe_ix (ixK (K := K) rfl) (pe_cl (E := En) c__law_names (hr.mono (by decide)) rfl passN (pa_cons (pv 0) (pa_cons pe_int pa_nil))) pe_int (fun _ _ => rfl))) (pss_cons (ps_set (i := 5) sc__law_arguments.nd rfl (Or.inl rfl) (pe_cl (E := En) c__law_draw (hr.mono (by decide)) rfl passN (pa_cons (pv 0) (pa_cons pe_int pa_nil)))) (pss_cons (ps_set (i := 6) sc__law_arguments.nd rfl (Or.inl rfl) (pe_op op_add pe_int (pe_cl (E := En) c__law_draw (hr.mono (by decide)) rfl passN (pa_cons (pv 0) (pa_cons pe_int pa_nil))))) (pss_cons (ps_set (i := 7) sc__law_arguments.nd rfl (Or.inl rfl) pe_dnewK) (pss_cons (ps_for PassesOwn.never rfl (pi_list (pv 3)) (pg_name (i := 8) sc__law_arguments.nd rfl (Or.inl rfl)) (pss_one (ps_dput (room1 hr) (pv 7) (pv 8) (pe_ix (ixK (K := K) rfl) (pe_cl (E := En) c__law_names (hr.mono (by decide)) rfl passN (pa_cons (pv 0) (pa_cons pe_int pa_nil))) pe_int (fun _ _ => rfl)) rfl))) (pss_cons (ps_set (i := 9) sc__law_arguments.nd rfl (Or.inl rfl) (pe_callTy (listOfK (K := K) rfl) rfl G.g_list (by rfl) (pa_cons (pv 3) pa_nil))) (pss_cut (ps_if (pt_val (pe_ix (ixK (K := K) rfl) (pv 1) pe_int (fun _ _ => rfl))) (pss_one (ps_set (i := 4) sc__law_arguments.nd rfl (Or.inl rfl) (pe_cl (E := En) c__law_bad_head (hr.mono (by decide)) rfl passN (pa_cons (pv 0) pa_nil)))) pss_nil) (pss_cut (ps_if (pt_val (pe_ix (ixK (K := K) rfl) (pv 1) pe_int (fun _ _ => rfl))) (pss_one (ps_set (i := 5) sc__law_arguments.nd rfl (Or.inl rfl) (pe_cl (E := En) c__law_bad_post (hr.mono (by decide)) rfl passN (pa_cons (pv 0) pa_nil)))) pss_nil) (pss_cut (ps_if (pt_val (pe_ix (ixK (K := K) rfl) (pv 1) pe_int (fun _ _ => rfl))) (pss_cons (ps_set (i := 7) sc__law_arguments.nd rfl (Or.inl rfl) (pe_cl (E := En) c__law_bad_sights (hr.mono (by decide)) rfl passN (pa_cons (pv 0) (pa_cons (pv 3) pa_nil)))) (pss_one (ps_set (i := 9) sc__law_arguments.nd rfl (Or.inl rfl) (pe_cl (E := En) c__law_bad_words (hr.mono (by decide)) rfl passN (pa_cons (pv 0) (pa_cons (pv 3) pa_nil)))))) pss_nil) (pss_cut (ps_if (pt_val (pe_ix (ixK (K := K) rfl) (pv 1) pe_int (fun _ _ => rfl))) (pss_one (ps_set (i := 6) sc__law_arguments.nd rfl (Or.inl rfl) (pe_cl (E := En) c__law_bad_cost (hr.mono (by decide)) rfl passN (pa_cons (pv 0) pa_nil)))) pss_nil) (pss_one (ps_ret (pe_tup (pa_cons (pv 1) (pa_cons (pv 4) (pa_cons (pv 5) (pa_cons (pv 7) (pa_cons (pv 9) (pa_cons (pv 6) pa_nil))))))))))))))))))))), ?_⟩))
  · obtain ⟨_, rfl, _⟩ := h
    rfl
  · obtain ⟨p, rfl, hP, k⟩ := h
    -- what is spoilt
    refine ⟨4, rfl, by decide, by decide, fun S hS => ?_⟩
    have nS : S ≠ p := fun z => hP.here (z ▸ hS)
    obtain ⟨F0, _⟩ := Fil.new (o := .lst []) hP hS
    refine lc_range (fun i H' => ∃ bs : List Bool, bs.length = i ∧ Fil p S H H' ∧ H' S = some (.lst (bs.map V.bl))) ⟨[], rfl, F0, upd_same⟩ ?_ ?_
    · rintro i H' hi ⟨bs, bl, F, hs⟩
      refine ⟨rfl, _, rfl, p, 4, rfl, F.pool, by decide, by decide, fun e H3 e0 e1 K3 P3 => ?_⟩
      obtain ⟨F3, hs3⟩ := F.draw nS hs K3 P3
      refine ⟨rfl, _, hs3, ?_, bs ++ [decide (V.int e = V.int 0)], by rw [List.length_append, bl]; rfl, F3.put nS hS, ?_⟩
      · rw [List.length_map]
        exact sz_lt (by omega)
      · rw [upd_same, List.map_append]
        rfl
    rintro H1 ⟨bs, bl, F1, hs1⟩
    obtain ⟨b0, b1, b2, b3, rfl⟩ : ∃ b0 b1 b2 b3, bs = [b0, b1, b2, b3] := by
      match bs, bl with
      | [b0, b1, b2, b3], _ => exact ⟨b0, b1, b2, b3, rfl⟩
    have hs1 : H1 S = some (.lst [.bl b0, .bl b1, .bl b2, .bl b3]) := hs1
    have kS : ∀ {H' : Hp}, Kp p H1 H' → H' S = some (.lst [.bl b0, .bl b1, .bl b2, .bl b3]) := fun K' => K'.k _ _ nS hs1
    -- the words
    refine ⟨_, rfl, _, rfl, p, 10, rfl, F1.pool, by decide, by decide, fun d H2 d0 d1 K2 P2 => ⟨1, d, rfl, rfl, p, 1 + d, rfl, P2, by omega, by omega, fun W ws H3 wl wnd wnm K3 P3 _ nW hW => ?_⟩⟩
    have wl1 : 1 ≤ ws.length ∧ ws.length ≤ 10 := by have : ws.length = (1 + d).toNat := wl; omega
    -- the head
    refine ⟨_, rfl, p, 1, rfl, P3, by decide, by decide, fun al zs H4 zl _ znm K4 P4 _ nal hzs => ?_⟩
    obtain ⟨nm, rfl⟩ : ∃ z, zs = [z] := List.length_eq_one_iff.mp zl
    refine .inl ⟨al, _, 0, .str nm, rfl, rfl, sq_of hzs, (show atI _ ((0 : Nat) : Int) = _ from atI_nat rfl), ?_⟩
    refine ⟨_, rfl, p, 2, rfl, P4, by decide, by decide, fun po H5 p0 p1 K5 P5 => ?_⟩
    refine ⟨_, rfl, p, 1000, rfl, P5, by decide, by decide, fun c H6 c0 c1 K6 P6 => ⟨1, c, rfl, rfl, ?_⟩⟩
    have K36 := K4.trans (K5.trans K6)
    have K16 := K2.trans (K3.trans K36)
    have hW6 := K36.k _ _ nW hW
    -- the sights
    refine fun D nD => ?_
    obtain ⟨G0, nDp⟩ := Fil.new (o := .dK []) P6 nD
    have kW : ∀ {Hx : Hp}, Kp p H6 Hx → Hx W = some (.lst (ws.map V.str)) := fun K' => K'.k _ _ nW hW6
    refine ⟨_, rfl, W, rfl, ⟨_, sq_of (kW G0.kp)⟩, for_list (fun j σ3 H3 => ∃ v2 v8 sg, σ3 = [some (.ref p), some (.ref S), v2, some (.ref W), some (.str nm), some (.int po), some (.int (1 + c)), some (.ref D), v8, none] ∧ Fil p D H6 H3 ∧ H3 D = some (.dK (kvsOf (ws.take j) sg)) ∧ sg.length = (ws.take j).length ∧ ∀ x ∈ sg, IsNm x)
      ⟨_, _, [], rfl, G0, upd_same, rfl, fun _ z => nomatch z⟩ (fun j σ3 H3 _ ⟨_, _, _, _, G, _⟩ => sq_of (kW G.kp)) ?_ ?_⟩
    · rintro j y σ3 H3 hy ⟨v2, v8, sg, rfl, G, hD, sgl, sgn⟩
      rw [List.getElem?_map] at hy
      obtain ⟨u, hu, rfl⟩ := Option.map_eq_some_iff.mp hy
      have et : ws.take (j + 1) = ws.take j ++ [u] := by rw [List.take_add_one, hu]; rfl
      have nu : u ∉ ws.take j := fun z => by
        have q := wnd.sublist (List.take_sublist (j + 1) ws)
        rw [et, List.nodup_append] at q
        exact q.2.2 u z u (by simp) rfl
      refine ⟨_, rfl, p, 1, rfl, G.pool, by decide, by decide, fun al2 zs2 H4 zl2 _ znm2 K4' P4' _ nal2 hzs2 => ?_⟩
      obtain ⟨n', rfl⟩ : ∃ z, zs2 = [z] := List.length_eq_one_iff.mp zl2
      obtain ⟨G4, hD4⟩ := G.draw nDp hD K4' P4'
      have kvl : (kvsOf (ws.take j) sg).length < 100000 := by
        unfold kvsOf
        rw [List.length_map, List.length_zip, List.length_take]
        omega
      refine .inl ⟨al2, _, 0, .str n', rfl, rfl, sq_of hzs2, (show atI _ ((0 : Nat) : Int) = _ from atI_nat rfl), ?_⟩
      refine ⟨_, rfl, _, rfl, D, _, rfl, DPut.k (k := .inr u) hD4 (sz_lt kvl), ?_⟩
      refine ⟨_, _, sg ++ [n'], rfl, G4.put nDp nD, ?_, ?_, ?_⟩
      · rw [upd_same, kvs_put sgl nu, et]
      · rw [et, List.length_append, List.length_append, sgl]
        rfl
      · intro x hx
        rcases List.mem_append.mp hx with hx | hx
        · exact sgn x hx
        · rw [List.mem_singleton.mp hx]; exact znm2 n' (by simp)
    rintro σ3 H7 ⟨v2, v8, sg, rfl, G7, hD, sgl, sgn⟩
    have et : ws.take (ws.map V.str).length = ws := by rw [List.length_map]; exact List.take_length
    rw [et] at hD sgl
    have gd : Gd nm po (1 + c) ws sg := ⟨znm nm (by simp), by omega, by omega, (fun z => by rw [z] at wl1; simp at wl1), wl1.2, wnd, wnm, sgl, sgn⟩
    refine ⟨_, rfl, W, _, rfl, .inl (sq_of (kW G7.kp)), fun L nL => ?_⟩
    have nLp : L ≠ p := fun z => G7.pool.here (z ▸ nL)
    have eL : Ex H7 (upd H7 L (.lst (ws.map V.str))) := Ex.new nL
    have hL : upd H7 L (.lst (ws.map V.str)) L = some (.lst (ws.map V.str)) := upd_same
    generalize upd H7 L (.lst (ws.map V.str)) = H8 at eL hL
    have P8 := G7.pool.ex eL
    have K78 : Kp p H7 H8 := Kp.ex eL G7.pool
    have K18 : Kp p H1 H8 := K16.trans (G7.kp.trans K78)
    have hW8 := kW (G7.kp.trans K78)
    have sh0 : ShC p H8 false (.ref D) (.ref L) ws sg := .inr ⟨rfl, D, L, rfl, nDp, eL _ _ hD, rfl, nLp, hL⟩
    clear hD hL eL nL K16 K36 hW hW6 hzs K4 K5 K6 P4 P5 P6 P3 K2 K3 P2
    -- the head, wrong
    refine ⟨fun σ' H' => ∃ hd v2 v8, σ' = [some (.ref p), some (.ref S), v2, some (.ref W), some hd, some (.int po), some (.int (1 + c)), some (.ref D), v8, some (.ref L)] ∧ Kp p H8 H' ∧ Pool H' p ∧ OneC nmB p H' b0 hd (.str nm), ?_, ?_⟩
    · refine ⟨_, rfl, .inl ⟨S, _, 0, .bl b0, rfl, rfl, sq_of (kS K18), (show atI _ ((0 : Nat) : Int) = _ from atI_nat rfl), b0, rfl, ite2 (fun hb => ?_) (fun hb => ?_)⟩⟩
      · refine ⟨_, rfl, p, rfl, P8, fun v H' K' P' bd no => ⟨v, _, _, rfl, K', P', .inl ⟨hb, bd, no⟩⟩⟩
      · exact ⟨_, _, _, rfl, Kp.refl p H8, P8, .inr ⟨by simpa using hb, rfl⟩⟩
    rintro σ' H9 ⟨hd, w2, w8, rfl, K9, P9, c0⟩
    -- the post
    refine ⟨fun σ' H' => ∃ hd pv v2 v8, σ' = [some (.ref p), some (.ref S), v2, some (.ref W), some hd, some pv, some (.int (1 + c)), some (.ref D), v8, some (.ref L)] ∧ Kp p H8 H' ∧ Pool H' p ∧ OneC nmB p H' b0 hd (.str nm) ∧ OneC (inB 2) p H' b1 pv (.int po), ?_, ?_⟩
    · refine ⟨_, rfl, .inl ⟨S, _, 1, .bl b1, rfl, rfl, sq_of (kS (K18.trans K9)), (show atI _ ((1 : Nat) : Int) = _ from atI_nat rfl), b1, rfl, ite2 (fun hb => ?_) (fun hb => ?_)⟩⟩
      · refine ⟨_, rfl, p, rfl, P9, fun v H' K' P' bd no => ⟨hd, v, _, _, rfl, K9.trans K', P', c0.kp K', .inl ⟨hb, bd, no⟩⟩⟩
      · exact ⟨_, _, _, _, rfl, K9, P9, c0, .inr ⟨by simpa using hb, rfl⟩⟩
    rintro σ' H10 ⟨hd, pv, w2, w8, rfl, K10, P10, c0, c1⟩
    -- the sights and words
    refine ⟨fun σ' H' => ∃ hd pv sh row v2 v8, σ' = [some (.ref p), some (.ref S), v2, some (.ref W), some hd, some pv, some (.int (1 + c)), some sh, v8, some row] ∧ Kp p H8 H' ∧ Pool H' p ∧ OneC nmB p H' b0 hd (.str nm) ∧ OneC (inB 2) p H' b1 pv (.int po) ∧ ShC p H' b2 sh row ws sg, ?_, ?_⟩
    · refine ⟨_, rfl, .inl ⟨S, _, 2, .bl b2, rfl, rfl, sq_of (kS (K18.trans K10)), (show atI _ ((2 : Nat) : Int) = _ from atI_nat rfl), b2, rfl, ite2 (fun hb => ?_) (fun hb => ?_)⟩⟩
      · obtain ⟨z, zs, ez⟩ : ∃ z zs, ws = z :: zs := by
          cases ws with
          | nil => simp at wl1
          | cons z zs => exact ⟨z, zs, rfl⟩
        have hw : ∀ {Hx : Hp}, Kp p H8 Hx → Hx W = some (.lst ((z :: zs).map V.str)) := fun K' => by rw [← ez]; exact K'.k _ _ nW hW8
        have nz : IsNm z := wnm z (by rw [ez]; simp)
        refine ⟨_, rfl, _, rfl, p, W, z, zs, rfl, P10, nW, hw K10, nz, fun v H' K' P' bd => ?_⟩
        refine ⟨_, rfl, _, rfl, p, W, z, zs, rfl, P', nW, hw (K10.trans K'), nz, fun v2 H2 K2 P2 bd2 => ?_⟩
        exact ⟨hd, pv, v, v2, _, _, rfl, K10.trans (K'.trans K2), P2, (c0.kp K').kp K2, (c1.kp K').kp K2, .inl ⟨hb, bd.kp P' K2, bd2⟩⟩
      · exact ⟨_, _, _, _, _, _, rfl, K10, P10, c0, c1, by rw [show b2 = false by simpa using hb]; exact sh0.kp P8 K10⟩
    rintro σ' H11 ⟨hd, pv, sh, row, w2, w8, rfl, K11, P11, c0, c1, c2⟩
    -- the cost
    refine ⟨fun σ' H' => ∃ hd pv sh row fe v2 v8, σ' = [some (.ref p), some (.ref S), v2, some (.ref W), some hd, some pv, some fe, some sh, v8, some row] ∧ Kp p H8 H' ∧ Pool H' p ∧ OneC nmB p H' b0 hd (.str nm) ∧ OneC (inB 2) p H' b1 pv (.int po) ∧ ShC p H' b2 sh row ws sg ∧ OneC coB p H' b3 fe (.int (1 + c)), ?_, ?_⟩
    · refine ⟨_, rfl, .inl ⟨S, _, 3, .bl b3, rfl, rfl, sq_of (kS (K18.trans K11)), (show atI _ ((3 : Nat) : Int) = _ from atI_nat rfl), b3, rfl, ite2 (fun hb => ?_) (fun hb => ?_)⟩⟩
      · refine ⟨_, rfl, p, rfl, P11, fun v H' K' P' bd no => ⟨hd, pv, sh, row, v, _, _, rfl, K11.trans K', P', c0.kp K', c1.kp K', c2.kp P11 K', .inl ⟨hb, bd, no⟩⟩⟩
      · exact ⟨_, _, _, _, _, _, _, rfl, K11, P11, c0, c1, c2, .inr ⟨by simpa using hb, rfl⟩⟩
    rintro σ' H12 ⟨hd, pv, sh, row, fe, w2, w8, rfl, K12, P12, c0, c1, c2, c3⟩
    refine ⟨_, rfl, _, rfl, _, rfl, _, rfl, _, rfl, _, rfl, (by show 6 ≤ sizeLine; decide), fun T hT => ?_⟩
    have eT : Ex H12 (upd H12 T (.tup [.ref S, hd, pv, sh, row, fe])) := Ex.new hT
    have KT : Kp p H12 (upd H12 T (.tup [.ref S, hd, pv, sh, row, fe])) := Kp.ex eT P12
    exact k T S b0 b1 b2 b3 hd pv sh row fe nm po (1 + c) ws sg _ (F1.kp.trans (K18.trans (K12.trans KT))) (P12.ex eT) gd upd_same nS (kS (K18.trans (K12.trans KT))) (c0.kp KT) (c1.kp KT) (c2.kp P12 KT) (c3.kp KT)
end
end WK

set_option Elab.async false
set_option linter.all false
set_option maxRecDepth 100000
set_option maxHeartbeats 4000000
/-! isinstance of a caught exception that has a dict of its own. -/
namespace WW
open PySem PySem.Spec PyProof.Rows L2
/-- isinstance(e, c), e the exception that the suite holds at a, of the class cls, with the dict d -/
def rIsED (K : PySem.W.Frag) (a : Addr) (cls : Value) (d : Option Addr) : List V → Hp → VK → Prop := fun xs H Q => ∃ (D dd : Addr) (fs : List (Str × V)), cls = .ref D ∧ d = some dd ∧ H dd = some (.xd fs) ∧ ExcC K D ∧ rIsE K D a xs H Q
theorem call_isED {X : Cx} {a : Addr} {cls : Value} {d : Option Addr} {oe : Obj} {pn : List (Addr × Obj)} (hz : Zc cls d oe) (hf : ∃ vs, oe.data = .fields vs) : CallR (X.suite a ((a, oe) :: pn)) (.builtin "isinstance") (rIsED X.K a cls d) := by
  intro pins s σ H xs us Q I r h
  obtain ⟨D, dd, fs, rfl, rfl, hx, C, c, cv, b, rfl, hcv, e, q⟩ := h
  match us, r with
  | [_, t], .cons rx (.cons rt .nil) =>
    cases rx
    have ec := hcv _ rt
    subst ec
    obtain ⟨hget, _⟩ := I.pin (a, oe) (List.mem_append_left _ List.mem_cons_self)
    obtain ⟨vs, hv⟩ := hf
    obtain ⟨mA, hns, _⟩ := (show ObjOk X.prog X.w H s.heap dd (.xd fs) from I.hok dd _ hx)
    obtain ⟨od, ho, _⟩ := lookIn_ns hns
    have J : PySem.W.InstAt s.heap a oe D (some od) := ⟨hget, hz.1, by unfold PySem.W.notCls; rw [hv] <;> rfl, by rw [hz.2]; exact ho⟩
    have cl : (PySem.W.clsIn X.K D).isSome = true := by
      obtain ⟨cd, hc, _⟩ := PySem.W.any_some C.hd
      rw [hc]
      rfl
    exact PySem.W.kia_one (PySem.W.kitx_exc cl C.hg C.hk C.hs C.ha C.hn C.ht C.hm) I.kIn J e (fun z => nomatch z) fun tk => ⟨.bl b, H, I.kept (t' := tk) fun _ _ z => z, rfl, q⟩
end WW

set_option Elab.async false
set_option linter.all false
set_option maxRecDepth 100000
set_option maxHeartbeats 4000000
namespace WK
open PySem PySem.Spec PyProof.Rows L2 WW Evl
/-- a class's making, that may raise -/
structure MkC (P : Program) (w : World) (K : PySem.W.Frag) (mg : Str → Option Value) (base : Heap) (CX : CXT) (x : Str) (C : Addr) (k : Nat) (ps : List Str) (sp : Sp) : Prop where
  ex : ∃ f fd, Mk K C f ∧ FnOk P w K mg base CX k f fd ps sp ∧ Binds K fd ps [] ∧ mg x = some (.ref C)
/-- the errors -/
structure Er (K : PySem.W.Frag) (mg : Str → Option Value) (CN CP CG CD CC CW : Addr) : Prop where
  gN : mg "BadName" = some (.ref CN)
  xN : XfC K CN
  nN : PySem.W.findIn K (.ref CN) "value" = some none
  eN : ExcC K CN
  kN : PySem.W.kitOne K (.ref CN) (.ref CW) = some true
  gP : mg "BadPost" = some (.ref CP)
  xP : XfC K CP
  nP : PySem.W.findIn K (.ref CP) "value" = some none
  eP : ExcC K CP
  kP : PySem.W.kitOne K (.ref CP) (.ref CW) = some true
  gG : mg "BadSights" = some (.ref CG)
  xG : XfC K CG
  nG : PySem.W.findIn K (.ref CG) "value" = some none
  eG : ExcC K CG
  kG : PySem.W.kitOne K (.ref CG) (.ref CW) = some true
  gD : mg "BadWords" = some (.ref CD)
  xD : XfC K CD
  nD : PySem.W.findIn K (.ref CD) "value" = some none
  eD : ExcC K CD
  kD : PySem.W.kitOne K (.ref CD) (.ref CW) = some true
  gC : mg "BadCost" = some (.ref CC)
  xC : XfC K CC
  nC : PySem.W.findIn K (.ref CC) "value" = some none
  eC : ExcC K CC
  kC : PySem.W.kitOne K (.ref CC) (.ref CW) = some true
  gW : mg "WorksError" = some (.ref CW)
  mNN : PySem.W.exmOne K (.ref CN) (.ref CN) = some true
  mPN : PySem.W.exmOne K (.ref CP) (.ref CN) = some false
  mPP : PySem.W.exmOne K (.ref CP) (.ref CP) = some true
  mGN : PySem.W.exmOne K (.ref CG) (.ref CN) = some false
  mGP : PySem.W.exmOne K (.ref CG) (.ref CP) = some false
  mGG : PySem.W.exmOne K (.ref CG) (.ref CG) = some true
  mDN : PySem.W.exmOne K (.ref CD) (.ref CN) = some false
  mDP : PySem.W.exmOne K (.ref CD) (.ref CP) = some false
  mDG : PySem.W.exmOne K (.ref CD) (.ref CG) = some false
  mDD : PySem.W.exmOne K (.ref CD) (.ref CD) = some true
  mCN : PySem.W.exmOne K (.ref CC) (.ref CN) = some false
  mCP : PySem.W.exmOne K (.ref CC) (.ref CP) = some false
  mCG : PySem.W.exmOne K (.ref CC) (.ref CG) = some false
  mCD : PySem.W.exmOne K (.ref CC) (.ref CD) = some false
  mCC : PySem.W.exmOne K (.ref CC) (.ref CC) = some true
section
variable {P : Program} {w : World} {K : PySem.W.Frag} {mg : Str → Option Value} {base : Heap} {f : Addr} {fd : FuncData}
theorem InsAtD.exD {CS CL : Addr} {H H' : Hp} {v : V} {r : Ins} {d : Addr} (e : Ex H H') (h : InsAtD CS CL H v r d) : InsAtD CS CL H' v r d := by
  obtain ⟨a, dx, rfl, ⟨h0, h1, h2⟩ | ⟨h0, h1, h2⟩⟩ := h
  · exact ⟨a, dx, rfl, .inl ⟨h0, e _ _ h1, e _ _ h2⟩⟩
  · exact ⟨a, dx, rfl, .inr ⟨h0, e _ _ h1, e _ _ h2⟩⟩
/-- a row that is told -/
def Says (H : Hp) (Q : VK) (kind : Str) (v : V) : Prop := ∀ H' T, Ex H H' → H' T = some (.tup [.str kind, v, .bl true]) → Q (.ref T) H'
abbrev s__law_built : Stmt := top 38
theorem sc__law_built : FnScope ["_law_is_sensor", "_law_head", "_law_post", "_law_third", "_law_fee", "e"] ["_law_is_sensor", "_law_head", "_law_post", "_law_third", "_law_fee"] (defScope s__law_built) := ⟨rfl, rfl, rfl, by decide +kernel, rfl, by decide +kernel, by decide +kernel⟩
def spBuilt (CS CL : Addr) : Sp := fun vs H Q _ => ∃ (b : Bool) (hd po th fe : V) (bt : Bool), vs = [.bl b, hd, po, th, fe] ∧ Pl H hd ∧ Sh hd ∧ Pl H po ∧ Pl H fe ∧ ((b = true ∧ SgIn H th bt) ∨ (b = false ∧ WdIn H th bt)) ∧
  Fst [(nmB hd, Says H Q "name" hd), (inB 2 po, Says H Q "post" po), (bt, Says H Q (if b = true then "sights" else "words") th), (coB fe, Says H Q "cost" fe)]
    (∃ (d : Addr) (r : Ins), th = .ref d ∧ r.lk = !b ∧ r.Ok ∧ hd = .str r.nm ∧ po = .int r.po ∧ fe = .int r.co ∧ ((b = true ∧ H d = some (.dK r.tab)) ∨ (b = false ∧ SqX H d (r.ws.map V.str))) ∧
      ∀ H' T i d', Ex H H' → H' T = some (.tup [.str "told", i]) → InsAtD CS CL H' i r d' → H d' = none → Q (.ref T) H')
theorem ok_built {C_Sensor C_Lock C_BadName C_BadPost C_BadSights C_BadWords C_BadCost C_WorksError : Addr} (G : Gz mg) (R : Er K mg C_BadName C_BadPost C_BadSights C_BadWords C_BadCost C_WorksError)
    (mS : MkC P w K mg base (L2.CX P w) "Sensor" C_Sensor 5 ["self", "name", "post", "sights", "cost"] (spInitSG C_Sensor C_Lock C_BadName C_BadPost C_BadSights C_BadCost))
    (mL : MkC P w K mg base (L2.CX P w) "Lock" C_Lock 5 ["self", "name", "post", "words", "cost"] (spInitLG C_Sensor C_Lock C_BadName C_BadPost C_BadWords C_BadCost))
    (D : Df K mg "_law_built" s__law_built f fd ["_law_is_sensor", "_law_head", "_law_post", "_law_third", "_law_fee"]) : Callee P w K mg base CXn 7 "_law_built" 5 (spBuilt C_Sensor C_Lock) := by
  have g_BadName := R.gN
  have xf_BadName := R.xN
  have no_BadName := R.nN
  have g_BadPost := R.gP
  have xf_BadPost := R.xP
  have no_BadPost := R.nP
  have g_BadSights := R.gG
  have xf_BadSights := R.xG
  have no_BadSights := R.nG
  have g_BadWords := R.gD
  have xf_BadWords := R.xD
  have no_BadWords := R.nD
  have g_BadCost := R.gC
  have xf_BadCost := R.xC
  have no_BadCost := R.nC
  have g_WorksError := R.gW
  obtain ⟨f1, fd1, M_Sensor, F_Sensor, b_Sensor, g_Sensor⟩ := mS.ex
  obtain ⟨f2, fd2, M_Lock, F_Lock, b_Lock, g_Lock⟩ := mL.ex
  refine D.callee (D.fn.ok sc__law_built (fun vs H Q E h => ?_) (fun cdv A outer s H vs Q E hr h => ⟨_, (pss_one (ps_try_asM (tb := _) rfl rfl sc__law_built.nd takes0 (fun W pn xe tk po => (pss_cons (ps_if (pt_val (pv 0)) (pss_one (ps_ret (pe_tup (pa_cons pe_str (pa_cons (pe_makeS M_Sensor F_Sensor (hr.mono (by decide)) rfl g_Sensor b_Sensor (fun σ => passAt tk σ) (pa_cons (pv 1) (pa_cons (pv 2) (pa_cons (pv 3) (pa_cons (pv 4) pa_nil))))) pa_nil))))) pss_nil) (pss_one (ps_ret (pe_tup (pa_cons pe_str (pa_cons (pe_makeS M_Lock F_Lock (hr.mono (by decide)) rfl g_Lock b_Lock (fun σ => passAt tk σ) (pa_cons (pv 1) (pa_cons (pv 2) (pa_cons (pv 3) (pa_cons (pv 4) pa_nil))))) pa_nil))))))) (HdsAs.clause (c := .ref C_BadName) ⟨rfl, by decide, .inl g_BadName⟩ (i := 5) rfl rfl (fun a oe cls d pn hz hf => (pss_one (ps_ret (pe_tup (pa_cons pe_str (pa_cons (pe_xf xf_BadName no_BadName hz hf (pv 5)) (pa_cons (pe_callB (call_isED hz hf) rfl G.g_isinstance (by rfl) (pa_cons (pv 5) (pa_cons (pe_glob (v := .ref C_WorksError) rfl g_WorksError rfl) pa_nil))) pa_nil))))))) (HdsAs.clause (c := .ref C_BadPost) ⟨rfl, by decide, .inl g_BadPost⟩ (i := 5) rfl rfl (fun a oe cls d pn hz hf => (pss_one (ps_ret (pe_tup (pa_cons pe_str (pa_cons (pe_xf xf_BadPost no_BadPost hz hf (pv 5)) (pa_cons (pe_callB (call_isED hz hf) rfl G.g_isinstance (by rfl) (pa_cons (pv 5) (pa_cons (pe_glob (v := .ref C_WorksError) rfl g_WorksError rfl) pa_nil))) pa_nil))))))) (HdsAs.clause (c := .ref C_BadSights) ⟨rfl, by decide, .inl g_BadSights⟩ (i := 5) rfl rfl (fun a oe cls d pn hz hf => (pss_one (ps_ret (pe_tup (pa_cons pe_str (pa_cons (pe_xf xf_BadSights no_BadSights hz hf (pv 5)) (pa_cons (pe_callB (call_isED hz hf) rfl G.g_isinstance (by rfl) (pa_cons (pv 5) (pa_cons (pe_glob (v := .ref C_WorksError) rfl g_WorksError rfl) pa_nil))) pa_nil))))))) (HdsAs.clause (c := .ref C_BadWords) ⟨rfl, by decide, .inl g_BadWords⟩ (i := 5) rfl rfl (fun a oe cls d pn hz hf => (pss_one (ps_ret (pe_tup (pa_cons pe_str (pa_cons (pe_xf xf_BadWords no_BadWords hz hf (pv 5)) (pa_cons (pe_callB (call_isED hz hf) rfl G.g_isinstance (by rfl) (pa_cons (pv 5) (pa_cons (pe_glob (v := .ref C_WorksError) rfl g_WorksError rfl) pa_nil))) pa_nil))))))) (HdsAs.clause (c := .ref C_BadCost) ⟨rfl, by decide, .inl g_BadCost⟩ (i := 5) rfl rfl (fun a oe cls d pn hz hf => (pss_one (ps_ret (pe_tup (pa_cons pe_str (pa_cons (pe_xf xf_BadCost no_BadCost hz hf (pv 5)) (pa_cons (pe_callB (call_isED hz hf) rfl G.g_isinstance (by rfl) (pa_cons (pv 5) (pa_cons (pe_glob (v := .ref C_WorksError) rfl g_WorksError rfl) pa_nil))) pa_nil))))))) HdsAs.done))))))), ?_⟩))
  · obtain ⟨_, _, _, _, _, _, rfl, _⟩ := h
    rfl
  · obtain ⟨b, hd, po, th, fe, bt, rfl, p1, s1, p2, p3, ti, out⟩ := h
    refine ⟨_, rfl, b, rfl, ite2 (fun hb => ?_) (fun hb => ?_)⟩
    · have hb : b = true := hb
      subst hb
      have ti : SgIn H th bt := by
        rcases ti with ⟨_, h⟩ | ⟨z, _⟩
        · exact h
        · cases z
      refine ⟨_, rfl, _, rfl, _, rfl, _, rfl, fun o m ho hm hne => ⟨H, o, m, hd, po, th, fe, bt, rfl, (Ex.new hm).trans (Ex.new (by rw [upd_ne hne.symm]; exact ho)), ho, upd_same, p1, s1, p2, p3, ti, out.imp4 (fun x H1 d e1 hd => ?_) (fun x H1 d e1 hd => ?_) (fun x H1 d e1 hd => ?_) (fun x H1 d e1 hd => ?_) (fun _ _ _ _ x => ?_)⟩⟩
      · refine ⟨true, R.mNN, fun _ a ha => ?_, fun z => nomatch z⟩
        refine ⟨.ref a, rfl, rfl, rfl, d, _, _, rfl, upd_same, rfl, ?_⟩
        refine ⟨_, rfl, C_BadName, d, _, rfl, rfl, upd_same, R.eN, .ref C_WorksError, .ref C_WorksError, true, rfl, fun u r => r, R.kN, ?_⟩
        refine ⟨(by show 3 ≤ sizeLine; decide), fun T hT => ?_⟩
        exact x _ T (e1.trans ((Ex.new hd).trans (Ex.new hT))) upd_same
      · refine ⟨false, R.mPN, (fun z => nomatch z), fun _ => ⟨true, R.mPP, fun _ a ha => ?_, fun z => nomatch z⟩⟩
        refine ⟨.ref a, rfl, rfl, rfl, d, _, _, rfl, upd_same, rfl, ?_⟩
        refine ⟨_, rfl, C_BadPost, d, _, rfl, rfl, upd_same, R.eP, .ref C_WorksError, .ref C_WorksError, true, rfl, fun u r => r, R.kP, ?_⟩
        refine ⟨(by show 3 ≤ sizeLine; decide), fun T hT => ?_⟩
        exact x _ T (e1.trans ((Ex.new hd).trans (Ex.new hT))) upd_same
      · refine ⟨false, R.mGN, (fun z => nomatch z), fun _ => ⟨false, R.mGP, (fun z => nomatch z), fun _ => ⟨true, R.mGG, fun _ a ha => ?_, fun z => nomatch z⟩⟩⟩
        refine ⟨.ref a, rfl, rfl, rfl, d, _, _, rfl, upd_same, rfl, ?_⟩
        refine ⟨_, rfl, C_BadSights, d, _, rfl, rfl, upd_same, R.eG, .ref C_WorksError, .ref C_WorksError, true, rfl, fun u r => r, R.kG, ?_⟩
        refine ⟨(by show 3 ≤ sizeLine; decide), fun T hT => ?_⟩
        exact x _ T (e1.trans ((Ex.new hd).trans (Ex.new hT))) upd_same
      · refine ⟨false, R.mCN, (fun z => nomatch z), fun _ => ⟨false, R.mCP, (fun z => nomatch z), fun _ => ⟨false, R.mCG, (fun z => nomatch z), fun _ => ⟨false, R.mCD, (fun z => nomatch z), fun _ => ⟨true, R.mCC, fun _ a ha => ?_, fun z => nomatch z⟩⟩⟩⟩⟩
        refine ⟨.ref a, rfl, rfl, rfl, d, _, _, rfl, upd_same, rfl, ?_⟩
        refine ⟨_, rfl, C_BadCost, d, _, rfl, rfl, upd_same, R.eC, .ref C_WorksError, .ref C_WorksError, true, rfl, fun u r => r, R.kC, ?_⟩
        refine ⟨(by show 3 ≤ sizeLine; decide), fun T hT => ?_⟩
        exact x _ T (e1.trans ((Ex.new hd).trans (Ex.new hT))) upd_same
      · obtain ⟨d, r, rfl, lk, ok, rfl, rfl, rfl, hd, x⟩ := x
        refine ⟨d, r, rfl, lk, ok, rfl, rfl, rfl, ?_, fun H1 d' e1 hi nd => ⟨rfl, ?_⟩⟩
        · rcases hd with ⟨_, h⟩ | ⟨z, _⟩
          · exact h
          · cases z
        · refine ⟨(by show 2 ≤ sizeLine; decide), fun T hT => ?_⟩
          exact x _ T _ d' (e1.trans (Ex.new hT)) upd_same (hi.exD (Ex.new hT)) nd
    · have hb : b = false := by simpa using hb
      subst hb
      have ti : WdIn H th bt := by
        rcases ti with ⟨z, _⟩ | ⟨_, h⟩
        · cases z
        · exact h
      refine ⟨_, rfl, _, rfl, _, rfl, _, rfl, fun o m ho hm hne => ⟨H, o, m, hd, po, th, fe, bt, rfl, (Ex.new hm).trans (Ex.new (by rw [upd_ne hne.symm]; exact ho)), ho, upd_same, p1, s1, p2, p3, ti, out.imp4 (fun x H1 d e1 hd => ?_) (fun x H1 d e1 hd => ?_) (fun x H1 d e1 hd => ?_) (fun x H1 d e1 hd => ?_) (fun _ _ _ _ x => ?_)⟩⟩
      · refine ⟨true, R.mNN, fun _ a ha => ?_, fun z => nomatch z⟩
        refine ⟨.ref a, rfl, rfl, rfl, d, _, _, rfl, upd_same, rfl, ?_⟩
        refine ⟨_, rfl, C_BadName, d, _, rfl, rfl, upd_same, R.eN, .ref C_WorksError, .ref C_WorksError, true, rfl, fun u r => r, R.kN, ?_⟩
        refine ⟨(by show 3 ≤ sizeLine; decide), fun T hT => ?_⟩
        exact x _ T (e1.trans ((Ex.new hd).trans (Ex.new hT))) upd_same
      · refine ⟨false, R.mPN, (fun z => nomatch z), fun _ => ⟨true, R.mPP, fun _ a ha => ?_, fun z => nomatch z⟩⟩
        refine ⟨.ref a, rfl, rfl, rfl, d, _, _, rfl, upd_same, rfl, ?_⟩
        refine ⟨_, rfl, C_BadPost, d, _, rfl, rfl, upd_same, R.eP, .ref C_WorksError, .ref C_WorksError, true, rfl, fun u r => r, R.kP, ?_⟩
        refine ⟨(by show 3 ≤ sizeLine; decide), fun T hT => ?_⟩
        exact x _ T (e1.trans ((Ex.new hd).trans (Ex.new hT))) upd_same
      · refine ⟨false, R.mDN, (fun z => nomatch z), fun _ => ⟨false, R.mDP, (fun z => nomatch z), fun _ => ⟨false, R.mDG, (fun z => nomatch z), fun _ => ⟨true, R.mDD, fun _ a ha => ?_, fun z => nomatch z⟩⟩⟩⟩
        refine ⟨.ref a, rfl, rfl, rfl, d, _, _, rfl, upd_same, rfl, ?_⟩
        refine ⟨_, rfl, C_BadWords, d, _, rfl, rfl, upd_same, R.eD, .ref C_WorksError, .ref C_WorksError, true, rfl, fun u r => r, R.kD, ?_⟩
        refine ⟨(by show 3 ≤ sizeLine; decide), fun T hT => ?_⟩
        exact x _ T (e1.trans ((Ex.new hd).trans (Ex.new hT))) upd_same
      · refine ⟨false, R.mCN, (fun z => nomatch z), fun _ => ⟨false, R.mCP, (fun z => nomatch z), fun _ => ⟨false, R.mCG, (fun z => nomatch z), fun _ => ⟨false, R.mCD, (fun z => nomatch z), fun _ => ⟨true, R.mCC, fun _ a ha => ?_, fun z => nomatch z⟩⟩⟩⟩⟩
        refine ⟨.ref a, rfl, rfl, rfl, d, _, _, rfl, upd_same, rfl, ?_⟩
        refine ⟨_, rfl, C_BadCost, d, _, rfl, rfl, upd_same, R.eC, .ref C_WorksError, .ref C_WorksError, true, rfl, fun u r => r, R.kC, ?_⟩
        refine ⟨(by show 3 ≤ sizeLine; decide), fun T hT => ?_⟩
        exact x _ T (e1.trans ((Ex.new hd).trans (Ex.new hT))) upd_same
      · obtain ⟨d, r, rfl, lk, ok, rfl, rfl, rfl, hd, x⟩ := x
        refine ⟨d, r, rfl, lk, ok, rfl, rfl, rfl, ?_, fun H1 d' e1 hi nd => ⟨rfl, ?_⟩⟩
        · rcases hd with ⟨z, _⟩ | ⟨_, h⟩
          · cases z
          · exact h
        · refine ⟨(by show 2 ≤ sizeLine; decide), fun T hT => ?_⟩
          exact x _ T _ d' (e1.trans (Ex.new hT)) upd_same (hi.exD (Ex.new hT)) nd
/-- the first that is spoilt -/
def FstI (b0 b1 b2 b3 : Bool) (i : Nat) : Prop := (b0 = true ∧ i = 0) ∨ (b0 = false ∧ b1 = true ∧ i = 1) ∨ (b0 = false ∧ b1 = false ∧ b2 = true ∧ i = 2) ∨ (b0 = false ∧ b1 = false ∧ b2 = false ∧ b3 = true ∧ i = 3)
def pickB (b0 b1 b2 b3 : Bool) : V → Bool
  | .int 0 => b0
  | .int 1 => b1
  | .int 2 => b2
  | .int 3 => b3
  | _ => false
theorem fstI_row {b0 b1 b2 b3 : Bool} {i : Nat} (h : FstI b0 b1 b2 b3 i) : ∃ r, ((((List.range 4).map fun (i : Nat) => V.int (0 + (i : Int))).filter (pickB b0 b1 b2 b3)).map fun x => x) = V.int (i : Nat) :: r := by
  rcases h with ⟨rfl, rfl⟩ | ⟨rfl, rfl, rfl⟩ | ⟨rfl, rfl, rfl, rfl⟩ | ⟨rfl, rfl, rfl, rfl, rfl⟩ <;> exact ⟨_, rfl⟩
theorem FstI.lt {b0 b1 b2 b3 : Bool} {i : Nat} (h : FstI b0 b1 b2 b3 i) : i < 4 := by
  rcases h with ⟨_, rfl⟩ | ⟨_, _, rfl⟩ | ⟨_, _, _, rfl⟩ | ⟨_, _, _, _, rfl⟩ <;> decide
theorem at4 {b0 b1 b2 b3 : Bool} : ∀ {i : Nat}, i < 4 → ([.bl b0, .bl b1, .bl b2, .bl b3] : List V)[i]? = some (.bl (pickB b0 b1 b2 b3 (.int (0 + (i : Int)))))
  | 0, _ => rfl
  | 1, _ => rfl
  | 2, _ => rfl
  | 3, _ => rfl
  | n + 4, h => by omega
abbrev s__law_refused : Stmt := top 39
theorem sc__law_refused : FnScope ["_law_found", "_law_spoils", "_law_given", "_law_kinds", "_law_at", "_law_k"] ["_law_found", "_law_spoils", "_law_given", "_law_kinds"] (defScope s__law_refused) := ⟨rfl, rfl, rfl, by decide +kernel, rfl, by decide +kernel, by decide +kernel⟩
def spRefused (n : Nat) : Sp := fun vs H Q _ => ∃ (pp F S G Kd : Addr) (b0 b1 b2 b3 : Bool) (i : Nat) (kind : Str) (v u : V) (gs ks : List V), vs = [.ref F, .ref S, .ref G, .ref Kd] ∧ H F = some (.tup [.str kind, v, .bl true]) ∧ H S = some (.lst [.bl b0, .bl b1, .bl b2, .bl b3]) ∧
  H G = some (.lst gs) ∧ H Kd = some (.lst ks) ∧ FstI b0 b1 b2 b3 i ∧ gs[i]? = some u ∧ ks[i]? = some (.str kind) ∧ AlR pp n H v u ∧ ∀ H', Ex H H' → Q (.bl true) H'
theorem ok_refused {n : Nat} (G : Gz mg) (D : Df K mg "_law_refused" s__law_refused f fd ["_law_found", "_law_spoils", "_law_given", "_law_kinds"]) (c__law_alike : Callee P w K mg base CXn (n + 1) "_law_alike" 2 (spA (n + 1))) : Callee P w K mg base CXn (n + 2) "_law_refused" 4 (spRefused n) := by
  refine D.callee (D.fn.ok sc__law_refused (fun vs H Q E h => ?_) (fun cdv A outer s H vs Q E hr h => ⟨_, PSs.nox (pss_cons (ps_set (i := 4) sc__law_refused.nd rfl (Or.inl rfl) (pe_ix (ixK (K := K) rfl) (pe_lc (own := [("_law_k", 5)]) rfl sc__law_refused.nd (pi_range1 rfl G.g_range (pa_cons pe_int pa_nil)) (BlkOk.mk (N := ["_law_found", "_law_spoils", "_law_given", "_law_kinds", "_law_at", "_law_k"]) (sc := defScope s__law_refused) rfl (by decide +kernel) (by decide +kernel) (by decide +kernel) (by decide +kernel)) (fun _ _ _ _ _ => (pg_name (i := 5) sc__law_refused.nd rfl (Or.inl rfl))) (fun _ _ _ _ _ => (pts_one (pt_val (pe_ix (ixK (K := K) rfl) (pv 1) (pv 5) (fun _ _ => rfl))))) (fun _ _ _ _ _ => (pv 5))) pe_int (fun _ _ => rfl))) (pss_one (ps_ret (L2.pe_and (pe_cmpR op_eq (pe_ix (ixK (K := K) rfl) (pv 0) pe_int (fun _ _ => rfl)) (pe_ix (ixK (K := K) rfl) (pv 3) (pv 4) (fun _ _ => rfl)) (nomark _)) (L2.pe_and (pe_ix (ixK (K := K) rfl) (pv 0) pe_int (fun _ _ => rfl)) (pe_one (pe_cl (E := En) c__law_alike (hr.mono (Nat.le_refl _)) rfl passN (pa_cons (pe_ix (ixK (K := K) rfl) (pv 0) pe_int (fun _ _ => rfl)) (pa_cons (pe_ix (ixK (K := K) rfl) (pv 2) (pv 4) (fun _ _ => rfl)) pa_nil))))))))), ?_⟩))
  · obtain ⟨_, _, _, _, _, _, _, _, _, _, _, _, _, _, _, rfl, _⟩ := h
    rfl
  · obtain ⟨pp, F, S, Gv, Kd, b0, b1, b2, b3, i, kind, v, u, gs, ks, rfl, hF, hS, hG, hK, fi, hg, hk, al, k⟩ := h
    have i4 := fi.lt
    refine ⟨4, rfl, by decide, by decide, fun N hN => ?_⟩
    refine lc_ev (f := pickB b0 b1 b2 b3) (v := fun x => x) st_r (by decide) (fun x => rfl) hN (fun x hx H2 e2 Q q => ?_) (fun x hx _ H2 e2 Q q => ⟨_, rfl, q H2 (Ex.refl _)⟩) (fun H2 e2 hN2 => ?_)
    · obtain ⟨j, hj, rfl⟩ := List.mem_map.mp hx
      have j4 : j < 4 := by simpa using hj
      exact ⟨_, rfl, _, rfl, .inl ⟨S, _, _, _, rfl, rfl, sq_of (e2 _ _ hS), at_of (j := j) (by omega) (at4 j4), _, rfl, q H2 (Ex.refl _)⟩⟩
    obtain ⟨r, hr0⟩ := fstI_row fi
    have hN2' : H2 N = some (.lst (V.int (i : Nat) :: r)) := by rw [hN2]; exact congrArg (fun z => some (HO.lst z)) hr0
    refine .inl ⟨N, _, 0, .int (i : Nat), rfl, rfl, sq_of hN2', (show atI _ ((0 : Nat) : Int) = _ from atI_nat rfl), ?_⟩
    refine ⟨_, rfl, .inr (.inl ⟨F, _, 0, .str kind, rfl, rfl, st_of (e2 _ _ hF), (by rfl), ?_⟩)⟩
    refine ⟨_, rfl, _, rfl, .inl ⟨Kd, _, (i : Nat), .str kind, rfl, rfl, sq_of (e2 _ _ hK), atI_nat hk, ?_⟩⟩
    refine ⟨rfl, true, (by rw [decide_eq_true rfl]), ?_⟩
    refine ⟨_, rfl, .inr (.inl ⟨F, _, 2, .bl true, rfl, rfl, st_of (e2 _ _ hF), (by rfl), true, rfl, ?_⟩)⟩
    refine ⟨_, rfl, .inr (.inl ⟨F, _, 1, v, rfl, rfl, st_of (e2 _ _ hF), (by rfl), ?_⟩)⟩
    refine ⟨_, rfl, _, rfl, .inl ⟨Gv, _, (i : Nat), u, rfl, rfl, sq_of (e2 _ _ hG), atI_nat hg, ?_⟩⟩
    exact ⟨pp, v, u, rfl, al.ex e2, fun H' e => k H' (e2.trans e)⟩
end
end WK

set_option Elab.async false
set_option linter.all false
set_option maxRecDepth 100000
set_option maxHeartbeats 4000000
namespace WK
open PySem PySem.Spec PyProof.Rows L2 WW Evl
/-- the sight of a word -/
def sgt (r : Ins) (y : Str) : Str := strOf ((valV r.tab (.inr y : Key)).getD .non)
theorem sgt_at {r : Ins} (ok : r.Ok) (lk : r.lk = false) {y : Str} (h : y ∈ r.ws) : valV r.tab (.inr y : Key) = some (.str (sgt r y)) := by
  obtain ⟨z, hz⟩ := tab_some ok lk h
  unfold sgt
  rw [hz]
  rfl
theorem tabX_form2 {r : Ins} (ok : r.Ok) (lk : r.lk = false) : r.tabX = (sortS r.ws).map fun y => ((.inr y : Key), V.str (sgt r y)) := by
  rw [tabX_form]
  refine List.map_congr_left fun y hy => ?_
  show (_, (valV r.tab (.inr y)).getD .non) = _
  rw [sgt_at ok lk (sortS_mem.mp hy)]
  rfl
theorem prd_of_map {α β γ : Type} {F : α → γ → Prop} {g : β → γ} : ∀ {xs : List α} {ys : List β}, Paired F xs (ys.map g) → Paired (fun x y => F x (g y)) xs ys
  | _, [], .nil => .nil
  | _, _ :: _, .cons h t => .cons h (prd_of_map t)
theorem prd_snoc {α β : Type} {R : α → β → Prop} {x : α} {y : β} : ∀ {xs : List α} {ys : List β}, Paired R xs ys → R x y → Paired R (xs ++ [x]) (ys ++ [y])
  | _, _, .nil, h => .cons h .nil
  | _, _, .cons g t, h => .cons g (prd_snoc t h)
def dPr (g : Str → Str) (y : Str) : PyData := .tuple [.str y, .str (g y)]
theorem plnA_pr (g : Str → Str) : ∀ xs : List Str, PyData.plainAll (xs.map (dPr g)) = true ∧ PyData.depthAll (xs.map (dPr g)) ≤ 1
  | [] => ⟨rfl, Nat.zero_le _⟩
  | x :: xs => by
    obtain ⟨h1, h2⟩ := plnA_pr g xs
    refine ⟨by rw [List.map_cons, PyData.plainAll, h1]; rfl, ?_⟩
    rw [List.map_cons, PyData.depthAll]
    exact Nat.max_le.mpr ⟨Nat.le_refl 1, h2⟩
theorem okP_pr (g : Str → Str) (xs : List Str) : okP (.list (xs.map (dPr g))) = true := by
  obtain ⟨h1, h2⟩ := plnA_pr g xs
  unfold okP
  rw [show (PyData.list (xs.map (dPr g))).plain = true from h1, decide_eq_true (by rw [PyData.depth]; omega)]
  rfl
theorem dpA_pr {K : PySem.W.Frag} {H : Hp} {g : Str → Str} : ∀ {ts : List Addr} {ys : List Str}, Paired (fun t y => H t = some (.tup [.str y, .str (g y)])) ts ys → DpAll K H (ts.map V.ref) (ys.map (dPr g))
  | _, _, .nil => .nil
  | _, _, .cons h t => .cons (.tup (st_of h) (.cons (.str _) (.cons (.str _) .nil))) (dpA_pr t)
theorem alq_strs {p a b : Addr} {H : Hp} {ws : List Str} (n : Nat) (n1 : a ≠ p) (n2 : b ≠ p) (h1 : H a = some (.lst (ws.map V.str))) (h2 : H b = some (.lst (ws.map V.str))) (l : ws.length ≤ 1000) : AlR p (n + 1) H (.ref a) (.ref b) :=
  .inl (.inr ⟨a, b, _, _, rfl, rfl, n1, n2, .inl ⟨h1, h2⟩, by rw [List.length_map]; exact l, prd_self fun x hx => by
    obtain ⟨z, _, rfl⟩ := List.mem_map.mp hx
    exact Alq.leaf (v := .str z) trivial n⟩)
section
variable {P : Program} {w : World} {K : PySem.W.Frag} {mg : Str → Option Value} {base : Heap} {f : Addr} {fd : FuncData}
abbrev s__law_tells : Stmt := top 40
theorem sc__law_tells : FnScope ["_law_one", "_law_head", "_law_post", "_law_words", "_law_fee", "_law_said"] ["_law_one", "_law_head", "_law_post", "_law_words", "_law_fee"] (defScope s__law_tells) := ⟨rfl, rfl, rfl, by decide +kernel, rfl, by decide +kernel, by decide +kernel⟩
def spTells (CS CL : Addr) : Sp := fun vs H Q _ => ∃ (pp : Addr) (v : V) (r : Ins) (W : Addr) (ws : List Str) (o : HO), vs = [v, .str r.nm, .int r.po, .ref W, .int r.co] ∧ H pp = some o ∧ InsAt CS CL H v r ∧ r.Ok ∧ H W = some (.lst (ws.map V.str)) ∧ ws.Perm r.ws ∧ ∀ H', Ex H H' → Q (.bl true) H'
theorem ok_tells {C_Sensor C_Lock : Addr} (G : Gz mg) (T : ICl K mg C_Sensor C_Lock) (I : IPr P w K mg base C_Sensor C_Lock) (D : Df K mg "_law_tells" s__law_tells f fd ["_law_one", "_law_head", "_law_post", "_law_words", "_law_fee"])
    (c__law_alike : Callee P w K mg base CXn 4 "_law_alike" 2 (spA 4)) : Callee P w K mg base CXn 5 "_law_tells" 5 (spTells C_Sensor C_Lock) := by
  have cls_Sensor := T.clS
  have cls_Lock := T.clL
  obtain ⟨p1, f1, fd1, p_name, F_name, b_name⟩ := I.nameS
  obtain ⟨p2, f2, fd2, p_nameL, F_nameL, b_nameL⟩ := I.nameL
  obtain ⟨p3, f3, fd3, p_post, F_post, b_post⟩ := I.postS
  obtain ⟨p4, f4, fd4, p_postL, F_postL, b_postL⟩ := I.postL
  obtain ⟨p5, f5, fd5, p_cost, F_cost, b_cost⟩ := I.costS
  obtain ⟨p6, f6, fd6, p_costL, F_costL, b_costL⟩ := I.costL
  obtain ⟨p7, f7, fd7, p_words, F_words, b_words⟩ := I.wordsS
  obtain ⟨p8, f8, fd8, p_wordsL, F_wordsL, b_wordsL⟩ := I.wordsL
  refine D.callee (D.fn.ok sc__law_tells (fun vs H Q E h => ?_) (fun cdv A outer s H vs Q E hr h => ⟨_, PSs.nox (pss_cons (ps_if (PW.pt (pw_or (pt_not (pt_val (pe_cl (E := En) c__law_alike (hr.mono (Nat.le_refl _)) rfl passN (pa_cons (WW.pe_or (pe_prop (E := En) (pv 0) cls_Sensor p_name F_name (hr.mono (by decide)) b_name .nil passN rfl) (pe_prop (E := En) (pv 0) cls_Lock p_nameL F_nameL (hr.mono (by decide)) b_nameL .nil passN rfl)) (pa_cons (pv 1) pa_nil))))) (pw_or (pt_not (pt_val (pe_cl (E := En) c__law_alike (hr.mono (Nat.le_refl _)) rfl passN (pa_cons (WW.pe_or (pe_prop (E := En) (pv 0) cls_Sensor p_post F_post (hr.mono (by decide)) b_post .nil passN rfl) (pe_prop (E := En) (pv 0) cls_Lock p_postL F_postL (hr.mono (by decide)) b_postL .nil passN rfl)) (pa_cons (pv 2) pa_nil))))) (pw_or1 (pt_not (pt_val (pe_cl (E := En) c__law_alike (hr.mono (Nat.le_refl _)) rfl passN (pa_cons (WW.pe_or (pe_prop (E := En) (pv 0) cls_Sensor p_cost F_cost (hr.mono (by decide)) b_cost .nil passN rfl) (pe_prop (E := En) (pv 0) cls_Lock p_costL F_costL (hr.mono (by decide)) b_costL .nil passN rfl)) (pa_cons (pv 4) pa_nil))))))))) (pss_one (ps_ret pe_bl)) pss_nil) (pss_cons (ps_set (i := 5) sc__law_tells.nd rfl (Or.inl rfl) (WW.pe_or (pe_prop (E := En) (pv 0) cls_Sensor p_words F_words (hr.mono (by decide)) b_words .nil passN rfl) (pe_prop (E := En) (pv 0) cls_Lock p_wordsL F_wordsL (hr.mono (by decide)) b_wordsL .nil passN rfl))) (pss_cons (ps_if (pt_not (pt_val (pe_cl (E := En) c__law_alike (hr.mono (Nat.le_refl _)) rfl passN (pa_cons (pv 5) (pa_cons (pe_callB (cr_sortL rfl) rfl G.g_sorted (by rfl) (pa_cons (pv 3) pa_nil)) pa_nil))))) (pss_one (ps_ret pe_bl)) pss_nil) (pss_cons (ps_expr (pe_bm PySem.F.plainAttrs_list PySem.F.slot_list_append PySem.F.type_list_append mt_append (pv 5) (pa_cons pe_str pa_nil))) (pss_one (ps_ret (pe_cl (E := En) c__law_alike (hr.mono (Nat.le_refl _)) rfl passN (pa_cons (WW.pe_or (pe_prop (E := En) (pv 0) cls_Sensor p_words F_words (hr.mono (by decide)) b_words .nil passN rfl) (pe_prop (E := En) (pv 0) cls_Lock p_wordsL F_wordsL (hr.mono (by decide)) b_wordsL .nil passN rfl)) (pa_cons (pe_callB (cr_sortL rfl) rfl G.g_sorted (by rfl) (pa_cons (pv 3) pa_nil)) pa_nil))))))))), ?_⟩))
  · obtain ⟨_, _, _, _, _, _, rfl, _⟩ := h
    rfl
  · obtain ⟨pp, v, r, W, ws, o, rfl, hpp, hv, ok, hW, pm, k⟩ := h
    have wl : ws.length ≤ 10 := by rw [pm.length_eq]; exact ok.le
    have sl : (sortS ws).length ≤ 1000 := by rw [sortS_len]; omega
    refine name_or rfl hv ?_
    refine ⟨_, rfl, pp, _, _, rfl, .inl (Alq.leaf (v := .str r.nm) trivial _), fun H1 e1 => ⟨true, rfl, iteF ?_⟩⟩
    refine post_or rfl (hv.ex e1) ?_
    refine ⟨_, rfl, pp, _, _, rfl, .inl (Alq.leaf (v := .int r.po) trivial _), fun H2 e2 => ⟨true, rfl, iteF ?_⟩⟩
    refine cost_or rfl (hv.ex (e1.trans e2)) ?_
    refine ⟨_, rfl, pp, _, _, rfl, .inl (Alq.leaf (v := .int r.co) trivial _), fun H3 e3 => ⟨true, rfl, iteF ?_⟩⟩
    have E3 := e1.trans (e2.trans e3)
    refine words_or rfl (hv.ex E3) ok fun Da H4 e4 nDa hDa => ?_
    have E4 := E3.trans e4
    have nD : Da ≠ pp := fun z => by rw [z, E3 _ _ hpp] at nDa; cases nDa
    have D0 : H Da = none := fresh_back E3 nDa
    refine ⟨_, rfl, _, rfl, W, ws, rfl, sq_of (E4 _ _ hW), by omega, fun L hL => ?_⟩
    have nL : L ≠ pp := fun z => by rw [z, E4 _ _ hpp] at hL; cases hL
    have e5 : Ex H4 (upd H4 L (.lst ((sortS ws).map V.str))) := Ex.new hL
    have hL5 : upd H4 L (.lst ((sortS ws).map V.str)) L = some (.lst ((sortS ws).map V.str)) := upd_same
    generalize upd H4 L (.lst ((sortS ws).map V.str)) = H5 at e5 hL5
    have hDa5 := e5 _ _ hDa
    rw [← sortS_congr pm] at hDa5
    refine ⟨pp, _, _, rfl, alq_strs _ nD nL hDa5 hL5 sl, fun H6 e6 => ⟨true, rfl, iteF ?_⟩⟩
    have E6 := E4.trans (e5.trans e6)
    have hDa6 := e6 _ _ hDa5
    refine ⟨_, rfl, .inl ⟨rfl, _, sq_of hDa6⟩, Da, _, _, rfl, rfl, hDa6, by rw [List.length_map]; exact sz_lt (by omega), ?_⟩
    have E7 := E6.mut (o := .lst ((sortS ws).map V.str ++ [.str "a"])) D0
    generalize upd H6 Da (.lst ((sortS ws).map V.str ++ [.str "a"])) = H7 at E7
    refine words_or rfl (hv.ex E7) ok fun Db H8 e8 nDb hDb => ?_
    have E8 := E7.trans e8
    have nD' : Db ≠ pp := fun z => by rw [z, E7 _ _ hpp] at nDb; cases nDb
    refine ⟨_, rfl, W, ws, rfl, sq_of (E8 _ _ hW), by omega, fun L' hL' => ?_⟩
    have nL' : L' ≠ pp := fun z => by rw [z, E8 _ _ hpp] at hL'; cases hL'
    have e9 : Ex H8 (upd H8 L' (.lst ((sortS ws).map V.str))) := Ex.new hL'
    have hL9 : upd H8 L' (.lst ((sortS ws).map V.str)) L' = some (.lst ((sortS ws).map V.str)) := upd_same
    generalize upd H8 L' (.lst ((sortS ws).map V.str)) = H9 at e9 hL9
    have hDb9 := e9 _ _ hDb
    rw [← sortS_congr pm] at hDb9
    exact ⟨pp, _, _, rfl, alq_strs _ nD' nL' hDb9 hL9 sl, fun H10 e10 => k H10 (E8.trans (e9.trans e10))⟩
abbrev s__law_sensor_tells : Stmt := top 41
theorem sc__law_sensor_tells : FnScope ["_law_one", "_law_shown", "_law_said", "_law_word"] ["_law_one", "_law_shown"] (defScope s__law_sensor_tells) := ⟨rfl, rfl, rfl, by decide +kernel, rfl, by decide +kernel, by decide +kernel⟩
def spSTells (CS CL : Addr) : Sp := fun vs H Q _ => ∃ (v : V) (r : Ins) (W : Addr), vs = [v, .ref W] ∧ InsAt CS CL H v r ∧ r.lk = false ∧ r.Ok ∧ H W = some (.dK r.tab) ∧ ∀ H', Ex H H' → Q (.bl true) H'
theorem ok_stells {C_Sensor C_Lock : Addr} (G : Gz mg) (T : ICl K mg C_Sensor C_Lock) (I : IPr P w K mg base C_Sensor C_Lock) (D : Df K mg "_law_sensor_tells" s__law_sensor_tells f fd ["_law_one", "_law_shown"]) : Callee P w K mg base CXn 3 "_law_sensor_tells" 2 (spSTells C_Sensor C_Lock) := by
  have cls_Sensor := T.clS
  obtain ⟨p1, f1, fd1, p_sights, F_sights, b_sights⟩ := I.sights
  refine D.callee (D.fn.ok sc__law_sensor_tells (fun vs H Q E h => ?_) (fun cdv A outer s H vs Q E hr h => ⟨_, PSs.nox (pss_cons (ps_set (i := 2) sc__law_sensor_tells.nd rfl (Or.inl rfl) (pe_prop (E := En) (pv 0) cls_Sensor p_sights F_sights (hr.mono (by decide)) b_sights .nil passN rfl)) (pss_cons (ps_if (PW.pt (pw_or (pt_not (pt_val (pe_callB (isiK (K := K) rfl) rfl G.g_isinstance (by rfl) (pa_cons (pv 2) (pa_cons (pe_bltn (v := .ty "dict") rfl G.g_dict (by rfl) rfl) pa_nil))))) (pw_or1 (pt_cmpR (op_neP hr.units) (LiI.pe_listItems rfl (pv 2) rfl G.g_list (by rfl)) (pe_lc (own := [("_law_word", 3)]) rfl sc__law_sensor_tells.nd (pi_list (pe_callB (cr_sortK rfl) rfl G.g_sorted (by rfl) (pa_cons (pv 1) pa_nil))) (BlkOk.mk (N := ["_law_one", "_law_shown", "_law_said", "_law_word"]) (sc := defScope s__law_sensor_tells) rfl (by decide +kernel) (by decide +kernel) (by decide +kernel) (by decide +kernel)) (fun _ _ _ _ _ => (pg_name (i := 3) sc__law_sensor_tells.nd rfl (Or.inl rfl))) (fun _ _ _ _ _ => pts_nil) (fun _ _ _ _ _ => (pe_tup (pa_cons (pv 3) (pa_cons (pe_dget (room1 hr) (pv 1) (pv 3) (fun _ _ => rfl)) pa_nil))))) (nomark _))))) (pss_one (ps_ret pe_bl)) pss_nil) (pss_cons (ps_expr (pe_dclear (pv 2))) (pss_one (ps_ret (pe_cmpR (op_eqDS hr.units0) (pe_prop (E := En) (pv 0) cls_Sensor p_sights F_sights (hr.mono (by decide)) b_sights .nil passN rfl) (pv 1) (nomark _))))))), ?_⟩))
  · obtain ⟨_, _, _, rfl, _⟩ := h
    rfl
  · obtain ⟨v, r, W, rfl, hv, lk, ok, hW, k⟩ := h
    have hv0 := hv
    obtain ⟨a, dx, d, rfl, ⟨z, _⟩ | ⟨_, ha, _⟩⟩ := hv
    · rw [lk] at z
      cases z
    have wl : r.ws.length ≤ 10 := ok.le
    refine ⟨_, rfl, a, dx, _, rfl, ha, .ref a, r, rfl, hv0, lk, fun Da H1 e1 nDa hDa => ?_⟩
    refine ⟨_, rfl, .ref Da, .ty "dict", .type "dict", .type "dict", true, rfl, .ty _, .base (.dK hDa), kit_ty (r := true) (by decide +kernel), true, rfl, iteF ?_⟩
    refine ⟨_, rfl, Da, _, rfl, hDa, fun H2 L ts k2 nL nT nLt hL pr => ?_⟩
    have e2 : Ex H1 H2 := k2
    have E2 := e1.trans e2
    rw [tabX_form2 ok lk] at pr
    have pr2 : Paired (fun t y => H2 t = some (.tup [.str y, .str (sgt r y)])) ts (sortS r.ws) := prd_of_map (F := fun (t : Addr) (q : Key × V) => H2 t = some (.tup [kV q.1, q.2])) (g := fun y => ((.inr y : Key), V.str (sgt r y))) pr
    refine ⟨_, rfl, W, r.tab, r.ws, rfl, .inl (E2 _ _ hW), ok.keys lk, by omega, fun M hM => ?_⟩
    have e3 : Ex H2 (upd H2 M (.lst ((sortS r.ws).map V.str))) := Ex.new hM
    have hM3 : upd H2 M (.lst ((sortS r.ws).map V.str)) M = some (.lst ((sortS r.ws).map V.str)) := upd_same
    generalize upd H2 M (.lst ((sortS r.ws).map V.str)) = H3 at e3 hM3
    refine ⟨M, rfl, ⟨_, sq_of hM3⟩, fun N hN => ?_⟩
    have nMN : N ≠ M := fun z => by rw [z, hM3] at hN; cases hN
    refine lc_list (fun j H4 => ∃ us : List Addr, H4 N = some (.lst (us.map V.ref)) ∧ Ex H3 H4 ∧ Paired (fun t y => H4 t = some (.tup [.str y, .str (sgt r y)])) us ((sortS r.ws).take j)) ⟨[], upd_same, Ex.new hN, .nil⟩ (fun j H4 _ ⟨us, _, e, _⟩ => sq_of (e _ _ hM3)) ?_ ?_
    · rintro j y H4 hy ⟨us, hu, e4, pu⟩
      rw [List.getElem?_map] at hy
      obtain ⟨z, hz, rfl⟩ := Option.map_eq_some_iff.mp hy
      have zm : z ∈ r.ws := sortS_mem.mp (List.mem_of_getElem? hz)
      have ul := Paired.length pu
      rw [List.length_take] at ul
      have sl10 := sortS_len r.ws
      refine ⟨rfl, _, rfl, _, rfl, _, rfl, W, .str (sgt r z), rfl, .inl ⟨r.tab, .inr z, .inl ((E2.trans (e3.trans e4)) _ _ hW), rfl, (sgt_at ok lk zm).symm⟩, (by show 2 ≤ sizeLine; decide), fun T5 hT => ?_⟩
      have e5 : Ex H4 (upd H4 T5 (.tup [.str z, .str (sgt r z)])) := Ex.new hT
      have hT5 : upd H4 T5 (.tup [.str z, .str (sgt r z)]) T5 = some (.tup [.str z, .str (sgt r z)]) := upd_same
      generalize upd H4 T5 (.tup [.str z, .str (sgt r z)]) = H5 at e5 hT5
      have hu5 := e5 _ _ hu
      have keep : ∀ {t : Addr} {y : Str}, H5 t = some (.tup [.str y, .str (sgt r y)]) → ∀ o, upd H5 N (.lst o) t = some (.tup [.str y, .str (sgt r y)]) := fun {t y} h o => by
        rw [upd_ne (fun z => by rw [z, hu5] at h; cases h)]
        exact h
      refine ⟨_, hu5, by rw [List.length_map]; exact sz_lt (by omega), us ++ [T5], by rw [upd_same, List.map_append]; rfl, (e4.trans e5).mut hN, ?_⟩
      rw [List.take_add_one, hz]
      exact prd_snoc (Paired.mapP pu fun t y h => keep (e5 _ _ h) _) (keep hT5 _)
    rintro H4 ⟨us, hu, e4, pu⟩
    rw [List.length_map, List.take_length] at pu
    have E4 := E2.trans (e3.trans e4)
    have pr4 : Paired (fun t y => H4 t = some (.tup [.str y, .str (sgt r y)])) ts (sortS r.ws) := Paired.mapP pr2 fun t y h => (e3.trans e4) _ _ h
    refine ⟨.list ((sortS r.ws).map (dPr (sgt r))), .list ((sortS r.ws).map (dPr (sgt r))), .lst (sq_of ((e3.trans e4) _ _ hL)) (dpA_pr pr4), .lst (sq_of hu) (dpA_pr pu), okP_pr _ _, okP_pr _ _, false, by rw [eqv_refl (okP_pr _ _)]; rfl, iteF ?_⟩
    have hDa4 := (e2.trans (e3.trans e4)) _ _ hDa
    refine ⟨_, rfl, .inr (.inr (.inl ⟨rfl, .inl ⟨_, hDa4⟩⟩)), Da, _, rfl, rfl, hDa4, ?_⟩
    have D0 : H Da = none := fresh_back (Ex.refl H) nDa
    have E5 := E4.mut (o := .dK []) D0
    generalize upd H4 Da (.dK []) = H5 at E5
    refine ⟨_, rfl, a, dx, _, rfl, E5 _ _ ha, .ref a, r, rfl, hv0.ex E5, lk, fun Db H6 e6 nDb hDb => ?_⟩
    have E6 := E5.trans e6
    refine ⟨_, rfl, Db, W, _, _, rfl, rfl, hDb, E6 _ _ hW, ⟨?_, fun p hp => ?_⟩, ?_⟩
    · have := ok.tabLen lk
      rw [tabX_form, List.length_map, sortS_len, this]
    · obtain ⟨x, z, rfl, hx, hz⟩ := tabX_mem ok lk hp
      exact ⟨z, z, rfl, hz⟩
    · have e : sameV r.tab r.tabX = true := by
        unfold sameV
        rw [List.all_eq_true]
        intro p hp
        obtain ⟨x, z, rfl, hx, hz⟩ := tabX_mem ok lk hp
        exact decide_eq_true hz
      rw [e]
      exact k H6 E6
end
end WK

set_option Elab.async false
set_option linter.all false
set_option maxRecDepth 100000
set_option maxHeartbeats 4000000
namespace WK
open PySem PySem.Spec PyProof.Rows L2 WW Evl
/-- the dict of the words l, each with its sight g -/
def mp (g : Str → Str) (l : List Str) : List (Key × V) := l.map fun y => ((.inr y : Key), V.str (g y))
theorem kvs_mp (g : Str → Str) : ∀ l : List Str, kvsOf l (l.map g) = mp g l
  | [] => rfl
  | x :: l => by
    have ih := kvs_mp g l
    unfold kvsOf mp at *
    rw [List.map_cons, List.zip_cons_cons, List.map_cons, ih]
    rfl
theorem mp_val {g : Str → Str} {l : List Str} {x : Str} : valV (mp g l) (.inr x : Key) = if x ∈ l then some (.str (g x)) else none := valV_fn (fun y => V.str (g y)) l x
theorem mp_new {g : Str → Str} {l : List Str} {y : Str} (h : y ∉ l) : putK (mp g l) (.inr y : Key) (.str (g y)) = mp g (l ++ [y]) := by
  rw [putK_new _ (by rw [mp_val, if_neg h])]
  unfold mp
  rw [List.map_append]
  rfl
theorem mp_old {g : Str → Str} {l : List Str} {w n : Str} (h : w ∈ l) : putK (mp g l) (.inr w : Key) (.str n) = mp (fun y => if y = w then n else g y) l := by
  unfold putK
  rw [valV_any, mp_val, if_pos h, if_pos (show (some (V.str (g w))).isSome = true from rfl)]
  unfold mp
  rw [List.map_map]
  refine List.map_congr_left fun y hy => ?_
  show (if (Sum.inr y : Key) = .inr w then ((.inr y : Key), V.str n) else ((.inr y : Key), V.str (g y))) = ((.inr y : Key), V.str (if y = w then n else g y))
  by_cases e : y = w
  · rw [if_pos (by rw [e]), if_pos e]
  · rw [if_neg (fun z => e (Sum.inr.inj z)), if_neg e]
/-- a sensor of l and g -/
def snr (nm : Str) (po co : Int) (l : List Str) (g : Str → Str) : Ins := ⟨false, nm, po, l, l.map g, co⟩
theorem snr_tab {nm : Str} {po co : Int} {l : List Str} {g : Str → Str} : (snr nm po co l g).tab = mp g l := kvs_mp g l
theorem Gd.sOk {nm : Str} {po co : Int} {ws sg : List Str} (h : Gd nm po co ws sg) : (Ins.mk false nm po ws sg co).Ok := ⟨h.nmk, h.pok, h.cok, h.ne, h.le, h.nd, h.wsk, fun _ => h.sl, h.sgk⟩
theorem Gd.lOk {nm : Str} {po co : Int} {ws sg : List Str} (h : Gd nm po co ws sg) : (Ins.mk true nm po ws [] co).Ok := ⟨h.nmk, h.pok, h.cok, h.ne, h.le, h.nd, h.wsk, (fun z => nomatch z), fun _ z => nomatch z⟩
theorem snr_ok {nm : Str} {po co : Int} {ws l : List Str} {g : Str → Str} (h1 : IsNm nm) (h2 : po = 0 ∨ po = 1) (h3 : 1 ≤ co ∧ co ≤ 1000) (ne : ws ≠ []) (le : ws.length ≤ 10) (nd : ws.Nodup) (hw : ∀ x ∈ ws, IsNm x) (pm : l.Perm ws) (hg : ∀ y ∈ l, IsNm (g y)) : (snr nm po co l g).Ok :=
  ⟨h1, h2, h3, (fun z => ne (by have z : l = [] := z; rw [z] at pm; exact pm.symm.eq_nil)), by show l.length ≤ 10; rw [pm.length_eq]; exact le, pm.nodup_iff.mpr nd, (fun x hx => hw x (pm.mem_iff.mp hx)), (fun _ => by show (l.map g).length = l.length; rw [List.length_map]), fun x hx => by
    obtain ⟨y, hy, rfl⟩ := List.mem_map.mp (show x ∈ l.map g from hx)
    exact hg y hy⟩
theorem sgt_nm {r : Ins} (ok : r.Ok) (lk : r.lk = false) {y : Str} (h : y ∈ r.ws) : IsNm (sgt r y) := by
  have hv := sgt_at ok lk h
  have mem : ∀ {l : List (Key × V)} {k : Key} {v : V}, valV l k = some v → (k, v) ∈ l := by
    intro l
    induction l with
    | nil => intro k v h; cases h
    | cons q l ih =>
      intro k v h
      by_cases e : q.1 = k
      · rw [valV_pos e] at h
        cases h
        rw [← e]
        exact List.mem_cons_self
      · rw [valV_neg e] at h
        exact List.mem_cons_of_mem _ (ih h)
  obtain ⟨a, b, e, _, hb⟩ := (ok.tabS lk).each _ (mem hv)
  cases e
  exact hb
theorem tab_nd {r : Ins} (ok : r.Ok) (lk : r.lk = false) : (r.tab.map (·.1)).Nodup := by
  rw [ok.keys lk]
  exact List.pairwise_map.mpr (List.Pairwise.imp (fun h e => h (Sum.inr.inj e)) ok.nd)
theorem sameTab {r s : Ins} (ok : r.Ok) (lk : r.lk = false) : sameV s.tab r.tab = agr r s := by
  unfold sameV agr
  rw [lk, Bool.false_or, Bool.eq_iff_iff, List.all_eq_true, decide_eq_true_iff]
  constructor
  · intro h x hx
    have hk : (Sum.inr x : Key) ∈ r.tab.map (·.1) := by rw [ok.keys lk]; exact List.mem_map_of_mem hx
    obtain ⟨p, hp, e⟩ := List.mem_map.mp hk
    have h1 := val_nodup (tab_nd ok lk) p hp
    have h2 := of_decide_eq_true (h p hp)
    rw [e] at h1 h2
    rw [h1, h2]
  · intro h p hp
    have h1 := val_nodup (tab_nd ok lk) p hp
    obtain ⟨x, y, rfl, _, _⟩ := (ok.tabS lk).each p hp
    have hx : x ∈ r.ws := by
      have hk : (Sum.inr x : Key) ∈ r.tab.map (·.1) := List.mem_map_of_mem (f := (·.1)) hp
      rw [ok.keys lk] at hk
      obtain ⟨z, hz, e⟩ := List.mem_map.mp hk
      exact Sum.inr.inj e ▸ hz
    refine decide_eq_true ?_
    rw [← h x hx]
    exact h1
theorem txts_tab {r s : Ins} (ok : r.Ok) (ok2 : s.Ok) (lk : r.lk = false) (lk2 : s.lk = false) (pm : s.ws.Perm r.ws) : Txts r.tab s.tab := by
  refine ⟨by rw [ok.tabLen lk, ok2.tabLen lk2, pm.length_eq], fun p hp => ?_⟩
  obtain ⟨x, y, rfl, _, _⟩ := (ok.tabS lk).each p hp
  have hx : x ∈ r.ws := by
    have hk : (Sum.inr x : Key) ∈ r.tab.map (·.1) := List.mem_map_of_mem (f := (·.1)) hp
    rw [ok.keys lk] at hk
    obtain ⟨z, hz, e⟩ := List.mem_map.mp hk
    exact Sum.inr.inj e ▸ hz
  exact ⟨y, _, rfl, sgt_at ok2 lk2 (pm.mem_iff.mpr hx)⟩
theorem agr_self {r : Ins} (ok : r.Ok) (lk : r.lk = false) {nm : Str} {po co : Int} {l : List Str} (pm : l.Perm r.ws) : agr r (snr nm po co l (sgt r)) = true := by
  unfold agr
  rw [lk, Bool.false_or]
  refine decide_eq_true fun x hx => ?_
  rw [sgt_at ok lk hx, snr_tab, mp_val, if_pos (pm.mem_iff.mpr hx)]
/-- what no draw changes -/
def InsP (p : Addr) (CS CL : Addr) (H : Hp) (v : V) (r : Ins) : Prop := ∃ d, InsAtD CS CL H v r d ∧ d ≠ p
theorem InsP.kp {p CS CL : Addr} {H H' : Hp} {v : V} {r : Ins} (hP : Pool H p) (k : Kp p H H') (h : InsP p CS CL H v r) : InsP p CS CL H' v r := by
  obtain ⟨g, s, n, kk, gs, ss, h1, _⟩ := hP
  obtain ⟨d, ⟨a, dx, rfl, ⟨lk, ha, hd⟩ | ⟨lk, ha, hd⟩⟩, nd⟩ := h
  · exact ⟨d, ⟨a, dx, rfl, .inl ⟨lk, k.k _ _ (fun z => by rw [z, h1] at ha; cases ha) ha, k.k _ _ nd hd⟩⟩, nd⟩
  · exact ⟨d, ⟨a, dx, rfl, .inr ⟨lk, k.k _ _ (fun z => by rw [z, h1] at ha; cases ha) ha, k.k _ _ nd hd⟩⟩, nd⟩
theorem InsP.at {p CS CL : Addr} {H : Hp} {v : V} {r : Ins} (h : InsP p CS CL H v r) : InsAt CS CL H v r := let ⟨_, h, _⟩ := h; h.at
/-- the two classes' == -/
structure EqC (P : Program) (w : World) (K : PySem.W.Frag) (mg : Str → Option Value) (base : Heap) (CS CL : Addr) : Prop where
  exS : ∃ f fd, PySem.W.findIn K (.ref CS) "__eq__" = some (some (.ref f)) ∧ PySem.W.isFn K (.ref f) = true ∧ FnOk P w K mg base CXn 1 f fd ["self", "other"] (spEqG false CS CL) ∧ Binds K fd ["self", "other"] []
  exL : ∃ f fd, PySem.W.findIn K (.ref CL) "__eq__" = some (some (.ref f)) ∧ PySem.W.isFn K (.ref f) = true ∧ FnOk P w K mg base CXn 1 f fd ["self", "other"] (spEqG true CS CL) ∧ Binds K fd ["self", "other"] []
  nSS : PySem.W.notFirst K CS (.ref CS) = true
  nSL : PySem.W.notFirst K CS (.ref CL) = true
  nLS : PySem.W.notFirst K CL (.ref CS) = true
  nLL : PySem.W.notFirst K CL (.ref CL) = true
theorem eq_go {K : PySem.W.Frag} {CS CL : Addr} {H : Hp} {v u : V} {r s : Ins} {Q : VK} (nSS : PySem.W.notFirst K CS (.ref CS) = true) (nSL : PySem.W.notFirst K CS (.ref CL) = true) (nLS : PySem.W.notFirst K CL (.ref CS) = true) (nLL : PySem.W.notFirst K CL (.ref CL) = true)
    (hv : InsAt CS CL H v r) (ok : r.Ok) (hu : InsAt CS CL H u s) (out : (s.lk = !r.lk ∧ Q (.bl false) H) ∨ (s.lk = r.lk ∧ s.Ok ∧ s.ws.Perm r.ws ∧ Q (.bl (eqI r s)) H)) :
    rOwnEq K CS (spEqG false CS CL) En v u H Q ∨ rOwnEq K CL (spEqG true CS CL) En v u H Q := by
  have hv0 := hv
  have hu0 := hu
  obtain ⟨a, dx, d, rfl, ⟨lk, ha, _⟩ | ⟨lk, ha, _⟩⟩ := hv
  · obtain ⟨b, dy, d', rfl, ⟨lk', hb, _⟩ | ⟨lk', hb, _⟩⟩ := hu
    · exact .inr ⟨a, dx, _, b, CL, dy, _, rfl, rfl, ha, hb, nLL, _, _, r, s, rfl, hv0, lk, ok, hu0, out.imp (fun ⟨z, q⟩ => ⟨by rw [lk] at z; exact z, q⟩) fun ⟨z, q⟩ => ⟨by rw [lk] at z; exact z, q⟩⟩
    · exact .inr ⟨a, dx, _, b, CS, dy, _, rfl, rfl, ha, hb, nLS, _, _, r, s, rfl, hv0, lk, ok, hu0, out.imp (fun ⟨z, q⟩ => ⟨by rw [lk] at z; exact z, q⟩) fun ⟨z, q⟩ => ⟨by rw [lk] at z; exact z, q⟩⟩
  · obtain ⟨b, dy, d', rfl, ⟨lk', hb, _⟩ | ⟨lk', hb, _⟩⟩ := hu
    · exact .inl ⟨a, dx, _, b, CL, dy, _, rfl, rfl, ha, hb, nSL, _, _, r, s, rfl, hv0, lk, ok, hu0, out.imp (fun ⟨z, q⟩ => ⟨by rw [lk] at z; exact z, q⟩) fun ⟨z, q⟩ => ⟨by rw [lk] at z; exact z, q⟩⟩
    · exact .inl ⟨a, dx, _, b, CS, dy, _, rfl, rfl, ha, hb, nSS, _, _, r, s, rfl, hv0, lk, ok, hu0, out.imp (fun ⟨z, q⟩ => ⟨by rw [lk] at z; exact z, q⟩) fun ⟨z, q⟩ => ⟨by rw [lk] at z; exact z, q⟩⟩
end WK

set_option Elab.async false
set_option linter.all false
set_option maxRecDepth 100000
set_option maxHeartbeats 4000000
namespace WK
open PySem PySem.Spec PyProof.Rows L2 WW Evl
section
variable {P : Program} {w : World} {K : PySem.W.Frag} {mg : Str → Option Value} {base : Heap} {f : Addr} {fd : FuncData}
abbrev s__law_twins : Stmt := top 42
theorem sc__law_twins : FnScope ["_law_pool_here", "_law_head", "_law_post", "_law_shown", "_law_row", "_law_fee", "_law_first", "_law_lock", "_law_other", "_law_word", "_law_kind", "_law_second", "_law_same"] ["_law_pool_here", "_law_head", "_law_post", "_law_shown", "_law_row", "_law_fee"] (defScope s__law_twins) := ⟨rfl, rfl, rfl, by decide +kernel, rfl, by decide +kernel, by decide +kernel⟩
def spTwins : Sp := fun vs H Q _ => ∃ (p D L : Addr) (nm : Str) (po co : Int) (ws sg : List Str), vs = [.ref p, .str nm, .int po, .ref D, .ref L, .int co] ∧ Pool H p ∧ D ≠ p ∧ L ≠ p ∧ Gd nm po co ws sg ∧ H D = some (.dK (kvsOf ws sg)) ∧ H L = some (.lst (ws.map V.str)) ∧ ∀ H', Q (.bl true) H'
theorem ok_twins {C_Sensor C_Lock : Addr} (G : Gz mg) (T : ICl K mg C_Sensor C_Lock) (I : IPr P w K mg base C_Sensor C_Lock) (Z : EqC P w K mg base C_Sensor C_Lock)
    (mS : MkC P w K mg base CXn "Sensor" C_Sensor 5 ["self", "name", "post", "sights", "cost"] (spInitS0 C_Sensor C_Lock))
    (mL : MkC P w K mg base CXn "Lock" C_Lock 5 ["self", "name", "post", "words", "cost"] (spInitL0 C_Sensor C_Lock))
    (D : Df K mg "_law_twins" s__law_twins f fd ["_law_pool_here", "_law_head", "_law_post", "_law_shown", "_law_row", "_law_fee"])
    (c__law_draw : Callee P w K mg base CXn 1 "_law_draw" 2 spDraw) (c__law_name : Callee P w K mg base CXn 2 "_law_name" 2 spName) (c__law_names : Callee P w K mg base CXn 3 "_law_names" 2 spNames) : Callee P w K mg base CXn 7 "_law_twins" 6 spTwins := by
  have cls_Sensor := T.clS
  obtain ⟨p1, f1, fd1, p_name, F_name, b_name⟩ := I.nameS
  obtain ⟨p3, f3, fd3, p_post, F_post, b_post⟩ := I.postS
  obtain ⟨p5, f5, fd5, p_cost, F_cost, b_cost⟩ := I.costS
  obtain ⟨f6, fd6, M_Sensor, F_Sensor, b_Sensor, g_Sensor⟩ := mS.ex
  obtain ⟨f7, fd7, M_Lock, F_Lock, b_Lock, g_Lock⟩ := mL.ex
  obtain ⟨f8, fd8, e_eqS, i_eqS, F_eqS, b_eqS⟩ := Z.exS
  obtain ⟨f9, fd9, e_eqL, i_eqL, F_eqL, b_eqL⟩ := Z.exL
  have eqq := fun {H : Hp} {v u : V} {r s : Ins} {Q : VK} => eq_go (K := K) (CS := C_Sensor) (CL := C_Lock) (H := H) (v := v) (u := u) (r := r) (s := s) (Q := Q) Z.nSS Z.nSL Z.nLS Z.nLL
  refine D.callee (D.fn.ok sc__law_twins (fun vs H Q E h => ?_) (fun cdv A outer s H vs Q E hr h => ⟨_, PSs.nox (pss_cons (ps_set (i := 6) sc__law_twins.nd rfl (Or.inl rfl) (pe_make (E := En) M_Sensor F_Sensor (hr.mono (by decide)) rfl g_Sensor b_Sensor .nil passN (pa_cons (pv 1) (pa_cons (pv 2) (pa_cons (pv 3) (pa_cons (pv 5) pa_nil)))))) (pss_cons (ps_set (i := 7) sc__law_twins.nd rfl (Or.inl rfl) (pe_make (E := En) M_Lock F_Lock (hr.mono (by decide)) rfl g_Lock b_Lock .nil passN (pa_cons (pv 1) (pa_cons (pv 2) (pa_cons (pv 4) (pa_cons (pv 5) pa_nil)))))) (pss_cons (ps_set (i := 8) sc__law_twins.nd rfl (Or.inl rfl) pe_dnewK) (pss_cons (ps_for PassesOwn.never rfl (pi_list (pe_revL (pe_callB (cr_sortK rfl) rfl G.g_sorted (by rfl) (pa_cons (pv 3) pa_nil)))) (pg_name (i := 9) sc__law_twins.nd rfl (Or.inl rfl)) (pss_one (ps_dput (room1 hr) (pv 8) (pv 9) (pe_dget (room1 hr) (pv 3) (pv 9) (fun _ _ => rfl)) rfl))) (pss_cons (ps_if (PW.pt (pw_or (pt_not (pt_cmpR (OpR.or (op_ownEq (E := En) e_eqS i_eqS F_eqS (hr.mono (by decide)) b_eqS passN) (op_ownEq (E := En) e_eqL i_eqL F_eqL (hr.mono (by decide)) b_eqL passN)) (pv 6) (pe_make (E := En) M_Sensor F_Sensor (hr.mono (by decide)) rfl g_Sensor b_Sensor .nil passN (pa_cons (pv 1) (pa_cons (pv 2) (pa_cons (pv 8) (pa_cons (pv 5) pa_nil))))) (nomark _))) (pw_or1 (pt_not (pt_cmpR (OpR.or (op_ownEq (E := En) e_eqS i_eqS F_eqS (hr.mono (by decide)) b_eqS passN) (op_ownEq (E := En) e_eqL i_eqL F_eqL (hr.mono (by decide)) b_eqL passN)) (pv 7) (pe_make (E := En) M_Lock F_Lock (hr.mono (by decide)) rfl g_Lock b_Lock .nil passN (pa_cons (pv 1) (pa_cons (pv 2) (pa_cons (pe_callTy (tupOfK (K := K) rfl) rfl G.g_tuple (by rfl) (pa_cons (pe_revL (pv 4)) pa_nil)) (pa_cons (pv 5) pa_nil))))) (nomark _)))))) (pss_one (ps_ret pe_bl)) pss_nil) (pss_cons (ps_if (PW.pt (pw_or (pt_cmpR (OpR.or (op_ownEq (E := En) e_eqS i_eqS F_eqS (hr.mono (by decide)) b_eqS passN) (op_ownEq (E := En) e_eqL i_eqL F_eqL (hr.mono (by decide)) b_eqL passN)) (pv 6) (pv 7) (nomark _)) (pw_or1 (pt_cmpR (OpR.or (op_ownEq (E := En) e_eqS i_eqS F_eqS (hr.mono (by decide)) b_eqS passN) (op_ownEq (E := En) e_eqL i_eqL F_eqL (hr.mono (by decide)) b_eqL passN)) (pv 7) (pv 6) (nomark _))))) (pss_one (ps_ret pe_bl)) pss_nil) (pss_cons (ps_set (i := 10) sc__law_twins.nd rfl (Or.inl rfl) (pe_cl (E := En) c__law_draw (hr.mono (by decide)) rfl passN (pa_cons (pv 0) (pa_cons pe_int pa_nil)))) (pss_cut (ps_if (pt_cmpR op_eq (pv 10) pe_int (nomark _)) (pss_one (ps_set (i := 1) sc__law_twins.nd rfl (Or.inl rfl) (pe_cl (E := En) c__law_name (hr.mono (by decide)) rfl passN (pa_cons (pv 0) (pa_cons (pe_lst (pa_cons (pv 1) pa_nil)) pa_nil))))) pss_nil) (pss_cut (ps_if (pt_cmpR op_eq (pv 10) pe_int (nomark _)) (pss_one (ps_set (i := 2) sc__law_twins.nd rfl (Or.inl rfl) (pe_op op_sub pe_int (pv 2)))) pss_nil) (pss_cut (ps_if (pt_cmpR op_eq (pv 10) pe_int (nomark _)) (pss_cons (ps_set (i := 9) sc__law_twins.nd rfl (Or.inl rfl) (pe_ix (ixK (K := K) rfl) (pe_callB (cr_sortK rfl) rfl G.g_sorted (by rfl) (pa_cons (pv 3) pa_nil)) (pe_cl (E := En) c__law_draw (hr.mono (by decide)) rfl passN (pa_cons (pv 0) (pa_cons (pe_callB call_lenD rfl G.g_len PySem.boot_len (pa_cons (pv 3) pa_nil)) pa_nil))) (fun _ _ => rfl))) (pss_cons (ps_dput (room1 hr) (pv 8) (pv 9) (pe_ix (ixK (K := K) rfl) (pe_cl (E := En) c__law_names (hr.mono (by decide)) rfl passN (pa_cons (pv 0) (pa_cons pe_int pa_nil))) pe_int (fun _ _ => rfl)) rfl) (pss_one (ps_set (i := 4) sc__law_twins.nd rfl (Or.inl rfl) (pe_slice sl_list (pv 4) po_none (po_some (pe_un un_neg pe_int))))))) pss_nil) (pss_cut (ps_if (pt_cmpR op_eq (pv 10) pe_int (nomark _)) (pss_one (ps_set (i := 5) sc__law_twins.nd rfl (Or.inl rfl) (pe_op op_add pe_int (pe_cl (E := En) c__law_draw (hr.mono (by decide)) rfl passN (pa_cons (pv 0) (pa_cons pe_int pa_nil)))))) pss_nil) (pss_cons (ps_set (i := 11) sc__law_twins.nd rfl (Or.inl rfl) (pe_make (E := En) M_Sensor F_Sensor (hr.mono (by decide)) rfl g_Sensor b_Sensor .nil passN (pa_cons (pv 1) (pa_cons (pv 2) (pa_cons (pv 8) (pa_cons (pv 5) pa_nil)))))) (pss_cut (ps_set (i := 12) sc__law_twins.nd rfl (Or.inl rfl) (L2.pe_and (pe_cmpR op_eq (pe_prop (E := En) (pv 6) cls_Sensor p_name F_name (hr.mono (by decide)) b_name .nil passN rfl) (pv 1) (nomark _)) (L2.pe_and (pe_cmpR op_eq (pe_prop (E := En) (pv 6) cls_Sensor p_post F_post (hr.mono (by decide)) b_post .nil passN rfl) (pv 2) (nomark _)) (L2.pe_and (pe_cmpR (op_eqDS hr.units0) (pv 3) (pv 8) (nomark _)) (pe_one (pe_cmpR op_eq (pe_prop (E := En) (pv 6) cls_Sensor p_cost F_cost (hr.mono (by decide)) b_cost .nil passN rfl) (pv 5) (nomark _))))))) (pss_cons (ps_if (PW.pt (pw_or (pt_cmpR op_ne (pe_cmpR (OpR.or (op_ownEq (E := En) e_eqS i_eqS F_eqS (hr.mono (by decide)) b_eqS passN) (op_ownEq (E := En) e_eqL i_eqL F_eqL (hr.mono (by decide)) b_eqL passN)) (pv 6) (pv 11) (nomark _)) (pv 12) (nomark _)) (pw_or1 (pt_cmpR op_ne (pe_cmpR (OpR.or (op_ownEq (E := En) e_eqS i_eqS F_eqS (hr.mono (by decide)) b_eqS passN) (op_ownEq (E := En) e_eqL i_eqL F_eqL (hr.mono (by decide)) b_eqL passN)) (pv 11) (pv 6) (nomark _)) (pv 12) (nomark _))))) (pss_one (ps_ret pe_bl)) pss_nil) (pss_one (ps_ret (L2.pe_or (pe_cmpR op_eq (pv 10) pe_int (nomark _)) (pe_one (pe_cmpR op_eq (pe_cmpR (OpR.or (op_ownEq (E := En) e_eqS i_eqS F_eqS (hr.mono (by decide)) b_eqS passN) (op_ownEq (E := En) e_eqL i_eqL F_eqL (hr.mono (by decide)) b_eqL passN)) (pv 7) (pe_make (E := En) M_Lock F_Lock (hr.mono (by decide)) rfl g_Lock b_Lock .nil passN (pa_cons (pv 1) (pa_cons (pv 2) (pa_cons (pv 4) (pa_cons (pv 5) pa_nil))))) (nomark _)) (pv 12) (nomark _)))))))))))))))))))), ?_⟩))
  · obtain ⟨_, _, _, _, _, _, _, _, rfl, _⟩ := h
    rfl
  · obtain ⟨p, D, L, nm, po, co, ws, sg, rfl, hP, nDp, nLp, gd, hD, hL, k⟩ := h
    have okS := gd.sOk
    have okL := gd.lOk
    have wl : ws.length ≤ 10 := gd.le
    -- the first, the lock
    refine ⟨_, rfl, _, rfl, _, rfl, _, rfl, fun o1 m1 ho1 hm1 hne1 => ⟨H, o1, m1, D, Ins.mk false nm po ws sg co, rfl, (Ex.new hm1).trans (Ex.new (by rw [upd_ne hne1.symm]; exact ho1)), ho1, upd_same, rfl, okS, hD, fun H1 d1 e1 hi1 nd1 => ⟨rfl, ?_⟩⟩⟩
    have P1 := hP.ex e1
    have i1 : InsP p C_Sensor C_Lock H1 (.ref o1) (Ins.mk false nm po ws sg co) := ⟨d1, hi1, fun z => hP.here (z ▸ nd1)⟩
    refine ⟨_, rfl, _, rfl, _, rfl, _, rfl, fun o2 m2 ho2 hm2 hne2 => ⟨H1, o2, m2, L, Ins.mk true nm po ws [] co, rfl, (Ex.new hm2).trans (Ex.new (by rw [upd_ne hne2.symm]; exact ho2)), ho2, upd_same, rfl, okL, .inl (e1 _ _ hL), fun H2 d2 e2 hi2 nd2 => ⟨rfl, ?_⟩⟩⟩
    have P2 := P1.ex e2
    have i2 : InsP p C_Sensor C_Lock H2 (.ref o2) (Ins.mk true nm po ws [] co) := ⟨d2, hi2, fun z => P1.here (z ▸ nd2)⟩
    have i1 := i1.kp P1 (Kp.ex e2 P1)
    have hD := e2 _ _ (e1 _ _ hD)
    have hL := e2 _ _ (e1 _ _ hL)
    clear ho1 hm1 hne1 hi1 nd1 ho2 hm2 hne2 hi2 nd2 P1 e1 e2 hP
    -- all that stands at H2 stays
    have kD : ∀ {H' : Hp}, Kp p H2 H' → H' D = some (.dK (kvsOf ws sg)) := fun K' => K'.k _ _ nDp hD
    have kL : ∀ {H' : Hp}, Kp p H2 H' → H' L = some (.lst (ws.map V.str)) := fun K' => K'.k _ _ nLp hL
    have k1 : ∀ {H' : Hp}, Kp p H2 H' → InsP p C_Sensor C_Lock H' (.ref o1) (Ins.mk false nm po ws sg co) := fun K' => i1.kp P2 K'
    have k2 : ∀ {H' : Hp}, Kp p H2 H' → InsP p C_Sensor C_Lock H' (.ref o2) (Ins.mk true nm po ws [] co) := fun K' => i2.kp P2 K'
    generalize hg : sgt (Ins.mk false nm po ws sg co) = g
    generalize hrw : (sortS ws).reverse = rw
    have pm : rw.Perm ws := by rw [← hrw]; exact (List.reverse_perm _).trans (sortS_perm ws)
    have rwl : rw.length ≤ 10 := by rw [pm.length_eq]; exact wl
    have rnd : rw.Nodup := pm.nodup_iff.mpr gd.nd
    have gn : ∀ y ∈ rw, IsNm (g y) := fun y hy => by rw [← hg]; exact sgt_nm okS rfl (pm.mem_iff.mp hy)
    have mpl : ∀ (g' : Str → Str) (l : List Str), (mp g' l).length = l.length := fun g' l => by unfold mp; rw [List.length_map]
    -- the other
    refine fun O nO => ?_
    obtain ⟨F0, nOp⟩ := Fil.new (o := .dK []) P2 nO
    have hO0 : upd H2 O (.dK []) O = some (.dK []) := upd_same
    generalize upd H2 O (.dK []) = H3 at F0 hO0
    refine ⟨_, rfl, D, _, ws, rfl, .inl (kD F0.kp), okS.keys rfl, by omega, fun M hM => ⟨M, _, rfl, sq_of upd_same, fun R hR => ⟨R, rfl, ⟨_, sq_of upd_same⟩, ?_⟩⟩⟩
    have er : ((sortS ws).map V.str).reverse = rw.map V.str := by rw [← hrw, List.map_reverse]
    have e4 : Ex H3 (upd (upd H3 M (.lst ((sortS ws).map V.str))) R (.lst ((sortS ws).map V.str).reverse)) := (Ex.new hM).trans (Ex.new hR)
    have hR4 : upd (upd H3 M (.lst ((sortS ws).map V.str))) R (.lst ((sortS ws).map V.str).reverse) R = some (.lst (rw.map V.str)) := by rw [upd_same, er]
    have nRO : R ≠ O := fun z => by rw [z, upd_ne (ne_of_none hO0 hM), hO0] at hR; cases hR
    rw [er] at e4 hR4 ⊢
    generalize upd (upd H3 M (.lst ((sortS ws).map V.str))) R (.lst (rw.map V.str)) = H4 at e4 hR4
    obtain ⟨F4, hO4⟩ := F0.ex nOp hO0 e4
    refine for_list (fun j σ' H' => ∃ v9, σ' = [some (.ref p), some (.str nm), some (.int po), some (.ref D), some (.ref L), some (.int co), some (.ref o1), some (.ref o2), some (.ref O), v9, none, none, none] ∧ Fil p O H2 H' ∧ H' O = some (.dK (mp g (rw.take j))) ∧ H' R = some (.lst (rw.map V.str)))
      ⟨none, rfl, F4, hO4, hR4⟩ (fun j σ' H' _ ⟨_, _, _, _, h⟩ => sq_of h) ?_ ?_
    · rintro j y σ' H' hy ⟨v9, rfl, F, hO, hR'⟩
      rw [List.getElem?_map] at hy
      obtain ⟨u, hu, rfl⟩ := Option.map_eq_some_iff.mp hy
      have um : u ∈ rw := List.mem_of_getElem? hu
      have et : rw.take (j + 1) = rw.take j ++ [u] := by rw [List.take_add_one, hu]; rfl
      have nu : u ∉ rw.take j := fun z => by
        have q := rnd.sublist (List.take_sublist (j + 1) rw)
        rw [et, List.nodup_append] at q
        exact q.2.2 u z u (by simp) rfl
      have hv : valV (kvsOf ws sg) (.inr u : Key) = some (.str (g u)) := by rw [← hg]; exact sgt_at okS rfl (pm.mem_iff.mp um)
      refine ⟨_, rfl, _, rfl, D, .str (g u), rfl, .inl ⟨_, .inr u, .inl (kD F.kp), rfl, hv.symm⟩, ?_⟩
      refine ⟨_, rfl, _, rfl, O, _, rfl, DPut.k (k := .inr u) hO (sz_lt (by rw [mpl, List.length_take]; omega)), ?_⟩
      exact ⟨_, rfl, F.put nOp nO, by rw [upd_same, mp_new nu, et], by rw [upd_ne nRO]; exact hR'⟩
    rintro σ' H5 ⟨v9, rfl, F5, hO5, _⟩
    have et : rw.take (rw.map V.str).length = rw := by rw [List.length_map]; exact List.take_length
    rw [et] at hO5
    clear hR4 hO4 F4 e4 nRO er hO0 F0 hM hR
    have okO : (snr nm po co rw g).Ok := snr_ok gd.nmk gd.pok gd.cok gd.ne gd.le gd.nd gd.wsk pm gn
    have eqO : eqI (Ins.mk false nm po ws sg co) (snr nm po co rw g) = true := by
      unfold eqI
      rw [← hg, agr_self okS rfl pm, decide_eq_true (show (Ins.mk false nm po ws sg co).nm = (snr nm po co rw (sgt (Ins.mk false nm po ws sg co))).nm from rfl), decide_eq_true (show (Ins.mk false nm po ws sg co).po = (snr nm po co rw (sgt (Ins.mk false nm po ws sg co))).po from rfl), decide_eq_true (show (Ins.mk false nm po ws sg co).co = (snr nm po co rw (sgt (Ins.mk false nm po ws sg co))).co from rfl)]
      rfl
    refine ⟨_, rfl, _, rfl, _, rfl, _, rfl, _, rfl, fun o3 m3 ho3 hm3 hne3 => ⟨H5, o3, m3, O, snr nm po co rw g, rfl, (Ex.new hm3).trans (Ex.new (by rw [upd_ne hne3.symm]; exact ho3)), ho3, upd_same, rfl, okO, by rw [snr_tab]; exact hO5, fun H6 d3 e6 hi3 nd3 => ⟨rfl, ?_⟩⟩⟩
    obtain ⟨F6, hO6⟩ := F5.ex nOp hO5 e6
    refine eqq (k1 F6.kp).at okS hi3.at (.inr ⟨rfl, okO, pm, ?_⟩)
    rw [eqO]
    refine ⟨true, rfl, iteF ?_⟩
    -- the lock, turned about
    refine ⟨_, rfl, _, rfl, _, rfl, _, rfl, L, _, rfl, sq_of (kL F6.kp), fun R2 hR2 => ⟨R2, _, rfl, .inl ⟨sq_of upd_same, fun T2 hT2 => ⟨_, rfl, ?_⟩⟩⟩⟩
    have e7 : Ex H6 (upd (upd H6 R2 (.lst (ws.map V.str).reverse)) T2 (.tup (ws.map V.str).reverse)) := (Ex.new hR2).trans (Ex.new hT2)
    have hT7 : upd (upd H6 R2 (.lst (ws.map V.str).reverse)) T2 (.tup (ws.map V.str).reverse) T2 = some (.tup (ws.reverse.map V.str)) := by rw [upd_same, List.map_reverse]
    generalize upd (upd H6 R2 (.lst (ws.map V.str).reverse)) T2 (.tup (ws.map V.str).reverse) = H7 at e7 hT7
    obtain ⟨F7, hO7⟩ := F6.ex nOp hO6 e7
    have okR : (Ins.mk true nm po ws.reverse [] co).Ok := ⟨gd.nmk, gd.pok, gd.cok, (fun z => gd.ne (List.reverse_eq_nil_iff.mp z)), by show ws.reverse.length ≤ 10; rw [List.length_reverse]; exact gd.le, (List.reverse_perm ws).nodup_iff.mpr gd.nd, (fun x hx => gd.wsk x (List.mem_reverse.mp hx)), (fun z => nomatch z), fun _ z => nomatch z⟩
    refine fun o4 m4 ho4 hm4 hne4 => ⟨H7, o4, m4, T2, Ins.mk true nm po ws.reverse [] co, rfl, (Ex.new hm4).trans (Ex.new (by rw [upd_ne hne4.symm]; exact ho4)), ho4, upd_same, rfl, okR, .inr hT7, fun H8 d4 e8 hi4 nd4 => ⟨rfl, ?_⟩⟩
    obtain ⟨F8, hO8⟩ := F7.ex nOp hO7 e8
    refine eqq (k2 F8.kp).at okL hi4.at (.inr ⟨rfl, okR, List.reverse_perm ws, ?_⟩)
    have eqR : eqI (Ins.mk true nm po ws [] co) (Ins.mk true nm po ws.reverse [] co) = true := by
      unfold eqI agr
      simp
    rw [eqR]
    refine ⟨true, rfl, iteF ?_⟩
    -- of two kinds
    refine ⟨_, rfl, _, rfl, eqq (k1 F8.kp).at okS (k2 F8.kp).at (.inl ⟨rfl, false, rfl, iteF ?_⟩)⟩
    refine ⟨_, rfl, _, rfl, eqq (k2 F8.kp).at okL (k1 F8.kp).at (.inl ⟨rfl, false, rfl, iteF ?_⟩)⟩
    refine ⟨_, rfl, p, 4, rfl, F8.pool, by decide, by decide, fun kd H9 kd0 kd1 K9 P9 => ?_⟩
    obtain ⟨F9, hO9⟩ := F8.draw nOp hO8 K9 P9
    clear e7 hT7 okR ho4 hm4 hne4 hi4 nd4 ho3 hm3 hne3 hi3 nd3 hR2 hT2 F5 F6 F7 F8 hO5 hO6 hO7 hO8 K9 P9 e8 e6 eqR
    -- the name
    refine ⟨fun σ' H' => ∃ nm' v9, σ' = [some (.ref p), some (.str nm'), some (.int po), some (.ref D), some (.ref L), some (.int co), some (.ref o1), some (.ref o2), some (.ref O), v9, some (.int kd), none, none] ∧ IsNm nm' ∧ Fil p O H2 H' ∧ H' O = some (.dK (mp g rw)), ?_, ?_⟩
    · refine ⟨_, rfl, rfl, _, rfl, ite2 (fun _ => ?_) (fun _ => ⟨nm, _, rfl, gd.nmk, F9, hO9⟩)⟩
      refine ⟨_, rfl, _, rfl, (by show 1 ≤ sizeLine; decide), fun l nl => ?_⟩
      obtain ⟨Fa, hOa⟩ := F9.ex nOp hO9 (Ex.new nl (o := .lst [.str nm]))
      refine ⟨p, l, [nm], rfl, Fa.pool, (fun z => F9.pool.here (z ▸ nl)), upd_same, (by show 1 ≤ 20; decide), fun z Hb zn _ Kb Pb => ?_⟩
      obtain ⟨Fb, hOb⟩ := Fa.draw nOp hOa Kb Pb
      exact ⟨z, _, rfl, zn, Fb, hOb⟩
    rintro σ' Ha ⟨nm', v9', rfl, nn, Fa, hOa⟩
    -- the post
    refine ⟨fun σ' H' => ∃ po' v9, σ' = [some (.ref p), some (.str nm'), some (.int po'), some (.ref D), some (.ref L), some (.int co), some (.ref o1), some (.ref o2), some (.ref O), v9, some (.int kd), none, none] ∧ (po' = 0 ∨ po' = 1) ∧ Fil p O H2 H' ∧ H' O = some (.dK (mp g rw)), ?_, ?_⟩
    · refine ⟨_, rfl, rfl, _, rfl, ite2 (fun _ => ?_) (fun _ => ⟨po, _, rfl, gd.pok, Fa, hOa⟩)⟩
      exact ⟨_, rfl, 1, po, rfl, rfl, 1 - po, _, rfl, by have := gd.pok; omega, Fa, hOa⟩
    rintro σ' Hb ⟨po', v9'', rfl, pk, Fb, hOb⟩
    -- the sights
    refine ⟨fun σ' H' => ∃ g' rv v9, σ' = [some (.ref p), some (.str nm'), some (.int po'), some (.ref D), some rv, some (.int co), some (.ref o1), some (.ref o2), some (.ref O), v9, some (.int kd), none, none] ∧ (∀ y ∈ rw, IsNm (g' y)) ∧ (kd = 2 ∨ (rv = .ref L ∧ g' = g)) ∧ Fil p O H2 H' ∧ H' O = some (.dK (mp g' rw)), ?_, ?_⟩
    · refine ⟨_, rfl, rfl, _, rfl, ite2 (fun h2 => ?_) (fun _ => ⟨g, _, _, rfl, gn, .inr ⟨rfl, rfl⟩, Fb, hOb⟩)⟩
      have kd2 : kd = 2 := by have := of_decide_eq_true h2; exact V.int.inj this
      refine ⟨_, rfl, D, _, ws, rfl, .inl (kD Fb.kp), okS.keys rfl, by omega, fun M hM => ?_⟩
      have nMp : M ≠ p := fun z => Fb.pool.here (z ▸ hM)
      obtain ⟨Fc, hOc⟩ := Fb.ex nOp hOb (Ex.new hM (o := .lst ((sortS ws).map V.str)))
      have kl : (kvsOf ws sg).length = ws.length := okS.tabLen rfl
      have w1 : 1 ≤ ws.length := by have := gd.ne; cases ws with | nil => exact absurd rfl this | cons _ _ => simp
      refine ⟨_, rfl, _, rfl, D, _, rfl, kD Fc.kp, p, _, rfl, Fc.pool, by rw [kl]; omega, by rw [kl]; omega, fun d Hd d0 d1 Kd Pd => ?_⟩
      rw [kl] at d1
      obtain ⟨w0, hw0⟩ : ∃ w0, (sortS ws)[d.toNat]? = some w0 := ⟨_, List.getElem?_eq_getElem (by rw [sortS_len]; omega)⟩
      have wm : w0 ∈ rw := pm.mem_iff.mpr (sortS_mem.mp (List.mem_of_getElem? hw0))
      obtain ⟨Fd, hOd⟩ := Fc.draw nOp hOc Kd Pd
      refine .inl ⟨M, _, d, .str w0, rfl, rfl, sq_of (Kd.k _ _ nMp upd_same), at_of (j := d.toNat) (by omega) (by rw [List.getElem?_map, hw0]; rfl), ?_⟩
      refine ⟨_, rfl, p, 1, rfl, Pd, by decide, by decide, fun al zs He zl _ znm Ke Pe _ nal hzs => ?_⟩
      obtain ⟨n', rfl⟩ : ∃ z, zs = [z] := List.length_eq_one_iff.mp zl
      obtain ⟨Fe, hOe⟩ := Fd.draw nOp hOd Ke Pe
      refine .inl ⟨al, _, 0, .str n', rfl, rfl, sq_of hzs, (show atI _ ((0 : Nat) : Int) = _ from atI_nat rfl), ?_⟩
      refine ⟨_, rfl, _, rfl, O, _, rfl, DPut.k (k := .inr w0) hOe (sz_lt (by rw [mpl]; omega)), ?_⟩
      have Ff := Fe.put (o := .dK (putK (mp g rw) (.inr w0) (.str n'))) nOp nO
      have hOf : upd He O (.dK (putK (mp g rw) (.inr w0) (.str n'))) O = some (.dK (mp (fun y => if y = w0 then n' else g y) rw)) := by rw [upd_same, mp_old wm]
      generalize upd He O (.dK (putK (mp g rw) (.inr w0) (.str n'))) = Hf at Ff hOf
      refine ⟨_, rfl, 1, rfl, -1, rfl, L, _, rfl, sq_of (kL Ff.kp), fun L2 nL2 => ?_⟩
      obtain ⟨Fg, hOg⟩ := Ff.ex nOp hOf (Ex.new nL2)
      refine ⟨_, _, _, rfl, fun y hy => ?_, .inl kd2, Fg, hOg⟩
      show IsNm (if y = w0 then n' else g y)
      split
      · exact znm n' (by simp)
      · exact gn y hy
    rintro σ' Hc ⟨g', rv, u9, rfl, gn', kc, Fc, hOc⟩
    -- the cost
    refine ⟨fun σ' H' => ∃ co' v9, σ' = [some (.ref p), some (.str nm'), some (.int po'), some (.ref D), some rv, some (.int co'), some (.ref o1), some (.ref o2), some (.ref O), v9, some (.int kd), none, none] ∧ (1 ≤ co' ∧ co' ≤ 1000) ∧ Fil p O H2 H' ∧ H' O = some (.dK (mp g' rw)), ?_, ?_⟩
    · refine ⟨_, rfl, rfl, _, rfl, ite2 (fun _ => ?_) (fun _ => ⟨co, _, rfl, gd.cok, Fc, hOc⟩)⟩
      refine ⟨_, rfl, p, 1000, rfl, Fc.pool, by decide, by decide, fun c Hd c0 c1 Kd Pd => ⟨1, c, rfl, rfl, ?_⟩⟩
      obtain ⟨Fd, hOd⟩ := Fc.draw nOp hOc Kd Pd
      exact ⟨1 + c, _, rfl, by omega, Fd, hOd⟩
    rintro σ' Hd ⟨co', w9, rfl, ck, Fd, hOd⟩
    have okN : (snr nm' po' co' rw g').Ok := snr_ok nn pk ck gd.ne gd.le gd.nd gd.wsk pm gn'
    refine ⟨_, rfl, _, rfl, _, rfl, _, rfl, fun o5 m5 ho5 hm5 hne5 => ⟨Hd, o5, m5, O, snr nm' po' co' rw g', rfl, (Ex.new hm5).trans (Ex.new (by rw [upd_ne hne5.symm]; exact ho5)), ho5, upd_same, rfl, okN, by rw [snr_tab]; exact hOd, fun He d5 ee hi5 nd5 => ⟨rfl, ?_⟩⟩⟩
    obtain ⟨Fe, hOe⟩ := Fd.ex nOp hOd ee
    obtain ⟨dd1, ⟨aa, dx1, ea, ⟨lk1, _⟩ | ⟨_, ha1, _⟩⟩, _⟩ := id (k1 Fe.kp)
    · exact nomatch (show false = true from lk1)
    cases ea
    -- the same?
    have hE : (decide (nm = nm') && (decide (po = po') && (agr (Ins.mk false nm po ws sg co) (snr nm' po' co' rw g') && decide (co = co')))) = eqI (Ins.mk false nm po ws sg co) (snr nm' po' co' rw g') := rfl
    have hC : eqI (snr nm' po' co' rw g') (Ins.mk false nm po ws sg co) = eqI (Ins.mk false nm po ws sg co) (snr nm' po' co' rw g') := eqI_comm rfl pm
    have hL2 : kd = 2 ∨ (rv = .ref L ∧ eqI (Ins.mk true nm po ws [] co) (Ins.mk true nm' po' ws [] co') = eqI (Ins.mk false nm po ws sg co) (snr nm' po' co' rw g')) := kc.imp id fun ⟨e1, e2⟩ => ⟨e1, by
      rw [← hE, e2, ← hg, agr_self okS rfl pm]
      rfl⟩
    have sameT : sameV (mp g' rw) (kvsOf ws sg) = agr (Ins.mk false nm po ws sg co) (snr nm' po' co' rw g') := by
      have q := sameTab (r := Ins.mk false nm po ws sg co) (s := snr nm' po' co' rw g') okS rfl
      rw [snr_tab] at q
      exact q
    have tx : Txts (kvsOf ws sg) (mp g' rw) := by
      have q := txts_tab (r := Ins.mk false nm po ws sg co) (s := snr nm' po' co' rw g') okS okN rfl rfl pm
      rw [snr_tab] at q
      exact q
    have q1 : ∀ {R : VK}, R (.bl (eqI (Ins.mk false nm po ws sg co) (snr nm' po' co' rw g'))) He → rOwnEq K C_Sensor (spEqG false C_Sensor C_Lock) En (.ref o1) (.ref o5) He R ∨ rOwnEq K C_Lock (spEqG true C_Sensor C_Lock) En (.ref o1) (.ref o5) He R := fun {R} h => eqq (Q := R) (k1 Fe.kp).at okS hi5.at (.inr ⟨rfl, okN, pm, h⟩)
    have q2 : ∀ {R : VK}, R (.bl (eqI (Ins.mk false nm po ws sg co) (snr nm' po' co' rw g'))) He → rOwnEq K C_Sensor (spEqG false C_Sensor C_Lock) En (.ref o5) (.ref o1) He R ∨ rOwnEq K C_Lock (spEqG true C_Sensor C_Lock) En (.ref o5) (.ref o1) He R := fun {R} h => eqq (Q := R) hi5.at okN (k1 Fe.kp).at (.inr ⟨rfl, okS, pm.symm, by rw [hC]; exact h⟩)
    clear hC
    generalize eqI (Ins.mk false nm po ws sg co) (snr nm' po' co' rw g') = e at hE hL2 q1 q2
    refine ⟨fun σ' H' => H' = He ∧ σ' = [some (.ref p), some (.str nm'), some (.int po'), some (.ref D), some rv, some (.int co'), some (.ref o1), some (.ref o2), some (.ref O), w9, some (.int kd), some (.ref o5), some (.bl e)], ?_, ?_⟩
    · refine ⟨_, rfl, o1, dx1, _, rfl, ha1, o1, dx1, _, _, rfl, ha1, sf1, _, rfl, rfl, decide (nm = nm'), congrArg V.bl (dec_str _ _), ?_⟩
      cases h1 : decide (nm = nm') with
      | false =>
        rw [h1] at hE
        exact ⟨rfl, by rw [← hE]; rfl⟩
      | true =>
      refine ⟨_, rfl, o1, dx1, _, rfl, ha1, o1, dx1, _, _, rfl, ha1, sf2, _, rfl, rfl, decide (po = po'), congrArg V.bl (dec_int _ _), ?_⟩
      cases h2 : decide (po = po') with
      | false =>
        rw [h1, h2] at hE
        exact ⟨rfl, by rw [← hE]; rfl⟩
      | true =>
      refine ⟨_, rfl, _, rfl, D, O, _, _, rfl, rfl, kD Fe.kp, hOe, tx, agr (Ins.mk false nm po ws sg co) (snr nm' po' co' rw g'), congrArg V.bl sameT, ?_⟩
      cases h3 : agr (Ins.mk false nm po ws sg co) (snr nm' po' co' rw g') with
      | false =>
        rw [h1, h2, h3] at hE
        exact ⟨rfl, by rw [← hE]; rfl⟩
      | true =>
      refine ⟨_, rfl, o1, dx1, _, rfl, ha1, o1, dx1, _, _, rfl, ha1, sf4, _, rfl, rfl, rfl, ?_⟩
      rw [h1, h2, h3] at hE
      rw [dec_int, ← hE]
      rfl
    rintro σ' He ⟨rfl, rfl⟩
    have nbb : ∀ x : Bool, (!decide (V.bl x = V.bl x)) = false := fun x => by rw [decide_eq_true rfl]; rfl
    refine ⟨_, rfl, _, rfl, q1 ⟨_, rfl, rfl, false, by rw [nbb], iteF ?_⟩⟩
    refine ⟨_, rfl, _, rfl, q2 ⟨_, rfl, rfl, false, by rw [nbb], iteF ?_⟩⟩
    refine ⟨_, rfl, rfl, decide (V.int kd = V.int 2), rfl, ?_⟩
    cases h2 : decide (V.int kd = V.int 2) with
    | true => exact k _
    | false =>
    rcases hL2 with z | ⟨rfl, eL⟩
    · rw [z] at h2
      cases h2
    have okL2 : (Ins.mk true nm' po' ws [] co').Ok := ⟨nn, pk, ck, gd.ne, gd.le, gd.nd, gd.wsk, (fun z => nomatch z), fun _ z => nomatch z⟩
    refine ⟨_, rfl, _, rfl, _, rfl, _, rfl, _, rfl, fun o6 m6 ho6 hm6 hne6 => ⟨He, o6, m6, L, Ins.mk true nm' po' ws [] co', rfl, (Ex.new hm6).trans (Ex.new (by rw [upd_ne hne6.symm]; exact ho6)), ho6, upd_same, rfl, okL2, .inl (kL Fe.kp), fun Hf d6 ef hi6 nd6 => ⟨rfl, ?_⟩⟩⟩
    obtain ⟨Ff, hOf⟩ := Fe.ex nOp hOe ef
    refine eqq (k2 Ff.kp).at okL hi6.at (.inr ⟨rfl, okL2, List.Perm.refl _, ?_⟩)
    rw [eL]
    have q := k Hf
    rw [← decide_eq_true (p := V.bl e = V.bl e) rfl] at q
    exact ⟨_, rfl, rfl, q⟩
end
end WK

set_option Elab.async false
set_option linter.all false
set_option maxRecDepth 100000
set_option maxHeartbeats 4000000
/-! d.copy() of an odd dict of one entry. -/
namespace WW
open PySem PySem.Spec PyProof.Rows L2
def tCopyR (to : TE) : TE := fun σ H Q => to σ H fun x H1 => rCopyR x [] H1 Q
theorem pe_copyR {X : Cx} {o : Expr} {to : TE} {apos cpos : Pos} (he : PE X o to) (hbase : attributeBase o "copy" X.env (eval o X.env) = eval o X.env := by rfl) (hline : (apos.endLine == cpos.line) = true := by rfl) :
    PE X (.Call (.Attribute o "copy" apos) [] [] cpos) (tCopyR to) := by
  refine ⟨fun pins s σ H Q I h => ?_⟩
  refine wpAny_Call_method (T := "dict") (id := "dict.copy") hbase rfl hline F.plainAttrs_dict F.slot_dict_copy F.type_dict_copy (thn (he.run pins s σ H _ I h) fun u s1 ⟨x, H1, I1, rx, a, hs, kv, z, ex, _, ha, ok, q⟩ => ?_)
  subst ex
  obtain rfl : u = Value.ref a := rx
  obtain ⟨ns, uk, y, ep, rk, ry, raw⟩ := rawD_of I1 ha
  obtain ⟨ob, ho, hex, hd⟩ := id raw
  refine ⟨raw.typeIs, fun b z => (by cases z; exact ⟨ob, ho, hex.2.1⟩), ?_⟩
  show wpAny _ _ (callWith cpos (.builtin "dict.copy") [.ref a] [] []) _ X.xe s1
  refine method_meetsIn F.slot_dict_copy F.entry_dict_copy rfl (PySem.evalArgs_none ⟨rfl, raw.typeIs, F.args_dict_copy_1 _, _, meets_dict_copy_raw a ns, ⟨_, ep, ⟨ob, ho, hex, hd⟩, by show 1 ≤ sizeLine; decide, ok.apart I1 rk, fun h' raw2 keep => ?_⟩⟩)
  exact ⟨.ref _, upd H1 s1.heap.objs.size (rawD hs kv z s1.heap.objs.size), I1.laid (a := s1.heap.objs.size) (o := rawD hs kv z s1.heap.objs.size) (t' := s1.toks) keep (Nat.le_refl _) (rawD_ok (beq_eq_false_iff_ne.mpr (Ne.symm (Nat.ne_of_lt I1.big))) rk ry raw2), rfl, q _ (I1.hok.fresh (Nat.le_refl _))⟩
end WW

set_option Elab.async false
set_option linter.all false
set_option maxRecDepth 100000
set_option maxHeartbeats 4000000
namespace WK
open PySem PySem.Spec PyProof.Rows L2 WW Evl
theorem fst_go {b0 b1 b2 b3 n0 n1 n2 n3 : Bool} {x0 x1 x2 x3 g : Prop} (h0 : (b0 = true ∧ n0 = false) ∨ (b0 = false ∧ n0 = true)) (h1 : (b1 = true ∧ n1 = false) ∨ (b1 = false ∧ n1 = true)) (h2 : (b2 = true ∧ n2 = false) ∨ (b2 = false ∧ n2 = true)) (h3 : (b3 = true ∧ n3 = false) ∨ (b3 = false ∧ n3 = true))
    (y0 : FstI b0 b1 b2 b3 0 → x0) (y1 : FstI b0 b1 b2 b3 1 → x1) (y2 : FstI b0 b1 b2 b3 2 → x2) (y3 : FstI b0 b1 b2 b3 3 → x3) (yg : b0 = false → b1 = false → b2 = false → b3 = false → g) : Fst [(n0, x0), (n1, x1), (n2, x2), (n3, x3)] g := by
  rcases h0 with ⟨rfl, rfl⟩ | ⟨rfl, rfl⟩
  · exact y0 (.inl ⟨rfl, rfl⟩)
  rcases h1 with ⟨rfl, rfl⟩ | ⟨rfl, rfl⟩
  · exact y1 (.inr (.inl ⟨rfl, rfl, rfl⟩))
  rcases h2 with ⟨rfl, rfl⟩ | ⟨rfl, rfl⟩
  · exact y2 (.inr (.inr (.inl ⟨rfl, rfl, rfl, rfl⟩)))
  rcases h3 with ⟨rfl, rfl⟩ | ⟨rfl, rfl⟩
  · exact y3 (.inr (.inr (.inr ⟨rfl, rfl, rfl, rfl, rfl⟩)))
  exact yg rfl rfl rfl rfl
theorem OneC.ex {ok : V → Bool} {p : Addr} {H H' : Hp} {b : Bool} {v u : V} (e : Ex H H') (h : OneC ok p H b v u) : OneC ok p H' b v u := h.imp (fun ⟨z, w, q⟩ => ⟨z, w.ex e, q⟩) id
theorem OneC.pl {ok : V → Bool} {p : Addr} {H : Hp} {b : Bool} {v u : V} (l : Lf u) (s : Sh u) (h : OneC ok p H b v u) : Pl H v ∧ Sh v ∧ Alq p 3 H v v := by
  rcases h with ⟨_, bd, _⟩ | ⟨_, rfl⟩
  · exact bd
  · exact ⟨l.pl, s, .leaf l 3⟩
theorem OneC.bs {ok : V → Bool} {p : Addr} {H : Hp} {b : Bool} {v u : V} (y : ok u = true) (h : OneC ok p H b v u) : (b = true ∧ ok v = false) ∨ (b = false ∧ ok v = true) := by
  rcases h with ⟨z, _, q⟩ | ⟨z, rfl⟩
  · exact .inl ⟨z, q⟩
  · exact .inr ⟨z, y⟩
theorem OneC.good {ok : V → Bool} {p : Addr} {H : Hp} {v u : V} (h : OneC ok p H false v u) : v = u := by
  rcases h with ⟨z, _⟩ | ⟨_, z⟩
  · cases z
  · exact z
/-- the sights that are passed -/
def PsC (p : Addr) (H0 H : Hp) (b : Bool) (pv sh : V) (ws sg : List Str) : Prop := (b = true ∧ SgIn H pv false ∧ AlR p 3 H pv sh) ∨ (b = false ∧ ∃ D', pv = .ref D' ∧ H0 D' = none ∧ H D' = some (.dK (kvsOf ws sg)))
/-- the words that are passed -/
def LnC (p : Addr) (H0 H : Hp) (b : Bool) (lv row : V) (ws : List Str) : Prop := (b = true ∧ WdIn H lv false ∧ AlR p 3 H lv row) ∨ (b = false ∧ ∃ L', lv = .ref L' ∧ H0 L' = none ∧ H L' = some (.lst (ws.map V.str)))
/-- what comes of the making -/
def FdC (CS CL p : Addr) (H0 H : Hp) (b0 b1 b2 b3 : Bool) (gs : List V) (ks : List V) (r : Ins) (F : Addr) : Prop :=
  (∃ (i : Nat) (kind : Str) (v u : V), FstI b0 b1 b2 b3 i ∧ ks[i]? = some (.str kind) ∧ gs[i]? = some u ∧ AlR p 3 H v u ∧ H F = some (.tup [.str kind, v, .bl true])) ∨
  (b0 = false ∧ b1 = false ∧ b2 = false ∧ b3 = false ∧ ∃ i d, H F = some (.tup [.str "told", i]) ∧ InsAtD CS CL H i r d ∧ H0 d = none)
theorem FdC.ex {CS CL p : Addr} {H0 H H' : Hp} {b0 b1 b2 b3 : Bool} {gs ks : List V} {r : Ins} {F : Addr} (e : Ex H H') (h : FdC CS CL p H0 H b0 b1 b2 b3 gs ks r F) : FdC CS CL p H0 H' b0 b1 b2 b3 gs ks r F :=
  h.imp (fun ⟨i, k, v, u, h1, h2, h3, h4, h5⟩ => ⟨i, k, v, u, h1, h2, h3, h4.ex e, e _ _ h5⟩) fun ⟨h1, h2, h3, h4, i, d, h5, h6, h7⟩ => ⟨h1, h2, h3, h4, i, d, e _ _ h5, h6.exD e, h7⟩
theorem FstI.some {b0 b1 b2 b3 : Bool} {i : Nat} (h : FstI b0 b1 b2 b3 i) : (b0 || (b1 || (b2 || b3))) = true := by
  rcases h with ⟨rfl, _⟩ | ⟨rfl, rfl, _⟩ | ⟨rfl, rfl, rfl, _⟩ | ⟨rfl, rfl, rfl, rfl, _⟩ <;> simp
theorem in_bs (b0 b1 b2 b3 : Bool) : inV (.bl true) [.bl b0, .bl b1, .bl b2, .bl b3] = (b0 || (b1 || (b2 || b3))) := by
  cases b0 <;> cases b1 <;> cases b2 <;> cases b3 <;> rfl
/-- a copy of wrong words is as wrong -/
theorem copyW {p a L : Addr} {H : Hp} {xs : List V} (h : BdW p H (.ref a)) (ha : H a = some (.lst xs)) (hL : H L = none) (nL : L ≠ p) : WdIn (upd H L (.lst xs)) (.ref L) false ∧ AlR p 3 (upd H L (.lst xs)) (.ref L) (.ref a) := by
  have e : Ex H (upd H L (.lst xs)) := Ex.new hL
  have hL' : upd H L (.lst xs) L = some (.lst xs) := upd_same
  obtain ⟨wd, al⟩ := h
  constructor
  · rcases (wd.ex e) with ⟨pl, r, z⟩ | ⟨b, ys, eb, sq, l, m, q⟩
    · refine .inl ⟨.lst hL', ?_, z⟩
      unfold rowB at r ⊢
      rw [rlen_at (e _ _ ha)] at r
      rw [rlen_at hL']
      exact r
    · cases eb
      have ex : ys = xs := by
        rcases sq with z | z <;> (rw [e _ _ ha] at z; cases z) <;> rfl
      subst ex
      exact .inr ⟨L, ys, rfl, .inl hL', l, m, q⟩
  · rcases al with (⟨_, z⟩ | ⟨b, c, kvs, e1, _, _, _, h1, _⟩) | ⟨b, c, ys, zs, e1, e2, n1, n2, h1, l, pr⟩
    · exact z.elim
    · cases e1
      rw [ha] at h1
      cases h1
    · cases e1
      cases e2
      rcases h1 with ⟨w1, w2⟩ | ⟨w1, w2⟩
      · rw [ha] at w1 w2
        cases w1
        cases w2
        exact .inl (.inr ⟨L, a, xs, xs, rfl, rfl, nL, n1, .inl ⟨hL', e _ _ ha⟩, l, Paired.mapP pr fun _ _ z => Alq.ex e z⟩)
      · rw [ha] at w1
        cases w1
theorem InsAtD.put {CS CL t : Addr} {H : Hp} {v : V} {r : Ins} {d : Addr} {o o' : HO} (h : InsAtD CS CL H v r d) (ht : H t = some o) (no : ∀ C dx fs, o ≠ .ins C dx fs) (nd : t ≠ d) : InsAtD CS CL (upd H t o') v r d := by
  obtain ⟨a, dx, rfl, ⟨lk, h1, h2⟩ | ⟨lk, h1, h2⟩⟩ := h
  · exact ⟨a, dx, rfl, .inl ⟨lk, by rw [upd_ne (fun z => by rw [z, ht] at h1; exact no _ _ _ (Option.some.inj h1))]; exact h1, by rw [upd_ne nd.symm]; exact h2⟩⟩
  · exact ⟨a, dx, rfl, .inr ⟨lk, by rw [upd_ne (fun z => by rw [z, ht] at h1; exact no _ _ _ (Option.some.inj h1))]; exact h1, by rw [upd_ne nd.symm]; exact h2⟩⟩
section
variable {P : Program} {w : World} {K : PySem.W.Frag} {mg : Str → Option Value} {base : Heap} {f : Addr} {fd : FuncData}
abbrev s_law : Stmt := top 43
theorem sc_law : FnScope ["_law_script", "_law_pool_here", "_law_spoils", "_law_head", "_law_post", "_law_shown", "_law_row", "_law_fee", "_law_passed", "_law_found", "_law_lines", "_law_second"] ["_law_script"] (defScope s_law) := ⟨rfl, rfl, rfl, by decide +kernel, rfl, by decide +kernel, by decide +kernel⟩
def spLaw (K : PySem.W.Frag) : Sp := fun vs H Q _ => ∃ (a : Addr) (ns : List Int), vs = [.ref a] ∧ SqL K H a (ns.map V.int) ∧ ∀ H', Q (.bl true) H'
theorem okl_law {C_Sensor C_Lock : Addr} (G : Gz mg) (D : Df K mg "law" s_law f fd ["_law_script"]) (c__law_pool : Callee P w K mg base CXn 1 "_law_pool" 1 (spPool K)) (c__law_arguments : Callee P w K mg base CXn 4 "_law_arguments" 1 spArgs) (c__law_built : Callee P w K mg base CXn 7 "_law_built" 5 (spBuilt C_Sensor C_Lock))
    (c__law_refused : Callee P w K mg base CXn 5 "_law_refused" 4 (spRefused 3)) (c__law_tells : Callee P w K mg base CXn 5 "_law_tells" 5 (spTells C_Sensor C_Lock)) (c__law_sensor_tells : Callee P w K mg base CXn 3 "_law_sensor_tells" 2 (spSTells C_Sensor C_Lock)) (c__law_twins : Callee P w K mg base CXn 7 "_law_twins" 6 spTwins) : FnOk P w K mg base CXn 8 f fd ["_law_script"] (spLaw K) := by
  refine D.fn.ok sc_law (fun vs H Q E h => ?_) (fun cdv A outer s H vs Q E hr h => ⟨_, PSs.nox (pss_cons (ps_set (i := 1) sc_law.nd rfl (Or.inl rfl) (pe_cl (E := En) c__law_pool (hr.mono (by decide)) rfl passN (pa_cons (pv 0) pa_nil))) (pss_cons (ps_asg (pe_cl (E := En) c__law_arguments (hr.mono (by decide)) rfl passN (pa_cons (pv 1) pa_nil)) (pg_tup rfl (pgs_cons (pg_name (i := 2) sc_law.nd rfl (Or.inl rfl)) (pgs_cons (pg_name (i := 3) sc_law.nd rfl (Or.inl rfl)) (pgs_cons (pg_name (i := 4) sc_law.nd rfl (Or.inl rfl)) (pgs_cons (pg_name (i := 5) sc_law.nd rfl (Or.inl rfl)) (pgs_cons (pg_name (i := 6) sc_law.nd rfl (Or.inl rfl)) (pgs_cons (pg_name (i := 7) sc_law.nd rfl (Or.inl rfl)) pgs_nil)))))))) (pss_cons (ps_set (i := 8) sc_law.nd rfl (Or.inl rfl) (pv 5)) (pss_cut (ps_if (pt_val (pe_callB (cr_or (isiK (K := K) rfl) call_isiR) rfl G.g_isinstance (by rfl) (pa_cons (pv 5) (pa_cons (pe_bltn (v := .ty "dict") rfl G.g_dict (by rfl) rfl) pa_nil)))) (pss_one (ps_set (i := 8) sc_law.nd rfl (Or.inl rfl) (WW.pe_or (pe_copyK (K := K) rfl (pv 5)) (pe_copyR (pv 5))))) pss_nil) (pss_cut (ps_set (i := 9) sc_law.nd rfl (Or.inl rfl) (pe_cl (E := En) c__law_built (hr.mono (by decide)) rfl passN (pa_cons pe_bl (pa_cons (pv 3) (pa_cons (pv 4) (pa_cons (pv 8) (pa_cons (pv 7) pa_nil))))))) (pss_cons (ps_set (i := 10) sc_law.nd rfl (Or.inl rfl) (pv 6)) (pss_cut (ps_if (pt_val (pe_callB (isiK (K := K) rfl) rfl G.g_isinstance (by rfl) (pa_cons (pv 6) (pa_cons (pe_bltn (v := .ty "list") rfl G.g_list (by rfl) rfl) pa_nil)))) (pss_one (ps_set (i := 10) sc_law.nd rfl (Or.inl rfl) (pe_callTy (listOfK (K := K) rfl) rfl G.g_list (by rfl) (pa_cons (pv 6) pa_nil)))) pss_nil) (pss_cut (ps_set (i := 11) sc_law.nd rfl (Or.inl rfl) (pe_cl (E := En) c__law_built (hr.mono (by decide)) rfl passN (pa_cons pe_bl (pa_cons (pv 3) (pa_cons (pv 4) (pa_cons (pv 10) (pa_cons (pv 7) pa_nil))))))) (pss_cons (ps_if (pt_cmpR (inK (K := K) rfl) pe_bl (pv 2) (by rfl)) (pss_cons (ps_if (pt_not (pt_val (pe_cl (E := En) c__law_refused (hr.mono (by decide)) rfl passN (pa_cons (pv 9) (pa_cons (pv 2) (pa_cons (pe_lst (pa_cons (pv 3) (pa_cons (pv 4) (pa_cons (pv 5) (pa_cons (pv 7) pa_nil))))) (pa_cons (pe_lst (pa_cons pe_str (pa_cons pe_str (pa_cons pe_str (pa_cons pe_str pa_nil))))) pa_nil))))))) (pss_one (ps_ret pe_bl)) pss_nil) (pss_one (ps_ret (pe_cl (E := En) c__law_refused (hr.mono (by decide)) rfl passN (pa_cons (pv 11) (pa_cons (pv 2) (pa_cons (pe_lst (pa_cons (pv 3) (pa_cons (pv 4) (pa_cons (pv 6) (pa_cons (pv 7) pa_nil))))) (pa_cons (pe_lst (pa_cons pe_str (pa_cons pe_str (pa_cons pe_str (pa_cons pe_str pa_nil))))) pa_nil)))))))) pss_nil) (pss_cons (ps_if (PW.pt (pw_or (pt_cmpR op_ne (pe_ix (ixK (K := K) rfl) (pv 9) pe_int (fun _ _ => rfl)) pe_str (nomark _)) (pw_or1 (pt_cmpR op_ne (pe_ix (ixK (K := K) rfl) (pv 11) pe_int (fun _ _ => rfl)) pe_str (nomark _))))) (pss_one (ps_ret pe_bl)) pss_nil) (pss_cons (ps_if (PW.pt (pw_or (pt_cmpR (op_ne_dictA hr.units0) (pv 8) (pv 5) (nomark _)) (pw_or1 (pt_cmpR (op_neP hr.units) (pv 10) (pv 6) (nomark _))))) (pss_one (ps_ret pe_bl)) pss_nil) (pss_cons (ps_expr (pe_dclear (pv 8))) (pss_cons (ps_expr (pe_bm0 PySem.F.plainAttrs_list PySem.F.slot_list_clear PySem.F.type_list_clear mt_clear (pv 10))) (pss_cons (ps_if (PW.pt (pw_or (pt_not (pt_val (pe_cl (E := En) c__law_tells (hr.mono (by decide)) rfl passN (pa_cons (pe_ix (ixK (K := K) rfl) (pv 9) pe_int (fun _ _ => rfl)) (pa_cons (pv 3) (pa_cons (pv 4) (pa_cons (pe_callTy (call_listD rfl) rfl G.g_list (by rfl) (pa_cons (pv 5) pa_nil)) (pa_cons (pv 7) pa_nil)))))))) (pw_or1 (pt_not (pt_val (pe_cl (E := En) c__law_sensor_tells (hr.mono (by decide)) rfl passN (pa_cons (pe_ix (ixK (K := K) rfl) (pv 9) pe_int (fun _ _ => rfl)) (pa_cons (pv 5) pa_nil)))))))) (pss_one (ps_ret pe_bl)) pss_nil) (pss_one (ps_ret (L2.pe_and (pe_cl (E := En) c__law_tells (hr.mono (by decide)) rfl passN (pa_cons (pe_ix (ixK (K := K) rfl) (pv 11) pe_int (fun _ _ => rfl)) (pa_cons (pv 3) (pa_cons (pv 4) (pa_cons (pv 6) (pa_cons (pv 7) pa_nil)))))) (pe_one (pe_cl (E := En) c__law_twins (hr.mono (by decide)) rfl passN (pa_cons (pv 1) (pa_cons (pv 3) (pa_cons (pv 4) (pa_cons (pv 5) (pa_cons (pv 6) (pa_cons (pv 7) pa_nil))))))))))))))))))))))))), ?_⟩)
  · obtain ⟨_, _, rfl, _⟩ := h
    rfl
  · obtain ⟨a, ns, rfl, hS, k⟩ := h
    refine ⟨_, rfl, a, ns, rfl, hS, fun p H0 _ _ P0 => ?_⟩
    refine ⟨_, rfl, p, rfl, P0, fun T S b0 b1 b2 b3 hd po sh row fe nm pi co ws sg Ha K0 Pa gd hT nS hSb c0 c1 c2 c3 => ?_⟩
    refine ⟨T, _, rfl, st_of hT, rfl, _, _, rfl, _, _, rfl, _, _, rfl, _, _, rfl, _, _, rfl, _, _, rfl, rfl, ?_⟩
    refine ⟨_, rfl, ?_⟩
    have okS := gd.sOk
    have okL := gd.lOk
    have lh : Lf (.str nm) ∧ Sh (.str nm) := ⟨trivial, nmz gd.nmk⟩
    have li : ∀ i : Int, Lf (.int i) ∧ Sh (.int i) := fun i => ⟨trivial, fun _ z => nomatch z⟩
    obtain ⟨ph, hsh, ah⟩ := c0.pl lh.1 lh.2
    obtain ⟨pp, _, ap⟩ := c1.pl (li pi).1 (li pi).2
    obtain ⟨pf, _, af⟩ := c3.pl (li co).1 (li co).2
    have n0 := c0.bs (nmB_of gd.nmk)
    have n1 := c1.bs (inB_of gd.pok)
    have n3 := c3.bs okS.coB
    clear hT K0 P0
    -- the sights, copied
    refine ⟨fun σ' H' => ∃ pv, σ' = [some (.ref a), some (.ref p), some (.ref S), some hd, some po, some sh, some row, some fe, some pv, none, none, none] ∧ Ex Ha H' ∧ PsC p Ha H' b2 pv sh ws sg, ?_, ?_⟩
    · rcases c2 with ⟨hb2, bs, _⟩ | ⟨hb2, D1, L1, rfl, nD1, hD1, rfl, nL1, hL1⟩
      · rcases bs with ⟨nd, al⟩ | ⟨D1, kvs, rfl, nD1, hD1, km, ask, tb, ndk, fl⟩ | ⟨D1, hs, kv, x, rfl, nD1, hD1, ok, hk, fx⟩
        · obtain ⟨t, ty, kt⟩ := nd.kin (K := K)
          refine ⟨_, rfl, .inl ⟨sh, .ty "dict", t, .type "dict", false, rfl, .ty _, ty, kt, false, rfl, iteF ?_⟩⟩
          exact ⟨sh, rfl, Ex.refl Ha, .inl ⟨hb2, .inl ⟨nd, rfl⟩, .inl al⟩⟩
        · refine ⟨_, rfl, .inl ⟨.ref D1, .ty "dict", .type "dict", .type "dict", true, rfl, .ty _, .base (.dK hD1), kit_ty (r := true) (by decide +kernel), true, rfl, iteT ?_⟩⟩
          refine .inl ⟨_, rfl, .inr (.inr (.inl ⟨rfl, .inl ⟨_, hD1⟩⟩)), D1, kvs, rfl, rfl, hD1, fun q hq => ?_⟩
          have e1 : Ex Ha (upd Ha q (.dK kvs)) := Ex.new hq
          have nq : q ≠ p := fun z => Pa.here (z ▸ hq)
          exact ⟨.ref q, rfl, e1, .inl ⟨hb2, .inr (.inl ⟨q, kvs, rfl, upd_same, km, ask, tb.symm⟩), .inl (.inl (.inr ⟨q, D1, kvs, rfl, rfl, nq, nD1, upd_same, e1 _ _ hD1, ndk, fl⟩))⟩⟩
        · refine ⟨_, rfl, .inr ⟨D1, hs, kv, x, .ty "dict", .type "dict", true, rfl, .ty _, hD1, kit_ty (r := true) (by decide +kernel), true, rfl, iteT ?_⟩⟩
          refine .inr ⟨_, rfl, D1, hs, kv, x, rfl, rfl, hD1, ok, fun q hq => ?_⟩
          have e1 : Ex Ha (upd Ha q (rawD hs kv x q)) := Ex.new hq
          have nq : q ≠ p := fun z => Pa.here (z ▸ hq)
          exact ⟨.ref q, rfl, e1, .inl ⟨hb2, .inr (.inr ⟨q, hs, kv, x, rfl, upd_same, WK.OddK.ex e1 ok, rfl⟩), .inr ⟨q, D1, hs, kv, x, rfl, rfl, nq, nD1, upd_same, e1 _ _ hD1, hk, fx⟩⟩⟩
      · refine ⟨_, rfl, .inl ⟨.ref D1, .ty "dict", .type "dict", .type "dict", true, rfl, .ty _, .base (.dK hD1), kit_ty (r := true) (by decide +kernel), true, rfl, iteT ?_⟩⟩
        refine .inl ⟨_, rfl, .inr (.inr (.inl ⟨rfl, .inl ⟨_, hD1⟩⟩)), D1, _, rfl, rfl, hD1, fun q hq => ?_⟩
        exact ⟨.ref q, rfl, Ex.new hq, .inr ⟨hb2, q, rfl, hq, upd_same⟩⟩
    rintro σ' Hb ⟨pv, rfl, eb, ps⟩
    -- the sensor
    refine ⟨fun σ' H' => ∃ F, σ' = [some (.ref a), some (.ref p), some (.ref S), some hd, some po, some sh, some row, some fe, some pv, some (.ref F), none, none] ∧ Ex Hb H' ∧ FdC C_Sensor C_Lock p Hb H' b0 b1 b2 b3 [hd, po, sh, fe] [.str "name", .str "post", .str "sights", .str "cost"] (Ins.mk false nm pi ws sg co) F, ?_, ?_⟩
    · refine ⟨_, rfl, _, rfl, _, rfl, _, rfl, true, hd, po, pv, fe, !b2, rfl, ph.ex eb, hsh, pp.ex eb, pf.ex eb, .inl ⟨rfl, ?_⟩, ?_⟩
      · rcases ps with ⟨hb, si, _⟩ | ⟨hb, D', rfl, nD', hD'⟩
        · rw [hb]; exact si
        · rw [hb]; exact okS.sgIn rfl hD'
      · have n2 : (b2 = true ∧ (!b2) = false) ∨ (b2 = false ∧ (!b2) = true) := by cases b2 <;> simp
        refine fst_go n0 n1 n2 n3 (fun fi H' F e hF => ?_) (fun fi H' F e hF => ?_) (fun fi H' F e hF => ?_) (fun fi H' F e hF => ?_) (fun z0 z1 z2 z3 => ?_)
        · exact ⟨F, rfl, e, .inl ⟨0, _, hd, hd, fi, rfl, rfl, .inl (ah.ex (eb.trans e)), hF⟩⟩
        · exact ⟨F, rfl, e, .inl ⟨1, _, po, po, fi, rfl, rfl, .inl (ap.ex (eb.trans e)), hF⟩⟩
        · rcases ps with ⟨hb, _, al⟩ | ⟨hb, _⟩
          · exact ⟨F, rfl, e, .inl ⟨2, _, pv, sh, fi, rfl, rfl, al.ex e, hF⟩⟩
          · rcases fi with ⟨_, z⟩ | ⟨_, _, z⟩ | ⟨_, _, z, _⟩ | ⟨_, _, _, _, z⟩
            · cases z
            · cases z
            · rw [hb] at z
              cases z
            · cases z
        · exact ⟨F, rfl, e, .inl ⟨3, _, fe, fe, fi, rfl, rfl, .inl (af.ex (eb.trans e)), hF⟩⟩
        · subst z0 z1 z2 z3
          rcases ps with ⟨hb, _⟩ | ⟨_, D', rfl, nD', hD'⟩
          · cases hb
          refine ⟨D', Ins.mk false nm pi ws sg co, rfl, rfl, okS, c0.good, c1.good, c3.good, .inl ⟨rfl, hD'⟩, fun H' F i d' e hF hi nd => ?_⟩
          exact ⟨F, rfl, e, .inr ⟨rfl, rfl, rfl, rfl, i, d', hF, hi, nd⟩⟩
    rintro σ' Hc ⟨F, rfl, ec, fc⟩
    refine ⟨_, rfl, ?_⟩
    have Ec := eb.trans ec
    -- the words, copied
    refine ⟨fun σ' H' => ∃ lv, σ' = [some (.ref a), some (.ref p), some (.ref S), some hd, some po, some sh, some row, some fe, some pv, some (.ref F), some lv, none] ∧ Ex Hc H' ∧ LnC p Hc H' b2 lv row ws, ?_, ?_⟩
    · rcases c2 with ⟨hb2, _, bw⟩ | ⟨hb2, D1, L1, rfl, nD1, hD1, rfl, nL1, hL1⟩
      · have bw' := bw.ex Ec
        have pw : Pl Hc row := by
          rcases bw'.1 with ⟨pl, _⟩ | ⟨b, xs, rfl, sq, _⟩
          · exact pl
          · exact sq.elim .lst .tup
        obtain ⟨t, g⟩ := pw.kin (K := K)
        refine ⟨_, rfl, row, .ty "list", t, .type "list", isL Hc row, rfl, .ty _, g.ty, g.list, isL Hc row, rfl, ?_⟩
        refine ite2 (fun hl => ?_) (fun hl => ?_)
        · cases pw with
          | lst h =>
            rename_i a1 xs
            refine ⟨_, rfl, a1, xs, rfl, .inl (sq_of h), fun q hq => ?_⟩
            have nq : q ≠ p := fun z => (Pa.ex Ec).here (z ▸ hq)
            obtain ⟨w1, w2⟩ := copyW bw' h hq nq
            exact ⟨.ref q, rfl, Ex.new hq, .inl ⟨hb2, w1, w2⟩⟩
          | tup h => rw [show isL Hc _ = false from isL_at h] at hl; cases hl
          | dct h => rw [show isL Hc _ = false from isL_at h] at hl; cases hl
          | _ => exact nomatch (show false = true from hl)
        · exact ⟨row, rfl, Ex.refl Hc, .inl ⟨hb2, bw'.1, .inl bw'.2⟩⟩
      · have hL := Ec _ _ hL1
        refine ⟨_, rfl, .ref L1, .ty "list", .type "list", .type "list", true, rfl, .ty _, .base (.lst hL), kit_ty (r := true) (by decide +kernel), true, rfl, iteT ?_⟩
        exact ⟨_, rfl, L1, _, rfl, .inl (sq_of hL), fun q hq => ⟨.ref q, rfl, Ex.new hq, .inr ⟨hb2, q, rfl, hq, upd_same⟩⟩⟩
    rintro σ' Hd ⟨lv, rfl, ed, ln⟩
    have Ed := Ec.trans ed
    -- the lock
    refine ⟨fun σ' H' => ∃ F2, σ' = [some (.ref a), some (.ref p), some (.ref S), some hd, some po, some sh, some row, some fe, some pv, some (.ref F), some lv, some (.ref F2)] ∧ Ex Hd H' ∧ FdC C_Sensor C_Lock p Hd H' b0 b1 b2 b3 [hd, po, row, fe] [.str "name", .str "post", .str "words", .str "cost"] (Ins.mk true nm pi ws [] co) F2, ?_, ?_⟩
    · refine ⟨_, rfl, _, rfl, _, rfl, _, rfl, false, hd, po, lv, fe, !b2, rfl, ph.ex Ed, hsh, pp.ex Ed, pf.ex Ed, .inr ⟨rfl, ?_⟩, ?_⟩
      · rcases ln with ⟨hb, si, _⟩ | ⟨hb, D', rfl, nD', hD'⟩
        · rw [hb]; exact si
        · rw [hb]; exact okL.wdIn (.inl hD')
      · have n2 : (b2 = true ∧ (!b2) = false) ∨ (b2 = false ∧ (!b2) = true) := by cases b2 <;> simp
        refine fst_go n0 n1 n2 n3 (fun fi H' F e hF => ?_) (fun fi H' F e hF => ?_) (fun fi H' F e hF => ?_) (fun fi H' F e hF => ?_) (fun z0 z1 z2 z3 => ?_)
        · exact ⟨F, rfl, e, .inl ⟨0, _, hd, hd, fi, rfl, rfl, .inl (ah.ex (Ed.trans e)), hF⟩⟩
        · exact ⟨F, rfl, e, .inl ⟨1, _, po, po, fi, rfl, rfl, .inl (ap.ex (Ed.trans e)), hF⟩⟩
        · rcases ln with ⟨hb, _, al⟩ | ⟨hb, _⟩
          · exact ⟨F, rfl, e, .inl ⟨2, _, lv, row, fi, rfl, rfl, al.ex e, hF⟩⟩
          · rcases fi with ⟨_, z⟩ | ⟨_, _, z⟩ | ⟨_, _, z, _⟩ | ⟨_, _, _, _, z⟩
            · cases z
            · cases z
            · rw [hb] at z
              cases z
            · cases z
        · exact ⟨F, rfl, e, .inl ⟨3, _, fe, fe, fi, rfl, rfl, .inl (af.ex (Ed.trans e)), hF⟩⟩
        · subst z0 z1 z2 z3
          rcases ln with ⟨hb, _⟩ | ⟨_, D', rfl, nD', hD'⟩
          · cases hb
          refine ⟨D', Ins.mk true nm pi ws [] co, rfl, rfl, okL, c0.good, c1.good, c3.good, .inr ⟨rfl, .inl hD'⟩, fun H' F i d' e hF hi nd => ?_⟩
          exact ⟨F, rfl, e, .inr ⟨rfl, rfl, rfl, rfl, i, d', hF, hi, nd⟩⟩
    rintro σ' He ⟨F2, rfl, ee, fc2⟩
    have Ee := Ed.trans ee
    -- is one spoilt?
    refine ⟨_, rfl, S, _, rfl, .inl (sq_of (Ee _ _ hSb)), rfl, rfl, (b0 || (b1 || (b2 || b3))), (by show V.bl (inV (.bl true) [.bl b0, .bl b1, .bl b2, .bl b3]) = _; rw [in_bs]), ?_⟩
    rcases fc with ⟨i, kind, v, u, fi, hk, hg, al, hF⟩ | ⟨rfl, rfl, rfl, rfl, i1, d1, hF, hi1, nd1⟩
    · have al := (al.ex ed).ex ee
      have hF := (ed.trans ee) _ _ hF
      rw [fi.some]
      refine iteT ?_
      rcases fc2 with ⟨i2, kind2, v2, u2, fi2, hk2, hg2, al2, hF2⟩ | ⟨rfl, rfl, rfl, rfl, _⟩
      rotate_left
      · have := fi.some
        cases this
      refine ⟨_, rfl, _, rfl, _, rfl, _, rfl, _, rfl, _, rfl, (by show 4 ≤ sizeLine; decide), fun G1 g1 => ⟨(by show 4 ≤ sizeLine; decide), fun K1 k1 => ?_⟩⟩
      have e1 : Ex He (upd (upd He G1 (.lst [hd, po, sh, fe])) K1 (.lst [.str "name", .str "post", .str "sights", .str "cost"])) := (Ex.new g1).trans (Ex.new k1)
      have hG1 : upd (upd He G1 (.lst [hd, po, sh, fe])) K1 (.lst [.str "name", .str "post", .str "sights", .str "cost"]) G1 = some (.lst [hd, po, sh, fe]) := Ex.new k1 _ _ upd_same
      have hK1 : upd (upd He G1 (.lst [hd, po, sh, fe])) K1 (.lst [.str "name", .str "post", .str "sights", .str "cost"]) K1 = some (.lst [.str "name", .str "post", .str "sights", .str "cost"]) := upd_same
      generalize upd (upd He G1 (.lst [hd, po, sh, fe])) K1 (.lst [.str "name", .str "post", .str "sights", .str "cost"]) = Hf at e1 hG1 hK1
      refine ⟨p, F, S, G1, K1, b0, b1, b2, b3, i, kind, v, u, _, _, rfl, e1 _ _ hF, (Ee.trans e1) _ _ hSb, hG1, hK1, fi, hg, hk, al.ex e1, fun Hg eg => ⟨true, rfl, iteF ?_⟩⟩
      refine ⟨_, rfl, _, rfl, _, rfl, _, rfl, _, rfl, _, rfl, (by show 4 ≤ sizeLine; decide), fun G2 g2 => ⟨(by show 4 ≤ sizeLine; decide), fun K2 k2 => ?_⟩⟩
      have e2 : Ex Hg (upd (upd Hg G2 (.lst [hd, po, row, fe])) K2 (.lst [.str "name", .str "post", .str "words", .str "cost"])) := (Ex.new g2).trans (Ex.new k2)
      have E2 := e1.trans (eg.trans e2)
      exact ⟨p, F2, S, G2, K2, b0, b1, b2, b3, i2, kind2, v2, u2, _, _, rfl, E2 _ _ hF2, (Ee.trans E2) _ _ hSb, Ex.new k2 _ _ upd_same, upd_same, fi2, hg2, hk2, al2.ex E2, fun Hh _ => k Hh⟩
    -- none is
    have hd1 : ∃ o, Hc d1 = some o := by
      obtain ⟨_, _, _, ⟨_, _, h⟩ | ⟨_, _, h⟩⟩ := hi1
      · exact ⟨_, h⟩
      · exact ⟨_, h⟩
    have hi1 := (hi1.exD ed).exD ee
    have hF := (ed.trans ee) _ _ hF
    refine iteF ?_
    rcases fc2 with ⟨i2, kind2, v2, u2, fi2, _⟩ | ⟨_, _, _, _, i2, d2, hF2, hi2, nd2⟩
    · have := fi2.some
      cases this
    obtain rfl := c0.good
    obtain rfl := c1.good
    obtain rfl := c3.good
    rcases ps with ⟨z, _⟩ | ⟨_, D', rfl, nD', hD'⟩
    · cases z
    rcases ln with ⟨z, _⟩ | ⟨_, L', rfl, nL', hL'⟩
    · cases z
    rcases c2 with ⟨z, _⟩ | ⟨_, D1, L1, rfl, nD1, hD1, rfl, nL1, hL1⟩
    · cases z
    have nn : (!decide (V.str "told" = V.str "told")) = false := by rw [decide_eq_true rfl]; rfl
    refine ⟨_, rfl, .inr (.inl ⟨F, _, 0, .str "told", rfl, rfl, st_of hF, (by rfl), rfl, false, by rw [nn], iteF ?_⟩)⟩
    refine ⟨_, rfl, .inr (.inl ⟨F2, _, 0, .str "told", rfl, rfl, st_of hF2, (by rfl), rfl, false, by rw [nn], iteF ?_⟩)⟩
    have hDe := (ec.trans (ed.trans ee)) _ _ hD'
    have hLe := ee _ _ hL'
    refine ⟨_, rfl, _, rfl, D', D1, _, _, rfl, rfl, hDe, Ee _ _ hD1, rfl, (fun q hq => ⟨val_nodup (tab_nd (r := Ins.mk false nm pi ws sg co) okS rfl) q hq, ?_⟩), false, rfl, iteF ?_⟩
    · obtain ⟨x, y, rfl, _, _⟩ := (okS.tabS rfl).each q hq
      rfl
    refine ⟨_, rfl, _, rfl, _, _, dp_strs hLe, dp_strs (Ee _ _ hL1), okP_strs _, okP_strs _, false, by rw [eqv_refl (okP_strs _)]; rfl, iteF ?_⟩
    -- what was passed is emptied
    have D0 : Ha D' = none := nD'
    have L0 : Ha L' = none := fresh_back Ec nL'
    have nDL : D' ≠ L' := fun z => by rw [z] at hDe; rw [hLe] at hDe; cases hDe
    have ndD1 : D' ≠ d1 := fun z => by rw [z] at hD'; rw [nd1] at hD'; cases hD'
    have dD2 : D' ≠ d2 := fun z => by have q := (ec.trans ed) _ _ hD'; rw [z, nd2] at q; cases q
    have dL2 : L' ≠ d2 := fun z => by rw [z, nd2] at hL'; cases hL'
    have dL1 : L' ≠ d1 := fun z => by
      obtain ⟨o, h⟩ := hd1
      rw [← z, nL'] at h
      cases h
    refine ⟨_, rfl, .inr (.inr (.inl ⟨rfl, .inl ⟨_, hDe⟩⟩)), D', _, rfl, rfl, hDe, ?_⟩
    have E1 := Ee.mut (o := .dK []) D0
    have hL1' : upd He D' (.dK []) L' = some (.lst (ws.map V.str)) := by rw [upd_ne nDL.symm]; exact hLe
    have i1' : InsAtD C_Sensor C_Lock (upd He D' (.dK [])) i1 (Ins.mk false nm pi ws sg co) d1 := hi1.put hDe (fun _ _ _ z => nomatch z) ndD1
    have i2' : InsAtD C_Sensor C_Lock (upd He D' (.dK [])) i2 (Ins.mk true nm pi ws [] co) d2 := hi2.put hDe (fun _ _ _ z => nomatch z) dD2
    have hF' : upd He D' (.dK []) F = some (.tup [.str "told", i1]) := by rw [upd_ne (fun z => by rw [z, hDe] at hF; cases hF)]; exact hF
    have hF2' : upd He D' (.dK []) F2 = some (.tup [.str "told", i2]) := by rw [upd_ne (fun z => by rw [z, hDe] at hF2; cases hF2)]; exact hF2
    generalize upd He D' (.dK []) = Hf at E1 hL1' i1' i2' hF' hF2'
    refine ⟨_, rfl, .inl ⟨rfl, _, sq_of hL1'⟩, L', _, rfl, rfl, hL1', ?_⟩
    have E2 := E1.mut (o := .lst []) L0
    have i1'' : InsAtD C_Sensor C_Lock (upd Hf L' (.lst [])) i1 (Ins.mk false nm pi ws sg co) d1 := i1'.put hL1' (fun _ _ _ z => nomatch z) dL1
    have i2'' : InsAtD C_Sensor C_Lock (upd Hf L' (.lst [])) i2 (Ins.mk true nm pi ws [] co) d2 := i2'.put hL1' (fun _ _ _ z => nomatch z) dL2
    have hF'' : upd Hf L' (.lst []) F = some (.tup [.str "told", i1]) := by rw [upd_ne (fun z => by rw [z, hL1'] at hF'; cases hF')]; exact hF'
    have hF2'' : upd Hf L' (.lst []) F2 = some (.tup [.str "told", i2]) := by rw [upd_ne (fun z => by rw [z, hL1'] at hF2'; cases hF2')]; exact hF2'
    generalize upd Hf L' (.lst []) = Hg at E2 i1'' i2'' hF'' hF2''
    obtain ⟨op, hop⟩ : ∃ o, Ha p = some o := by
      cases e : Ha p with
      | none => exact absurd e Pa.here
      | some o => exact ⟨o, rfl⟩
    -- the sensor tells
    refine ⟨_, rfl, .inr (.inl ⟨F, _, 1, i1, rfl, rfl, st_of hF'', (by rfl), ?_⟩)⟩
    refine ⟨_, rfl, _, rfl, _, rfl, D1, _, rfl, .inl (E2 _ _ hD1), fun W hW => ⟨_, rfl, ?_⟩⟩
    have eW : Ex Hg (upd Hg W (.lst ((kvsOf ws sg).map fun q => kV q.1))) := Ex.new hW
    have hW1 : upd Hg W (.lst ((kvsOf ws sg).map fun q => kV q.1)) W = some (.lst (ws.map V.str)) := by
      have q : (kvsOf ws sg).map (fun q => kV q.1) = ws.map V.str := by
        have e := okS.keys rfl
        have e2 := congrArg (List.map kV) (show (kvsOf ws sg).map (·.1) = ws.map Sum.inr from e)
        rw [List.map_map, List.map_map] at e2
        exact e2
      rw [upd_same, q]
    generalize upd Hg W (.lst ((kvsOf ws sg).map fun q => kV q.1)) = Hh at eW hW1
    have E3 := E2.trans eW
    refine ⟨p, i1, Ins.mk false nm pi ws sg co, W, ws, op, rfl, E3 _ _ hop, (i1''.exD eW).at, okS, hW1, List.Perm.refl _, fun Hi ei => ⟨true, rfl, iteF ?_⟩⟩
    have E4 := E3.trans ei
    refine ⟨_, rfl, .inr (.inl ⟨F, _, 1, i1, rfl, rfl, st_of ((eW.trans ei) _ _ hF''), (by rfl), ?_⟩)⟩
    refine ⟨_, rfl, i1, Ins.mk false nm pi ws sg co, D1, rfl, (i1''.exD (eW.trans ei)).at, rfl, okS, E4 _ _ hD1, fun Hj ej => ⟨true, rfl, iteF ?_⟩⟩
    have E5 := E4.trans ej
    -- the lock tells
    refine ⟨_, rfl, .inr (.inl ⟨F2, _, 1, i2, rfl, rfl, st_of ((eW.trans (ei.trans ej)) _ _ hF2''), (by rfl), ?_⟩)⟩
    refine ⟨_, rfl, _, rfl, _, rfl, _, rfl, p, i2, Ins.mk true nm pi ws [] co, L1, ws, op, rfl, E5 _ _ hop, (i2''.exD (eW.trans (ei.trans ej))).at, okL, E5 _ _ hL1, List.Perm.refl _, fun Hk ek => ⟨true, rfl, ?_⟩⟩
    have E6 := E5.trans ek
    exact ⟨_, rfl, _, rfl, _, rfl, _, rfl, _, rfl, _, rfl, p, D1, L1, nm, pi, co, ws, sg, rfl, Pa.ex E6, nD1, nL1, gd, E6 _ _ hD1, E6 _ _ hL1, fun H' => k H'⟩
end
end WK

set_option Elab.async false
set_option linter.all false
set_option maxRecDepth 100000
set_option maxHeartbeats 0
namespace WK
open PySem PySem.Spec PyProof.Rows L2 WW Evl
abbrev s_BadName : Stmt := inClass (top 2) 0
abbrev s_BadPost : Stmt := inClass (top 3) 0
abbrev s_BadSights : Stmt := inClass (top 4) 0
abbrev s_BadWords : Stmt := inClass (top 5) 0
abbrev s_BadCost : Stmt := inClass (top 6) 0
def dG (x : Str) (st : Stmt) : He5.DefA := { at_ := fun K => He.ga K x, name := x, qual := x, params := defArgs st, body := defBody st, scope := defScope st }
def dM (c m q : Str) (st : Stmt) : He5.DefA := { at_ := fun K => He.ma K (He.ga K c) m, name := m, qual := q, params := defArgs st, body := defBody st, scope := defScope st }
def dP (c m q : Str) (st : Stmt) : He5.DefA := { at_ := fun K => getr K (He.ga K c) m, name := m, qual := q, params := defArgs st, body := defBody st, scope := defScope st }
def dE (x : Str) (q : Str) (st : Stmt) : DefE := { cls := x, qual := q, params := defArgs st, body := defBody st, scope := defScope st }
def fn : List He5.DefA := [dG "law" s_law, dG "_law_twins" s__law_twins, dG "_law_sensor_tells" s__law_sensor_tells, dG "_law_tells" s__law_tells, dG "_law_refused" s__law_refused, dG "_law_built" s__law_built, dG "_law_arguments" s__law_arguments, dG "_law_bad_words" s__law_bad_words, dG "_law_bad_sights" s__law_bad_sights, dG "_law_bad_cost" s__law_bad_cost, dG "_law_bad_post" s__law_bad_post, dG "_law_bad_head" s__law_bad_head, dG "_law_alike" s__law_alike, dG "_law_names" s__law_names, dG "_law_name" s__law_name, dG "_law_pick" s__law_pick, dG "_law_draw" s__law_draw, dG "_law_pool" s__law_pool, dG "is_row_of_words" s_is_row_of_words, dG "is_table_of_sights" s_is_table_of_sights, dG "check_cost" s_check_cost, dG "check_post" s_check_post, dG "check_name" s_check_name, dG "is_index" s_is_index, dG "is_post" s_is_post, dG "is_name" s_is_name, dG "is_row_of" s_is_row_of, dG "is_row" s_is_row, dG "is_integer" s_is_integer, dM "Sensor" "__init__" "Sensor.__init__" s_Sensor___init__, dM "Lock" "__init__" "Lock.__init__" s_Lock___init__, dM "Sensor" "__eq__" "Sensor.__eq__" s_Sensor___eq__, dM "Lock" "__eq__" "Lock.__eq__" s_Lock___eq__, dP "Sensor" "name" "Sensor.name" s_Sensor_name, dP "Sensor" "post" "Sensor.post" s_Sensor_post, dP "Sensor" "cost" "Sensor.cost" s_Sensor_cost, dP "Sensor" "words" "Sensor.words" s_Sensor_words, dP "Sensor" "sights" "Sensor.sights" s_Sensor_sights, dP "Lock" "name" "Lock.name" s_Lock_name, dP "Lock" "post" "Lock.post" s_Lock_post, dP "Lock" "cost" "Lock.cost" s_Lock_cost, dP "Lock" "words" "Lock.words" s_Lock_words]
def fe : List DefE := [dE "BadName" "BadName.__init__" s_BadName, dE "BadPost" "BadPost.__init__" s_BadPost, dE "BadSights" "BadSights.__init__" s_BadSights, dE "BadWords" "BadWords.__init__" s_BadWords, dE "BadCost" "BadCost.__init__" s_BadCost]
def gnames : List Str := (["law", "_law_twins", "_law_sensor_tells", "_law_tells", "_law_refused", "_law_built", "_law_arguments", "_law_bad_words", "_law_bad_sights", "_law_bad_cost", "_law_bad_post", "_law_bad_head", "_law_alike", "_law_names", "_law_name", "_law_pick", "_law_draw", "_law_pool", "is_row_of_words", "is_table_of_sights", "check_cost", "check_post", "check_name", "is_index"] : List Str) ++ (["is_post", "is_name", "is_row_of", "is_row", "is_integer", "Sensor", "Lock", "BadName", "BadPost", "BadSights", "BadWords", "BadCost", "WorksError"] : List Str)
def bnames : List Str := ["len", "isinstance", "int", "bool", "str", "list", "tuple", "all", "abs", "max", "sorted", "range", "enumerate", "set", "dict", "super"]
def oth : List He.Fa := [.int "MOST_LETTERS" 10, .int "MOST_WORDS_OF_AN_INSTRUMENT" 10, .int "MOST_COST" 1000, .cls "Sensor", .mkr "Sensor", .cls "Lock", .mkr "Lock", .noat "Sensor" "_name", .noat "Sensor" "_post", .noat "Sensor" "_sights", .noat "Sensor" "_cost", .noat "Lock" "_name", .noat "Lock" "_post", .noat "Lock" "_words", .noat "Lock" "_cost"]
def fa : List He.Fa := gnames.map He.Fa.glo ++ (bnames.map He.Fa.free ++ oth)
theorem gl_mem {x : Str} (h : x ∈ gnames) : He.Fa.glo x ∈ fa := List.mem_append_left _ (List.mem_map.mpr ⟨x, h, rfl⟩)
theorem fr_mem {x : Str} (h : x ∈ bnames) : He.Fa.free x ∈ fa := List.mem_append_right _ (List.mem_append_left _ (List.mem_map.mpr ⟨x, h, rfl⟩))
theorem ot_mem {f : He.Fa} (i : Nat) (h : oth[i]? = some f) : f ∈ fa := List.mem_append_right _ (List.mem_append_right _ (List.mem_of_getElem? h))
def isaB (K : PySem.W.Frag) (C : Addr) : Bool := He.eqO (PySem.W.findIn K (.ref C) "__class__") (some (some (.builtin "object.__class__"))) && (He.eqO (PySem.W.specialIn K (.builtin "object.__class__") "__get__") (some (some (.builtin "getset_descriptor.__get__"))) && (decide (PySem.W.takesIn K (.builtin "object.__class__") = some true) && decide (PySem.W.mroIn K C (.type "object") = some true)))
theorem isaB_ok {K : PySem.W.Frag} {C : Addr} (h : isaB K C = true) (cl : Cls K C) (H : Hp) (a dx : Addr) (fs : List (Str × V)) (e : H a = some (.ins C dx fs)) : TyOf K H (.ref a) (.ref C) := by
  obtain ⟨h1, h⟩ := He.ba h
  obtain ⟨h2, h⟩ := He.ba h
  obtain ⟨h3, h4⟩ := He.ba h
  exact .ins e cl (He.eqO_ok h1) (He.eqO_ok h2) (of_decide_eq_true h3) (of_decide_eq_true h4)
abbrev Pr : Program := (PySem.Challenge.rw_watchedworks_k20_instruments_and_their_a).prog
def excB (K : PySem.W.Frag) (C : Addr) : Bool := xfB K C && (He.eqO (PySem.W.findIn K (.ref C) "__class__") (some (some (.builtin "object.__class__"))) && (He.eqO (PySem.W.specialIn K (.builtin "object.__class__") "__get__") (some (some (.builtin "getset_descriptor.__get__"))) && (decide (PySem.W.takesIn K (.builtin "object.__class__") = some true) && decide (PySem.W.mroIn K C (.type "object") = some true))))
theorem excB_ok {K : PySem.W.Frag} {C : Addr} (h : excB K C = true) : XfC K C ∧ ExcC K C := by
  obtain ⟨h1, h⟩ := He.ba h
  obtain ⟨h2, h⟩ := He.ba h
  obtain ⟨h3, h⟩ := He.ba h
  obtain ⟨h4, h5⟩ := He.ba h
  have x := xfB_ok h1
  exact ⟨x, x.ga, x.gg, x.exC, x.hdC, He.eqO_ok h2, He.eqO_ok h3, of_decide_eq_true h4, of_decide_eq_true h5⟩
def ownFB (K : PySem.W.Frag) (C : Addr) (m : Str) : Bool := He.eqO (PySem.W.findIn K (.ref C) m) (some (some (.ref (He.ma K C m)))) && PySem.W.isFn K (.ref (He.ma K C m))
theorem ownFB_ok {K : PySem.W.Frag} {C : Addr} {m : Str} (h : ownFB K C m = true) : PySem.W.findIn K (.ref C) m = some (some (.ref (He.ma K C m))) ∧ PySem.W.isFn K (.ref (He.ma K C m)) = true := by
  obtain ⟨h1, h2⟩ := He.ba h
  exact ⟨He.eqO_ok h1, h2⟩
def exL (K : PySem.W.Frag) : List Bool := [isaB K (He.ga K "Sensor"), isaB K (He.ga K "Lock"), propB K (He.ga K "Sensor") "name", propB K (He.ga K "Sensor") "post", propB K (He.ga K "Sensor") "cost", propB K (He.ga K "Sensor") "words", propB K (He.ga K "Sensor") "sights", propB K (He.ga K "Lock") "name", propB K (He.ga K "Lock") "post", propB K (He.ga K "Lock") "cost", propB K (He.ga K "Lock") "words", exdB Pr.main.file K (dE "BadName" "BadName.__init__" s_BadName), excB K (He.ga K "BadName"), He.eqO (PySem.W.findIn K (.ref (He.ga K "BadName")) "value") (some none), decide (PySem.W.kitOne K (.ref (He.ga K "BadName")) (.ref (He.ga K "WorksError")) = some true), exdB Pr.main.file K (dE "BadPost" "BadPost.__init__" s_BadPost), excB K (He.ga K "BadPost"), He.eqO (PySem.W.findIn K (.ref (He.ga K "BadPost")) "value") (some none), decide (PySem.W.kitOne K (.ref (He.ga K "BadPost")) (.ref (He.ga K "WorksError")) = some true), exdB Pr.main.file K (dE "BadSights" "BadSights.__init__" s_BadSights), excB K (He.ga K "BadSights"), He.eqO (PySem.W.findIn K (.ref (He.ga K "BadSights")) "value") (some none), decide (PySem.W.kitOne K (.ref (He.ga K "BadSights")) (.ref (He.ga K "WorksError")) = some true), exdB Pr.main.file K (dE "BadWords" "BadWords.__init__" s_BadWords), excB K (He.ga K "BadWords"), He.eqO (PySem.W.findIn K (.ref (He.ga K "BadWords")) "value") (some none), decide (PySem.W.kitOne K (.ref (He.ga K "BadWords")) (.ref (He.ga K "WorksError")) = some true), exdB Pr.main.file K (dE "BadCost" "BadCost.__init__" s_BadCost), excB K (He.ga K "BadCost"), He.eqO (PySem.W.findIn K (.ref (He.ga K "BadCost")) "value") (some none), decide (PySem.W.kitOne K (.ref (He.ga K "BadCost")) (.ref (He.ga K "WorksError")) = some true), decide (PySem.W.exmOne K (.ref (He.ga K "BadName")) (.ref (He.ga K "BadName")) = some true), decide (PySem.W.exmOne K (.ref (He.ga K "BadPost")) (.ref (He.ga K "BadName")) = some false), decide (PySem.W.exmOne K (.ref (He.ga K "BadPost")) (.ref (He.ga K "BadPost")) = some true), decide (PySem.W.exmOne K (.ref (He.ga K "BadSights")) (.ref (He.ga K "BadName")) = some false), decide (PySem.W.exmOne K (.ref (He.ga K "BadSights")) (.ref (He.ga K "BadPost")) = some false), decide (PySem.W.exmOne K (.ref (He.ga K "BadSights")) (.ref (He.ga K "BadSights")) = some true), decide (PySem.W.exmOne K (.ref (He.ga K "BadWords")) (.ref (He.ga K "BadName")) = some false), decide (PySem.W.exmOne K (.ref (He.ga K "BadWords")) (.ref (He.ga K "BadPost")) = some false), decide (PySem.W.exmOne K (.ref (He.ga K "BadWords")) (.ref (He.ga K "BadSights")) = some false), decide (PySem.W.exmOne K (.ref (He.ga K "BadWords")) (.ref (He.ga K "BadWords")) = some true), decide (PySem.W.exmOne K (.ref (He.ga K "BadCost")) (.ref (He.ga K "BadName")) = some false), decide (PySem.W.exmOne K (.ref (He.ga K "BadCost")) (.ref (He.ga K "BadPost")) = some false), decide (PySem.W.exmOne K (.ref (He.ga K "BadCost")) (.ref (He.ga K "BadSights")) = some false), decide (PySem.W.exmOne K (.ref (He.ga K "BadCost")) (.ref (He.ga K "BadWords")) = some false), decide (PySem.W.exmOne K (.ref (He.ga K "BadCost")) (.ref (He.ga K "BadCost")) = some true), decide (PySem.W.kitOne K (.ref (He.ga K "Sensor")) (.ref (He.ga K "Sensor")) = some true), PySem.W.notFirst K (He.ga K "Sensor") (.ref (He.ga K "Sensor")), decide (PySem.W.kitOne K (.ref (He.ga K "Sensor")) (.ref (He.ga K "Lock")) = some false), PySem.W.notFirst K (He.ga K "Sensor") (.ref (He.ga K "Lock")), decide (PySem.W.kitOne K (.ref (He.ga K "Lock")) (.ref (He.ga K "Sensor")) = some false), PySem.W.notFirst K (He.ga K "Lock") (.ref (He.ga K "Sensor")), decide (PySem.W.kitOne K (.ref (He.ga K "Lock")) (.ref (He.ga K "Lock")) = some true), PySem.W.notFirst K (He.ga K "Lock") (.ref (He.ga K "Lock")), ownFB K (He.ga K "Sensor") "__eq__", ownFB K (He.ga K "Lock") "__eq__"]
def ex (K : PySem.W.Frag) : Bool := (exL K).all id
abbrev R : PySem.W.OpenRow := PySem.W.OpenLaw.row PySem.Challenge.rw_watchedworks_k20_instruments_and_their_a
abbrev hk : PySem.W.Hook := hookE 5 fa fn fe ex
def ob (s : PySem.W.SharedT) : AlE := obsEG 5 fa fn fe ex (HandSHeadRun.getT s)
theorem ob_eq (s : PySem.W.SharedT) : ob s = hk.obs s.abs := obsEG_eq (HandSHeadRun.getT_eq s)
abbrev loose : List Str := (["WorksError", "BadName", "BadPost", "BadSights", "BadWords", "BadCost", "MOST_LETTERS", "is_integer", "is_row", "is_row_of", "is_name", "is_post", "is_index", "MOST_WORDS_OF_AN_INSTRUMENT", "MOST_COST", "Sensor", "Lock", "check_name", "check_post", "check_cost", "is_table_of_sights", "is_row_of_words", "_law_pool", "_law_draw"] : List Str) ++ (["_law_pick", "_law_name", "_law_names", "_law_alike", "_law_bad_head", "_law_bad_post", "_law_bad_cost", "_law_bad_sights", "_law_bad_words", "_law_arguments", "_law_built", "_law_refused", "_law_tells", "_law_sensor_tells", "_law_twins"] : List Str)
theorem run (w : World) : HandSHeadRun.RunEq R (PySem.W.view R.prog [43]) hk ob 12000 loose w := by
  intro os
  kernel_rfl
theorem facts {w : World} {K : PySem.W.Frag} {h : Heap} {mg : Str → Option Value} {f : Addr} (X : K.In h) (Gn : h.Ns mainGlobals mg) (hfa : mg ("law" : Str) = some (.ref f)) (ce : SaysE fa fn fe ex K) :
    ∃ fd : FuncData, (∀ (s : Shared) (v : Value), BindsTo s fd ⟨[v], []⟩ [("_law_script", v)]) ∧ ∀ base : Heap, K.In base → base.Ns mainGlobals mg → FnOk Pr w K mg base CXn 8 f fd ["_law_script"] (spLaw K) := by
  have c := ce.b
  have fr : ∀ {x : Str}, x ∈ bnames → mg x = none := fun m => He.free_ok X Gn (c.fact (fr_mem m))
  have gl : ∀ {x : Str}, x ∈ gnames → mg x = some (.ref (He.ga K x)) := fun m => He.glo_ok X Gn (c.fact (gl_mem m))
  have G : Gz mg := ⟨fr (x := "len") (by decide +kernel), fr (x := "isinstance") (by decide +kernel), fr (x := "int") (by decide +kernel), fr (x := "bool") (by decide +kernel), fr (x := "str") (by decide +kernel), fr (x := "list") (by decide +kernel), fr (x := "tuple") (by decide +kernel), fr (x := "all") (by decide +kernel), fr (x := "abs") (by decide +kernel), fr (x := "max") (by decide +kernel), fr (x := "sorted") (by decide +kernel), fr (x := "range") (by decide +kernel), fr (x := "enumerate") (by decide +kernel), fr (x := "set") (by decide +kernel), fr (x := "dict") (by decide +kernel)⟩
  obtain ⟨fd0, D0⟩ := c.def_ 0 (d := dG "law" s_law) rfl
  replace D0 : FunD K "law" "law" (defArgs s_law) (defBody s_law) (defScope s_law) [] [] _ fd0 := D0
  obtain ⟨fd1, D1⟩ := c.def_ 1 (d := dG "_law_twins" s__law_twins) rfl
  replace D1 : FunD K "_law_twins" "_law_twins" (defArgs s__law_twins) (defBody s__law_twins) (defScope s__law_twins) [] [] _ fd1 := D1
  obtain ⟨fd2, D2⟩ := c.def_ 2 (d := dG "_law_sensor_tells" s__law_sensor_tells) rfl
  replace D2 : FunD K "_law_sensor_tells" "_law_sensor_tells" (defArgs s__law_sensor_tells) (defBody s__law_sensor_tells) (defScope s__law_sensor_tells) [] [] _ fd2 := D2
  obtain ⟨fd3, D3⟩ := c.def_ 3 (d := dG "_law_tells" s__law_tells) rfl
  replace D3 : FunD K "_law_tells" "_law_tells" (defArgs s__law_tells) (defBody s__law_tells) (defScope s__law_tells) [] [] _ fd3 := D3
  obtain ⟨fd4, D4⟩ := c.def_ 4 (d := dG "_law_refused" s__law_refused) rfl
  replace D4 : FunD K "_law_refused" "_law_refused" (defArgs s__law_refused) (defBody s__law_refused) (defScope s__law_refused) [] [] _ fd4 := D4
  obtain ⟨fd5, D5⟩ := c.def_ 5 (d := dG "_law_built" s__law_built) rfl
  replace D5 : FunD K "_law_built" "_law_built" (defArgs s__law_built) (defBody s__law_built) (defScope s__law_built) [] [] _ fd5 := D5
  obtain ⟨fd6, D6⟩ := c.def_ 6 (d := dG "_law_arguments" s__law_arguments) rfl
  replace D6 : FunD K "_law_arguments" "_law_arguments" (defArgs s__law_arguments) (defBody s__law_arguments) (defScope s__law_arguments) [] [] _ fd6 := D6
  obtain ⟨fd7, D7⟩ := c.def_ 7 (d := dG "_law_bad_words" s__law_bad_words) rfl
  replace D7 : FunD K "_law_bad_words" "_law_bad_words" (defArgs s__law_bad_words) (defBody s__law_bad_words) (defScope s__law_bad_words) [] [] _ fd7 := D7
  obtain ⟨fd8, D8⟩ := c.def_ 8 (d := dG "_law_bad_sights" s__law_bad_sights) rfl
  replace D8 : FunD K "_law_bad_sights" "_law_bad_sights" (defArgs s__law_bad_sights) (defBody s__law_bad_sights) (defScope s__law_bad_sights) [] [] _ fd8 := D8
  obtain ⟨fd9, D9⟩ := c.def_ 9 (d := dG "_law_bad_cost" s__law_bad_cost) rfl
  replace D9 : FunD K "_law_bad_cost" "_law_bad_cost" (defArgs s__law_bad_cost) (defBody s__law_bad_cost) (defScope s__law_bad_cost) [] [] _ fd9 := D9
  obtain ⟨fd10, D10⟩ := c.def_ 10 (d := dG "_law_bad_post" s__law_bad_post) rfl
  replace D10 : FunD K "_law_bad_post" "_law_bad_post" (defArgs s__law_bad_post) (defBody s__law_bad_post) (defScope s__law_bad_post) [] [] _ fd10 := D10
  obtain ⟨fd11, D11⟩ := c.def_ 11 (d := dG "_law_bad_head" s__law_bad_head) rfl
  replace D11 : FunD K "_law_bad_head" "_law_bad_head" (defArgs s__law_bad_head) (defBody s__law_bad_head) (defScope s__law_bad_head) [] [] _ fd11 := D11
  obtain ⟨fd12, D12⟩ := c.def_ 12 (d := dG "_law_alike" s__law_alike) rfl
  replace D12 : FunD K "_law_alike" "_law_alike" (defArgs s__law_alike) (defBody s__law_alike) (defScope s__law_alike) [] [] _ fd12 := D12
  obtain ⟨fd13, D13⟩ := c.def_ 13 (d := dG "_law_names" s__law_names) rfl
  replace D13 : FunD K "_law_names" "_law_names" (defArgs s__law_names) (defBody s__law_names) (defScope s__law_names) [] [] _ fd13 := D13
  obtain ⟨fd14, D14⟩ := c.def_ 14 (d := dG "_law_name" s__law_name) rfl
  replace D14 : FunD K "_law_name" "_law_name" (defArgs s__law_name) (defBody s__law_name) (defScope s__law_name) [] [] _ fd14 := D14
  obtain ⟨fd15, D15⟩ := c.def_ 15 (d := dG "_law_pick" s__law_pick) rfl
  replace D15 : FunD K "_law_pick" "_law_pick" (defArgs s__law_pick) (defBody s__law_pick) (defScope s__law_pick) [] [] _ fd15 := D15
  obtain ⟨fd16, D16⟩ := c.def_ 16 (d := dG "_law_draw" s__law_draw) rfl
  replace D16 : FunD K "_law_draw" "_law_draw" (defArgs s__law_draw) (defBody s__law_draw) (defScope s__law_draw) [] [] _ fd16 := D16
  obtain ⟨fd17, D17⟩ := c.def_ 17 (d := dG "_law_pool" s__law_pool) rfl
  replace D17 : FunD K "_law_pool" "_law_pool" (defArgs s__law_pool) (defBody s__law_pool) (defScope s__law_pool) [] [] _ fd17 := D17
  obtain ⟨fd18, D18⟩ := c.def_ 18 (d := dG "is_row_of_words" s_is_row_of_words) rfl
  replace D18 : FunD K "is_row_of_words" "is_row_of_words" (defArgs s_is_row_of_words) (defBody s_is_row_of_words) (defScope s_is_row_of_words) [] [] _ fd18 := D18
  obtain ⟨fd19, D19⟩ := c.def_ 19 (d := dG "is_table_of_sights" s_is_table_of_sights) rfl
  replace D19 : FunD K "is_table_of_sights" "is_table_of_sights" (defArgs s_is_table_of_sights) (defBody s_is_table_of_sights) (defScope s_is_table_of_sights) [] [] _ fd19 := D19
  obtain ⟨fd20, D20⟩ := c.def_ 20 (d := dG "check_cost" s_check_cost) rfl
  replace D20 : FunD K "check_cost" "check_cost" (defArgs s_check_cost) (defBody s_check_cost) (defScope s_check_cost) [] [] _ fd20 := D20
  obtain ⟨fd21, D21⟩ := c.def_ 21 (d := dG "check_post" s_check_post) rfl
  replace D21 : FunD K "check_post" "check_post" (defArgs s_check_post) (defBody s_check_post) (defScope s_check_post) [] [] _ fd21 := D21
  obtain ⟨fd22, D22⟩ := c.def_ 22 (d := dG "check_name" s_check_name) rfl
  replace D22 : FunD K "check_name" "check_name" (defArgs s_check_name) (defBody s_check_name) (defScope s_check_name) [] [] _ fd22 := D22
  obtain ⟨fd23, D23⟩ := c.def_ 23 (d := dG "is_index" s_is_index) rfl
  replace D23 : FunD K "is_index" "is_index" (defArgs s_is_index) (defBody s_is_index) (defScope s_is_index) [] [] _ fd23 := D23
  obtain ⟨fd24, D24⟩ := c.def_ 24 (d := dG "is_post" s_is_post) rfl
  replace D24 : FunD K "is_post" "is_post" (defArgs s_is_post) (defBody s_is_post) (defScope s_is_post) [] [] _ fd24 := D24
  obtain ⟨fd25, D25⟩ := c.def_ 25 (d := dG "is_name" s_is_name) rfl
  replace D25 : FunD K "is_name" "is_name" (defArgs s_is_name) (defBody s_is_name) (defScope s_is_name) [] [] _ fd25 := D25
  obtain ⟨fd26, D26⟩ := c.def_ 26 (d := dG "is_row_of" s_is_row_of) rfl
  replace D26 : FunD K "is_row_of" "is_row_of" (defArgs s_is_row_of) (defBody s_is_row_of) (defScope s_is_row_of) [] [] _ fd26 := D26
  obtain ⟨fd27, D27⟩ := c.def_ 27 (d := dG "is_row" s_is_row) rfl
  replace D27 : FunD K "is_row" "is_row" (defArgs s_is_row) (defBody s_is_row) (defScope s_is_row) [] [] _ fd27 := D27
  obtain ⟨fd28, D28⟩ := c.def_ 28 (d := dG "is_integer" s_is_integer) rfl
  replace D28 : FunD K "is_integer" "is_integer" (defArgs s_is_integer) (defBody s_is_integer) (defScope s_is_integer) [] [] _ fd28 := D28
  obtain ⟨fd29, D29⟩ := c.def_ 29 (d := dM "Sensor" "__init__" "Sensor.__init__" s_Sensor___init__) rfl
  replace D29 : FunD K "__init__" "Sensor.__init__" (defArgs s_Sensor___init__) (defBody s_Sensor___init__) (defScope s_Sensor___init__) [] [] _ fd29 := D29
  obtain ⟨fd30, D30⟩ := c.def_ 30 (d := dM "Lock" "__init__" "Lock.__init__" s_Lock___init__) rfl
  replace D30 : FunD K "__init__" "Lock.__init__" (defArgs s_Lock___init__) (defBody s_Lock___init__) (defScope s_Lock___init__) [] [] _ fd30 := D30
  obtain ⟨fd31, D31⟩ := c.def_ 31 (d := dM "Sensor" "__eq__" "Sensor.__eq__" s_Sensor___eq__) rfl
  replace D31 : FunD K "__eq__" "Sensor.__eq__" (defArgs s_Sensor___eq__) (defBody s_Sensor___eq__) (defScope s_Sensor___eq__) [] [] _ fd31 := D31
  obtain ⟨fd32, D32⟩ := c.def_ 32 (d := dM "Lock" "__eq__" "Lock.__eq__" s_Lock___eq__) rfl
  replace D32 : FunD K "__eq__" "Lock.__eq__" (defArgs s_Lock___eq__) (defBody s_Lock___eq__) (defScope s_Lock___eq__) [] [] _ fd32 := D32
  obtain ⟨fd33, D33⟩ := c.def_ 33 (d := dP "Sensor" "name" "Sensor.name" s_Sensor_name) rfl
  replace D33 : FunD K "name" "Sensor.name" (defArgs s_Sensor_name) (defBody s_Sensor_name) (defScope s_Sensor_name) [] [] _ fd33 := D33
  obtain ⟨fd34, D34⟩ := c.def_ 34 (d := dP "Sensor" "post" "Sensor.post" s_Sensor_post) rfl
  replace D34 : FunD K "post" "Sensor.post" (defArgs s_Sensor_post) (defBody s_Sensor_post) (defScope s_Sensor_post) [] [] _ fd34 := D34
  obtain ⟨fd35, D35⟩ := c.def_ 35 (d := dP "Sensor" "cost" "Sensor.cost" s_Sensor_cost) rfl
  replace D35 : FunD K "cost" "Sensor.cost" (defArgs s_Sensor_cost) (defBody s_Sensor_cost) (defScope s_Sensor_cost) [] [] _ fd35 := D35
  obtain ⟨fd36, D36⟩ := c.def_ 36 (d := dP "Sensor" "words" "Sensor.words" s_Sensor_words) rfl
  replace D36 : FunD K "words" "Sensor.words" (defArgs s_Sensor_words) (defBody s_Sensor_words) (defScope s_Sensor_words) [] [] _ fd36 := D36
  obtain ⟨fd37, D37⟩ := c.def_ 37 (d := dP "Sensor" "sights" "Sensor.sights" s_Sensor_sights) rfl
  replace D37 : FunD K "sights" "Sensor.sights" (defArgs s_Sensor_sights) (defBody s_Sensor_sights) (defScope s_Sensor_sights) [] [] _ fd37 := D37
  obtain ⟨fd38, D38⟩ := c.def_ 38 (d := dP "Lock" "name" "Lock.name" s_Lock_name) rfl
  replace D38 : FunD K "name" "Lock.name" (defArgs s_Lock_name) (defBody s_Lock_name) (defScope s_Lock_name) [] [] _ fd38 := D38
  obtain ⟨fd39, D39⟩ := c.def_ 39 (d := dP "Lock" "post" "Lock.post" s_Lock_post) rfl
  replace D39 : FunD K "post" "Lock.post" (defArgs s_Lock_post) (defBody s_Lock_post) (defScope s_Lock_post) [] [] _ fd39 := D39
  obtain ⟨fd40, D40⟩ := c.def_ 40 (d := dP "Lock" "cost" "Lock.cost" s_Lock_cost) rfl
  replace D40 : FunD K "cost" "Lock.cost" (defArgs s_Lock_cost) (defBody s_Lock_cost) (defScope s_Lock_cost) [] [] _ fd40 := D40
  obtain ⟨fd41, D41⟩ := c.def_ 41 (d := dP "Lock" "words" "Lock.words" s_Lock_words) rfl
  replace D41 : FunD K "words" "Lock.words" (defArgs s_Lock_words) (defBody s_Lock_words) (defScope s_Lock_words) [] [] _ fd41 := D41
  have e0 := hfa.symm.trans (gl (x := "law") (by decide +kernel))
  cases e0
  have E0 : Df K mg "law" s_law _ fd0 ["_law_script"] := ⟨D0, hfa, D0.bindsN fun _ _ _ _ _ _ us hl => match us, hl with | [_], _ => rfl⟩
  have E1 : Df K mg "_law_twins" s__law_twins _ fd1 ["_law_pool_here", "_law_head", "_law_post", "_law_shown", "_law_row", "_law_fee"] := ⟨D1, gl (x := "_law_twins") (by decide +kernel), D1.bindsN fun _ _ _ _ _ _ us hl => match us, hl with | [_, _, _, _, _, _], _ => rfl⟩
  have E2 : Df K mg "_law_sensor_tells" s__law_sensor_tells _ fd2 ["_law_one", "_law_shown"] := ⟨D2, gl (x := "_law_sensor_tells") (by decide +kernel), D2.bindsN fun _ _ _ _ _ _ us hl => match us, hl with | [_, _], _ => rfl⟩
  have E3 : Df K mg "_law_tells" s__law_tells _ fd3 ["_law_one", "_law_head", "_law_post", "_law_words", "_law_fee"] := ⟨D3, gl (x := "_law_tells") (by decide +kernel), D3.bindsN fun _ _ _ _ _ _ us hl => match us, hl with | [_, _, _, _, _], _ => rfl⟩
  have E4 : Df K mg "_law_refused" s__law_refused _ fd4 ["_law_found", "_law_spoils", "_law_given", "_law_kinds"] := ⟨D4, gl (x := "_law_refused") (by decide +kernel), D4.bindsN fun _ _ _ _ _ _ us hl => match us, hl with | [_, _, _, _], _ => rfl⟩
  have E5 : Df K mg "_law_built" s__law_built _ fd5 ["_law_is_sensor", "_law_head", "_law_post", "_law_third", "_law_fee"] := ⟨D5, gl (x := "_law_built") (by decide +kernel), D5.bindsN fun _ _ _ _ _ _ us hl => match us, hl with | [_, _, _, _, _], _ => rfl⟩
  have E6 : Df K mg "_law_arguments" s__law_arguments _ fd6 ["_law_pool_here"] := ⟨D6, gl (x := "_law_arguments") (by decide +kernel), D6.bindsN fun _ _ _ _ _ _ us hl => match us, hl with | [_], _ => rfl⟩
  have E7 : Df K mg "_law_bad_words" s__law_bad_words _ fd7 ["_law_pool_here", "_law_words"] := ⟨D7, gl (x := "_law_bad_words") (by decide +kernel), D7.bindsN fun _ _ _ _ _ _ us hl => match us, hl with | [_, _], _ => rfl⟩
  have E8 : Df K mg "_law_bad_sights" s__law_bad_sights _ fd8 ["_law_pool_here", "_law_words"] := ⟨D8, gl (x := "_law_bad_sights") (by decide +kernel), D8.bindsN fun _ _ _ _ _ _ us hl => match us, hl with | [_, _], _ => rfl⟩
  have E9 : Df K mg "_law_bad_cost" s__law_bad_cost _ fd9 ["_law_pool_here"] := ⟨D9, gl (x := "_law_bad_cost") (by decide +kernel), D9.bindsN fun _ _ _ _ _ _ us hl => match us, hl with | [_], _ => rfl⟩
  have E10 : Df K mg "_law_bad_post" s__law_bad_post _ fd10 ["_law_pool_here"] := ⟨D10, gl (x := "_law_bad_post") (by decide +kernel), D10.bindsN fun _ _ _ _ _ _ us hl => match us, hl with | [_], _ => rfl⟩
  have E11 : Df K mg "_law_bad_head" s__law_bad_head _ fd11 ["_law_pool_here"] := ⟨D11, gl (x := "_law_bad_head") (by decide +kernel), D11.bindsN fun _ _ _ _ _ _ us hl => match us, hl with | [_], _ => rfl⟩
  have E12 : Df K mg "_law_alike" s__law_alike _ fd12 ["_law_one", "_law_other"] := ⟨D12, gl (x := "_law_alike") (by decide +kernel), D12.bindsN fun _ _ _ _ _ _ us hl => match us, hl with | [_, _], _ => rfl⟩
  have E13 : Df K mg "_law_names" s__law_names _ fd13 ["_law_pool_here", "_law_many"] := ⟨D13, gl (x := "_law_names") (by decide +kernel), D13.bindsN fun _ _ _ _ _ _ us hl => match us, hl with | [_, _], _ => rfl⟩
  have E14 : Df K mg "_law_name" s__law_name _ fd14 ["_law_pool_here", "_law_taken"] := ⟨D14, gl (x := "_law_name") (by decide +kernel), D14.bindsN fun _ _ _ _ _ _ us hl => match us, hl with | [_, _], _ => rfl⟩
  have E15 : Df K mg "_law_pick" s__law_pick _ fd15 ["_law_pool_here", "_law_items"] := ⟨D15, gl (x := "_law_pick") (by decide +kernel), D15.bindsN fun _ _ _ _ _ _ us hl => match us, hl with | [_, _], _ => rfl⟩
  have E16 : Df K mg "_law_draw" s__law_draw _ fd16 ["_law_pool_here", "_law_many"] := ⟨D16, gl (x := "_law_draw") (by decide +kernel), D16.bindsN fun _ _ _ _ _ _ us hl => match us, hl with | [_, _], _ => rfl⟩
  have E17 : Df K mg "_law_pool" s__law_pool _ fd17 ["_law_script"] := ⟨D17, gl (x := "_law_pool") (by decide +kernel), D17.bindsN fun _ _ _ _ _ _ us hl => match us, hl with | [_], _ => rfl⟩
  have E18 : Df K mg "is_row_of_words" s_is_row_of_words _ fd18 ["thing"] := ⟨D18, gl (x := "is_row_of_words") (by decide +kernel), D18.bindsN fun _ _ _ _ _ _ us hl => match us, hl with | [_], _ => rfl⟩
  have E19 : Df K mg "is_table_of_sights" s_is_table_of_sights _ fd19 ["thing"] := ⟨D19, gl (x := "is_table_of_sights") (by decide +kernel), D19.bindsN fun _ _ _ _ _ _ us hl => match us, hl with | [_], _ => rfl⟩
  have E20 : Df K mg "check_cost" s_check_cost _ fd20 ["cost"] := ⟨D20, gl (x := "check_cost") (by decide +kernel), D20.bindsN fun _ _ _ _ _ _ us hl => match us, hl with | [_], _ => rfl⟩
  have E21 : Df K mg "check_post" s_check_post _ fd21 ["post"] := ⟨D21, gl (x := "check_post") (by decide +kernel), D21.bindsN fun _ _ _ _ _ _ us hl => match us, hl with | [_], _ => rfl⟩
  have E22 : Df K mg "check_name" s_check_name _ fd22 ["name"] := ⟨D22, gl (x := "check_name") (by decide +kernel), D22.bindsN fun _ _ _ _ _ _ us hl => match us, hl with | [_], _ => rfl⟩
  have E23 : Df K mg "is_index" s_is_index _ fd23 ["thing", "many"] := ⟨D23, gl (x := "is_index") (by decide +kernel), D23.bindsN fun _ _ _ _ _ _ us hl => match us, hl with | [_, _], _ => rfl⟩
  have E24 : Df K mg "is_post" s_is_post _ fd24 ["thing"] := ⟨D24, gl (x := "is_post") (by decide +kernel), D24.bindsN fun _ _ _ _ _ _ us hl => match us, hl with | [_], _ => rfl⟩
  have E25 : Df K mg "is_name" s_is_name _ fd25 ["thing"] := ⟨D25, gl (x := "is_name") (by decide +kernel), D25.bindsN fun _ _ _ _ _ _ us hl => match us, hl with | [_], _ => rfl⟩
  have E26 : Df K mg "is_row_of" s_is_row_of _ fd26 ["thing", "least", "most"] := ⟨D26, gl (x := "is_row_of") (by decide +kernel), D26.bindsN fun _ _ _ _ _ _ us hl => match us, hl with | [_, _, _], _ => rfl⟩
  have E27 : Df K mg "is_row" s_is_row _ fd27 ["thing"] := ⟨D27, gl (x := "is_row") (by decide +kernel), D27.bindsN fun _ _ _ _ _ _ us hl => match us, hl with | [_], _ => rfl⟩
  have E28 : Df K mg "is_integer" s_is_integer _ fd28 ["thing"] := ⟨D28, gl (x := "is_integer") (by decide +kernel), D28.bindsN fun _ _ _ _ _ _ us hl => match us, hl with | [_], _ => rfl⟩
  have b29 : Binds K fd29 ["self", "name", "post", "sights", "cost"] [] := D29.bindsN fun _ _ _ _ _ _ us hl => match us, hl with | [_, _, _, _, _], _ => rfl
  have b30 : Binds K fd30 ["self", "name", "post", "words", "cost"] [] := D30.bindsN fun _ _ _ _ _ _ us hl => match us, hl with | [_, _, _, _, _], _ => rfl
  have b31 : Binds K fd31 ["self", "other"] [] := D31.bindsN fun _ _ _ _ _ _ us hl => match us, hl with | [_, _], _ => rfl
  have b32 : Binds K fd32 ["self", "other"] [] := D32.bindsN fun _ _ _ _ _ _ us hl => match us, hl with | [_, _], _ => rfl
  have b33 : Binds K fd33 ["self"] [] := D33.bindsN fun _ _ _ _ _ _ us hl => match us, hl with | [_], _ => rfl
  have b34 : Binds K fd34 ["self"] [] := D34.bindsN fun _ _ _ _ _ _ us hl => match us, hl with | [_], _ => rfl
  have b35 : Binds K fd35 ["self"] [] := D35.bindsN fun _ _ _ _ _ _ us hl => match us, hl with | [_], _ => rfl
  have b36 : Binds K fd36 ["self"] [] := D36.bindsN fun _ _ _ _ _ _ us hl => match us, hl with | [_], _ => rfl
  have b37 : Binds K fd37 ["self"] [] := D37.bindsN fun _ _ _ _ _ _ us hl => match us, hl with | [_], _ => rfl
  have b38 : Binds K fd38 ["self"] [] := D38.bindsN fun _ _ _ _ _ _ us hl => match us, hl with | [_], _ => rfl
  have b39 : Binds K fd39 ["self"] [] := D39.bindsN fun _ _ _ _ _ _ us hl => match us, hl with | [_], _ => rfl
  have b40 : Binds K fd40 ["self"] [] := D40.bindsN fun _ _ _ _ _ _ us hl => match us, hl with | [_], _ => rfl
  have b41 : Binds K fd41 ["self"] [] := D41.bindsN fun _ _ _ _ _ _ us hl => match us, hl with | [_], _ => rfl
  have i0 := He.int_ok X Gn (c.fact (f := .int "MOST_LETTERS" 10) (ot_mem 0 rfl))
  have i1 := He.int_ok X Gn (c.fact (f := .int "MOST_WORDS_OF_AN_INSTRUMENT" 10) (ot_mem 1 rfl))
  have i2 := He.int_ok X Gn (c.fact (f := .int "MOST_COST" 1000) (ot_mem 2 rfl))
  have clSensor := He.cls_ok (c.fact (f := .cls "Sensor") (ot_mem 3 rfl))
  have mkSensor := He.mkr_ok (c.fact (f := .mkr "Sensor") (ot_mem 4 rfl))
  have clLock := He.cls_ok (c.fact (f := .cls "Lock") (ot_mem 5 rfl))
  have mkLock := He.mkr_ok (c.fact (f := .mkr "Lock") (ot_mem 6 rfl))
  have nSensor_name := He.noat_ok (c.fact (f := .noat "Sensor" "_name") (ot_mem 7 rfl))
  have nSensor_post := He.noat_ok (c.fact (f := .noat "Sensor" "_post") (ot_mem 8 rfl))
  have nSensor_sights := He.noat_ok (c.fact (f := .noat "Sensor" "_sights") (ot_mem 9 rfl))
  have nSensor_cost := He.noat_ok (c.fact (f := .noat "Sensor" "_cost") (ot_mem 10 rfl))
  have nLock_name := He.noat_ok (c.fact (f := .noat "Lock" "_name") (ot_mem 11 rfl))
  have nLock_post := He.noat_ok (c.fact (f := .noat "Lock" "_post") (ot_mem 12 rfl))
  have nLock_words := He.noat_ok (c.fact (f := .noat "Lock" "_words") (ot_mem 13 rfl))
  have nLock_cost := He.noat_ok (c.fact (f := .noat "Lock" "_cost") (ot_mem 14 rfl))
  have xx : (exL K).all id = true := c.ext
  have T : ICl K mg (He.ga K "Sensor") (He.ga K "Lock") := ⟨clSensor, clLock, gl (x := "Sensor") (by decide +kernel), gl (x := "Lock") (by decide +kernel), nSensor_name, nSensor_post, nSensor_sights, nSensor_cost, nLock_name, nLock_post, nLock_words, nLock_cost, isaB_ok (all_at xx 0 rfl) clSensor, isaB_ok (all_at xx 1 rfl) clLock, (of_decide_eq_true (all_at xx 46 rfl)), (of_decide_eq_true (all_at xx 48 rfl)), (of_decide_eq_true (all_at xx 50 rfl)), (of_decide_eq_true (all_at xx 52 rfl))⟩
  have top0 : (Pr.main.scope.names.lookup ("super" : Str)).isSome = false := by kernel_rfl
  obtain ⟨fdBadName, dBadName, findBadName, typBadName⟩ := exdB_ok (P := Pr) (d := dE "BadName" "BadName.__init__" s_BadName) (all_at xx 11 rfl) (ce.exc 0) (fr (x := "super") (by decide +kernel)) top0
  replace dBadName : ExD Pr K mg (He.ga K "BadName") (exI K "BadName") (exCc K "BadName") (exCda K "BadName") "BadName.__init__" (defArgs s_BadName) (defBody s_BadName) (defScope s_BadName) fdBadName := dBadName
  have tBadName : ExT "value" (defArgs s_BadName) (defScope s_BadName) := ⟨⟨_, rfl, rfl⟩, rfl, rfl, rfl, by decide +kernel, by rfl, by rfl, by rfl, by rfl, by decide +kernel, by decide +kernel⟩
  obtain ⟨xfBadName, ecBadName⟩ := excB_ok (all_at xx 12 rfl)
  have noBadName := He.eqO_ok (all_at xx 13 rfl)
  obtain ⟨fdBadPost, dBadPost, findBadPost, typBadPost⟩ := exdB_ok (P := Pr) (d := dE "BadPost" "BadPost.__init__" s_BadPost) (all_at xx 15 rfl) (ce.exc 1) (fr (x := "super") (by decide +kernel)) top0
  replace dBadPost : ExD Pr K mg (He.ga K "BadPost") (exI K "BadPost") (exCc K "BadPost") (exCda K "BadPost") "BadPost.__init__" (defArgs s_BadPost) (defBody s_BadPost) (defScope s_BadPost) fdBadPost := dBadPost
  have tBadPost : ExT "value" (defArgs s_BadPost) (defScope s_BadPost) := ⟨⟨_, rfl, rfl⟩, rfl, rfl, rfl, by decide +kernel, by rfl, by rfl, by rfl, by rfl, by decide +kernel, by decide +kernel⟩
  obtain ⟨xfBadPost, ecBadPost⟩ := excB_ok (all_at xx 16 rfl)
  have noBadPost := He.eqO_ok (all_at xx 17 rfl)
  obtain ⟨fdBadSights, dBadSights, findBadSights, typBadSights⟩ := exdB_ok (P := Pr) (d := dE "BadSights" "BadSights.__init__" s_BadSights) (all_at xx 19 rfl) (ce.exc 2) (fr (x := "super") (by decide +kernel)) top0
  replace dBadSights : ExD Pr K mg (He.ga K "BadSights") (exI K "BadSights") (exCc K "BadSights") (exCda K "BadSights") "BadSights.__init__" (defArgs s_BadSights) (defBody s_BadSights) (defScope s_BadSights) fdBadSights := dBadSights
  have tBadSights : ExT "value" (defArgs s_BadSights) (defScope s_BadSights) := ⟨⟨_, rfl, rfl⟩, rfl, rfl, rfl, by decide +kernel, by rfl, by rfl, by rfl, by rfl, by decide +kernel, by decide +kernel⟩
  obtain ⟨xfBadSights, ecBadSights⟩ := excB_ok (all_at xx 20 rfl)
  have noBadSights := He.eqO_ok (all_at xx 21 rfl)
  obtain ⟨fdBadWords, dBadWords, findBadWords, typBadWords⟩ := exdB_ok (P := Pr) (d := dE "BadWords" "BadWords.__init__" s_BadWords) (all_at xx 23 rfl) (ce.exc 3) (fr (x := "super") (by decide +kernel)) top0
  replace dBadWords : ExD Pr K mg (He.ga K "BadWords") (exI K "BadWords") (exCc K "BadWords") (exCda K "BadWords") "BadWords.__init__" (defArgs s_BadWords) (defBody s_BadWords) (defScope s_BadWords) fdBadWords := dBadWords
  have tBadWords : ExT "value" (defArgs s_BadWords) (defScope s_BadWords) := ⟨⟨_, rfl, rfl⟩, rfl, rfl, rfl, by decide +kernel, by rfl, by rfl, by rfl, by rfl, by decide +kernel, by decide +kernel⟩
  obtain ⟨xfBadWords, ecBadWords⟩ := excB_ok (all_at xx 24 rfl)
  have noBadWords := He.eqO_ok (all_at xx 25 rfl)
  obtain ⟨fdBadCost, dBadCost, findBadCost, typBadCost⟩ := exdB_ok (P := Pr) (d := dE "BadCost" "BadCost.__init__" s_BadCost) (all_at xx 27 rfl) (ce.exc 4) (fr (x := "super") (by decide +kernel)) top0
  replace dBadCost : ExD Pr K mg (He.ga K "BadCost") (exI K "BadCost") (exCc K "BadCost") (exCda K "BadCost") "BadCost.__init__" (defArgs s_BadCost) (defBody s_BadCost) (defScope s_BadCost) fdBadCost := dBadCost
  have tBadCost : ExT "value" (defArgs s_BadCost) (defScope s_BadCost) := ⟨⟨_, rfl, rfl⟩, rfl, rfl, rfl, by decide +kernel, by rfl, by rfl, by rfl, by rfl, by decide +kernel, by decide +kernel⟩
  obtain ⟨xfBadCost, ecBadCost⟩ := excB_ok (all_at xx 28 rfl)
  have noBadCost := He.eqO_ok (all_at xx 29 rfl)
  have ER : Er K mg (He.ga K "BadName") (He.ga K "BadPost") (He.ga K "BadSights") (He.ga K "BadWords") (He.ga K "BadCost") (He.ga K "WorksError") := ⟨gl (x := "BadName") (by decide +kernel), xfBadName, noBadName, ecBadName, (of_decide_eq_true (all_at xx 14 rfl)), gl (x := "BadPost") (by decide +kernel), xfBadPost, noBadPost, ecBadPost, (of_decide_eq_true (all_at xx 18 rfl)), gl (x := "BadSights") (by decide +kernel), xfBadSights, noBadSights, ecBadSights, (of_decide_eq_true (all_at xx 22 rfl)), gl (x := "BadWords") (by decide +kernel), xfBadWords, noBadWords, ecBadWords, (of_decide_eq_true (all_at xx 26 rfl)), gl (x := "BadCost") (by decide +kernel), xfBadCost, noBadCost, ecBadCost, (of_decide_eq_true (all_at xx 30 rfl)), gl (x := "WorksError") (by decide +kernel), (of_decide_eq_true (all_at xx 31 rfl)), (of_decide_eq_true (all_at xx 32 rfl)), (of_decide_eq_true (all_at xx 33 rfl)), (of_decide_eq_true (all_at xx 34 rfl)), (of_decide_eq_true (all_at xx 35 rfl)), (of_decide_eq_true (all_at xx 36 rfl)), (of_decide_eq_true (all_at xx 37 rfl)), (of_decide_eq_true (all_at xx 38 rfl)), (of_decide_eq_true (all_at xx 39 rfl)), (of_decide_eq_true (all_at xx 40 rfl)), (of_decide_eq_true (all_at xx 41 rfl)), (of_decide_eq_true (all_at xx 42 rfl)), (of_decide_eq_true (all_at xx 43 rfl)), (of_decide_eq_true (all_at xx 44 rfl)), (of_decide_eq_true (all_at xx 45 rfl))⟩
  refine ⟨fd0, fun s v => D0.bindsA (ps := ["_law_script"]) (fun _ _ _ _ _ _ us hl => match us, hl with | [_], _ => rfl) s [v] rfl, fun base _ _ => ?_⟩
  have X_BadName : ExR Pr w K mg base 1 "BadName" (He.ga K "BadName") "value" := ⟨dBadName.T, ⟨_, fdBadName, "value", findBadName, typBadName, fn_exc (k := 0) (msg := "this is not a name, or not one that can be used here") tBadName dBadName rfl noBadName (by decide +kernel) (by decide +kernel) (fun env => ⟨_, rfl⟩) (fun env => rfl), dBadName.binds fun _ _ _ _ _ us hl => match us, hl with | [_, _], _ => rfl⟩, gl (x := "BadName") (by decide +kernel)⟩
  have X_BadPost : ExR Pr w K mg base 1 "BadPost" (He.ga K "BadPost") "value" := ⟨dBadPost.T, ⟨_, fdBadPost, "value", findBadPost, typBadPost, fn_exc (k := 0) (msg := "this is not a post") tBadPost dBadPost rfl noBadPost (by decide +kernel) (by decide +kernel) (fun env => ⟨_, rfl⟩) (fun env => rfl), dBadPost.binds fun _ _ _ _ _ us hl => match us, hl with | [_, _], _ => rfl⟩, gl (x := "BadPost") (by decide +kernel)⟩
  have X_BadSights : ExR Pr w K mg base 1 "BadSights" (He.ga K "BadSights") "value" := ⟨dBadSights.T, ⟨_, fdBadSights, "value", findBadSights, typBadSights, fn_exc (k := 0) (msg := "the sights are not as they must be") tBadSights dBadSights rfl noBadSights (by decide +kernel) (by decide +kernel) (fun env => ⟨_, rfl⟩) (fun env => rfl), dBadSights.binds fun _ _ _ _ _ us hl => match us, hl with | [_, _], _ => rfl⟩, gl (x := "BadSights") (by decide +kernel)⟩
  have X_BadWords : ExR Pr w K mg base 1 "BadWords" (He.ga K "BadWords") "value" := ⟨dBadWords.T, ⟨_, fdBadWords, "value", findBadWords, typBadWords, fn_exc (k := 0) (msg := "the words are not as they must be") tBadWords dBadWords rfl noBadWords (by decide +kernel) (by decide +kernel) (fun env => ⟨_, rfl⟩) (fun env => rfl), dBadWords.binds fun _ _ _ _ _ us hl => match us, hl with | [_, _], _ => rfl⟩, gl (x := "BadWords") (by decide +kernel)⟩
  have X_BadCost : ExR Pr w K mg base 1 "BadCost" (He.ga K "BadCost") "value" := ⟨dBadCost.T, ⟨_, fdBadCost, "value", findBadCost, typBadCost, fn_exc (k := 0) (msg := "this is not a cost") tBadCost dBadCost rfl noBadCost (by decide +kernel) (by decide +kernel) (fun env => ⟨_, rfl⟩) (fun env => rfl), dBadCost.binds fun _ _ _ _ _ us hl => match us, hl with | [_, _], _ => rfl⟩, gl (x := "BadCost") (by decide +kernel)⟩
  have c_int := okg_is_integer (P := Pr) (w := w) (base := base) G E28
  have c_row := okg_is_row (P := Pr) (w := w) (base := base) G E27
  have c_rowof := okg_is_row_of (P := Pr) (w := w) (base := base) G E26 c_row
  have c_name := okg_is_name (P := Pr) (w := w) (base := base) G i0 E25
  have c_index := okg_is_index (P := Pr) (w := w) (base := base) E23 c_int
  have c_post := okg_is_post (P := Pr) (w := w) (base := base) E24 c_index
  have k_name := okg_check_name (P := Pr) (w := w) (base := base) E22 X_BadName c_name
  have k_post := okg_check_post (P := Pr) (w := w) (base := base) E21 X_BadPost c_post
  have k_cost := okg_check_cost (P := Pr) (w := w) (base := base) i2 E20 X_BadCost c_int
  have c_table := okg_is_table (P := Pr) (w := w) (base := base) G i1 E19 c_name
  have c_roww := okg_is_rowW (P := Pr) (w := w) (base := base) G i1 E18 c_name c_rowof
  have F_S := okg_initS (P := Pr) (w := w) (base := base) G T D29 X_BadSights k_name k_post c_table k_cost
  have F_L := okg_initL (P := Pr) (w := w) (base := base) G T D30 X_BadWords k_name k_post c_roww k_cost
  have F_S0 := WK.calm F_S (sp0 := spInitS0 (He.ga K "Sensor") (He.ga K "Lock")) initS0 (fun _ _ _ _ z => z)
  have F_L0 := WK.calm F_L (sp0 := spInitL0 (He.ga K "Sensor") (He.ga K "Lock")) initL0 (fun _ _ _ _ z => z)
  have I : IPr Pr w K mg base (He.ga K "Sensor") (He.ga K "Lock") := ⟨⟨_, _, _, propB_ok (all_at xx 2 rfl), ok_nameS T.clS T.s1 D33, b33⟩, ⟨_, _, _, propB_ok (all_at xx 7 rfl), ok_nameL T.clL T.l1 D38, b38⟩, ⟨_, _, _, propB_ok (all_at xx 3 rfl), ok_postS T.clS T.s2 D34, b34⟩, ⟨_, _, _, propB_ok (all_at xx 8 rfl), ok_postL T.clL T.l2 D39, b39⟩, ⟨_, _, _, propB_ok (all_at xx 4 rfl), ok_costS T.clS T.s4 D35, b35⟩, ⟨_, _, _, propB_ok (all_at xx 9 rfl), ok_costL T.clL T.l4 D40, b40⟩, ⟨_, _, _, propB_ok (all_at xx 6 rfl), ok_sights G T D37, b37⟩, ⟨_, _, _, propB_ok (all_at xx 5 rfl), ok_wordsS G T D36, b36⟩, ⟨_, _, _, propB_ok (all_at xx 10 rfl), ok_wordsL G T D41, b41⟩⟩
  have F_eqS := okg_eqS (P := Pr) (w := w) (base := base) G T D31
  have F_eqL := okg_eqL (P := Pr) (w := w) (base := base) G T D32
  have Z : EqC Pr w K mg base (He.ga K "Sensor") (He.ga K "Lock") := ⟨⟨_, _, (ownFB_ok (all_at xx 54 rfl)).1, (ownFB_ok (all_at xx 54 rfl)).2, F_eqS, b31⟩, ⟨_, _, (ownFB_ok (all_at xx 55 rfl)).1, (ownFB_ok (all_at xx 55 rfl)).2, F_eqL, b32⟩, (all_at xx 47 rfl), (all_at xx 49 rfl), (all_at xx 51 rfl), (all_at xx 53 rfl)⟩
  have mS : MkC Pr w K mg base (L2.CX Pr w) "Sensor" (He.ga K "Sensor") 5 ["self", "name", "post", "sights", "cost"] (spInitSG (He.ga K "Sensor") (He.ga K "Lock") (He.ga K "BadName") (He.ga K "BadPost") (He.ga K "BadSights") (He.ga K "BadCost")) := ⟨_, _, mkSensor, F_S, b29, T.atS⟩
  have mL : MkC Pr w K mg base (L2.CX Pr w) "Lock" (He.ga K "Lock") 5 ["self", "name", "post", "words", "cost"] (spInitLG (He.ga K "Sensor") (He.ga K "Lock") (He.ga K "BadName") (He.ga K "BadPost") (He.ga K "BadWords") (He.ga K "BadCost")) := ⟨_, _, mkLock, F_L, b30, T.atL⟩
  have mS0 : MkC Pr w K mg base CXn "Sensor" (He.ga K "Sensor") 5 ["self", "name", "post", "sights", "cost"] (spInitS0 (He.ga K "Sensor") (He.ga K "Lock")) := ⟨_, _, mkSensor, F_S0, b29, T.atS⟩
  have mL0 : MkC Pr w K mg base CXn "Lock" (He.ga K "Lock") 5 ["self", "name", "post", "words", "cost"] (spInitL0 (He.ga K "Sensor") (He.ga K "Lock")) := ⟨_, _, mkLock, F_L0, b30, T.atL⟩
  have c_pool := ok_pool (P := Pr) (w := w) (base := base) G E17
  have c_draw := ok_draw (P := Pr) (w := w) (base := base) G E16
  have c_pick := ok_pick (P := Pr) (w := w) (base := base) G E15 c_draw
  have c_nm := ok_name (P := Pr) (w := w) (base := base) G E14 c_draw
  have c_nms := ok_names (P := Pr) (w := w) (base := base) G E13 c_nm
  have l_bh := ok_bad_head (P := Pr) (w := w) (base := base) G E11 c_pick
  have l_bp := ok_bad_post (P := Pr) (w := w) (base := base) G E10 c_pick
  have l_bc := ok_bad_cost (P := Pr) (w := w) (base := base) G E9 c_pick
  have l_bs := ok_bad_sights (P := Pr) (w := w) (base := base) G E8 c_pick
  have l_bw := ok_bad_words (P := Pr) (w := w) (base := base) G E7 c_pick
  have l_args := ok_arguments (P := Pr) (w := w) (base := base) G E6 c_draw c_nms l_bh l_bp l_bc l_bs l_bw
  have l_built := ok_built (P := Pr) (w := w) (base := base) G ER mS mL E5
  have l_alike := ok_alike (P := Pr) (w := w) (base := base) G E12 3 (ok_alike (P := Pr) (w := w) (base := base) G E12 2 (ok_alike (P := Pr) (w := w) (base := base) G E12 1 (ok_alike (P := Pr) (w := w) (base := base) G E12 0 (ok_alike0 (P := Pr) (w := w) (base := base) E12))))
  have l_refused := ok_refused (P := Pr) (w := w) (base := base) (n := 3) G E4 l_alike
  have l_tells := ok_tells (P := Pr) (w := w) (base := base) G T I E3 l_alike
  have l_stells := ok_stells (P := Pr) (w := w) (base := base) G T I E2
  have l_twins := ok_twins (P := Pr) (w := w) (base := base) G T I Z mS0 mL0 E1 c_draw c_nm c_nms
  exact okl_law G E0 c_pool l_args l_built l_refused l_tells l_stells l_twins
end WK
open PySem PySem.W PySem.Calls PyProof.Rows
theorem PySem.Challenge.cw_watchedworks_k20_instruments_and_their_a_holds : PySem.Challenge.rw_watchedworks_k20_instruments_and_their_a.Holds := by
  w_on; o_law
  refine HandSHeadRun.head_any (r := OpenLaw.row PySem.Challenge.rw_watchedworks_k20_instruments_and_their_a) (q := view (OpenLaw.row PySem.Challenge.rw_watchedworks_k20_instruments_and_their_a).prog [43]) (H := WK.hk) (ob := WK.ob) (M := 12000) (loose := WK.loose) (d := HandSHeadRun.topDef (OpenLaw.row PySem.Challenge.rw_watchedworks_k20_instruments_and_their_a).prog 43) (kwd := []) WK.ob_eq
    (by kernel_rfl) (fun s => by kernel_rfl) WK.run (by kernel_rfl) (by kernel_rfl) (by kernel_rfl) (by rfl) (by first | assumption | decide +kernel) (by decide +kernel) ⟨rfl, rfl, rfl, rfl, rfl, by decide +kernel⟩ ?hw ?hc
  case hw => w_witness2
  case hc =>
    refine L2.walk_ofE (l := PySem.Challenge.rw_watchedworks_k20_instruments_and_their_a) (n := 63) (k := 8) (x := "_law_script") (CX := WW.CXn) rfl (by decide) (by kernel_rfl) ⟨rfl, by decide, by decide⟩ ?F (fun _ _ _ _ z => z)
    intro w mg fa h Y G hmg0
    obtain ⟨K, KX, c⟩ := Y
    have hmg : mg ("law" : PySem.Str) = some (.ref fa) := by
      have e : (HandSHeadRun.topDef (OpenLaw.row PySem.Challenge.rw_watchedworks_k20_instruments_and_their_a).prog 43).name = ("law" : PySem.Str) := by kernel_rfl
      rw [← e]
      exact hmg0
    obtain ⟨fd, hb, hF⟩ := WK.facts (w := w) KX G hmg c
    exact ⟨K, fd, WK.spLaw K, KX, hb, fun H a ns hl _ hS => ⟨a, ns, rfl, hS, fun _ => rfl⟩, hF⟩
