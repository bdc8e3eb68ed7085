import PyProof.Rows.All
import Wide.All
import OpenK.AllK
import Wide.FinOn
import PyProof.EqAt
import PyProof.EqKinds
import PyProof.TupleCall
import KE.SortData
import HandS.Base
import HandS.Call
import HandS.List
import HandS.Comp
import HandS.Ends
import HandS.Set
import HandS.SetBool
import PyProof.InstEq
import PyProof.InstNe
import PyProof.TupleOfSeq
import PyProof.P3In
import KE.GoesEnum
import HandS.Iter
import HandS.Deep
import HandS.Evl
import HandS.More
import HandS.IsInst
import HandS.TupAny
import HandS.Words
import HandS.SetFor
import HandS.Strs
import HandS.Property
import HandS.Style
import HandS.Text
import HandS.Defaults
import HandS.WordsList
import HandS.WordsDict
import HandS.Dict
import KE.KExcSuper
import HandS.Exc
import HandS.ExcInit
import HandS.ExcSuper
import HandS.WordsExc
import HandS.ExcOwn
import KE.KStateDown
import HandS.Head0
import HandS.Head1
import HandS.Head2
import HandS.HeadEnd
import HandS.HeadHook1
import HandS.HeadHook2
import HandS.HeadNt
import PyProof.SetRoads
import HandS.DictComp
import PyProof.DictList
import KE.KDictCopyH
import HandS.ExcIs
import HandS.ExcField
import KE.KExcIs
import PySem.Challenge.RW_watchedworks_k23_sights_of_words
set_option Elab.async false
set_option linter.all false
set_option maxRecDepth 100000
set_option maxHeartbeats 4000000
/-! Rules of our own over the layer: callees by name, sorted lists of data -/
namespace WW
open PySem PySem.Spec PyProof.Rows L2

/-- nothing is wished of exceptions -/
abbrev CXn : CXT := fun _ _ _ _ _ _ => False
abbrev En : XK := fun _ _ _ => False
theorem passN {X : Cx} {E : XK} : Passes CXn X E := fun _ _ _ _ _ _ _ h => h.elim

/-- a def of the module's, found by its name, with what it promises -/
structure Callee (P : Program) (w : World) (K : PySem.W.Frag) (mg : Str → Option Value) (base : Heap) (CX : CXT) (k : Nat) (x : Str) (n : Nat) (sp : Sp) : Prop where
  ex : ∃ (f : Addr) (fd : FuncData) (ps : List Str), ps.length = n ∧ FnOk P w K mg base CX k f fd ps sp ∧ mg x = some (.ref f) ∧ PySem.W.keepIn K (.ref f) = true ∧ Binds K fd ps []

section
variable {X : Cx} {CX : CXT} {k n : Nat} {sp : Sp} {E : XK} {x : Str} {p pos : Pos} {e : Expr} {es : List Expr} {t : TA}
theorem pe_cl (c : Callee X.prog X.w X.K X.mg X.base CX k x n sp) (hr : Room k X.A) (hg : Gl X x) (hx : Passes CX X E) (ha : PA X (e :: es) t)
    (hdb : (x == ("__debug__" : Str)) = false := by decide) (he : starEach (e :: es) X.env = (false, eval e X.env) :: starEach es X.env := by rfl) (hpl : (backTo pos (starEach es X.env)).any (·.1) = false := by rfl) :
    PE X (.Call (.Name x p) (e :: es) [] pos) (tCall sp [] E t) := by
  obtain ⟨f, fd, ps, _, F, hm, hk, hb⟩ := c.ex
  exact pe_call F hr hg hm hk hb .nil hx ha hdb he hpl
end

/-! ### sorted of lists of data -/
/-- v stands for the datum of b -/
abbrev DpE {β : Type} (K : PySem.W.Frag) (H : Hp) (enc : β → PyData) (v : V) (b : β) : Prop := Dp K H v (enc b)

def rSortD {β : Type} (K : PySem.W.Frag) (enc : β → PyData) : List V → Hp → VK → Prop := fun vs H Q => ∃ (a : Addr) (xs : List V) (bs : List β) (F : V → β → Prop), vs = [V.ref a] ∧ SqL K H a xs ∧ Paired (fun v b => F v b ∧ DpE K H enc v b) xs bs ∧
  (∀ b b', PySem.W.alike (enc b) (enc b') = true) ∧ PySem.W.Sortable (bs.map enc) ∧ (∀ b, (enc b).depth ≤ 32) ∧
  ∀ (ys : List V) (p : Addr), Paired F ys (bs.mergeSort (PySem.W.dataLe false enc)) → H p = none → Q (.ref p) (upd H p (.lst ys))


theorem each_of {β : Type} {K : PySem.W.Frag} {H : Hp} {enc : β → PyData} {F : V → β → Prop} : ∀ {xs : List V} {us : List Value} {bs : List β}, Vals xs us → Paired (fun v b => F v b ∧ DpE K H enc v b) xs bs →
    PySem.W.EachIs (fun u b => ∃ v, F v b ∧ RelV v u ∧ Dp K H v (enc b)) us bs
  | _, _, _, .nil, .nil => .nil
  | _, _, _, .cons r t, .cons d e => .cons ⟨_, d.1, r, d.2⟩ (each_of t e)
theorem of_each {β : Type} {F : V → β → Prop} {G : Value → β → Prop} (h : ∀ u b, G u b → ∃ v, RelV v u ∧ F v b) : ∀ {us : List Value} {bs : List β}, PySem.W.EachIs G us bs → ∃ ys, Vals ys us ∧ Paired F ys bs
  | _, _, .nil => ⟨[], .nil, .nil⟩
  | _, _, .cons g t => by
    obtain ⟨v, r, f⟩ := h _ _ g
    obtain ⟨ys, a, b⟩ := of_each h t
    exact ⟨v :: ys, .cons r a, .cons f b⟩
theorem each_reads {β : Type} {X : Cx} {pins : List (Addr × Obj)} {σ : L2.St} {H : Hp} {s : Shared} {enc : β → PyData} (I : Inv X pins σ H s) : ∀ {us : List Value} {bs : List β} {F : V → β → Prop}, PySem.W.EachIs (fun u b => ∃ v, F v b ∧ RelV v u ∧ Dp X.K H v (enc b)) us bs →
    PySem.W.EachIs (fun u b => ∃ as, Reads s.heap u (enc b) as) us bs
  | _, _, _, .nil => .nil
  | _, _, _, .cons ⟨v, _, r, d⟩ t => .cons (Dp.reads I _ _ _ d r) (each_reads I t)

theorem cr_sortD {X : Cx} {β : Type} (enc : β → PyData) (hu : X.A.units + 64 < cLine) : CallR X (.builtin "sorted") (rSortD X.K enc) := by
  intro pins s σ H vs us Q I r h
  obtain ⟨a, xs, bs, F, rfl, hs, hp, hal, hso, hdp, q⟩ := h
  obtain ⟨its, rv, hl, hz⟩ := I.list hs
  rw [Vals.ref1 r]
  have hlen : bs.length = xs.length := (Paired.length hp).symm
  have e1 := each_of rv hp
  refine PySem.W.sorted_data hl.isList e1 (each_reads I e1) (PySem.W.AllAlike.of hal) hso (by omega) (fun b _ => by have := hdp b; omega) fun out ho eo => ?_
  obtain ⟨ep, he'⟩ := PyProof.Rows.sortedAll_at s.heap its out.toArray
  obtain ⟨ys, rys, pys⟩ := of_each (F := F) (fun u b ⟨v, m, r, d⟩ => ⟨v, r, m⟩) eo
  have hly : ys.length ≤ sizeLine := by rw [rys.length, ho, hlen]; exact hz
  exact ⟨.ref _, upd H (s.heap.objs.size + 1) (.lst ys), I.laid (t' := s.toks) (fun _ _ => PyProof.Rows.sortedAll_old) (Nat.le_succ _) ⟨hly, out, ep, rys, he'⟩, rfl, q ys _ pys (I.hok.fresh (Nat.le_succ _))⟩
end WW

set_option Elab.async false
set_option linter.all false
set_option maxRecDepth 100000
set_option maxHeartbeats 4000000
/-! Sets of scannable keys that can be walked: made, filled, sorted. -/
namespace WW
open PySem PySem.Spec PyProof.Rows L2

section
variable {P : Program} {w : World} {κ : Type} [DecidableEq κ]
def EnK (knd : PySem.KeyKind P w κ) (k : κ) (e : Int × Value) : Prop := knd.is k e.2 = true ∧ e.1 = knd.hash k ∧ e.2.scannable = true
/-- ks: the keys that the set holds, in its table's order -/
def SetW (knd : PySem.KeyKind P w κ) (h : Heap) (a : Addr) (ks : List κ) : Prop :=
  ∃ o es ep t, h.get? a = some o ∧ o.ExactSet ∧ o.data = .set es ep t ∧ ks.Nodup ∧ Paired (EnK knd) ks es.toList ∧
    es.size < scanBound ∧ t.fits es.size = true ∧ Ris t.place.toList ∧ (w.params.followText "set-order" = true ∨ t.led = true)
variable {knd : PySem.KeyKind P w κ} {h h' : Heap} {a : Addr} {ks : List κ}

theorem SetW.here (R : SetW knd h a ks) (k : ∀ o, h.get? a = some o → h'.get? a = some o) : SetW knd h' a ks := by
  obtain ⟨o, es, ep, t, ho, r⟩ := R
  exact ⟨o, es, ep, t, k o ho, r⟩
theorem en_mem {l : List (Int × Value)} : ∀ {ks : List κ}, Paired (EnK knd) ks l → ∀ e ∈ l, ∃ k ∈ ks, EnK knd k e
  | _, .nil, e, he => by cases he
  | _, .cons g t, e, he => by
    rcases List.mem_cons.mp he with rfl | he
    · exact ⟨_, List.mem_cons_self, g⟩
    · obtain ⟨k, hk, q⟩ := en_mem t e he
      exact ⟨k, List.mem_cons_of_mem _ hk, q⟩
theorem en_of : ∀ {ks : List κ} {l : List (Int × Value)}, Paired (EnK knd) ks l → ∀ k ∈ ks, ∃ e ∈ l, EnK knd k e
  | _, _, .nil, k, hk => by cases hk
  | _, _, .cons g t, k, hk => by
    rcases List.mem_cons.mp hk with rfl | hk
    · exact ⟨_, List.mem_cons_self, g⟩
    · obtain ⟨e, he, q⟩ := en_of t k hk
      exact ⟨e, List.mem_cons_of_mem _ he, q⟩
theorem en_elems {l : List (Int × Value)} (g : Paired (EnK knd) ks l) : PySem.ElemsOf knd l := fun e he => by
  obtain ⟨k, _, q⟩ := en_mem g e he
  exact ⟨⟨k, q.1, q.2.1⟩, q.2.2⟩
/-- the keys follow the entries into any order -/
theorem en_perm {l : List (Int × Value)} (g : Paired (EnK knd) ks l) {l' : List (Int × Value)} (p : l'.Perm l) : ∃ ks', ks'.Perm ks ∧ Paired (EnK knd) ks' l' := by
  induction p generalizing ks with
  | nil => exact ⟨ks, List.Perm.refl _, g⟩
  | cons x _ ih =>
    cases g with
    | @cons k _ kr _ g1 g2 =>
      obtain ⟨ks', p', g'⟩ := ih g2
      exact ⟨k :: ks', p'.cons k, .cons g1 g'⟩
  | swap x y l =>
    cases g with
    | @cons k _ kr _ g1 g2 =>
      cases g2 with
      | @cons k2 _ kr2 _ g3 g4 => exact ⟨k2 :: k :: kr2, List.Perm.swap _ _ _, .cons g3 (.cons g1 g4)⟩
  | trans _ _ ih1 ih2 =>
    obtain ⟨k2, p2, g2⟩ := ih2 g
    obtain ⟨k1, p1, g1⟩ := ih1 g2
    exact ⟨k1, p1.trans p2, g1⟩
theorem en_app {l : List (Int × Value)} (g : Paired (EnK knd) ks l) {k : κ} {e : Int × Value} (q : EnK knd k e) : Paired (EnK knd) (ks ++ [k]) (l ++ [e]) := by
  induction g with
  | nil => exact .cons q .nil
  | cons g1 _ ih => exact .cons g1 ih
end

section
variable {P : Program} {w : World} {κ : Type} [DecidableEq κ] {knd : PySem.KeyKind P w κ} {A : Around} {E : Value → Shared → Prop} {s : Shared} {a : Addr} {ks : List κ}

theorem put_at {h : Heap} {o : Obj} {es es' : Array (Int × Value)} {ep : Nat} {t t' : SetTable} (ho : h.get? a = some o) (hd : o.data = .set es ep t) :
    (h.update a (Obj.putSet es' t')).get? a = some { o with data := .set es' (ep + 1) t' } := PpSet.storeB_at ho hd

/-- the end of an addition: stored, and laid anew where it is too full -/
theorem setw_tail {gv : Bool → Sem Unit} (hg : ∀ (b : Bool) (s1 : Shared) (Q' : Unit → Shared → Prop), Q' () s1 → wpAny (model P w) A (gv b) Q' E s1)
    {o : Obj} {es : Array (Int × Value)} {ep : Nat} {t : SetTable} (ho : s.heap.get? a = some o) (hex : o.ExactSet) (hd : o.data = .set es ep t)
    {es1 : Array (Int × Value)} {t2 : SetTable} {k1 : List κ} (nd1 : k1.Nodup) (g1 : Paired (EnK knd) k1 es1.toList)
    (hb1 : es1.size < scanBound) (hf2 : t2.fits es1.size = true) (hr : Ris t2.place.toList) (hl : w.params.followText "set-order" = true ∨ t2.led = true) {wd : Bool} {R : Option Bool → Shared → Prop}
    (hR : ∀ h' k2, k2.Perm k1 → Heap.SameBut a s.heap h' → SetW knd h' a k2 → R (some true) { s with heap := h' }) :
    wpAny (model P w) A (do
        storeSet a es1 t2
        if (!wd && t2.tooFull) = true then do
            gv (relayAll t2 es1 (SetTable.grown es1.size)).2.2
            storeSet a (relayAll t2 es1 (SetTable.grown es1.size)).1 (relayAll t2 es1 (SetTable.grown es1.size)).2.1
            pure (some true)
          else pure (some true)) R E s := by
  refine wpAny_bind (wpAny_storeSet_of ho hd ?_ (fits_of_scanBound hb1))
  have hput := put_at (es' := es1) (t' := t2) ho hd
  have same1 := Heap.SameBut.update s.heap a (Obj.putSet es1 t2)
  split
  · have pm := relayAll_perm t2 es1 (SetTable.grown es1.size)
    have f3 := relayAll_fits t2 es1 (SetTable.grown es1.size)
    have r3 := relayAll_ris t2 es1 (SetTable.grown es1.size)
    have l3 := relayAll_led t2 es1 (SetTable.grown es1.size)
    revert pm f3 r3 l3
    rcases relayAll t2 es1 (SetTable.grown es1.size) with ⟨es2, t3, gave⟩
    intro pm f3 r3 l3
    dsimp only at pm f3 r3 l3 ⊢
    have size2 : es2.size = es1.size := by rw [← Array.length_toList, pm.length_eq, Array.length_toList]
    have small2 : es2.size < scanBound := by rw [size2]; exact hb1
    obtain ⟨k2, pk, g2⟩ := en_perm g1 pm
    refine wpAny_bind (hg _ _ _ ?_)
    refine wpAny_bind (wpAny_storeSet_of hput rfl ?_ (fits_of_scanBound small2))
    refine wpAny_pure (hR _ k2 pk (same1.trans (Heap.SameBut.update _ a _)) ?_)
    exact ⟨_, es2, _, t3, put_at hput rfl, hex, rfl, pk.nodup_iff.mpr nd1, g2, small2, f3, r3, hl.imp id fun z => by rw [l3]; exact z⟩
  · exact wpAny_pure (hR _ k1 (List.Perm.refl _) same1 ⟨_, es1, _, t2, hput, hex, rfl, nd1, g1, hb1, hf2, hr, hl⟩)

/-- what an addition leaves -/
def Added (ks : List κ) (k : κ) (ks' : List κ) : Prop := (k ∈ ks ∧ ks' = ks) ∨ (k ∉ ks ∧ ks'.Perm (k :: ks))
theorem setw_addHashed {k : κ} {v : Value} {Q : Bool → Shared → Prop} (hk : knd.is k v = true) (hv : v.scannable = true) (R : SetW knd s.heap a ks) (room : ks.length + 1 < scanBound)
    (hQ : ∀ b h' ks', Heap.SameBut a s.heap h' → SetW knd h' a ks' → Added ks k ks' → Q b { s with heap := h' }) :
    wpAny (model P w) A (setAddHashed a v (knd.hash k)) Q E s := by
  have R0 := R
  obtain ⟨o, es, ep, t, ho, hex, hd, nd, g, hb, hf, hr, hl⟩ := R
  have hel := en_elems g
  have hlen : es.size = ks.length := by rw [← Array.length_toList]; exact (Paired.length g).symm
  unfold setAddHashed setAddHashedIn
  refine wpAny_holding (wpAny_bind (wpAny_setState_of ho hd hf ?_))
  dsimp only
  rw [byScan_of hv hb hel]
  simp only [↓reduceIte]
  unfold setAddByScan
  refine wpAny_bind (wpAny_bind (wpAny_rule ?_))
  refine wpAny_bind (wpAny_setScan_of hk ho hd hf hel ?_)
  cases hfi : List.findIdx? (fun e => knd.is k e.2) es.toList with
  | some j =>
    dsimp only
    obtain ⟨hj, pj, _⟩ := List.findIdx?_eq_some_iff_getElem.mp hfi
    obtain ⟨k0, m0, q0⟩ := en_mem g _ (List.getElem_mem hj)
    have e0 : k0 = k := knd.inj _ _ _ q0.1 pj
    exact wpAny_pure (wpAny_pure (hQ false s.heap ks (Heap.SameBut.refl a s.heap) R0 (.inl ⟨e0 ▸ m0, rfl⟩)))
  | none =>
    dsimp only
    have hnk : k ∉ ks := fun z => by
      obtain ⟨e, he, q⟩ := en_of g k z
      have c := List.findIdx?_eq_none_iff.mp hfi e he
      rw [q.1] at c
      cases c
    have hgw : ∀ (b : Bool) (s1 : Shared) (Q' : Unit → Shared → Prop), Q' () s1 → wpAny (model P w) A (match b with | true => rule "set.scan.the-table-gave-way" | false => pure ()) Q' E s1 := by
      intro b s1 Q' q
      cases b
      · exact wpAny_pure q
      · exact wpAny_rule q
    have pm := layNew_perm t es (knd.hash k) v
    have f1 := layNew_fits t es (knd.hash k) v
    have r1 := layNew_ris t es (knd.hash k) v hr
    have l1 := layNew_led t es (knd.hash k) v
    revert pm f1 r1 l1
    rcases layNew t es (knd.hash k) v with ⟨es1, t1, wd, gave⟩
    intro pm f1 r1 l1
    dsimp only at pm f1 r1 l1 ⊢
    rw [Array.toList_push] at pm
    obtain ⟨k1, pk, g1⟩ := en_perm (en_app g ⟨hk, rfl, hv⟩) pm
    have pk' : k1.Perm (k :: ks) := pk.trans (List.perm_append_singleton _ _)
    have nd1 : k1.Nodup := pk'.nodup_iff.mpr (List.nodup_cons.mpr ⟨hnk, nd⟩)
    have hb1 : es1.size < scanBound := by
      rw [← Array.length_toList, ← Paired.length g1, pk'.length_eq, List.length_cons]
      exact room
    have led1 : w.params.followText "set-order" = true ∨ t1.led = true := hl.imp id fun z => by rw [l1]; exact z
    have fin : ∀ (b : Bool) h' k2, k2.Perm k1 → Heap.SameBut a s.heap h' → SetW knd h' a k2 → Q b { s with heap := h' } := fun b h' k2 p2 sb r => hQ b h' k2 sb r (.inr ⟨hnk, p2.trans pk'⟩)
    refine wpAny_bind (hgw _ _ _ ?_)
    split
    · refine wpAny_bind ?_
      rw [hashByValue_scannable 8 hv]
      refine wpAny_pure ?_
      refine setw_tail hgw ho hex hd nd1 g1 hb1 ?_ ?_ ?_ ?_
      · split <;> first | exact f1 | exact SetTable.fits_plain_off f1
      · split <;> exact r1
      · split <;> exact led1
      · intro h' k2 p2 sb r; dsimp only; exact wpAny_pure (fin _ h' k2 p2 sb r)
    · refine wpAny_bind (wpAny_pure ?_)
      simp only [↓reduceIte]
      refine setw_tail hgw ho hex hd nd1 g1 hb1 f1 r1 led1 ?_
      intro h' k2 p2 sb r; dsimp only; exact wpAny_pure (fin _ h' k2 p2 sb r)

/-- found.add(k) -/
theorem setw_add {k : κ} {v : Value} {Q : Value → Shared → Prop} (hk : knd.is k v = true) (hv : v.scannable = true) (R : SetW knd s.heap a ks) (room : ks.length + 1 < scanBound)
    (hQ : ∀ h' tk ks', Heap.SameBut a s.heap h' → SetW knd h' a ks' → Added ks k ks' → Q .none { s with heap := h', toks := tk }) :
    wpAny (model P w) A (call (.builtin "set.add") [.ref a, v]) Q E s := by
  have hT : s.TypeIs (.ref a) "set" := by
    obtain ⟨o, es, ep, t, ho, hex, _⟩ := R
    exact ⟨o, ho, hex.1⟩
  refine wpAny_call_entry F.slot_set_add hT F.entry_set_add ?_ (F.args_set_add_2 _ _)
  unfold Builtin.«set.add» Builtin.Frozenset.oneOther
  simp only [List.isEmpty_nil, bind_assoc]
  unfold Builtin.Frozenset.addrOf setAdd
  refine wpAny_bind (wpAny_pure ?_)
  try dsimp only
  refine wpAny_bind (wpAny_pure ?_)
  try dsimp only
  refine wpAny_bind ?_
  refine wpAny_holding ?_
  refine wpAny_bind (knd.pyHash hk ?_)
  refine setw_addHashed (s := { s with toks := s.toks + 1 }) hk hv R room fun b h' ks' sb r ad => ?_
  show wpAny _ _ (ret Value.none) _ _ _
  exact wpAny_pure ⟨_, rfl, hQ h' (s.toks + 1) ks' sb r ad⟩
theorem setw_fresh {h : Heap} : SetW knd (h.push { cls := .type "set", dict := none, data := .set #[] 0 (.fresh 0 0 (!w.params.followText "set-order")) }) h.objs.size [] :=
  ⟨_, #[], 0, _, Heap.get?_push_size _ rfl, ⟨rfl, rfl, rfl⟩, rfl, List.nodup_nil, .nil, (by decide), (by rfl), List.Pairwise.nil, by
    show _ ∨ (!w.params.followText "set-order") = true
    cases w.params.followText "set-order"
    · exact .inr rfl
    · exact .inl rfl⟩
end
end WW

set_option Elab.async false
set_option linter.all false
set_option maxRecDepth 100000
set_option maxHeartbeats 4000000
/-! Sets of texts as tracked things; sorted of one; {text for ..}; set(list of texts). -/
namespace WW
open PySem PySem.Spec PyProof.Rows L2

def leS (a b : Str) : Bool := decide (a.cps.toList ≤ b.cps.toList)
/-- the texts, ascending -/
def sortS (ks : List Str) : List Str := ks.mergeSort leS

/-- a set of texts -/
def SSO (P : Program) (w : World) (a : Addr) (ks : List Str) : HO := .ext fun h => SetW (PySem.strKind P w) h a ks
theorem sso_new {P : Program} {w : World} {H : Hp} {h : Heap} {a : Addr} {ks : List Str} (R : SetW (PySem.strKind P w) h a ks) : ObjOk P w H h a (SSO P w a ks) := by
  have ⟨o, _, _, _, ho, _⟩ := R
  exact ⟨R, ⟨o, ho⟩, fun h1 h2 p k => SetW.here p k⟩
section
variable {X : Cx}
theorem sso_get {pins : List (Addr × Obj)} {σ : L2.St} {H : Hp} {s : Shared} {a : Addr} {ks : List Str} (I : Inv X pins σ H s) (ha : H a = some (SSO X.prog X.w a ks)) : SetW (PySem.strKind X.prog X.w) s.heap a ks := (I.hok a _ ha).1

theorem setw_vals {P : Program} {w : World} {ks : List Str} {l : List (Int × Value)} (g : Paired (EnK (PySem.strKind P w)) ks l) : StrsAre (l.map (·.2)) ks := by
  induction g with
  | nil => exact .nil
  | @cons k e ks l q _ ih =>
    obtain ⟨t, et⟩ := Value.isStrOf_shape (x := k) (v := e.2) q.1
    show StrsAre (e.2 :: l.map (·.2)) (k :: ks)
    rw [et]
    exact .cons k t ih
theorem strs_perm {us vs : List Value} {ks : List Str} (h : StrsAre vs ks) (p : us.Perm vs) : ∃ ks', ks'.Perm ks ∧ StrsAre us ks' := by
  induction p generalizing ks with
  | nil => exact ⟨ks, List.Perm.refl _, h⟩
  | cons x _ ih =>
    cases h with
    | cons k t h2 =>
      obtain ⟨k2, p2, g2⟩ := ih h2
      exact ⟨k :: k2, p2.cons k, .cons k t g2⟩
  | swap x y l =>
    cases h with
    | cons k t h2 =>
      cases h2 with
      | cons k2 t2 h3 => exact ⟨_, List.Perm.swap _ _ _, .cons k2 t2 (.cons k t h3)⟩
  | trans _ _ ih1 ih2 =>
    obtain ⟨k2, p2, g2⟩ := ih2 h
    obtain ⟨k1, p1, g1⟩ := ih1 g2
    exact ⟨k1, p1.trans p2, g1⟩
theorem leS_trans (a b c : Str) (h1 : leS a b = true) (h2 : leS b c = true) : leS a c = true := by
  unfold leS at *
  exact decide_eq_true (Std.le_trans (of_decide_eq_true h1) (of_decide_eq_true h2))
theorem leS_total (a b : Str) : (leS a b || leS b a) = true := by
  unfold leS
  rcases Std.le_total (a := a.cps.toList) (b := b.cps.toList) with h | h
  · rw [decide_eq_true h, Bool.true_or]
  · rw [decide_eq_true h, Bool.or_true]
theorem str_ext {a b : Str} (h : a.cps.toList = b.cps.toList) : a = b := by
  cases a; cases b
  exact congrArg Str.mk (Array.ext' h)
theorem leS_anti (a b : Str) (h1 : leS a b = true) (h2 : leS b a = true) : a = b := by
  unfold leS at *
  exact str_ext (Std.le_antisymm (of_decide_eq_true h1) (of_decide_eq_true h2))
theorem sortS_sorted (ks : List Str) : (sortS ks).Pairwise (fun a b => leS a b = true) := List.pairwise_mergeSort leS_trans leS_total ks
theorem sortS_perm (ks : List Str) : (sortS ks).Perm ks := List.mergeSort_perm ks leS
/-- the ascending list depends on the members alone -/
theorem sortS_congr {ks ls : List Str} (p : ks.Perm ls) : sortS ks = sortS ls :=
  List.Perm.eq_of_pairwise (fun a b _ _ => leS_anti a b) (sortS_sorted ks) (sortS_sorted ls) (((sortS_perm ks).trans p).trans (sortS_perm ls).symm)
theorem sortS_mem {ks : List Str} {x : Str} : x ∈ sortS ks ↔ x ∈ ks := (sortS_perm ks).mem_iff
theorem sortS_len (ks : List Str) : (sortS ks).length = ks.length := (sortS_perm ks).length_eq

theorem strsAre_each : ∀ {vs : List Value} {ks : List Str}, StrsAre vs ks → PySem.W.EachIs (fun v (k : Str) => ∃ t, v = Value.str k t) vs ks
  | _, _, .nil => .nil
  | _, _, .cons k t h => .cons ⟨t, rfl⟩ (strsAre_each h)
theorem each_strsAre : ∀ {vs : List Value} {ks : List Str}, PySem.W.EachIs (fun v (k : Str) => ∃ t, v = Value.str k t) vs ks → StrsAre vs ks
  | _, _, .nil => .nil
  | _, _, .cons ⟨t, e⟩ h => by subst e; exact .cons _ t (each_strsAre h)
theorem le_str_eq : PySem.W.dataLe false PyData.str = leS := PySem.W.dataLe_str (fun k => k)

def rSortSS (P : Program) (w : World) : List V → Hp → VK → Prop := fun vs H Q => ∃ (a : Addr) (ks : List Str), vs = [V.ref a] ∧ H a = some (SSO P w a ks) ∧
  ∀ p, H p = none → Q (.ref p) (upd H p (.lst ((sortS ks).map V.str)))
theorem cr_sortSS (hc : X.calm = true) (hu : X.A.units + 64 < cLine) : CallR X (.builtin "sorted") (rSortSS X.prog X.w) := by
  intro pins s σ H vs us Q I r h
  obtain ⟨a, ks, rfl, ha, q⟩ := h
  rw [Vals.ref1 r]
  obtain ⟨o, es, ep, t, ho, hex, hd, nd, g, hb, hf, hr, hl⟩ := sso_get I ha
  refine Calls.call_function_entry kind_sorted plain_sorted entry_sorted (args_sorted1 _) ?_
  unfold Builtin.«sorted»
  refine wpAny_bind (m := checkCount "sorted" 1 1 _) (wpAny_pure ?_)
  refine wpAny_bind (collect_set (A := X.A.in1) (I.ok.hd hc) ⟨o, ho, hex.1, hd⟩ hf hb hr hl fun s1 out k1 z1 g1 o1 pm => ?_)
  obtain ⟨k2, pk, sa⟩ := strs_perm (setw_vals g) pm
  have hlen : out.length = ks.length := by rw [sa.length, pk.length_eq]
  have hk0 : ks.length = es.size := by rw [Paired.length g, Array.length_toList]
  have hz : out.length ≤ sizeLine := by rw [hlen, hk0]; exact fits_of_scanBound hb
  have I1 : Inv X pins σ H s1 := I.call' (ch := []) o1 (Un.kept k1) (I.hok.kept k1) (by rw [g1]; exact I.bare) (fun _ z => nomatch z)
  refine wpAny_bind (wpAny_newList ?_ hz)
  have hoL : (s1.heap.push (seqObj "list" out.toArray 0)).get? s1.heap.objs.size = some (seqObj "list" out.toArray 0) := Heap.get?_push_size _ rfl
  have ee := strsAre_each sa
  refine wpAny_bind (wpAny_holding (PySem.W.list_sort_data (enc := PyData.str) (s := { s1 with heap := s1.heap.push (seqObj "list" out.toArray 0) }) hoL ee (ee.mono fun v k ⟨t, e⟩ => ⟨[], by subst e; exact ⟨Reads.str k t, by simp⟩⟩) (PySem.W.AllAlike.of fun b b' => by simp [PySem.W.alike])
    (PySem.W.Sortable.others fun b => ⟨by simp, by simp⟩) (by rw [pk.length_eq, ← hlen]; exact hz) (fun b _ => by show X.A.units + 1 + 1 + 0 < cLine; omega) fun out2 h2 e2 => ?_))
  have en : k2.mergeSort (PySem.W.dataLe false PyData.str) = sortS ks := by
    rw [le_str_eq]
    exact sortS_congr pk
  rw [en] at e2
  obtain ⟨c, hc2⟩ := sortedHeap_at (vs := out) (out := out2.toArray) hoL
  have hold : ∀ b u, s1.heap.get? b = some u → (sortedHeap (s1.heap.push (seqObj "list" out.toArray 0)) s1.heap.objs.size out out2.toArray).get? b = some u := fun b u e => by
    have lt := Heap.lt_size e
    exact (sortedHeap_old (Nat.ne_of_lt lt) (by rw [Heap.size_push]; exact Nat.lt_succ_of_lt lt)).trans (Heap.get?_push_of_some _ e)
  have sa2 := each_strsAre e2
  refine wpAny_pure ⟨_, rfl, .ref s1.heap.objs.size, upd H s1.heap.objs.size (.lst ((sortS ks).map V.str)), I1.laid (t' := s1.toks) hold (Nat.le_refl _) ⟨?_, out2, c, vals_of_strs sa2, hc2⟩, rfl, q _ (I1.hok.fresh (Nat.le_refl _))⟩
  rw [List.length_map, sortS_len, ← hlen]
  exact hz
end
end WW

set_option Elab.async false
set_option linter.all false
set_option maxRecDepth 100000
set_option maxHeartbeats 4000000
/-! {e for x in ..}: whatever the set holds. -/
namespace WW
open PySem PySem.Spec PyProof.Rows L2

/-- what set.add does to the tracked set at D: y is put in, N is what then holds of the heap -/
abbrev AddT := V → Addr → Hp → (Hp → Prop) → Prop
/-- a set's making and filling, for any body -/
structure SetMk (P : Program) (w : World) (new : Addr → HO) (add : AddT) : Prop where
  laid : ∀ (H : Hp) (h : Heap), ObjOk P w H (h.push { cls := .type "set", dict := none, data := .set #[] 0 (.fresh 0 0 (!w.params.followText "set-order")) }) h.objs.size (new h.objs.size)
  put : ∀ (X : Cx), X.prog = P → X.w = w → ∀ (pins : List (Addr × Obj)) (σ : L2.St) (H : Hp) (s : Shared) (D : Addr) (y : V) (v : Value) (N : Hp → Prop) (Q : Value → Shared → Prop) (E : Value → Shared → Prop), Inv X pins σ H s → RelV y v → add y D H N →
    (∀ s' H', Inv X pins σ H' s' → N H' → Q .none s') → wpAny (model P w) X.A (call (.builtin "set.add") [.ref D, v]) Q E s

def tSet (new : Addr → HO) (add : AddT) (wi : TI) (g : TG) (tt : TT) (te : TE) (vs : List Nat) : TE := fun σ H Q => wi σ H fun J H1 => ∀ D, H1 D = none →
  ∃ W : Nat → Nat → Hp → Prop, (∃ m, W 0 m (upd H1 D (new D))) ∧ ∀ i m H2, W i m H2 → (J.stop i H2 ∧ Q (.ref D) H2) ∨
    (J.go i H2 ∧ ∃ Nx : Hp → Prop, (∀ H', Nx H' → ∃ m', m' < m ∧ W (i + 1) m' H') ∧ ∀ x H', J.yld i H2 x H' → g x (wipe σ vs) H' fun σ3 H3 => wipe σ3 vs = wipe σ vs ∧
      tt σ3 H3 fun b H4 => if b = true then te σ3 H4 fun y H5 => add y D H5 Nx else Nx H4)

section
variable {X : Cx}
theorem set_core {new : Addr → HO} {add : AddT} {pins : List (Addr × Obj)} {s : Shared} {σ : L2.St} {H : Hp} {Q : VK} {elt tg iter : Expr} {ifs : List Expr} {scope : Scope} {own : List (PySem.Str × Nat)} {pos pos' : Pos} {wi : TI} {g : TG} {tt : TT} {te : TE}
    {use : Option (Value → Sem Unit)} {Qf : Value → Shared → Prop} (M : SetMk X.prog X.w new add) (calm : X.calm = true) (nd : X.N.Nodup) (I : Inv X pins σ H s) (walk : PI X tg iter wi) (blk : BlkOk X.N X.env.scope scope own)
    (hg : ∀ (s : Shared) (H : Hp) (C : Addr) (cl : List (PySem.Str × Addr)) (fp : List Addr), PG (X.blk s H scope (compEnvC scope cl C X.env) fp) tg g)
    (ht : ∀ (s : Shared) (H : Hp) (C : Addr) (cl : List (PySem.Str × Addr)) (fp : List Addr), PTs (X.blk s H scope (compEnvC scope cl C X.env) fp) ifs tt)
    (he : ∀ (s : Shared) (H : Hp) (C : Addr) (cl : List (PySem.Str × Addr)) (fp : List Addr), PE (X.blk s H scope (compEnvC scope cl C X.env) fp) elt te)
    (plain : ∀ x, foldedSetIterable iter X.env x = pure x) (h : tSet new add wi g tt te (own.map (·.2)) σ H Q)
    (back : ∀ D C s' m H', Inv X pins σ H' s' → Q (.ref D) H' → s'.heap.Ns C m → FpOk X pins H' C → compPost (model X.prog X.w) X.A X.xe use Qf (.ref D) C (.ok .next) s') :
    wpAny (model X.prog X.w) X.A (comprehension (.SetComp elt [⟨tg, iter, ifs, 0⟩] scope pos) scope X.env pos' (newSet (.type "set")) false (eval iter X.env) use) Qf X.xe s := by
  have cellsThere : ∀ y ∈ scope.names, y.2 = .free → ∃ c, X.env.cells.lookup y.1 = some c := fun y my fy =>
    (blk.free y my fy).elim (fun k => I.ok.has _ (.inl k)) fun k => I.ok.has _ (.inr k)
  refine wpAny_comprehension_free (use := use) rfl plain (closure_ok cellsThere) blk.kind (fun y my ey => by rw [blk.uniq y my, ey]) (thn (walk.run pins s σ H _ I h) fun v1 s1 h1 => thn h1 fun v2 s2 h2 => ?_)
  obtain ⟨it, fp, tn, J, H2, rfl, I2, T, start2, free2, rest⟩ := h2
  refine PpSet.newSet_ok (newEnv_comp ?_)
  have fresh2 : H2 s2.heap.objs.size = none := I2.hok.fresh (Nat.le_refl _)
  obtain ⟨W, ⟨m0, w0⟩, turn⟩ := rest s2.heap.objs.size fresh2
  -- the state with the empty set
  have I3 : Inv X pins σ (upd H2 s2.heap.objs.size (new s2.heap.objs.size)) { s2 with heap := s2.heap.push { cls := .type "set", dict := none, data := .set #[] 0 (.fresh 0 0 (!X.w.params.followText "set-order")) } } :=
    I2.laid (t' := s2.toks) (fun _ _ e => Heap.get?_push_of_some _ e) (Nat.le_refl _) (M.laid _ _)
  have below : ∀ b ∈ fp, b < s2.heap.objs.size := fun b hb => let ⟨_, e, _⟩ := T.obj _ _ start2 b hb; Heap.lt_size e
  generalize hD : s2.heap.objs.size = D at w0 turn fresh2 I3 below ⊢
  generalize hs3 : ({ s2 with heap := s2.heap.push { cls := .type "set", dict := none, data := .set #[] 0 (.fresh 0 0 (!X.w.params.followText "set-order")) } } : Shared) = s3 at I3
  have grown : s3.heap = s2.heap.push { cls := .type "set", dict := none, data := .set #[] 0 (.fresh 0 0 (!X.w.params.followText "set-order")) } := by rw [← hs3]
  generalize hH3 : upd H2 D (new D) = H3 at I3 w0
  have free3 : ∀ b ∈ fp, FpOk X pins H3 b ∧ b < s3.heap.objs.size := fun b hb => by
    have lt := below b hb
    refine ⟨⟨?_, (free2 b hb).2⟩, by rw [grown, Heap.size_push, hD]; exact Nat.lt_succ_of_lt lt⟩
    rw [← hH3, upd_ne (Nat.ne_of_lt lt)]
    exact (free2 b hb).1
  have start3 : tn 0 s3.heap := T.keep _ _ _ start2 fun b _ o e => by rw [grown]; exact Heap.get?_push_of_some _ e
  have I4 := block_start I3 blk nd free3
  have ruleG := hg s3 H3 s3.heap.objs.size (cellsFrom (s3.heap.objs.size + 1) scope.names (cloFrom X.env.cells scope.names [])) fp
  have ruleT := ht s3 H3 s3.heap.objs.size (cellsFrom (s3.heap.objs.size + 1) scope.names (cloFrom X.env.cells scope.names [])) fp
  have ruleE := he s3 H3 s3.heap.objs.size (cellsFrom (s3.heap.objs.size + 1) scope.names (cloFrom X.env.cells scope.names [])) fp
  show codeAny _ _ (.compStart (.SetComp elt [⟨tg, iter, ifs, 0⟩] scope pos) 0 (.ref it) (.ref D) (compEnvC scope (cellsFrom (s3.heap.objs.size + 1) scope.names (cloFrom X.env.cells scope.names [])) s3.heap.objs.size X.env))
    (compPost (model X.prog X.w) X.A X.xe use Qf (.ref D) s3.heap.objs.size) { s3 with heap := pushCells (s3.heap.push { cls := .type "dict", data := .dict #[] }) scope.names }
  generalize hce : compEnvC scope (cellsFrom (s3.heap.objs.size + 1) scope.names (cloFrom X.env.cells scope.names [])) s3.heap.objs.size X.env = ce at I4 ruleG ruleT ruleE ⊢
  have frame : ce.locals = s3.heap.objs.size := by rw [← hce] <;> rfl
  generalize hs4 : ({ s3 with heap := pushCells (s3.heap.push { cls := .type "dict", data := .dict #[] }) scope.names } : Shared) = s4 at I4 ⊢
  have start4 : tn 0 s4.heap := T.keep _ _ _ start3 fun b _ o e => by rw [← hs4]; exact pushCells_keeps _ _ _ _ (Heap.get?_push_of_some _ e)
  have quiet : ∀ {σ' : L2.St} {H' : Hp} {s' : Shared}, Inv (X.blk s3 H3 scope ce fp) [] σ' H' s' → (∀ b ∈ fp, H' b = none) → ∀ b ∈ fp, FpOk (X.blk s3 H3 scope ce fp) [] H' b := fun {σ' H' s'} I' n b hb =>
    ⟨n b hb, (I'.ok.exf b hb).1, I'.ok.exfs b hb, .inl hb, (I'.ok.exf b hb).2, fun p hp => absurd (show p ∈ ([] : List (Addr × Obj)) ++ [] from hp) (by simp)⟩
  have loop : codeAny (model X.prog X.w) X.A (.compLoop (.SetComp elt [⟨tg, iter, ifs, 0⟩] scope pos) 0 (.ref it) (.ref D) ce) (compPost (model X.prog X.w) X.A X.xe use Qf (.ref D) s3.heap.objs.size) s4 := by
    refine PpSet.compLoopS_any (fun n s' => ∃ i H', Inv (X.blk s3 H3 scope ce fp) [] (wipe σ (own.map (·.2))) H' s' ∧ tn i s'.heap ∧ (∀ b ∈ fp, H' b = none) ∧ W i n H') ?_ m0 ⟨0, H3, I4, start4, fun b hb => (free3 b hb).1.1, w0⟩
    rintro n s5 ⟨i, H5, I5, at5, none5, w5⟩
    rcases turn i n H5 w5 with ⟨stop, fin⟩ | ⟨go, Nx, hNx, step⟩
    · refine thnF (T.done (X.blk s3 H3 scope ce fp) rfl rfl rfl calm i [] s5 _ H5 (fun _ _ => False) I5 (quiet I5 none5) at5 stop) fun r s6 ⟨er, I6⟩ => ?_
      subst er
      have I7 : Inv X pins σ H5 s6 := I3.call' (ch := fp) I6.os I6.base I6.hok I6.bare fun b hb => ⟨(free3 b hb).1.2.2.2.1, (free3 b hb).1.2.1, (free3 b hb).1.2.2.2.2.1, (free3 b hb).1.2.2.2.2.2⟩
      have nC : H5 s3.heap.objs.size = none := frame ▸ (I6.free : H5 ce.locals = none)
      obtain ⟨m, hn, _⟩ := I6.loc
      have hn' : s6.heap.Ns s3.heap.objs.size m := frame ▸ (hn : s6.heap.Ns ce.locals m)
      exact back D s3.heap.objs.size s6 m H5 I7 fin hn' (I3.fpOk (Nat.le_refl _) nC)
    · refine thnF (T.item (X.blk s3 H3 scope ce fp) rfl rfl rfl calm i [] s5 _ H5 (fun _ _ => False) I5 (quiet I5 none5) at5 go) fun r s6 ⟨u, er, h6⟩ => ?_
      subst er
      refine thnF h6 fun _ s7 ⟨x, H7, I7, r7, y7, at7, none7⟩ => ?_
      refine thnF (ruleG.run _ s7 _ H7 x u _ (I7.pinned (quiet I7 none7) (T.obj _ _ at7)) r7 (step x H7 y7)) fun _ s8 ⟨σ8, H8, I8, wiped, q8⟩ => ?_
      refine thnF (ruleT.run _ s8 σ8 H8 _ I8 q8) fun b s9 ⟨H9, I9, q9⟩ => ?_
      have next : ∀ {s' : Shared} {H' : Hp}, Inv (X.blk s3 H3 scope ce fp) ([] ++ pinsAt fp s7.heap) σ8 H' s' → Nx H' → ∃ m, m < n ∧ ∃ i H', Inv (X.blk s3 H3 scope ce fp) [] (wipe σ (own.map (·.2))) H' s' ∧ tn i s'.heap ∧ (∀ b ∈ fp, H' b = none) ∧ W i m H' := fun {s' H'} I' nx => by
        obtain ⟨m', less, w'⟩ := hNx H' nx
        have pinned : ∀ b ∈ fp, ∀ o, s7.heap.get? b = some o → s'.heap.get? b = some o ∧ H' b = none := fun b hb o e =>
          let z := I'.pin (b, o) (List.mem_append_right _ (List.mem_append_right _ (mem_pinsAt hb e)))
          ⟨z.1, z.2.1⟩
        have len8 : (wipe σ (own.map (·.2))).length = σ8.length := by rw [← wiped, wipe_length]
        refine ⟨m', less, i + 1, H', (I'.unpinned (pins := [])).weak len8 (fun j v e => ?_), T.keep _ _ _ at7 fun b hb o e => (pinned b hb o e).1, fun b hb => ?_, w'⟩
        · rw [← wiped] at e
          exact (wipe_some e).1
        · obtain ⟨o, e, _⟩ := T.obj _ _ at7 b hb
          exact (pinned b hb o e).2
      cases b with
      | false =>
        rw [if_neg Bool.false_ne_true] at q9 ⊢
        exact next I9 q9
      | true =>
        rw [if_pos rfl] at q9 ⊢
        refine thnF (ruleE.run _ s9 σ8 H9 _ I9 q9) fun z s10 ⟨yv, H10, I10, r10, put⟩ => ?_
        exact M.put (X.blk s3 H3 scope ce fp) rfl rfl _ σ8 H10 s10 D yv z Nx _ _ I10 r10 put fun s11 H11 I11 nx => next I11 nx
  exact PpSet.codeAny_compStart_set loop (T.self X.A 0 _ _ _ start4 loop)

theorem pe_set {new : Addr → HO} {add : AddT} {elt tg iter : Expr} {ifs : List Expr} {scope : Scope} {own : List (PySem.Str × Nat)} {pos : Pos} {wi : TI} {g : TG} {tt : TT} {te : TE} (M : SetMk X.prog X.w new add) (calm : X.calm = true) (nd : X.N.Nodup) (walk : PI X tg iter wi) (blk : BlkOk X.N X.env.scope scope own)
    (hg : ∀ (s : Shared) (H : Hp) (C : Addr) (cl : List (PySem.Str × Addr)) (fp : List Addr), PG (X.blk s H scope (compEnvC scope cl C X.env) fp) tg g)
    (ht : ∀ (s : Shared) (H : Hp) (C : Addr) (cl : List (PySem.Str × Addr)) (fp : List Addr), PTs (X.blk s H scope (compEnvC scope cl C X.env) fp) ifs tt)
    (he : ∀ (s : Shared) (H : Hp) (C : Addr) (cl : List (PySem.Str × Addr)) (fp : List Addr), PE (X.blk s H scope (compEnvC scope cl C X.env) fp) elt te)
    (plain : ∀ x, foldedSetIterable iter X.env x = pure x := by intro _; rfl) :
    PE X (.SetComp elt [⟨tg, iter, ifs, 0⟩] scope pos) (tSet new add wi g tt te (own.map (·.2))) := by
  refine ⟨fun pins s σ H Q I h => ?_⟩
  rw [PpSet.eval_SetComp]
  refine set_core M calm nd I walk blk hg ht he plain h fun D C s' m H' I' q hn free => ⟨m, hn, fun h'' sb => ?_⟩
  obtain ⟨f0, f1, f2, f3, f4, f5⟩ := free
  exact ⟨.ref D, H', I'.turned (t' := s'.toks) (fun b o hb e => (sb.2 b hb).trans e) f0 f1 f3 f4 f5, rfl, q⟩
end

/-- texts put in: whatever order the table takes -/
def addS (P : Program) (w : World) : AddT := fun y D H N => ∃ (c : Str) (ks : List Str), y = .str c ∧ H D = some (SSO P w D ks) ∧ ks.length + 1 < scanBound ∧ ∀ ks', Added ks c ks' → N (upd H D (SSO P w D ks'))
theorem mkS (P : Program) (w : World) : SetMk P w (fun D => SSO P w D []) (addS P w) where
  laid := fun H h => sso_new setw_fresh
  put := fun X hP hw pins σ H s D y v N Q E I r ⟨c, ks, ey, hD, room, k⟩ fin => by
    subst hP hw ey
    obtain ⟨t, ev⟩ := r
    subst ev
    refine setw_add (knd := PySem.strKind X.prog X.w) (k := c) (by show Value.isStrOf c (.str c t) = true; simp [Value.isStrOf]) rfl (sso_get I hD) room fun h' tk ks' sb new ad => ?_
    have there : ∃ u, h'.get? D = some u := let ⟨o, _, _, _, ho, _⟩ := new; ⟨o, ho⟩
    exact fin _ _ (I.write (e := D) (t' := tk) (by rw [hD]; trivial) (.inl rfl) (fun b u hb hu => (sb.2 b hb).trans hu) there (sso_new new)) (k ks' ad)
end WW

set_option Elab.async false
set_option linter.all false
set_option maxRecDepth 100000
set_option maxHeartbeats 4000000
/-! x == y and x != y by a class's own __eq__, whatever it answers. -/
namespace WW
open PySem PySem.Spec PyProof.Rows L2

theorem cmpOf {P : Value → Shared → Prop} {z : V} {v : Value} {s' : Shared} (r : RelV z v) (h : P v s') : PySem.W.CmpBack P v s' := by
  cases z <;> (try obtain ⟨t, e⟩ := r) <;> first | exact h | (subst e; exact h) | (cases r; exact h)

/-- x op y of two instances, answered by the def sp -/
def rOwnEq (K : PySem.W.Frag) (C : Addr) (sp : Sp) (E : XK) : R2 := fun x y H Q => ∃ a dx fs b C' dy gs, x = .ref a ∧ y = .ref b ∧ H a = some (.ins C dx fs) ∧ H b = some (.ins C' dy gs) ∧ PySem.W.notFirst K C (.ref C') = true ∧ sp [x, y] H Q E
def rOwnNe (K : PySem.W.Frag) (C : Addr) (sp : Sp) (E : XK) : R2 := fun x y H Q => ∃ a dx fs b C' dy gs, x = .ref a ∧ y = .ref b ∧ H a = some (.ins C dx fs) ∧ H b = some (.ins C' dy gs) ∧ PySem.W.notFirst K C (.ref C') = true ∧
  sp [x, y] H (fun v H' => ∃ k, v = .bl k ∧ Q (.bl (!k)) H') E

section
variable {X : Cx} {CX : CXT} {C f : Addr} {fd : FuncData} {ps : List Str} {sp : Sp} {E : XK} {n : Nat}
theorem op_ownEq (hs : PySem.W.findIn X.K (.ref C) "__eq__" = some (some (.ref f))) (hf : PySem.W.isFn X.K (.ref f) = true) (F : FnOk X.prog X.w X.K X.mg X.base CX n f fd ps sp) (hr : Room n X.A) (hb : Binds X.K fd ps []) (hx : Passes CX X E) :
    OpR X (compareOp .Eq) (rOwnEq X.K C sp E) := by
  intro pins s σ H x y v u Q I rx ry h
  obtain ⟨a, dx, fs, b, C', dy, gs, rfl, rfl, ha, hb', hn, q⟩ := h
  cases rx
  cases ry
  obtain ⟨mA, J, _⟩ := ins_get I.hok ha
  obtain ⟨mB, J', _⟩ := ins_get I.hok hb'
  obtain ⟨od, J, _⟩ := J.look
  obtain ⟨od', J', _⟩ := J'.look
  obtain ⟨m, hF⟩ := I.fr
  show wpAny (model X.prog X.w) X.A (richCompare .Eq (.ref a) (.ref b)) (EP X pins σ Q) X.xe s
  refine PySem.W.cmp_K (op := .Eq) (tb := .ref C') hr.units0 hF I.ok.mod.kin J J'.type hn hs hf ?_
  refine wpAny_mono (run_fn (us := [.ref a, .ref b]) (vs := [.ref a, .ref b]) F hr hb .nil hx I (.cons rfl (.cons rfl .nil)) q) (fun w s' z => ?_) fun _ _ e => e
  obtain ⟨z', H', I', rz, qz⟩ := z
  exact cmpOf rz ⟨z', H', I', rz, qz⟩

/-- the class's __ne__ is object's -/
theorem ne_bound {M : Model} {A : Around} {E' : Value → Shared → Prop} {s : Shared} {K : PySem.W.Frag} {x : Addr} {ox : Obj} {od : Option Obj} {args : List Value} {Q : Option Value → Shared → Prop} (Xk : K.In s.heap) (J : PySem.W.InstAt s.heap x ox C od)
    (hne : PySem.W.findIn K (.ref C) "__ne__" = some (some (.builtin "object.__ne__"))) (h : wpAny M A (call (.builtin "object.__ne__") (.ref x :: args)) (fun v => Q (some v)) E' s) : wpAny M A (callSpecialIfBound? (.ref x) "__ne__" args) Q E' s := by
  simp only [callSpecialIfBound?, bindSpecialIfBound?]
  refine wpAny_holding (wpAny_bind (wpAny_bind (wpAny_bind (J.type.here ((PySem.W.looks_findIn Xk hne).here ?_)))))
  refine wpAny_bind (wpAny_askSetting (wpAny_ite ?_))
  have last : wpAny M A (call (.builtin "object.__ne__") ([.ref x] ++ args) >>= fun v => pure (some v)) Q E' s := wpAny_bind (wpAny_mono h (fun v s' q => wpAny_pure q) fun _ _ q => q)
  split
  · exact wpAny_bind (wpAny_of_eq (PySem.F.cmp_object.ne.bind _) (wpAny_pure (by exact last)))
  · exact wpAny_tryCatch (wpAny_bind (wpAny_of_eq (PySem.F.cmp_object.ne.bind _) (wpAny_pure (by exact last))))

theorem op_ownNe (hs : PySem.W.findIn X.K (.ref C) "__eq__" = some (some (.ref f))) (hne : PySem.W.findIn X.K (.ref C) "__ne__" = some (some (.builtin "object.__ne__"))) (hm : PySem.W.mroIn X.K C (.type "object") = some true) (hf : PySem.W.isFn X.K (.ref f) = true)
    (F : FnOk X.prog X.w X.K X.mg X.base CX n f fd ps sp) (hr : Room (n + 1) X.A) (hb : Binds X.K fd ps []) (hx : Passes CX X E) : OpR X (compareOp .NotEq) (rOwnNe X.K C sp E) := by
  intro pins s σ H x y v u Q I rx ry h
  obtain ⟨a, dx, fs, b, C', dy, gs, rfl, rfl, ha, hb', hn, q⟩ := h
  cases rx
  cases ry
  obtain ⟨mA, J, _⟩ := ins_get I.hok ha
  obtain ⟨mB, J', _⟩ := ins_get I.hok hb'
  obtain ⟨od, J, _⟩ := J.look
  obtain ⟨od', J', _⟩ := J'.look
  have hu : X.A.units + 64 < cLine := hr.units
  -- the def, a level down
  have deep : wpAny (model X.prog X.w) X.A.in1 (call (.ref f) [.ref a, .ref b]) (fun w s' => ∃ k, w = .bool k ∧ EP X pins σ Q (.bool (!k)) s') X.xe s := by
    have hl := F.len _ _ _ _ q
    have bd : BindsTo s fd ⟨[.ref a, .ref b], []⟩ (ps.zip [.ref a, .ref b]) := by
      have z := hb s [.ref a, .ref b] I.kIn (by simpa using hl)
      simpa using z
    refine wpAny_call (codeAny_mono (F.run X.A.in1 X.stack s H ⟨[.ref a, .ref b], []⟩ [.ref a, .ref b] [.ref a, .ref b] _ E hr.in1 I.env0.in1 bd (.cons rfl (.cons rfl .nil)) q) fun r s' hq => ?_)
    cases r with
    | error e => exact hx pins σ H s e s' I hq
    | ok fl =>
      cases fl with
      | ret w =>
        obtain ⟨z, H', I', rz, k, ez, qz⟩ := I.after hq
        subst ez
        cases rz
        exact ⟨k, rfl, .bl (!k), H', I', rfl, qz⟩
      | next => exact False.elim hq
      | brk => exact False.elim hq
      | cont => exact False.elim hq
  have entry : wpAny (model X.prog X.w) X.A.in1 (Builtin.«object.__ne__» ⟨[.ref a, .ref b], []⟩) (fun fin s' => match fin with | .done g => (match g with | .ret w => (∃ k, w = .bool k ∧ EP X pins σ Q (.bool k) s') | _ => False) | .again _ => False) X.xe s := by
    unfold Builtin.«object.__ne__»
    refine wpAny_bind (wpAny_pure ?_)
    refine wpAny_bind (wpAny_cRoomFor (by show X.A.units + 1 < cLine; omega) ?_)
    refine wpAny_bind (PySem.W.ifBound_K I.kIn J hs hf (wpAny_mono deep (fun w s' z => ?_) fun _ _ e => e))
    obtain ⟨k, rfl, hq⟩ := z
    exact wpAny_bind (wpAny_truthy_bool (wpAny_pure ⟨_, rfl, hq⟩))
  have tried : wpAny (model X.prog X.w) X.A (tryCompare (.ref a) "__ne__" (.ref b)) (fun r s' => ∃ w, r = some w ∧ EP X pins σ Q w s') X.xe s := by
    unfold tryCompare
    refine wpAny_bind (ne_bound I.kIn J hne (wpAny_call (codeAny_call_builtin PySem.F.cmp_object.ne.plain PySem.F.cmpEntry_ne (PySem.W.check_slot PySem.F.cmpKind_ne PySem.F.cmpSplit_ne (J.type.andThen (PySem.W.looks_mroIn I.kIn hm)) (PySem.F.cmpArgs_ne _ _)
      (wpAny_mono entry (fun fin s' z => ?_) fun _ _ e => e)))))
    cases fin with
    | again _ => exact z.elim
    | done g =>
      cases g with
      | ret w =>
        obtain ⟨k, rfl, hq⟩ := z
        exact wpAny_pure ⟨_, rfl, hq⟩
      | next => exact z.elim
      | brk => exact z.elim
      | cont => exact z.elim
  show wpAny (model X.prog X.w) X.A (richCompare .NotEq (.ref a) (.ref b)) (EP X pins σ Q) X.xe s
  unfold richCompare
  simp only [oneThing_ref]
  refine wpAny_holding (wpAny_bind (wpAny_cRoomFor hr.units0 ?_))
  rw [PySem.cmpInfo_NotEq]
  dsimp only
  refine wpAny_bind (J.type.here (wpAny_bind (J'.type.here ?_)))
  split
  · rename_i ne
    have e : PySem.W.subIn X.K (.ref C') (.ref C) = some false := by
      rcases Bool.or_eq_true_iff.mp hn with e | e
      · rw [beq_iff_eq.mp e] at ne; simp at ne
      · exact beq_iff_eq.mp e
    refine wpAny_bind ((PySem.W.looks_subIn I.kIn e).here ?_)
    simp only [Bool.false_eq_true, if_false]
    refine wpAny_bind (wpAny_mono tried (fun r s' z => ?_) fun _ _ e => e)
    obtain ⟨w, rfl, hq⟩ := z
    exact wpAny_pure hq
  · refine wpAny_bind (wpAny_pure ?_)
    simp only [Bool.false_eq_true, if_false]
    refine wpAny_bind (wpAny_mono tried (fun r s' z => ?_) fun _ _ e => e)
    obtain ⟨w, rfl, hq⟩ := z
    exact wpAny_pure hq
end
end WW

set_option Elab.async false
set_option linter.all false
set_option maxRecDepth 100000
set_option maxHeartbeats 4000000
/-! A list or a tuple alike: either reading; enumerate, in and sorted of tuples. -/
namespace WW
open PySem PySem.Spec PyProof.Rows L2

/-! ### either reading -/
theorem pe_or {X : Cx} {e : Expr} {t u : TE} (a : PE X e t) (b : PE X e u) : PE X e (fun σ H Q => t σ H Q ∨ u σ H Q) :=
  ⟨fun pins s σ H Q I h => h.elim (a.run pins s σ H Q I) (b.run pins s σ H Q I)⟩
def iOr (a b : TI) : TI := fun σ H R => a σ H R ∨ b σ H R
theorem pi_or {X : Cx} {tg e : Expr} {t u : TI} (a : PI X tg e t) (b : PI X tg e u) : PI X tg e (iOr t u) :=
  ⟨fun pins s σ H Q I h => h.elim (a.run pins s σ H Q I) (b.run pins s σ H Q I)⟩
def rOr3 (a b : List V → Hp → VK → Prop) : List V → Hp → VK → Prop := fun vs H Q => a vs H Q ∨ b vs H Q
theorem cr_or {X : Cx} {f : Value} {r u : List V → Hp → VK → Prop} (a : CallR X f r) (b : CallR X f u) : CallR X f (rOr3 r u) :=
  fun pins s σ H vs us Q I rv h => h.elim (a pins s σ H vs us Q I rv) (b pins s σ H vs us Q I rv)

/-! ### x in a tuple, of data of any kind -/
section
variable {X : Cx}
def rInDT (K : PySem.W.Frag) : R2 := fun x y H Q => ∃ d ds, Dp K H x d ∧ Dp K H y (.tuple ds) ∧ SeqAt.shaped d = true ∧ SeqAt.shaped (.tuple ds) = true ∧ Q (.bl (ds.any fun z => PyData.eqv z d)) H
theorem op_inDT (hu : X.A.units + 65 < cLine) : OpR X (compareOp .In) (rInDT X.K) := by
  intro pins s σ H x y v u Q I rx ry h
  obtain ⟨d, ds, hd, he, sd, se, q⟩ := h
  obtain ⟨as, r1⟩ := Dp.reads I d x v hd rx
  obtain ⟨bs, r2⟩ := Dp.reads I (.tuple ds) y u he ry
  exact SeqAt.in_tuple_reads r2 r1 (SeqAt.canLay_of_shaped se) (SeqAt.canLay_of_shaped sd) (room_in_shaped sd hu) ⟨.bl _, H, I, rfl, q⟩
end

/-! ### enumerate(tuple) -/
section
variable {prog : Program} {w : World} {A : Around} {E : Value → Shared → Prop} {s : Shared}
set_option maxHeartbeats 1000000 in
theorem meets_enum1 {v : Value} {o : Obj} {H : Heap → Prop} (B : Begins v o H) :
    Meets (Builtin.«enumerate.__new__» ⟨[.type "enumerate", v], []⟩) (fun _ R s => H s.heap ∧
      R (.ok (.ret (.ref (s.heap.push o).objs.size))) { s with heap := (s.heap.push o).push { cls := .type "enumerate", data := .fields #[.none, .bool false, .ref s.heap.objs.size, rawInt 0, .none, .none] } }) :=
  .of_wp fun prog w A R s h => by
    obtain ⟨hp, g, d, tk, os⟩ := s; obtain ⟨h1, h⟩ := h
    have hsub := sub_enumerate
    have q1 : ∀ {A' : Around} {E : Value → Shared → Prop} {Q : Value → Shared → Prop}, Q (.ref hp.objs.size) ⟨hp.push o, g, d, tk, os⟩ → wpAny (model prog w) A' (pyIter v) Q E ⟨hp, g, d, tk, os⟩ :=
      fun q => B.iter prog w _ _ ⟨hp, g, d, tk, os⟩ _ h1 q
    wp_walk using q1
    refine wpAny_stack_any fun st => wpAny_pure ?_
    split
    · rename_i c _ _ _ _ _
      cases (c == Value.type "enumerate")
      · wp_walk using q1
        exact ⟨_, rfl, h⟩
      · wp_walk using q1
        exact ⟨_, rfl, h⟩
    · wp_walk using q1
      exact ⟨_, rfl, h⟩
theorem enum1_begins {v : Value} {o : Obj} {H : Heap → Prop} {Q : Value → Shared → Prop} (B : Begins v o H) (h1 : H s.heap)
    (h : ∀ h', IsEnum h' (s.heap.objs.size + 1) s.heap.objs.size 0 .none → h'.get? s.heap.objs.size = some o → h'.objs.size = s.heap.objs.size + 2 →
      (∀ b o, s.heap.get? b = some o → h'.get? b = some o) → Q (.ref (s.heap.objs.size + 1)) { s with heap := h' }) :
    wpAny (model prog w) A (call (.type "enumerate") [v]) Q E s := by
  refine callType_new F.called_enumerate (by decide) (F.typeCall_enumerate_1 _) (F.newCall_enumerate_1 _) (fun obj => F.args_object_init_2 obj _) F.entry_enumerate_new
    (meets_enum1 B) ⟨h1, ?_⟩
  have hz : (s.heap.push o).objs.size = s.heap.objs.size + 1 := Heap.size_push ..
  show _ ∧ _
  rw [hz]
  have he : IsEnum ((s.heap.push o).push { cls := .type "enumerate", data := .fields #[.none, .bool false, .ref s.heap.objs.size, rawInt 0, .none, .none] }) (s.heap.objs.size + 1) s.heap.objs.size 0 .none := by
    have := Heap.get?_push_size (s.heap.push o) (o := { cls := .type "enumerate", data := .fields #[.none, .bool false, .ref s.heap.objs.size, rawInt 0, .none, .none] }) rfl
    rw [hz] at this; exact this
  refine ⟨⟨_, he, rfl⟩, h _ he (Heap.get?_push_of_some _ (Heap.get?_push_size _ B.free)) (by rw [Heap.size_push, hz]) fun b o x => Heap.get?_push_of_some _ (Heap.get?_push_of_some _ x)⟩
end

/-- the tuple at a, each item in a new pair -/
def IteT (K : PySem.W.Frag) (a : Addr) : It :=
  ⟨fun i H => ∃ (xs : List V) (x : V), SqT K H a xs ∧ xs[i]? = some x, fun i H v H' => ∃ T x, v = .ref T ∧ H T = none ∧ H' = upd H T (.tup [.int (i : Nat), x]) ∧ ∀ xs, SqT K H a xs → xs[i]? = some x, fun i H => ∃ xs : List V, SqT K H a xs ∧ xs.length = i⟩
theorem turn_enumT {P : Program} {w : World} {K : PySem.W.Frag} {elts : List Expr} {kk : Nat} {tpos : Pos} (a e it : Addr) :
    Turn P w K (.Tuple elts kk tpos) (IteT K a) [e, it] e (fun i h => (∃ old, IsEnum h e it ((i : Nat) : Int) old) ∧ h.IsTupleIter it a i ∧ e ≠ it) where
  mem := by simp
  obj := fun i h st b hb => by
    obtain ⟨⟨old, he⟩, ⟨o, ho, hc, hd⟩, _⟩ := st
    have e' : b = e ∨ b = it := by simpa using hb
    rcases e' with z | z
    · rw [z]; exact ⟨_, he, fun v q => nomatch q⟩
    · rw [z]; exact ⟨o, ho, fun v q => by rw [hd] at q; cases q⟩
  keep := fun i h h' st k => let ⟨⟨old, he⟩, hi, hne⟩ := st; ⟨⟨old, k e (by simp) _ he⟩, hi.at fun o q => k it (by simp) o q, hne⟩
  item := by
    intro X hP hw hK hc i pins s σ H E I hf st hg
    subst hP hw hK
    obtain ⟨⟨old, he⟩, hit, hne⟩ := st
    obtain ⟨xs, x, hq, hx⟩ := hg
    obtain ⟨its, rv, p, hz⟩ := I.tuple hq
    have p' : s.heap.IsTuple a its.toArray := p
    obtain ⟨u, hu, ru⟩ := rv.get hx
    have hel : e < s.heap.objs.size := Heap.lt_size he
    have hil : it < s.heap.objs.size := by obtain ⟨_, q, _⟩ := hit; exact Heap.lt_size q
    have hai : a ≠ it := fun z => by
      obtain ⟨o, ho, hc1, _⟩ := hit
      obtain ⟨o', ho', hc2, _⟩ := p'
      rw [z, ho] at ho'
      cases ho'
      rw [hc1] at hc2
      injection hc2 with hc2
      exact absurd hc2 (by decide)
    have hae : e ∉ [it, a] := fun z => by
      rcases List.mem_cons.mp z with z | z
      · exact hne z
      · have z := List.mem_singleton.mp z
        obtain ⟨o', ho', hc2, _⟩ := p'
        rw [← z, he] at ho'
        cases ho'
        injection hc2 with hc2
        exact absurd hc2 (by decide)
    have hil2 : i < its.toArray.size := by
      have := (List.getElem?_eq_some_iff.mp hu).1
      simpa using this
    refine wpAny_pyNext_enum_itemC (fp := [it, a]) (c := (i : Int)) (Draws.tuple (A := X.A.in1) (I.ok.hd hc) it a hai its.toArray) he ⟨hit, p'⟩ hil2 hne hae fun y h' tk hy ho hit' hT hsz hk => ?_
    have ey : y = u := by
      have e1 : its[i]? = some y := by simpa using hy
      rw [hu] at e1
      exact (Option.some.inj e1).symm
    subst ey
    refine ⟨_, rfl, wpAny_letOwnedTupleGo_enum (s := { s with heap := h', toks := tk + 1 }) ho fun h'' he' sb => ?_⟩
    have hT2 : h''.get? s.heap.objs.size = some { cls := .type "tuple", data := .seq #[.int i tk, y] } := (sb.2 _ (Nat.ne_of_gt hel)).trans hT
    have new : ObjOk X.prog X.w (upd H s.heap.objs.size (.tup [.int (i : Nat), x])) h'' s.heap.objs.size (.tup [.int (i : Nat), x]) :=
      ⟨by show 2 ≤ sizeLine; decide, [.int i tk, y], .cons ⟨_, rfl⟩ (.cons ru .nil), ⟨_, hT2, rfl, _, rfl⟩⟩
    have I1 : Inv X pins σ (upd H s.heap.objs.size (.tup [.int (i : Nat), x])) { s with heap := h'', toks := tk + 1 } :=
      I.turnedNew (ch := [e, it]) (fun b ob hb q => (sb.2 b (fun z => hb (by simp [z]))).trans (hk b ob (fun z => hb (by simp [z])) (fun z => hb (by simp [z])) q)) hf (Nat.le_refl _) new
    refine ⟨.ref s.heap.objs.size, _, I1, rfl, ⟨_, x, rfl, I.hok.fresh (Nat.le_refl _), rfl, fun ys hy => by rw [I.tuple_inj hy hq]; exact hx⟩, ⟨⟨y, ?_⟩, hit'.1.at fun o q => (sb.2 it (Ne.symm hne)).trans q, hne⟩, fun b hb => ?_⟩
    · have e1 : ((i + 1 : Nat) : Int) = (i : Int) + 1 := by omega
      rw [e1]; exact he'
    · have hb' : b < s.heap.objs.size := by
        have e' : b = e ∨ b = it := by simpa using hb
        rcases e' with z | z
        · rw [z]; exact hel
        · rw [z]; exact hil
      rw [upd_ne (Nat.ne_of_lt hb')]
      exact (hf b hb).1
  done := by
    intro X hP hw hK hc i pins s σ H E I hf st hg
    subst hP hw hK
    obtain ⟨⟨old, he⟩, hit, hne⟩ := st
    obtain ⟨xs, hq, hx⟩ := hg
    obtain ⟨its, rv, p, hz⟩ := I.tuple hq
    have p' : s.heap.IsTuple a its.toArray := p
    obtain ⟨f0, f1, f2, f3, f4, f5⟩ := hf it (by simp)
    have hl := rv.length
    have hai : a ≠ it := fun z => by
      obtain ⟨o, ho, hc1, _⟩ := hit
      obtain ⟨o', ho', hc2, _⟩ := p'
      rw [z, ho] at ho'
      cases ho'
      rw [hc1] at hc2
      injection hc2 with hc2
      exact absurd hc2 (by decide)
    have ei : i = its.toArray.size := by simp; omega
    subst ei
    exact wpAny_pyNext_enum_endD (fp := [it, a]) (Draws.tuple (A := X.A.in1) (I.ok.hd hc) it a hai its.toArray) he ⟨hit, p'⟩ fun h' eb => ⟨rfl, I.turned (t' := s.toks) (fun b o hb q => eb b o hb q) f0 f1 f3 f4 f5⟩
  self := fun A i s Q E st h => let ⟨⟨_, he⟩, _⟩ := st; wpAny_pyIter_enum he h
def iEnumT (K : PySem.W.Frag) (ta : TA) : TI := fun σ H R => ta σ H fun vs H1 => ∃ a xs, vs = [.ref a] ∧ SqT K H1 a xs ∧ R (IteT K a) H1
theorem pi_enumT {X : Cx} {e : Expr} {ta : TA} {p pos tpos : Pos} {elts : List Expr} {kk : Nat} (hg : Gl X "enumerate") (hm : X.mg "enumerate" = none) (ha : PA X [e] ta) (hs : starEach [e] X.env = [(false, eval e X.env)] := by rfl) :
    PI X (.Tuple elts kk tpos) (.Call (.Name "enumerate" p) [e] [] pos) (iEnumT X.K ta) := by
  refine ⟨fun pins s σ H R I h => ?_⟩
  refine Call_ (ld_blt I hg hm boot_enumerate (PyProof.Rows.callWith_type1 (thn (ha.run pos pins s σ H _ I h) fun us s1 ⟨vs, H1, I1, r1, q1⟩ => ?_) hs rfl))
  obtain ⟨a, xs, ex, hq, q⟩ := q1
  subst ex
  cases r1 with
  | cons r rr =>
    cases rr
    cases r
    obtain ⟨its, rv, p', hz⟩ := I1.tuple hq
    refine enum1_begins (begins_tuple a its.toArray) p' fun h' he hit hsz hk => wpAny_pyIter_enum he ?_
    have I2 : Inv X pins σ H1 { s1 with heap := h' } := I1.kept (t' := s1.toks) hk
    refine ⟨s1.heap.objs.size + 1, [s1.heap.objs.size + 1, s1.heap.objs.size], _, _, H1, rfl, I2, turn_enumT a (s1.heap.objs.size + 1) s1.heap.objs.size, ⟨⟨.none, he⟩, ⟨_, hit, rfl, rfl⟩, Nat.succ_ne_self _⟩, fun b hb => ?_, q⟩
    have e' : b = s1.heap.objs.size + 1 ∨ b = s1.heap.objs.size := by simpa using hb
    have hle : s1.heap.objs.size ≤ b := by
      rcases e' with z | z
      · rw [z]; exact Nat.le_add_right _ _
      · rw [z]; exact Nat.le_refl _
    exact I1.fpOk hle (I1.hok.fresh hle)

/-! ### sorted(tuple) -/
theorem reads_lt {h : Heap} {v : Value} {d : PyData} {as : List Addr} (r : Reads h v d as) : ∀ a ∈ as, a < h.objs.size := by
  refine Reads.rec (motive_1 := fun v d as _ => ∀ a ∈ as, a < h.objs.size) (motive_2 := fun vs ds as _ => ∀ a ∈ as, a < h.objs.size) ?_ ?_ ?_ ?_ ?_ ?_ ?_ ?_ ?_ r
  · intro a ha; cases ha
  · intro _ a ha; cases ha
  · intro _ _ a ha; cases ha
  · intro _ _ a ha; cases ha
  · intro b o vs n xs as h1 h2 h3 h4 ih a ha
    rcases List.mem_cons.mp ha with e | ha
    · rw [e]; exact Heap.lt_size h1
    · exact ih a ha
  · intro b o vs n xs as h1 h2 h3 h4 ih a ha
    exact ih a ha
  · intro b o es n kvs as bs h1 h2 h3 h4 h5 ih1 ih2 a ha
    rcases List.mem_append.mp ha with ha | ha
    · rcases List.mem_cons.mp ha with e | ha
      · rw [e]; exact Heap.lt_size h1
      · exact ih1 a ha
    · exact ih2 a ha
  · intro a ha; cases ha
  · intro v vs d ds as bs h1 h2 ih1 ih2 a ha
    rcases List.mem_append.mp ha with ha | ha
    · exact ih1 a ha
    · exact ih2 a ha

def rSortDT {β : Type} (K : PySem.W.Frag) (enc : β → PyData) : List V → Hp → VK → Prop := fun vs H Q => ∃ (a : Addr) (xs : List V) (bs : List β) (F : V → β → Prop), vs = [V.ref a] ∧ SqT K H a xs ∧ Paired (fun v b => F v b ∧ DpE K H enc v b) xs bs ∧
  (∀ b b', PySem.W.alike (enc b) (enc b') = true) ∧ PySem.W.Sortable (bs.map enc) ∧ (∀ b, (enc b).depth ≤ 32) ∧
  ∀ (ys : List V) (p : Addr), Paired F ys (bs.mergeSort (PySem.W.dataLe false enc)) → H p = none → Q (.ref p) (upd H p (.lst ys))
theorem cr_sortDT {X : Cx} {β : Type} (enc : β → PyData) (hc : X.calm = true) (hu : X.A.units + 64 < cLine) : CallR X (.builtin "sorted") (rSortDT X.K enc) := by
  intro pins s σ H vs us Q I r h
  obtain ⟨a, xs, bs, F, rfl, hs, hp, hal, hso, hdp, q⟩ := h
  rw [Vals.ref1 r]
  obtain ⟨its, rv, hl, hz⟩ := I.tuple hs
  have hl' : s.heap.IsTuple a its.toArray := hl
  obtain ⟨o, ho, hcl, n, hd⟩ := hl'
  have hxl := rv.length
  refine Calls.call_function_entry kind_sorted plain_sorted entry_sorted (args_sorted1 _) ?_
  unfold Builtin.«sorted»
  refine wpAny_bind (m := checkCount "sorted" 1 1 _) (wpAny_pure ?_)
  refine wpAny_bind (wpAny_collect_seq a (.inr rfl) ho hcl hd (fun h1 k1 => ?_) (by simp; omega))
  have I1 : Inv X pins σ H { s with heap := h1 } := I.kept (t' := s.toks) k1
  have hol : its.toArray.toList = its := by simp
  rw [hol]
  have hz' : its.length ≤ sizeLine := by omega
  refine wpAny_bind (wpAny_newList ?_ hz')
  have hoL : (h1.push (seqObj "list" its.toArray 0)).get? h1.objs.size = some (seqObj "list" its.toArray 0) := Heap.get?_push_size _ rfl
  have hlen : bs.length = xs.length := (Paired.length hp).symm
  have e1 := each_of rv hp
  have I2 : Inv X pins σ H { s with heap := h1.push (seqObj "list" its.toArray 0) } := I1.kept (t' := s.toks) fun b u e => Heap.get?_push_of_some _ e
  have er : PySem.W.EachIs (fun v b => ∃ as, Reads (h1.push (seqObj "list" its.toArray 0)) v (enc b) as ∧ h1.objs.size ∉ as) its bs := (each_reads I1 e1).mono fun v b ⟨as, r⟩ =>
    ⟨as, PyProof.Rows.Reads.keeps (fun _ _ e => Heap.get?_push_of_some _ e) r, fun z => Nat.lt_irrefl _ (reads_lt r _ z)⟩
  have e3 : PySem.W.EachIs (fun u b => ∃ v, F v b ∧ RelV v u ∧ Dp X.K H v (enc b)) its bs := e1
  refine wpAny_bind (wpAny_holding (PySem.W.list_sort_data (enc := enc) (s := { s with heap := h1.push (seqObj "list" its.toArray 0) }) hoL e3 er (PySem.W.AllAlike.of hal) hso (by omega) (fun b _ => by have := hdp b; show X.A.units + 1 + 1 + (enc b).depth < cLine; omega) fun out2 h2 e2 => ?_))
  obtain ⟨ys, rys, pys⟩ := of_each (F := F) (fun u b ⟨v, m, r, d⟩ => ⟨v, r, m⟩) e2
  obtain ⟨c, hc2⟩ := sortedHeap_at (vs := its) (out := out2.toArray) hoL
  have hold : ∀ b u, h1.get? b = some u → (sortedHeap (h1.push (seqObj "list" its.toArray 0)) h1.objs.size its out2.toArray).get? b = some u := fun b u e => by
    have lt := Heap.lt_size e
    exact (sortedHeap_old (Nat.ne_of_lt lt) (by rw [Heap.size_push]; exact Nat.lt_succ_of_lt lt)).trans (Heap.get?_push_of_some _ e)
  have hly : ys.length ≤ sizeLine := by rw [rys.length, h2, hlen]; omega
  refine wpAny_pure ⟨_, rfl, .ref h1.objs.size, upd H h1.objs.size (.lst ys), I1.laid (t' := s.toks) hold (Nat.le_refl _) ⟨hly, out2, c, rys, hc2⟩, rfl, q ys _ pys (I1.hok.fresh (Nat.le_refl _))⟩
end WW

set_option Elab.async false
set_option linter.all false
set_option maxRecDepth 100000
/-! Rules at a fragment that is told (for blocks of comprehensions). -/
namespace WW
open PySem PySem.Spec PyProof.Rows L2
def rTupOf (K : PySem.W.Frag) : List V → Hp → VK → Prop := fun xs H Q => ∃ p ys, xs = [.ref p] ∧ ((SqL K H p ys ∧ ∀ l, H l = none → Q (.ref l) (upd H l (.tup ys))) ∨ (SqT K H p ys ∧ Q (.ref p) H))
def rListOf (K : PySem.W.Frag) : List V → Hp → VK → Prop := fun xs H Q => ∃ p ys, xs = [.ref p] ∧ (SqL K H p ys ∨ SqT K H p ys) ∧ ∀ l, H l = none → Q (.ref l) (upd H l (.lst ys))
section
variable {X : Cx} {K : PySem.W.Frag}
theorem ixK (h : X.K = K) : IxR X (rIx K) := h ▸ ix_seq
theorem inK (h : X.K = K) : OpR X (compareOp .In) (rIn K false) := h ▸ op_in_seq
theorem notInK (h : X.K = K) : OpR X (compareOp .NotIn) (rIn K true) := h ▸ op_notIn_seq
theorem lenK (h : X.K = K) : CallR X (.builtin "len") (rLen K) := h ▸ (call_len : CallR X _ (rLen X.K))
theorem isiK (h : X.K = K) : CallR X (.builtin "isinstance") (rIsi K) := h ▸ call_isi
theorem tupOfK (h : X.K = K) : CallR X (.type "tuple") (rTupOf K) := h ▸ (call_tuple_of : CallR X _ (rTupOf X.K))
theorem listOfK (h : X.K = K) : CallR X (.type "list") (rListOf K) := h ▸ (call_list_of : CallR X _ (rListOf X.K))
theorem eqDK (h : X.K = K) (hu : X.A.units + 64 < cLine) : OpR X (compareOp .Eq) (rEqD K) := h ▸ op_eqD hu
theorem room65 {k : Nat} {A : Around} (r : Room k A) : A.units + 65 < cLine := by have := r.un; omega
end
end WW

set_option Elab.async false
set_option linter.all false
set_option maxRecDepth 100000
set_option maxHeartbeats 4000000
/-! Loops and comprehensions over anything that stays. -/
namespace WW
open PySem PySem.Spec PyProof.Rows L2 Evl
/-- whatever is laid behind H, the iterator gives xs -/
structure Steady (J : It) (H : Hp) (xs : List V) : Prop where
  go : ∀ i H', Ex H H' → i < xs.length → J.go i H'
  yld : ∀ i H' x H'', Ex H H' → i < xs.length → J.yld i H' x H'' → H'' = H' ∧ xs[i]? = some x
  stop : ∀ H', Ex H H' → J.stop xs.length H'
section
variable {K : PySem.W.Frag} {H : Hp} {a : Addr} {xs : List V}
theorem st_l (h : SqL K H a xs) : Steady (Itl K a) H xs where
  go := fun i H' e hi => ⟨xs, xs[i], ex_l e h, List.getElem?_eq_getElem hi⟩
  yld := fun i H' x H'' e _ y => ⟨y.1, y.2 xs (ex_l e h)⟩
  stop := fun H' e => ⟨xs, ex_l e h, Nat.le_refl _⟩
theorem st_t (h : SqT K H a xs) : Steady (Itt K a) H xs where
  go := fun i H' e hi => ⟨xs, xs[i], ex_t e h, List.getElem?_eq_getElem hi⟩
  yld := fun i H' x H'' e _ y => ⟨y.1, y.2 xs (ex_t e h)⟩
  stop := fun H' e => ⟨xs, ex_t e h, Nat.le_refl _⟩
def chs (z : Str) : List V := z.cps.toList.map fun c => V.str ⟨#[c]⟩
theorem chs_len (z : Str) : (chs z).length = z.length := by unfold chs; rw [List.length_map, Array.length_toList]; rfl
theorem st_s {z : Str} : Steady (Its z) H (chs z) where
  go := fun i H' e hi => by
    have h2 : (chs z).length = z.cps.size := by unfold chs; simp
    show i < z.cps.size
    omega
  yld := fun i H' x H'' e hi y => by
    obtain ⟨e1, c, hc, rfl⟩ := y
    refine ⟨e1, ?_⟩
    unfold chs
    rw [List.getElem?_map]
    have e2 : z.cps.toList[i]? = some c := by simpa using hc
    rw [e2]
    rfl
  stop := fun H' e => by
    show z.cps.size ≤ (chs z).length
    unfold chs
    simp
theorem st_r {lo : Int} {n : Nat} : Steady (Itr lo n) H ((List.range n).map fun (i : Nat) => V.int (lo + (i : Int))) where
  go := fun i H' e hi => by
    show i < n
    simpa using hi
  yld := fun i H' x H'' e hi y => by
    obtain ⟨e1, rfl⟩ := y
    refine ⟨e1, ?_⟩
    have hi2 : i < n := by simpa using hi
    rw [List.getElem?_map, List.getElem?_range hi2]
    rfl
  stop := fun H' e => by
    show n ≤ _
    simp
end
section
variable {J : It} {H : Hp} {xs : List V} {D : Addr} {σ : L2.St} {vs : List Nat} {j : Nat} {tt : TT} {te : TE} {f : V → Bool} {v : V → V} {Q : Hp → Prop}
theorem take_snoc {α : Type} {l : List α} {i : Nat} {x : α} (h : l[i]? = some x) : l.take (i + 1) = l.take i ++ [x] := by
  rw [List.take_add_one, h]
  rfl
theorem lc_ev (S : Steady J H xs) (hz : xs.length < 100000) (hw : ∀ x, wipe ((wipe σ vs).set j (some x)) vs = wipe σ vs) (hD : H D = none)
    (ht : ∀ x ∈ xs, EvT tt ((wipe σ vs).set j (some x)) H (f x)) (he : ∀ x ∈ xs, f x = true → Ev te ((wipe σ vs).set j (some x)) H (v x))
    (q : ∀ H', Ex H H' → H' D = some (.lst ((xs.filter f).map v)) → Q H') :
    ∃ W : Nat → Nat → Hp → Prop, (∃ m, W 0 m (upd H D (.lst []))) ∧ ∀ i m H, W i m H →
      (J.stop i H ∧ Q H) ∨ (J.go i H ∧ ∃ Nx : Hp → Prop, (∀ H', Nx H' → ∃ m', m' < m ∧ W (i + 1) m' H') ∧ ∀ x H', J.yld i H x H' → gName j x (wipe σ vs) H' fun σ2 H2 => wipe σ2 vs = wipe σ vs ∧ tt σ2 H2 fun b H3 =>
        if b = true then te σ2 H3 fun y H4 => ∃ acc, H4 D = some (.lst acc) ∧ acc.length < sizeLine ∧ Nx (upd H4 D (.lst (acc ++ [y]))) else Nx H3) := by
  refine ⟨fun i m H' => m = xs.length - i ∧ i ≤ xs.length ∧ Ex H H' ∧ H' D = some (.lst (((xs.take i).filter f).map v)), ⟨xs.length, by simp, Nat.zero_le _, Ex.new hD, upd_same⟩, ?_⟩
  rintro i m H' ⟨rfl, hi, e, hd⟩
  by_cases hlt : i < xs.length
  · refine .inr ⟨S.go i H' e hlt, fun H' => Ex H H' ∧ H' D = some (.lst (((xs.take (i + 1)).filter f).map v)), fun H'' p' => ⟨xs.length - (i + 1), by omega, rfl, hlt, p'⟩, fun x H'' y => ?_⟩
    obtain ⟨e1, hx⟩ := S.yld i H' x H'' e hlt y
    subst e1
    have mx : x ∈ xs := List.mem_of_getElem? hx
    refine ⟨hw x, ht x mx _ e _ fun H2 e2 => ?_⟩
    rw [take_snoc hx]
    cases hf : f x with
    | true =>
      refine he x mx hf H2 (e.trans e2) _ fun H3 e3 => ⟨_, e3 _ _ (e2 _ _ hd), ?_, (e.trans e2 |>.trans e3).mut hD, ?_⟩
      · have h1 := List.length_filter_le f (xs.take i)
        rw [List.length_map]
        have h2 : (xs.take i).length ≤ xs.length := by rw [List.length_take]; omega
        exact sz_lt (by omega)
      · rw [upd_same, List.filter_append, List.map_append]
        simp [hf]
    | false =>
      refine ⟨e.trans e2, ?_⟩
      rw [e2 _ _ hd, List.filter_append]
      simp [hf]
  · have e1 : i = xs.length := by omega
    subst e1
    rw [List.take_length] at hd
    exact .inl ⟨S.stop H' e, q H' e hd⟩
/-- {e for x in ..} of texts -/
theorem set_ev {P : Program} {w : World} {u : V → Str} (S : Steady J H xs) (hz : xs.length < 1000) (hw : ∀ x, wipe ((wipe σ vs).set j (some x)) vs = wipe σ vs) (hD : H D = none)
    (he : ∀ x ∈ xs, Ev te ((wipe σ vs).set j (some x)) H (.str (u x)))
    (q : ∀ H' ks, Ex H H' → ks.Nodup → (∀ k, k ∈ ks ↔ k ∈ xs.map u) → H' D = some (SSO P w D ks) → Q H') :
    ∃ W : Nat → Nat → Hp → Prop, (∃ m, W 0 m (upd H D (SSO P w D []))) ∧ ∀ i m H2, W i m H2 → (J.stop i H2 ∧ Q H2) ∨
    (J.go i H2 ∧ ∃ Nx : Hp → Prop, (∀ H', Nx H' → ∃ m', m' < m ∧ W (i + 1) m' H') ∧ ∀ x H', J.yld i H2 x H' → gName j x (wipe σ vs) H' fun σ3 H3 => wipe σ3 vs = wipe σ vs ∧
      tYes σ3 H3 fun b H4 => if b = true then te σ3 H4 fun y H5 => addS P w y D H5 Nx else Nx H4) := by
  refine ⟨fun i m H' => m = xs.length - i ∧ i ≤ xs.length ∧ Ex H H' ∧ ∃ ks, ks.Nodup ∧ ks.length ≤ i ∧ (∀ k, k ∈ ks ↔ k ∈ (xs.take i).map u) ∧ H' D = some (SSO P w D ks), ⟨xs.length, by simp, Nat.zero_le _, Ex.new hD, [], List.nodup_nil, Nat.le_refl _, by simp, upd_same⟩, ?_⟩
  rintro i m H' ⟨rfl, hi, e, ks, nd, hl, hm, hd⟩
  by_cases hlt : i < xs.length
  · refine .inr ⟨S.go i H' e hlt, fun H' => Ex H H' ∧ ∃ ks, ks.Nodup ∧ ks.length ≤ i + 1 ∧ (∀ k, k ∈ ks ↔ k ∈ (xs.take (i + 1)).map u) ∧ H' D = some (SSO P w D ks), fun H'' p' => ⟨xs.length - (i + 1), by omega, rfl, hlt, p'⟩, fun x H'' y => ?_⟩
    obtain ⟨e1, hx⟩ := S.yld i H' x H'' e hlt y
    subst e1
    have mx : x ∈ xs := List.mem_of_getElem? hx
    refine ⟨hw x, ?_⟩
    unfold tYes
    refine he x mx _ e _ fun H3 e3 => ?_
    refine ⟨u x, ks, rfl, e3 _ _ hd, ?_, fun ks' ad => ⟨(e.trans e3).mut hD, ks', ?_, ?_, ?_, upd_same⟩⟩
    · have : (1002 : Nat) ≤ scanBound := by decide
      omega
    · rcases ad with ⟨_, rfl⟩ | ⟨n, p⟩
      · exact nd
      · exact p.nodup_iff.mpr (List.nodup_cons.mpr ⟨n, nd⟩)
    · rcases ad with ⟨_, rfl⟩ | ⟨n, p⟩
      · omega
      · rw [p.length_eq, List.length_cons]; omega
    · intro k
      rw [take_snoc hx, List.map_append, List.mem_append, ← hm k]
      rcases ad with ⟨m, rfl⟩ | ⟨n, p⟩
      · constructor
        · exact fun z => .inl z
        · rintro (z | z)
          · exact z
          · simp at z; rw [z]; exact m
      · rw [p.mem_iff, List.mem_cons]
        constructor
        · rintro (z | z)
          · exact .inr (by simp [z])
          · exact .inl z
        · rintro (z | z)
          · exact .inr z
          · simp at z
            exact .inl z
  · have e1 : i = xs.length := by omega
    subst e1
    rw [List.take_length] at hm
    exact .inl ⟨S.stop H' e, q H' ks e nd hm hd⟩
end
/-- any for loop of n turns -/
theorem for_go {J : It} {n : Nat} {g : TG} {tb : TS} {D : Ends} {σ : L2.St} {H : Hp} (Pv : Nat → L2.St → Hp → Prop) (h0 : Pv 0 σ H) (hgo : ∀ i σ H, i < n → Pv i σ H → J.go i H) (hst : ∀ σ H, Pv n σ H → J.stop n H)
    (hs : ∀ i σ H x H', i < n → Pv i σ H → J.yld i H x H' → g x σ H' fun σ2 H2 => tb { D with nx := Pv (i + 1), ct := Pv (i + 1), bk := D.nx } σ2 H2) (hd : ∀ σ H, Pv n σ H → D.nx σ H) :
    ∃ W : Nat → Nat → L2.St → Hp → Prop, (∃ m, W 0 m σ H) ∧ ∀ i m σ H, W i m σ H →
      (J.stop i H ∧ D.nx σ H) ∨ (J.go i H ∧ ∃ N : L2.St → Hp → Prop, (∀ σ' H', N σ' H' → ∃ m', m' < m ∧ W (i + 1) m' σ' H') ∧ ∀ x H', J.yld i H x H' → g x σ H' fun σ2 H2 => tb { D with nx := N, ct := N, bk := D.nx } σ2 H2) := by
  refine ⟨fun i m σ H => m = n - i ∧ i ≤ n ∧ Pv i σ H, ⟨n, by simp, Nat.zero_le _, h0⟩, ?_⟩
  rintro i m σ H ⟨rfl, hi, p⟩
  by_cases hlt : i < n
  · refine .inr ⟨hgo i σ H hlt p, Pv (i + 1), fun σ' H' p' => ⟨n - (i + 1), by omega, rfl, hlt, p'⟩, fun x H' y => hs i σ H x H' hlt p y⟩
  · have e : i = n := by omega
    subst e
    exact .inl ⟨hst σ H p, hd σ H p⟩
end WW
namespace WW
open PySem PySem.Spec PyProof.Rows L2 Evl
/-- whatever is laid behind H, enumerate gives xs -/
structure EnumS (J : It) (H : Hp) (xs : List V) : Prop where
  go : ∀ i H', Ex H H' → i < xs.length → J.go i H'
  yld : ∀ i H' v H'', Ex H H' → i < xs.length → J.yld i H' v H'' → ∃ T x, v = .ref T ∧ H' T = none ∧ H'' = upd H' T (.tup [.int (i : Nat), x]) ∧ xs[i]? = some x
  stop : ∀ H', Ex H H' → J.stop xs.length H'
section
variable {K : PySem.W.Frag} {H : Hp} {a : Addr} {xs : List V}
theorem en_l (h : SqL K H a xs) : EnumS (Ite K a) H xs where
  go := fun i H' e hi => ⟨xs, xs[i], ex_l e h, List.getElem?_eq_getElem hi⟩
  yld := fun i H' v H'' e _ ⟨T, x, e1, e2, e3, e4⟩ => ⟨T, x, e1, e2, e3, e4 xs (ex_l e h)⟩
  stop := fun H' e => ⟨xs, ex_l e h, Nat.le_refl _⟩
theorem en_t (h : SqT K H a xs) : EnumS (IteT K a) H xs where
  go := fun i H' e hi => ⟨xs, xs[i], ex_t e h, List.getElem?_eq_getElem hi⟩
  yld := fun i H' v H'' e _ ⟨T, x, e1, e2, e3, e4⟩ => ⟨T, x, e1, e2, e3, e4 xs (ex_t e h)⟩
  stop := fun H' e => ⟨xs, ex_t e h, rfl⟩
/-- a list or a tuple -/
def SqX (H : Hp) (a : Addr) (xs : List V) : Prop := H a = some (.lst xs) ∨ H a = some (.tup xs)
theorem SqX.ex {H H' : Hp} (e : Ex H H') (h : SqX H a xs) : SqX H' a xs := h.imp (e _ _) (e _ _)
theorem ienum_go {σ : L2.St} {i : Nat} {R : It → Hp → Prop} (h : σ[i]? = some (some (.ref a))) (hx : SqX H a xs) (k : ∀ J, EnumS J H xs → R J H) : iOr (iEnum K (tCons (tVar i) tNil)) (iEnumT K (tCons (tVar i) tNil)) σ H R := by
  rcases hx with hx | hx
  · exact .inl ⟨_, h, a, xs, rfl, sq_of hx, k _ (en_l (sq_of hx))⟩
  · exact .inr ⟨_, h, a, xs, rfl, st_of hx, k _ (en_t (st_of hx))⟩
theorem iseq_go {σ : L2.St} {i : Nat} {R : It → Hp → Prop} (h : σ[i]? = some (some (.ref a))) (hx : SqX H a xs) (k : ∀ J, Steady J H xs → R J H) : iOr (iList K (tVar i)) (iTup K (tVar i)) σ H R := by
  rcases hx with hx | hx
  · exact .inl ⟨_, h, a, rfl, ⟨xs, sq_of hx⟩, k _ (st_l (sq_of hx))⟩
  · exact .inr ⟨_, h, a, rfl, ⟨xs, st_of hx⟩, k _ (st_t (st_of hx))⟩
theorem cut_take (xs : List V) (i : Nat) : cutV xs none (some (i : Int)) = xs.take i := by
  unfold cutV
  rw [HT.sIx_none, HT.sIx_nat]
  simp
theorem cut_drop (xs : List V) (i : Nat) : cutV xs (some (i : Int)) none = xs.drop i := by
  unfold cutV
  rw [HT.sIx_none, HT.sIx_nat]
  rcases Nat.le_total i xs.length with h | h
  · rw [Nat.min_eq_left h, List.take_of_length_le (by rw [List.length_drop]; omega)]
  · rw [Nat.min_eq_right h, List.drop_of_length_le h]
    simp
/-- xs[:i] -/
theorem slx_take {i : Nat} {Q : VK} (hx : SqX H a xs) (hi : i ≤ xs.length) (k : ∀ p H', Ex H H' → SqX H' p (xs.take i) → Q (.ref p) H') : rSlL K (.ref a) none (some (i : Int)) H Q ∨ rSlA K (.ref a) none (some (i : Int)) H Q := by
  rcases hx with hx | hx
  · exact .inl ⟨a, xs, rfl, sq_of hx, fun p hp => k p _ (Ex.new hp) (by rw [cut_take]; exact .inl upd_same)⟩
  · refine .inr ⟨a, xs, rfl, st_of hx, fun ⟨_, h2⟩ => k a H (Ex.refl _) (.inr ?_), fun _ p hp => k p _ (Ex.new hp) (by rw [cut_take]; exact .inr upd_same)⟩
    rw [HT.sIx_nat] at h2
    have e : xs.take i = xs := List.take_of_length_le (by omega)
    rw [e]
    exact hx
theorem tupof_go {Q : VK} (hx : SqX H a xs) (k : ∀ tp H', Ex H H' → H' tp = some (.tup xs) → Q (.ref tp) H') : rTupOf K [.ref a] H Q := by
  rcases hx with hx | hx
  · exact ⟨a, xs, rfl, .inl ⟨sq_of hx, fun l hl => k l _ (Ex.new hl) upd_same⟩⟩
  · exact ⟨a, xs, rfl, .inr ⟨st_of hx, k a H (Ex.refl _) hx⟩⟩
theorem listof_go {Q : VK} (hx : SqX H a xs) (k : ∀ l H', Ex H H' → H l = none → H' l = some (.lst xs) → Q (.ref l) H') : rListOf K [.ref a] H Q :=
  ⟨a, xs, rfl, hx.imp sq_of st_of, fun l hl => k l _ (Ex.new hl) hl upd_same⟩
theorem putF_le {f : Str} {y : V} : ∀ fs : List (Str × V), (putF f y fs).length ≤ fs.length + 1
  | [] => by show 1 ≤ 1; omega
  | (g, z) :: r => by
    have ih := putF_le (f := f) (y := y) r
    unfold putF
    split
    · simp
    · simp; omega
end
end WW

set_option Elab.async false
set_option linter.all false
set_option maxRecDepth 100000
set_option maxHeartbeats 4000000
/-! set(xs), xs a list of texts. -/
namespace WW
open PySem PySem.Spec PyProof.Rows L2

section
variable {P : Program} {w : World} {κ : Type} [DecidableEq κ] {knd : PySem.KeyKind P w κ} {A : Around} {E : Value → Shared → Prop} {s : Shared}
theorem added_take {xs ks ks' : List κ} {i : Nat} {x : κ} (hx : xs[i]? = some x) (m : ∀ k, k ∈ ks ↔ k ∈ xs.take i) (l : ks.length ≤ i) (h : Added ks x ks') : ks'.length ≤ i + 1 ∧ ∀ k, k ∈ ks' ↔ k ∈ xs.take (i + 1) := by
  have et : xs.take (i + 1) = xs.take i ++ [x] := by rw [List.take_add_one, hx]; rfl
  rcases h with ⟨h1, rfl⟩ | ⟨h1, h2⟩
  · refine ⟨by omega, fun k => ?_⟩
    rw [et, List.mem_append, List.mem_singleton, ← m k]
    exact ⟨.inl, fun z => z.elim id fun e => e ▸ h1⟩
  · refine ⟨by rw [h2.length_eq, List.length_cons]; omega, fun k => ?_⟩
    rw [et, List.mem_append, List.mem_singleton, ← m k, h2.mem_iff, List.mem_cons]
    exact ⟨fun z => z.elim .inr .inl, fun z => z.elim .inr .inl⟩
/-- the walk of set(..) over things that are keys -/
theorem setw_loop {I : Addr} {fp wr : List Addr} {G : Array GenState → Array GenState → Prop} {n : Nat} {Pv : Nat → Value → Prop} {St : Nat → Shared → Prop} {R : Result → Shared → Prop}
    (W : WalksS P w A.in1 I fp wr G n Pv St) (S : Addr) (away : S ∉ fp) (xs : List κ) (hn : xs.length = n) (hb : n + 1 < scanBound) (val : ∀ i v, Pv i v → ∃ x, xs[i]? = some x ∧ knd.is x v = true ∧ v.scannable = true) :
    ∀ (k i : Nat) (s : Shared) (ks : List κ), n - i = k → i ≤ n → St i s → SetW knd s.heap S ks → ks.length ≤ i → (∀ x, x ∈ ks ↔ x ∈ xs.take i) →
      (∀ s' ls, Moved (S :: wr) G s s' → SetW knd s'.heap S ls → (∀ x, x ∈ ls ↔ x ∈ xs) → R (.ok (.ret .none)) s') → codeAny (model P w) A (.builtin "set.update.loop" ⟨[.ref S, .ref I], []⟩) R s := by
  have off : S ∉ wr := fun z => away (W.sub S z)
  have more : ∀ b ∈ wr, b ∈ S :: wr := fun b z => List.mem_cons_of_mem S z
  intro k
  induction k with
  | zero =>
    intro i s ks hk hi st hS hl hm fin
    obtain rfl : i = n := by omega
    refine codeAny_builtin F.entry_set_update_loop ?_; rw [Around.under_plainId F.plain_set_update_loop _]
    show wpAny _ A.in1 (pyNext (Value.ref I) >>= _) _ _ s
    refine wpAny_bind (W.done s _ _ st fun s1 mv => ?_); show wpAny _ A.in1 (ret Value.none) _ _ s1
    exact wpAny_pure (fin s1 ks (mv.mono more) (hS.here fun o e => mv.heap S o off e) fun x => by rw [hm x, ← hn, List.take_length])
  | succ k ih =>
    intro i s ks hk hi st hS hl hm fin
    have lt : i < n := by omega
    refine codeAny_builtin F.entry_set_update_loop ?_; rw [Around.under_plainId F.plain_set_update_loop _]
    show wpAny _ A.in1 (pyNext (Value.ref I) >>= _) _ _ s
    refine wpAny_bind (W.item i s _ _ lt st fun v s1 hv st1 mv => ?_)
    obtain ⟨x, hx, k1, k2⟩ := val i v hv
    have S1 : SetW knd s1.heap S ks := hS.here fun o e => mv.heap S o off e
    show wpAny _ A.in1 (holding [v] (setAdd S v) >>= _) _ _ s1
    refine wpAny_bind (wpAny_holding ?_); unfold setAdd
    refine wpAny_holding (wpAny_bind (knd.pyHash k1 ?_))
    refine setw_addHashed (s := { s1 with toks := s1.toks + 1 }) k1 k2 S1 (by omega) fun b h' ks' sb S2 ad => ?_
    obtain ⟨l2, m2⟩ := added_take hx hm hl ad
    refine wpAny_pure ⟨plainId_quiet F.plain_set_update_loop _, ih (i + 1) _ ks' (by omega) lt (W.frame _ s1 _ _ st1 (Nat.le_succ _) fun c hc o e => ?_) S2 l2 m2 fun s2 ls mv2 S3 m3 => ?_⟩
    · exact (sb.2 c (fun z : c = S => away (z ▸ hc))).trans e
    · refine fin s2 ls (Moved.trans W.gtrans ((mv.mono more).then_heap (Nat.le_succ _) fun c o hc e => ?_) mv2) S3 m3
      exact (sb.2 c (fun z : c = S => hc (z ▸ List.mem_cons_self))).trans e
end

section
variable {P : Program} {w : World} {κ : Type} [DecidableEq κ] {knd : PySem.KeyKind P w κ} {A : Around} {E : Value → Shared → Prop} {s : Shared}
/-- a set object with nothing in it -/
abbrev noneIn (w : World) : Obj := { cls := .type "set", dict := none, data := .set #[] 0 (.fresh 0 0 (!w.params.followText "set-order")) }
theorem setw_none {h : Heap} {a : Addr} (e : h.get? a = some (noneIn w)) : SetW knd h a [] :=
  ⟨_, #[], 0, _, e, ⟨rfl, rfl, rfl⟩, rfl, List.nodup_nil, .nil, (by decide), (by rfl), List.Pairwise.nil, by
    show _ ∨ (!w.params.followText "set-order") = true
    cases w.params.followText "set-order" <;> simp⟩
theorem setw_of_list {l : Addr} {items : Array Value} (xs : List κ) {Q : Value → Shared → Prop} (hh : A.handled = none) (hl : s.heap.IsList l items) (hn : xs.length = items.size) (hb : items.size + 1 < scanBound)
    (hit : ∀ (i : Nat) v, items[i]? = some v → ∃ x, xs[i]? = some x ∧ knd.is x v = true ∧ v.scannable = true)
    (q : ∀ (h' : Heap) (tk : Nat) ks, SetW knd h' s.heap.objs.size ks → (∀ x, x ∈ ks ↔ x ∈ xs) → (∀ b o, s.heap.get? b = some o → h'.get? b = some o) → Q (.ref s.heap.objs.size) { s with heap := h', toks := tk }) :
    wpAny (model P w) A (call (.type "set") [.ref l]) Q E s := by
  obtain ⟨cc, cr, mro⟩ := F.called_set.mro
  have mde := F.called_set.made; have sbb := F.called_set.sub
  refine wpAny_call (codeAny_of_tree ?_); show wpAny _ _ (callAny (Value.type "set") _) _ _ _
  refine wpAny_pure ⟨Code.quiet_builtin _ (by decide +kernel), codeAny_builtin F.entry_type_call ?_⟩; rw [Around.under_plain (weight_type_call_type "set" [Value.ref l] []) rfl]
  have nty := F.called_set.notType; have ccr := F.called_set.canCreate
  have tcl := F.typeCall_set_1 (Value.ref l)
  repeat (any_goals (first | wp_step | assumption))
  refine codeAny_mono (code_set_led1 (Value.ref l) (E := E) (Q₁ := fun ob s1 => ob = .ref s.heap.objs.size ∧ s1 = { s with heap := s.heap.push (noneIn w) }) ⟨rfl, rfl⟩) fun r s1 hr => ?_
  cases r with
  | error e => exact hr
  | ok fl =>
    cases fl with
    | ret ob =>
      obtain ⟨rfl, rfl⟩ := hr
      have at1 : (s.heap.push (noneIn w)).get? s.heap.objs.size = some (noneIn w) := Heap.get?_push_size _ rfl
      have ty1 : Shared.TypeIs { s with heap := s.heap.push (noneIn w) } (.ref s.heap.objs.size) "set" := ⟨_, at1, rfl⟩
      have ilk := F.called_set.init.lookup; have ibd := F.called_set.init.bind (.ref s.heap.objs.size)
      repeat (any_goals (first | wp_step | assumption))
      refine codeAny_mono (codeAny_call_builtin (R := wants (fun r s2 => r = .none ∧ ∃ h' tk ks, s2 = { s with heap := h', toks := tk } ∧ SetW knd h' s.heap.objs.size ks ∧ (∀ x, x ∈ ks ↔ x ∈ xs) ∧ ∀ b o, s.heap.get? b = some o → h'.get? b = some o) E) F.called_set.init.plain F.entry_set_init (check_set_init_1 ty1 ?_)) fun r2 s2 hr2 => ?_
      · obtain ⟨⟨cl1, dc1, da1, sl1⟩, ho1, hc1, nn1, hd1⟩ := hl
        simp only at hc1 hd1; subst hc1; subst hd1
        have ho2 : (s.heap.push (noneIn w)).get? l = some { cls := .type "list", dict := dc1, data := .seq items nn1, slots := sl1 } := Heap.get?_push_of_some _ ho1
        have nls := F.sub_list_set; have nlf := F.sub_list_frozenset
        have nld : (Value.type "list" == Value.type "dict") = false := by decide
        have il1 : (s.heap.push (noneIn w)).IsList l items := ⟨_, ho2, rfl, nn1, rfl⟩
        unfold Builtin.«set.__init__» noKeywords Builtin.Frozenset.updateFrom; generalize hgen : pyIter = itf
        wp_walk
        subst hgen
        refine wpAny_pyIter_list il1 (wpAny_bind (wpAny_runValue ?_))
        have ls : l < s.heap.objs.size := Heap.lt_size ho1
        have sz1 : (s.heap.push (noneIn w)).objs.size = s.heap.objs.size + 1 := Heap.size_push ..
        have han : A.in1.in1.in1.handled = none := by simp only [hh, Around.in1]
        have ne1 : l ≠ (s.heap.push (noneIn w)).objs.size := by rw [sz1]; exact Nat.ne_of_lt (Nat.lt_succ_of_lt ls)
        have away : s.heap.objs.size ∉ [(s.heap.push (noneIn w)).objs.size, l] := by
          rw [sz1]
          intro z
          rcases List.mem_cons.mp z with z | z
          · exact Nat.ne_of_lt (Nat.lt_succ_self _) z
          · exact Nat.ne_of_gt ls (List.mem_singleton.mp z)
        refine setw_loop (knd := knd) ((Walks.list han _ l ne1 items).toS) s.heap.objs.size away xs hn hb hit (items.size - 0) 0 _ [] (by omega) (Nat.zero_le _) ⟨⟨_, Heap.get?_push_size _ rfl, rfl, rfl⟩, (il1.push _)⟩
          (setw_none (Heap.get?_push_of_some _ at1)) (Nat.le_refl 0) (fun x => by simp) fun s3 ks mv S3 m3 => ?_
        obtain ⟨h3, g3, d3, t3, o3⟩ := s3
        obtain rfl : g3 = s.gens := mv.gens
        obtain rfl : d3 = s.drawn := mv.drawn
        obtain rfl : o3 = s.os := mv.os
        show wpAny _ _ _ _ _ _
        refine wpAny_pure ?_; show wpAny _ _ (ret Value.none) _ _ _
        refine wpAny_pure ⟨rfl, h3, t3, ks, rfl, S3, m3, fun b o e => mv.heap b o (fun z => ?_) (Heap.get?_push_of_some _ (Heap.get?_push_of_some _ e))⟩
        have lb := Heap.lt_size e
        rcases List.mem_cons.mp z with z | z
        · exact Nat.ne_of_lt lb z
        · have z2 := List.mem_singleton.mp z
          rw [sz1] at z2
          exact Nat.ne_of_lt (Nat.lt_succ_of_lt lb) z2
      · cases r2 with
        | error e => exact hr2
        | ok fl2 =>
          cases fl2 with
          | ret r =>
            obtain ⟨rfl, h3, t3, ks, rfl, S3, m3, k3⟩ := hr2
            repeat (any_goals (first | wp_step | assumption))
            exact q h3 t3 ks S3 m3 k3
          | _ => exact hr2.elim
    | _ => exact hr.elim
end
section
variable {X : Cx}
/-- set(xs), xs a list of texts -/
def rSetOfS (K : PySem.W.Frag) (P : Program) (w : World) : List V → Hp → VK → Prop := fun vs H Q => ∃ (l : Addr) (zs : List Str), vs = [V.ref l] ∧ SqL K H l (zs.map V.str) ∧ zs.length + 1 < scanBound ∧
  ∀ a ks, H a = none → ks.Nodup → (∀ x, x ∈ ks ↔ x ∈ zs) → Q (.ref a) (upd H a (SSO P w a ks))
theorem cr_setOfS (hc : X.calm = true) : CallR X (.type "set") (rSetOfS X.K X.prog X.w) := by
  intro pins s σ H xs us Q I r h
  obtain ⟨l, zs, rfl, hl, hb, q⟩ := h
  rw [Vals.ref1 r]
  obtain ⟨its, rv, pl, hz⟩ := I.list hl
  have free : H s.heap.objs.size = none := I.hok.fresh (Nat.le_refl _)
  have le : zs.length = its.toArray.size := by rw [List.size_toArray, ← rv.length, List.length_map]
  have sa : StrsAre its zs := by
    clear pl hl hz le q hb
    induction zs generalizing its with
    | nil => cases rv; exact .nil
    | cons z zs ih =>
      cases rv with
      | cons r1 r2 =>
        obtain ⟨t, rfl⟩ := r1
        exact .cons z t (ih _ r2)
  refine setw_of_list (knd := PySem.strKind X.prog X.w) zs (I.ok.hd hc) pl.isList le (by rw [← le]; exact hb) (fun i v hv => ?_) fun h' tk ks R m k => ?_
  · have hv2 : its[i]? = some v := by simpa using hv
    have li : i < zs.length := by
      have := (List.getElem?_eq_some_iff.mp hv2).1
      rw [le, List.size_toArray]
      exact this
    obtain ⟨t, rfl⟩ := SS.strs_at sa i v hv2
    refine ⟨zs.getD i Str.empty, ?_, strKind_is _ _ _ _, rfl⟩
    rw [List.getD_eq_getElem?_getD, List.getElem?_eq_getElem li]
    rfl
  · have nd : ks.Nodup := by
      obtain ⟨_, _, _, _, _, _, _, nd, _⟩ := R
      exact nd
    exact ⟨.ref s.heap.objs.size, upd H s.heap.objs.size (SSO X.prog X.w s.heap.objs.size ks), I.laid (t' := tk) k (Nat.le_refl _) (sso_new R), rfl, q _ ks free nd m⟩
end
end WW

set_option Elab.async false
set_option linter.all false
set_option maxRecDepth 100000
set_option maxHeartbeats 4000000
/-! Plain values of any kind, and what isinstance says of them. -/
namespace WW
open PySem PySem.Spec PyProof.Rows L2 Evl
inductive Pl (H : Hp) : V → Prop
  | non : Pl H .non
  | bl (b : Bool) : Pl H (.bl b)
  | int (i : Int) : Pl H (.int i)
  | str (z : Str) : Pl H (.str z)
  | lst {a : Addr} {xs : List V} (h : H a = some (.lst xs)) : Pl H (.ref a)
  | tup {a : Addr} {xs : List V} (h : H a = some (.tup xs)) : Pl H (.ref a)
  | dct {a : Addr} {kvs : List (Key × V)} (h : H a = some (.dK kvs)) : Pl H (.ref a)
def isI : V → Bool | .int _ => true | _ => false
def isB : V → Bool | .bl _ => true | _ => false
def isS : V → Bool | .str _ => true | _ => false
def isLo : Option HO → Bool | some (.lst _) => true | _ => false
def isTo : Option HO → Bool | some (.tup _) => true | _ => false
def isL (H : Hp) : V → Bool | .ref a => isLo (H a) | _ => false
def isT (H : Hp) : V → Bool | .ref a => isTo (H a) | _ => false
/-- v is of the type t, of which isinstance says .. -/
structure Kin (K : PySem.W.Frag) (H : Hp) (v : V) (t : Value) : Prop where
  ty : TyX K H v t
  int : PySem.W.kitOne K t (.type "int") = some (isI v || isB v)
  bool : PySem.W.kitOne K t (.type "bool") = some (isB v)
  str : PySem.W.kitOne K t (.type "str") = some (isS v)
  list : PySem.W.kitOne K t (.type "list") = some (isL H v)
  tuple : PySem.W.kitOne K t (.type "tuple") = some (isT H v)
theorem isL_at {H : Hp} {a : Addr} {o : HO} (h : H a = some o) : isL H (.ref a) = isLo (some o) := by rw [← h]; rfl
theorem isT_at {H : Hp} {a : Addr} {o : HO} (h : H a = some o) : isT H (.ref a) = isTo (some o) := by rw [← h]; rfl
theorem Pl.kin {K : PySem.W.Frag} {H : Hp} {v : V} (h : Pl H v) : ∃ t, Kin K H v t := by
  cases h with
  | non => exact ⟨.type "NoneType", .base .non, kit_ty (r := false) (by decide +kernel), kit_ty (r := false) (by decide +kernel), kit_ty (r := false) (by decide +kernel), kit_ty (r := false) (by decide +kernel), kit_ty (r := false) (by decide +kernel)⟩
  | bl b => exact ⟨.type "bool", .base (.bl b), kit_ty (r := true) (by decide +kernel), kit_ty (r := true) (by decide +kernel), kit_ty (r := false) (by decide +kernel), kit_ty (r := false) (by decide +kernel), kit_ty (r := false) (by decide +kernel)⟩
  | int i => exact ⟨.type "int", .base (.int i), kit_ty (r := true) (by decide +kernel), kit_ty (r := false) (by decide +kernel), kit_ty (r := false) (by decide +kernel), kit_ty (r := false) (by decide +kernel), kit_ty (r := false) (by decide +kernel)⟩
  | str z => exact ⟨.type "str", .base (.str z), kit_ty (r := false) (by decide +kernel), kit_ty (r := false) (by decide +kernel), kit_ty (r := true) (by decide +kernel), kit_ty (r := false) (by decide +kernel), kit_ty (r := false) (by decide +kernel)⟩
  | lst h => exact ⟨.type "list", .base (.lst h), kit_ty (r := false) (by decide +kernel), kit_ty (r := false) (by decide +kernel), kit_ty (r := false) (by decide +kernel), (isL_at h : isL H _ = true) ▸ kit_ty (r := true) (by decide +kernel), (isT_at h : isT H _ = false) ▸ kit_ty (r := false) (by decide +kernel)⟩
  | tup h => exact ⟨.type "tuple", .base (.tup h), kit_ty (r := false) (by decide +kernel), kit_ty (r := false) (by decide +kernel), kit_ty (r := false) (by decide +kernel), (isL_at h : isL H _ = false) ▸ kit_ty (r := false) (by decide +kernel), (isT_at h : isT H _ = true) ▸ kit_ty (r := true) (by decide +kernel)⟩
  | dct h => exact ⟨.type "dict", .base (.dK h), kit_ty (r := false) (by decide +kernel), kit_ty (r := false) (by decide +kernel), kit_ty (r := false) (by decide +kernel), (isL_at h : isL H _ = false) ▸ kit_ty (r := false) (by decide +kernel), (isT_at h : isT H _ = false) ▸ kit_ty (r := false) (by decide +kernel)⟩
theorem Pl.ex {H H' : Hp} {v : V} (e : Ex H H') (h : Pl H v) : Pl H' v := by
  cases h with
  | non => exact .non
  | bl b => exact .bl b
  | int i => exact .int i
  | str z => exact .str z
  | lst h => exact .lst (e _ _ h)
  | tup h => exact .tup (e _ _ h)
  | dct h => exact .dct (e _ _ h)
end WW

set_option Elab.async false
set_option linter.all false
set_option maxRecDepth 100000
set_option maxHeartbeats 4000000
namespace WK
open PySem PySem.Spec PyProof.Rows L2 WW Evl
def top (i : Nat) : Stmt := PySem.Challenge.pw_watchedworks_k23_sights_of_words.main.body.getD i (.Pass ⟨0, 0, 0, 0⟩)
/-- the built-in names that the program doesn't take -/
structure Gz (mg : Str → Option Value) : Prop where
  g_len : mg "len" = none
  g_isinstance : mg "isinstance" = none
  g_int : mg "int" = none
  g_bool : mg "bool" = none
  g_str : mg "str" = none
  g_list : mg "list" = none
  g_tuple : mg "tuple" = none
  g_all : mg "all" = none
  g_abs : mg "abs" = none
  g_max : mg "max" = none
  g_sorted : mg "sorted" = none
  g_range : mg "range" = none
  g_enumerate : mg "enumerate" = none
  g_set : mg "set" = none
  g_dict : mg "dict" = none
/-- a def of the module's -/
structure Df (K : PySem.W.Frag) (mg : Str → Option Value) (x : Str) (st : Stmt) (f : Addr) (fd : FuncData) (ps : List Str) : Prop where
  fn : FunD K x x (defArgs st) (defBody st) (defScope st) [] [] f fd
  at_ : mg x = some (.ref f)
  bd : Binds K fd ps []
theorem Df.callee {P : Program} {w : World} {K : PySem.W.Frag} {mg : Str → Option Value} {base : Heap} {CX : CXT} {k : Nat} {x : Str} {st : Stmt} {f : Addr} {fd : FuncData} {ps : List Str} {sp : Sp} (D : Df K mg x st f fd ps) (ok : FnOk P w K mg base CX k f fd ps sp) : Callee P w K mg base CX k x ps.length sp :=
  ⟨f, fd, ps, rfl, ok, D.at_, D.fn.kp, D.bd⟩
def IsNm (z : Str) : Prop := 1 ≤ z.length ∧ z.length ≤ 10 ∧ ∀ c ∈ z.cps.toList, 97 ≤ c ∧ c ≤ 122
/-- room for a dict -/
theorem room1 {k : Nat} {A : Around} (r : Room k A) : A.units + 1 < cLine := by have := r.un; omega
section
variable {P : Program} {w : World} {K : PySem.W.Frag} {mg : Str → Option Value} {base : Heap} {f : Addr} {fd : FuncData}
theorem not_both {v : V} (h : isI v = true) : isB v = false := by
  cases v <;> first | rfl | exact nomatch (show false = true from h)
abbrev s_is_integer : Stmt := top 12
theorem sc_is_integer : FnScope ["thing"] ["thing"] (defScope s_is_integer) := ⟨rfl, rfl, rfl, by decide +kernel, rfl, by decide +kernel, by decide +kernel⟩
def spIsIntegerG : Sp := fun vs H Q _ => ∃ v, vs = [v] ∧ Pl H v ∧ ∀ H', Ex H H' → Q (.bl (isI v)) H'
theorem okg_is_integer (G : Gz mg) (D : Df K mg "is_integer" s_is_integer f fd ["thing"]) : Callee P w K mg base CXn 1 "is_integer" 1 spIsIntegerG := by
  refine D.callee (D.fn.ok sc_is_integer (fun vs H Q E h => ?_) (fun cdv A outer s H vs Q E hr h => ⟨_, PSs.nox (pss_one (ps_ret (L2.pe_and (pe_callB (isiK (K := K) rfl) rfl G.g_isinstance (by rfl) (pa_cons (pv 0) (pa_cons (pe_bltn (v := .ty "int") rfl G.g_int (by rfl) rfl) pa_nil))) (pe_one (pe_not (pe_callB (isiK (K := K) rfl) rfl G.g_isinstance (by rfl) (pa_cons (pv 0) (pa_cons (pe_bltn (v := .ty "bool") rfl G.g_bool (by rfl) rfl) pa_nil)))))))), ?_⟩))
  · obtain ⟨i, rfl, _⟩ := h
    rfl
  · obtain ⟨v, rfl, hv, k⟩ := h
    obtain ⟨t, g⟩ := hv.kin (K := K)
    have q := k H (Ex.refl _)
    refine ⟨_, rfl, v, .ty "int", t, .type "int", isI v || isB v, rfl, .ty _, g.ty, g.int, isI v || isB v, rfl, ?_⟩
    cases hi : isI v with
    | true =>
      have hb := not_both hi
      rw [hi] at q
      exact ⟨_, rfl, v, .ty "bool", t, .type "bool", false, rfl, .ty _, g.ty, hb ▸ g.bool, false, rfl, q⟩
    | false =>
      rw [hi] at q
      cases hb : isB v with
      | true => exact ⟨_, rfl, v, .ty "bool", t, .type "bool", true, rfl, .ty _, g.ty, hb ▸ g.bool, true, rfl, q⟩
      | false => exact q
abbrev s_is_row : Stmt := top 13
theorem sc_is_row : FnScope ["thing"] ["thing"] (defScope s_is_row) := ⟨rfl, rfl, rfl, by decide +kernel, rfl, by decide +kernel, by decide +kernel⟩
def spIsRowG : Sp := fun vs H Q _ => ∃ v, vs = [v] ∧ Pl H v ∧ ∀ H', Ex H H' → Q (.bl (isL H v || isT H v)) H'
theorem okg_is_row (G : Gz mg) (D : Df K mg "is_row" s_is_row f fd ["thing"]) : Callee P w K mg base CXn 1 "is_row" 1 spIsRowG := by
  refine D.callee (D.fn.ok sc_is_row (fun vs H Q E h => ?_) (fun cdv A outer s H vs Q E hr h => ⟨_, PSs.nox (pss_one (ps_ret (pe_callB call_isiT rfl G.g_isinstance (by rfl) (pa_cons (pv 0) (pa_cons (pe_tup (pa_cons (pe_bltn (v := .ty "list") rfl G.g_list (by rfl) rfl) (pa_cons (pe_bltn (v := .ty "tuple") rfl G.g_tuple (by rfl) rfl) pa_nil))) pa_nil))))), ?_⟩))
  · obtain ⟨i, rfl, _⟩ := h
    rfl
  · obtain ⟨v, rfl, hv, k⟩ := h
    refine ⟨_, rfl, (by decide), fun p hp => ?_⟩
    have e1 : Ex H (upd H p (.tup [.ty "list", .ty "tuple"])) := Ex.new hp
    obtain ⟨t, g⟩ := (hv.ex e1).kin (K := K)
    have q := k _ e1
    have same : isL (upd H p (.tup [.ty "list", .ty "tuple"])) v = isL H v ∧ isT (upd H p (.tup [.ty "list", .ty "tuple"])) v = isT H v := by
      cases hv with
      | lst h => exact ⟨(isL_at (e1 _ _ h)).trans (isL_at h).symm, (isT_at (e1 _ _ h)).trans (isT_at h).symm⟩
      | tup h => exact ⟨(isL_at (e1 _ _ h)).trans (isL_at h).symm, (isT_at (e1 _ _ h)).trans (isT_at h).symm⟩
      | dct h => exact ⟨(isL_at (e1 _ _ h)).trans (isL_at h).symm, (isT_at (e1 _ _ h)).trans (isT_at h).symm⟩
      | _ => exact ⟨rfl, rfl⟩
    rw [← same.1, ← same.2] at q
    exact ⟨v, p, _, t, [.type "list", .type "tuple"], _, rfl, upd_same, .cons (.ty _) (.cons (.ty _) .nil), g.ty,
      kitAny_cons g.list (fun z => by rw [z]; exact kitAny_cons g.tuple (fun z2 => by rw [z2]; rfl) (fun z2 => by rw [z2]; rfl)) (fun z => by rw [z]; rfl), q⟩
/-- how many items the row v has -/
def rlo : Option HO → Option Nat | some (.lst xs) => some xs.length | some (.tup xs) => some xs.length | _ => none
def rlen (H : Hp) : V → Option Nat | .ref a => rlo (H a) | _ => none
theorem rlen_at {H : Hp} {a : Addr} {o : HO} (h : H a = some o) : rlen H (.ref a) = rlo (some o) := by rw [← h]; rfl
def rowB (H : Hp) (v : V) (l m : Int) : Bool := match rlen H v with
  | some n => decide (l ≤ (n : Int)) && decide ((n : Int) ≤ m)
  | none => false
abbrev s_is_row_of : Stmt := top 14
theorem sc_is_row_of : FnScope ["thing", "least", "most"] ["thing", "least", "most"] (defScope s_is_row_of) := ⟨rfl, rfl, rfl, by decide +kernel, rfl, by decide +kernel, by decide +kernel⟩
def spIsRowOfG : Sp := fun vs H Q _ => ∃ v l m, vs = [v, .int l, .int m] ∧ Pl H v ∧ ∀ H', Ex H H' → Q (.bl (rowB H v l m)) H'
theorem okg_is_row_of (G : Gz mg) (D : Df K mg "is_row_of" s_is_row_of f fd ["thing", "least", "most"]) (c_is_row : Callee P w K mg base CXn 1 "is_row" 1 spIsRowG) : Callee P w K mg base CXn 2 "is_row_of" 3 spIsRowOfG := by
  refine D.callee (D.fn.ok sc_is_row_of (fun vs H Q E h => ?_) (fun cdv A outer s H vs Q E hr h => ⟨_, PSs.nox (pss_one (ps_ret (L2.pe_and (pe_cl (E := En) c_is_row (hr.mono (by decide)) rfl passN (pa_cons (pv 0) pa_nil)) (pe_one (pe_chain op_le op_le (pv 1) (pe_callB (lenK (K := K) rfl) rfl G.g_len PySem.boot_len (pa_cons (pv 0) pa_nil)) (pv 2)))))), ?_⟩))
  · obtain ⟨i, _, _, rfl, _⟩ := h
    rfl
  · obtain ⟨v, l, m, rfl, hv, k⟩ := h
    refine ⟨_, rfl, v, rfl, hv, fun H1 e1 => ⟨_, rfl, ?_⟩⟩
    have q := k H1 e1
    cases hv with
    | lst h =>
      rename_i a xs
      have e : rowB H (.ref a) l m = (decide (l ≤ (xs.length : Int)) && decide ((xs.length : Int) ≤ m)) := by unfold rowB; rw [rlen_at h]; rfl
      rw [e] at q
      rw [show (isL H (.ref a) || isT H (.ref a)) = true by rw [show isL H (.ref a) = true from isL_at h]; rfl]
      have hx1 : LenV K (.ref a) H1 xs.length := .inl ⟨xs, sq_of (e1 _ _ h), rfl⟩
      refine ⟨_, rfl, _, rfl, _, _, rfl, hx1, l, _, rfl, rfl, decide (l ≤ (xs.length : Int)), rfl, ?_⟩
      cases hd : decide (l ≤ (xs.length : Int)) with
      | false =>
        rw [hd] at q
        exact q
      | true =>
        rw [hd] at q
        exact ⟨_, rfl, _, _, rfl, rfl, q⟩
    | tup h =>
      rename_i a xs
      have e : rowB H (.ref a) l m = (decide (l ≤ (xs.length : Int)) && decide ((xs.length : Int) ≤ m)) := by unfold rowB; rw [rlen_at h]; rfl
      rw [e] at q
      rw [show (isL H (.ref a) || isT H (.ref a)) = true by rw [show isL H (.ref a) = false from isL_at h, show isT H (.ref a) = true from isT_at h]; rfl]
      have hx1 : LenV K (.ref a) H1 xs.length := .inr ⟨xs, st_of (e1 _ _ h), rfl⟩
      refine ⟨_, rfl, _, rfl, _, _, rfl, hx1, l, _, rfl, rfl, decide (l ≤ (xs.length : Int)), rfl, ?_⟩
      cases hd : decide (l ≤ (xs.length : Int)) with
      | false =>
        rw [hd] at q
        exact q
      | true =>
        rw [hd] at q
        exact ⟨_, rfl, _, _, rfl, rfl, q⟩
    | dct h =>
      rename_i a kvs
      have e : rowB H (.ref a) l m = false := by unfold rowB; rw [rlen_at h]; rfl
      rw [e] at q
      rw [show (isL H (.ref a) || isT H (.ref a)) = false by rw [show isL H (.ref a) = false from isL_at h, show isT H (.ref a) = false from isT_at h]; rfl]
      exact q
    | _ => exact q
def ltB (c : Nat) : Bool := decide (97 ≤ c) && decide (c ≤ 122)
def nmB : V → Bool
  | .str z => decide (1 ≤ (z.length : Int)) && (decide ((z.length : Int) ≤ 10) && z.cps.toList.all fun c => ltB c)
  | _ => false
theorem nmB_str (z : Str) : nmB (.str z) = (decide (1 ≤ (z.length : Int)) && (decide ((z.length : Int) ≤ 10) && z.cps.toList.all fun c => ltB c)) := rfl
/-- a letter of a text -/
def chB : V → Bool
  | .str z => z.cps.toList.all fun c => ltB c
  | _ => true
abbrev s_is_name : Stmt := top 15
theorem sc_is_name : FnScope ["thing", "letter"] ["thing"] (defScope s_is_name) := ⟨rfl, rfl, rfl, by decide +kernel, rfl, by decide +kernel, by decide +kernel⟩
def spIsNameG : Sp := fun vs H Q _ => ∃ v, vs = [v] ∧ Pl H v ∧ (∀ z, v = .str z → z.length ≤ 1000) ∧ ∀ H', Ex H H' → Q (.bl (nmB v)) H'
theorem okg_is_name (G : Gz mg) (gc : ∃ t, mg "MOST_LETTERS" = some (.int 10 t)) (D : Df K mg "is_name" s_is_name f fd ["thing"]) : Callee P w K mg base CXn 1 "is_name" 1 spIsNameG := by
  obtain ⟨tc, g_MOST_LETTERS⟩ := gc
  have r_MOST_LETTERS : RelV (.int 10) (.int 10 tc) := ⟨_, rfl⟩
  refine D.callee (D.fn.ok sc_is_name (fun vs H Q E h => ?_) (fun cdv A outer s H vs Q E hr h => ⟨_, PSs.nox (pss_cons (ps_if (PW.pt (pw_or (pt_not (pt_val (pe_callB (isiK (K := K) rfl) rfl G.g_isinstance (by rfl) (pa_cons (pv 0) (pa_cons (pe_bltn (v := .ty "str") rfl G.g_str (by rfl) rfl) pa_nil))))) (pw_or1 (pt_not (pt_chain op_le op_le pe_int (pe_callB (lenK (K := K) rfl) rfl G.g_len PySem.boot_len (pa_cons (pv 0) pa_nil)) (pe_glob rfl g_MOST_LETTERS r_MOST_LETTERS)))))) (pss_one (ps_ret pe_bl)) pss_nil) (pss_one (ps_ret (pe_callB (cr_all rfl) rfl G.g_all (by rfl) (pa_cons (pe_lc (own := [("letter", 1)]) rfl sc_is_name.nd (pi_str (pv 0)) (BlkOk.mk (N := ["thing", "letter"]) (sc := defScope s_is_name) rfl (by decide +kernel) (by decide +kernel) (by decide +kernel) (by decide +kernel)) (fun _ _ _ _ _ => (pg_name (i := 1) sc_is_name.nd rfl (Or.inl rfl))) (fun _ _ _ _ _ => pts_nil) (fun _ _ _ _ _ => (pe_chain op_le_str op_le_str pe_str (pv 1) pe_str))) pa_nil))))), ?_⟩))
  · obtain ⟨i, rfl, _⟩ := h
    rfl
  · obtain ⟨v, rfl, hv, hz, k⟩ := h
    obtain ⟨t, g⟩ := hv.kin (K := K)
    refine ⟨_, rfl, v, .ty "str", t, .type "str", isS v, rfl, .ty _, g.ty, g.str, isS v, rfl, ?_⟩
    have q0 := k H (Ex.refl _)
    cases v with
    | str z =>
      have hl : LenV K (.str z) H z.length := ⟨Nat.le_trans (hz z rfl) (by decide), rfl⟩
      refine iteF ⟨_, rfl, .str z, z.length, rfl, hl, 1, (z.length : Int), rfl, rfl, decide ((1 : Int) ≤ (z.length : Int)), rfl, ?_⟩
      cases h1 : decide ((1 : Int) ≤ (z.length : Int)) with
      | false =>
        have e : nmB (.str z) = false := by rw [nmB_str, h1]; rfl
        rw [e] at q0
        exact ⟨false, rfl, iteT q0⟩
      | true =>
        refine ⟨(z.length : Int), 10, rfl, rfl, decide ((z.length : Int) ≤ 10), rfl, ?_⟩
        cases h2 : decide ((z.length : Int) ≤ 10) with
        | false =>
          have e : nmB (.str z) = false := by rw [nmB_str, h1, h2]; rfl
          rw [e] at q0
          exact iteT q0
        | true =>
          have e : nmB (.str z) = z.cps.toList.all fun c => ltB c := by rw [nmB_str, h1, h2]; rfl
          rw [e] at k
          refine iteF ?_
          refine ⟨.str z, rfl, z, rfl, fun D hD => ?_⟩
          refine lc_ev (f := fun _ => true) (v := fun x => .bl (chB x)) st_s (by rw [chs_len]; have := hz z rfl; omega) (fun x => rfl) hD (fun x _ H1 e Q q => q H1 (Ex.refl _)) (fun x hx _ H1 e Q q => ?_) (fun H' e hd => ?_)
          · obtain ⟨c, hm, rfl⟩ : ∃ c, c ∈ z.cps.toList ∧ V.str ⟨#[c]⟩ = x := by unfold chs at hx; simpa using hx
            have q1 := q H1 (Ex.refl _)
            have ec : chB (.str ⟨#[c]⟩) = ltB c := by show ([c].all fun c => ltB c) = _; simp
            rw [ec] at q1
            refine ⟨_, rfl, (Str.ofString "a"), ⟨#[c]⟩, rfl, rfl, _, rfl, ?_⟩
            have e1 : (!decide ((⟨#[c]⟩ : Str).cps.toList < (Str.ofString "a").cps.toList)) = decide (97 ≤ c) := by
              have : (Str.ofString "a").cps.toList = [97] := by decide +kernel
              rw [this]
              rw [Bool.eq_iff_iff]
              simp [List.cons_lt_cons_iff]
            have e2 : (!decide ((Str.ofString "z").cps.toList < (⟨#[c]⟩ : Str).cps.toList)) = decide (c ≤ 122) := by
              have : (Str.ofString "z").cps.toList = [122] := by decide +kernel
              rw [this]
              rw [Bool.eq_iff_iff]
              simp [List.cons_lt_cons_iff]
            rw [e1]
            cases h3 : decide (97 ≤ c) with
            | false =>
              have e4 : ltB c = false := by unfold ltB; rw [h3]; rfl
              rw [e4] at q1
              exact q1
            | true =>
              have e4 : ltB c = decide (c ≤ 122) := by unfold ltB; rw [h3]; rfl
              rw [e4] at q1
              refine ⟨⟨#[c]⟩, (Str.ofString "z"), rfl, rfl, ?_⟩
              rw [e2]
              exact q1
          · refine ⟨D, (chs z).map chB, rfl, sq_of ?_, ?_⟩
            · rw [hd, List.filter_eq_self.mpr (fun _ _ => rfl), List.map_map]
              rfl
            · have e3 : ((chs z).map chB).all id = z.cps.toList.all fun c => ltB c := by
                unfold chs
                rw [List.map_map, List.all_map]
                congr 1
                funext c
                show ([c].all fun c => ltB c) = _
                simp
              rw [e3]
              exact k H' e
    | _ => exact iteT q0
end
end WK

set_option Elab.async false
set_option linter.all false
set_option maxRecDepth 100000
set_option maxHeartbeats 4000000
namespace WK
open PySem PySem.Spec PyProof.Rows L2 WW Evl
/-- the pool stands at p -/
def Pool (H : Hp) (p : Addr) : Prop := ∃ (g s : Addr) (n k : Int) (gs ss : List Int), H p = some (.lst [.ref g, .ref s, .int n, .int k]) ∧ g ≠ p ∧ s ≠ p ∧ 0 ≤ n ∧ 0 ≤ k ∧
  H g = some (.lst (gs.map V.int)) ∧ (∀ x ∈ gs, 0 ≤ x) ∧ gs.length ≤ 63 ∧ H s = some (.lst (ss.map V.int)) ∧ (∀ x ∈ ss, 0 ≤ x ∧ x < 1000003) ∧ ss.length ≤ 63
/-- all but the pool is kept -/
def K0 (p : Addr) (H H' : Hp) : Prop := ∀ b o, b ≠ p → H b = some o → H' b = some o
/-- b is no part of the pool -/
def Apart (H : Hp) (p b : Addr) : Prop := ∀ (g s : Addr) (n k : V), H p = some (.lst [.ref g, .ref s, n, k]) → g ≠ b ∧ s ≠ b
structure Kp (p : Addr) (H H' : Hp) : Prop where
  k : K0 p H H'
  a : ∀ b, b ≠ p → H b ≠ none → Apart H p b → Apart H' p b
theorem K0.refl (p : Addr) (H : Hp) : K0 p H H := fun _ _ _ h => h
theorem K0.trans {p : Addr} {H H1 H2 : Hp} (a : K0 p H H1) (b : K0 p H1 H2) : K0 p H H2 := fun c o n h => b c o n (a c o n h)
theorem K0.ex {p : Addr} {H H' : Hp} (e : Ex H H') : K0 p H H' := fun b o _ h => e b o h
theorem K0.new {p l : Addr} {o : HO} {H H' : Hp} (a : K0 p H H') (hl : H' l = none) : K0 p H (upd H' l o) := a.trans (K0.ex (Ex.new hl))
theorem K0.put {p : Addr} {o : HO} {H H' : Hp} (a : K0 p H H') : K0 p H (upd H' p o) := fun b u n h => by
  rw [upd_ne n]
  exact a b u n h
theorem some_ne {α : Type} {o : Option α} {x : α} (h : o = some x) : o ≠ none := fun z => by rw [h] at z; cases z
theorem Kp.refl (p : Addr) (H : Hp) : Kp p H H := ⟨K0.refl p H, fun _ _ _ h => h⟩
theorem Kp.trans {p : Addr} {H H1 H2 : Hp} (a : Kp p H H1) (b : Kp p H1 H2) : Kp p H H2 := ⟨a.k.trans b.k, fun c n h x => b.a c n (by
  cases e : H c with
  | none => exact absurd e h
  | some o => exact some_ne (a.k c o n e)) (a.a c n h x)⟩
theorem Pool.here {H : Hp} {p : Addr} (h : Pool H p) : H p ≠ none := by
  obtain ⟨g, s, n, k, gs, ss, h1, _⟩ := h
  exact some_ne h1
theorem Kp.ex {p : Addr} {H H' : Hp} (e : Ex H H') (hp : Pool H p) : Kp p H H' := ⟨K0.ex e, fun b n hb x g s n k h => by
  obtain ⟨g0, s0, n0, k0, gs, ss, h1, _⟩ := hp
  have h2 := e _ _ h1
  rw [h] at h2
  cases h2
  exact x _ _ _ _ h1⟩
theorem Kp.of {p g s g' : Addr} {n k n' k' : V} {H H' : Hp} (h1 : K0 p H H') (hp : H p = some (.lst [.ref g, .ref s, n, k])) (hp' : H' p = some (.lst [.ref g', .ref s, n', k'])) (hg : g' = g ∨ H g' = none) : Kp p H H' := ⟨h1, fun b nb hb x g2 s2 n2 k2 h => by
  rw [hp'] at h
  cases h
  obtain ⟨a1, a2⟩ := x _ _ _ _ hp
  refine ⟨?_, a2⟩
  rcases hg with rfl | hg
  · exact a1
  · intro z
    rw [← z] at hb
    exact hb hg⟩
theorem Kp.new {p l : Addr} {o : HO} {H H' : Hp} (a : Kp p H H') (hP : Pool H' p) (hl : H' l = none) : Kp p H (upd H' l o) := a.trans (Kp.ex (Ex.new hl) hP)
/-- a thing that came behind H changes -/
theorem Kp.mut {p D : Addr} {o : HO} {H H' : Hp} (a : Kp p H H') (hD : H D = none) (nD : D ≠ p) : Kp p H (upd H' D o) := ⟨fun b u n h => by
    rw [upd_ne (ne_of_none h hD)]
    exact a.k b u n h, fun b nb hb x g s n k h => by
    rw [upd_ne nD.symm] at h
    exact a.a b nb hb x g s n k h⟩
theorem Pool.ex {p : Addr} {H H' : Hp} (e : Ex H H') (h : Pool H p) : Pool H' p := by
  obtain ⟨g, s, n, k, gs, ss, h1, h2, h3, h4, h5, h6, h7, h8, h9, h10, h11⟩ := h
  exact ⟨g, s, n, k, gs, ss, e _ _ h1, h2, h3, h4, h5, e _ _ h6, h7, h8, e _ _ h9, h10, h11⟩
theorem Pool.mut {p D : Addr} {o : HO} {H : Hp} (h : Pool H p) (nD : D ≠ p) (x : Apart H p D) : Pool (upd H D o) p := by
  obtain ⟨g, s, n, k, gs, ss, h1, h2, h3, h4, h5, h6, h7, h8, h9, h10, h11⟩ := h
  obtain ⟨a1, a2⟩ := x _ _ _ _ h1
  exact ⟨g, s, n, k, gs, ss, by rw [upd_ne nD.symm]; exact h1, h2, h3, h4, h5, by rw [upd_ne a1]; exact h6, h7, h8, by rw [upd_ne a2]; exact h9, h10, h11⟩
/-- what is new is no part of the pool -/
theorem Apart.new {p D : Addr} {o : HO} {H : Hp} (h : Pool H p) (hD : H D = none) : D ≠ p ∧ Apart (upd H D o) p D := by
  obtain ⟨g, s, n, k, gs, ss, h1, h2, h3, h4, h5, h6, h7, h8, h9, h10, h11⟩ := h
  have nD : p ≠ D := ne_of_none h1 hD
  refine ⟨nD.symm, fun g2 s2 n2 k2 e => ?_⟩
  rw [upd_ne nD, h1] at e
  cases e
  exact ⟨ne_of_none h6 hD, ne_of_none h9 hD⟩
theorem Apart.mut {p D b : Addr} {o : HO} {H : Hp} (nD : D ≠ p) (x : Apart H p b) : Apart (upd H D o) p b := fun g s n k h => by
  rw [upd_ne nD.symm] at h
  exact x g s n k h
/-- what is free behind was free before -/
theorem Kp.free {p D : Addr} {H H' : Hp} (a : Kp p H H') (h : Pool H' p) (hD : H' D = none) : H D = none ∧ D ≠ p := by
  have nD : D ≠ p := fun z => h.here (z ▸ hD)
  refine ⟨?_, nD⟩
  cases e : H D with
  | none => rfl
  | some o =>
    rw [a.k D o nD e] at hD
    cases hD
def absV : V → V
  | .int i => .int (if i < 0 then -i else i)
  | v => v
def geV : V → Bool
  | .int i => decide ((10 : Int) ^ 18 ≤ i)
  | _ => false
def ltV : V → Bool
  | .int i => decide (i < (10 : Int) ^ 18)
  | _ => false
def modV : V → V
  | .int i => .int (i % 1000003)
  | v => v
section
variable {P : Program} {w : World} {K : PySem.W.Frag} {mg : Str → Option Value} {base : Heap} {f : Addr} {fd : FuncData}
abbrev s__law_pool : Stmt := top 40
theorem sc__law_pool : FnScope ["_law_script", "_law_cells", "_law_cell", "_law_great", "_law_small"] ["_law_script"] (defScope s__law_pool) := ⟨rfl, rfl, rfl, by decide +kernel, rfl, by decide +kernel, by decide +kernel⟩
def spPool (K : PySem.W.Frag) : Sp := fun vs H Q _ => ∃ (a : Addr) (ns : List Int), vs = [.ref a] ∧ SqL K H a (ns.map V.int) ∧ ∀ p H', Ex H H' → H p = none → Pool H' p → Q (.ref p) H'
theorem ok_pool (G : Gz mg) (D : Df K mg "_law_pool" s__law_pool f fd ["_law_script"]) : Callee P w K mg base CXn 1 "_law_pool" 1 (spPool K) := by
  refine D.callee (D.fn.ok sc__law_pool (fun vs H Q E h => ?_) (fun cdv A outer s H vs Q E hr h => ⟨_, PSs.nox (pss_cons (ps_setLc (i := 1) (y := "_law_cells") (own := [("_law_cell", 2)]) rfl sc__law_pool.nd rfl rfl rfl (pi_list (pe_slice sl_list (pv 0) po_none (po_some pe_int))) (BlkOk.mk (N := ["_law_script", "_law_cells", "_law_cell", "_law_great", "_law_small"]) (sc := defScope s__law_pool) rfl (by decide +kernel) (by decide +kernel) (by decide +kernel) (by decide +kernel)) (fun _ _ _ _ _ => (pg_name (i := 2) sc__law_pool.nd rfl (Or.inl rfl))) (fun _ _ _ _ _ => pts_nil) (fun _ _ _ _ _ => (pe_callB call_abs rfl G.g_abs (by rfl) (pa_cons (pe_callTy call_int1 rfl G.g_int (by rfl) (pa_cons (pv 2) pa_nil)) pa_nil)))) (pss_cons (ps_setLc (i := 3) (y := "_law_great") (own := [("_law_cell", 2)]) rfl sc__law_pool.nd rfl rfl rfl (pi_list (pv 1)) (BlkOk.mk (N := ["_law_script", "_law_cells", "_law_cell", "_law_great", "_law_small"]) (sc := defScope s__law_pool) rfl (by decide +kernel) (by decide +kernel) (by decide +kernel) (by decide +kernel)) (fun _ _ _ _ _ => (pg_name (i := 2) sc__law_pool.nd rfl (Or.inl rfl))) (fun _ _ _ _ _ => (pts_one (pt_cmpR op_ge (pv 2) (pe_op op_pow pe_int pe_int) (nomark _)))) (fun _ _ _ _ _ => (pv 2))) (pss_cons (ps_setLc (i := 4) (y := "_law_small") (own := [("_law_cell", 2)]) rfl sc__law_pool.nd rfl rfl rfl (pi_list (pv 1)) (BlkOk.mk (N := ["_law_script", "_law_cells", "_law_cell", "_law_great", "_law_small"]) (sc := defScope s__law_pool) rfl (by decide +kernel) (by decide +kernel) (by decide +kernel) (by decide +kernel)) (fun _ _ _ _ _ => (pg_name (i := 2) sc__law_pool.nd rfl (Or.inl rfl))) (fun _ _ _ _ _ => (pts_one (pt_cmpR op_lt (pv 2) (pe_op op_pow pe_int pe_int) (nomark _)))) (fun _ _ _ _ _ => (pe_op op_mod (pe_callTy call_int1 rfl G.g_int (by rfl) (pa_cons (pv 2) pa_nil)) pe_int))) (pss_one (ps_ret (pe_lst (pa_cons (pv 3) (pa_cons (pv 4) (pa_cons pe_int (pa_cons pe_int pa_nil)))))))))), ?_⟩))
  · obtain ⟨_, _, rfl, _⟩ := h
    rfl
  · obtain ⟨a, ns, rfl, hS, k⟩ := h
    refine ⟨.ref a, rfl, 63, rfl, a, _, rfl, hS, fun p hp => ⟨p, rfl, ⟨_, sq_of upd_same⟩, fun D hD => ?_⟩⟩
    have ec : cutV (ns.map V.int) none (some 63) = (ns.take 63).map V.int := by
      have e := cut_take (ns.map V.int) 63
      rw [← List.map_take] at e
      exact e
    rw [ec] at hD ⊢
    have l63 : ((ns.take 63).map V.int).length ≤ 63 := by rw [List.length_map, List.length_take]; omega
    refine lc_ev (f := fun _ => true) (v := absV) (st_l (sq_of upd_same)) (by omega) (fun x => rfl) hD (fun x _ H1 e Q q => q H1 (Ex.refl _)) (fun x hx _ H1 e Q q => ?_) (fun H1 e1 hd1 => ?_)
    · obtain ⟨i, _, rfl⟩ := List.mem_map.mp hx
      exact ⟨_, rfl, .inl ⟨i, rfl, i, rfl, q H1 (Ex.refl _)⟩⟩
    generalize hcs : (ns.take 63).map (fun i : Int => if i < 0 then -i else i) = cs
    have d1 : H1 D = some (.lst (cs.map V.int)) := by
      rw [hd1, List.filter_eq_self.mpr (fun _ _ => rfl), ← hcs, List.map_map, List.map_map]
      rfl
    have lcs : cs.length ≤ 63 := by rw [← hcs, List.length_map, List.length_take]; omega
    have pcs : ∀ x ∈ cs, 0 ≤ x := fun x hx => by
      rw [← hcs] at hx
      obtain ⟨i, _, rfl⟩ := List.mem_map.mp hx
      split <;> omega
    refine ⟨_, rfl, D, rfl, ⟨_, sq_of d1⟩, fun D2 hD2 => ?_⟩
    refine lc_ev (f := geV) (v := fun x => x) (st_l (sq_of d1)) (by rw [List.length_map]; omega) (fun x => rfl) hD2 (fun x hx H2 e Q q => ?_) (fun x hx _ H2 e Q q => ⟨_, rfl, q H2 (Ex.refl _)⟩) (fun H2 e2 hd2 => ?_)
    · obtain ⟨i, _, rfl⟩ := List.mem_map.mp hx
      exact ⟨_, rfl, 10, 18, rfl, rfl, ⟨by decide, by decide, by decide⟩, i, _, rfl, rfl, _, rfl, q H2 (Ex.refl _)⟩
    have d2 : H2 D2 = some (.lst ((cs.filter fun i => decide ((10 : Int) ^ 18 ≤ i)).map V.int)) := by
      rw [hd2, List.map_id'' (fun _ => rfl), List.filter_map]
      rfl
    have d12 := e2 _ _ d1
    refine ⟨_, rfl, D, rfl, ⟨_, sq_of d12⟩, fun D3 hD3 => ?_⟩
    refine lc_ev (f := ltV) (v := modV) (st_l (sq_of d12)) (by rw [List.length_map]; omega) (fun x => rfl) hD3 (fun x hx H3 e Q q => ?_) (fun x hx _ H3 e Q q => ?_) (fun H3 e3 hd3 => ?_)
    · obtain ⟨i, _, rfl⟩ := List.mem_map.mp hx
      exact ⟨_, rfl, 10, 18, rfl, rfl, ⟨by decide, by decide, by decide⟩, i, _, rfl, rfl, _, rfl, q H3 (Ex.refl _)⟩
    · obtain ⟨i, _, rfl⟩ := List.mem_map.mp hx
      exact ⟨_, rfl, .inl ⟨i, rfl, i, 1000003, rfl, rfl, (by show (0 : Int) < 1000003; decide), q H3 (Ex.refl _)⟩⟩
    have d3 : H3 D3 = some (.lst (((cs.filter fun i => decide (i < (10 : Int) ^ 18)).map fun i => i % 1000003).map V.int)) := by
      rw [hd3, List.filter_map, List.map_map, List.map_map]
      rfl
    have d23 := e3 _ _ d2
    refine ⟨_, rfl, _, rfl, (by show 4 ≤ sizeLine; decide), fun q hq => ?_⟩
    have e03 : Ex H H3 := (Ex.new hp).trans (e1.trans (e2.trans e3))
    have e04 : Ex H (upd H3 q (.lst [.ref D2, .ref D3, .int 0, .int 0])) := e03.trans (Ex.new hq)
    refine k q _ e04 (fresh_back e03 hq) ⟨D2, D3, 0, 0, (cs.filter fun i => decide ((10 : Int) ^ 18 ≤ i)), ((cs.filter fun i => decide (i < (10 : Int) ^ 18)).map fun i => i % 1000003), upd_same, ne_of_none d23 hq, ne_of_none d3 hq, Int.le_refl _, Int.le_refl _, ?_, ?_, ?_, ?_, ?_, ?_⟩
    · rw [upd_ne (ne_of_none d23 hq)]; exact d23
    · exact fun x hx => pcs x (List.mem_filter.mp hx).1
    · exact Nat.le_trans (List.length_filter_le _ _) lcs
    · rw [upd_ne (ne_of_none d3 hq)]; exact d3
    · intro x hx
      obtain ⟨i, hi, rfl⟩ := List.mem_map.mp hx
      exact ⟨Int.emod_nonneg _ (by decide), Int.emod_lt_of_pos _ (by decide)⟩
    · rw [List.length_map]
      exact Nat.le_trans (List.length_filter_le _ _) lcs
abbrev s__law_draw : Stmt := top 41
theorem sc__law_draw : FnScope ["_law_pool_here", "_law_many", "_law_great", "_law_digit", "_law_seed", "_law_number"] ["_law_pool_here", "_law_many"] (defScope s__law_draw) := ⟨rfl, rfl, rfl, by decide +kernel, rfl, by decide +kernel, by decide +kernel⟩
def spDraw : Sp := fun vs H Q _ => ∃ (p : Addr) (m : Int), vs = [.ref p, .int m] ∧ Pool H p ∧ 1 ≤ m ∧ m ≤ 1000000 ∧ ∀ d H', 0 ≤ d → d < m → Kp p H H' → Pool H' p → Q (.int d) H'
theorem ok_draw (G : Gz mg) (D : Df K mg "_law_draw" s__law_draw f fd ["_law_pool_here", "_law_many"]) : Callee P w K mg base CXn 1 "_law_draw" 2 spDraw := by
  refine D.callee (D.fn.ok sc__law_draw (fun vs H Q E h => ?_) (fun cdv A outer s H vs Q E hr h => ⟨_, PSs.nox (pss_cut (ps_if (PW.pt (pw_and (pt_cmpR op_eq (pe_ix (ixK (K := K) rfl) (pv 0) pe_int (fun _ _ => rfl)) pe_int (nomark _)) (pw_and1 (pt_cmpR op_gt (pe_callB (lenK (K := K) rfl) rfl G.g_len PySem.boot_len (pa_cons (pe_ix (ixK (K := K) rfl) (pv 0) pe_int (fun _ _ => rfl)) pa_nil)) pe_int (nomark _))))) (pss_cons (ps_set (i := 2) sc__law_draw.nd rfl (Or.inl rfl) (pe_ix (ixK (K := K) rfl) (pv 0) pe_int (fun _ _ => rfl))) (pss_one (ps_asg (pe_tup (pa_cons (pe_ix (ixK (K := K) rfl) (pv 2) pe_int (fun _ _ => rfl)) (pa_cons (pe_slice sl_list (pv 2) (po_some pe_int) po_none) pa_nil))) (pg_tup rfl (pgs_cons (pg_sub (pv 0) pe_int set_list) (pgs_cons (pg_sub (pv 0) pe_int set_list) pgs_nil)))))) pss_nil) (pss_cut (ps_if (pt_cmpR op_gt (pe_ix (ixK (K := K) rfl) (pv 0) pe_int (fun _ _ => rfl)) pe_int (nomark _)) (pss_cons (ps_asg (pe_tup (pa_cons (pe_op op_mod (pe_callTy call_int1 rfl G.g_int (by rfl) (pa_cons (pe_ix (ixK (K := K) rfl) (pv 0) pe_int (fun _ _ => rfl)) pa_nil)) (pv 1)) (pa_cons (pe_op op_fdiv (pe_ix (ixK (K := K) rfl) (pv 0) pe_int (fun _ _ => rfl)) (pv 1)) pa_nil))) (pg_tup rfl (pgs_cons (pg_name (i := 3) sc__law_draw.nd rfl (Or.inl rfl)) (pgs_cons (pg_sub (pv 0) pe_int set_list) pgs_nil)))) (pss_one (ps_ret (pv 3)))) pss_nil) (pss_cons (ps_asg (pe_op op_add (pe_ix (ixK (K := K) rfl) (pv 0) pe_int (fun _ _ => rfl)) pe_int) (pg_sub (pv 0) pe_int set_list)) (pss_cons (ps_set (i := 4) sc__law_draw.nd rfl (Or.inl rfl) (pe_ix (ixK (K := K) rfl) (pe_op op_cat (pe_ix (ixK (K := K) rfl) (pv 0) pe_int (fun _ _ => rfl)) (pe_lst (pa_cons pe_int pa_nil))) (pe_op op_mod (pe_callTy call_int1 rfl G.g_int (by rfl) (pa_cons (pe_ix (ixK (K := K) rfl) (pv 0) pe_int (fun _ _ => rfl)) pa_nil)) (pe_callB (call_max2 rfl) rfl G.g_max (by rfl) (pa_cons pe_int (pa_cons (pe_callB (lenK (K := K) rfl) rfl G.g_len PySem.boot_len (pa_cons (pe_ix (ixK (K := K) rfl) (pv 0) pe_int (fun _ _ => rfl)) pa_nil)) pa_nil)))) (fun _ _ => rfl))) (pss_cons (ps_set (i := 5) sc__law_draw.nd rfl (Or.inl rfl) (pe_op op_mod (pe_callTy call_int1 rfl G.g_int (by rfl) (pa_cons (pe_op op_mul (pe_op op_add (pe_op op_add (pv 4) (pe_op op_mul pe_int (pe_ix (ixK (K := K) rfl) (pv 0) pe_int (fun _ _ => rfl)))) pe_int) pe_int) pa_nil)) pe_int)) (pss_cons (ps_set (i := 5) sc__law_draw.nd rfl (Or.inl rfl) (pe_op op_mod (pe_callTy call_int1 rfl G.g_int (by rfl) (pa_cons (pe_op op_mul (pv 5) (pe_op op_add (pe_op op_fdiv (pv 5) pe_int) pe_int)) pa_nil)) pe_int)) (pss_cons (ps_set (i := 5) sc__law_draw.nd rfl (Or.inl rfl) (pe_op op_mod (pe_callTy call_int1 rfl G.g_int (by rfl) (pa_cons (pe_op op_mul (pv 5) (pe_op op_add (pe_op op_fdiv (pv 5) pe_int) pe_int)) pa_nil)) pe_int)) (pss_one (ps_ret (pe_op op_mod (pe_callTy call_int1 rfl G.g_int (by rfl) (pa_cons (pe_op op_fdiv (pv 5) pe_int) pa_nil)) (pv 1))))))))))), ?_⟩))
  · obtain ⟨_, _, rfl, _⟩ := h
    rfl
  · obtain ⟨p, m, rfl, hP, hm1, hm2, k⟩ := h
    refine ⟨fun σ' H' => (∃ v, σ' = [some (.ref p), some (.int m), v, none, none, none]) ∧ Pool H' p ∧ Kp p H H', ?_, ?_⟩
    · have hP0 := hP
      obtain ⟨g, s', n, kk, gs, ss, hp, gp, sp, n0, k0, hg, pg, lg, hs, ps, ls⟩ := hP
      refine ⟨_, rfl, .inl ⟨p, _, 2, _, rfl, rfl, sq_of hp, rfl, rfl, _, rfl, ?_⟩⟩
      have skip : (fun σ' H' => (∃ v, σ' = [some (V.ref p), some (V.int m), v, none, none, none]) ∧ Pool H' p ∧ Kp p H H') (start ["_law_pool_here", "_law_many", "_law_great", "_law_digit", "_law_seed", "_law_number"] [.ref p, .int m]) H := ⟨⟨none, rfl⟩, hP0, Kp.refl p H⟩
      cases hd : decide (V.int n = V.int 0) with
      | false => exact skip
      | true =>
        refine ⟨_, rfl, .inl ⟨p, _, 0, _, rfl, rfl, sq_of hp, rfl, .ref g, gs.length, rfl, .inl ⟨_, sq_of hg, by rw [List.length_map]⟩, _, _, rfl, rfl, _, rfl, ?_⟩⟩
        cases gs with
        | nil => exact skip
        | cons g0 gs =>
          have hgt : decide ((0 : Int) < (((g0 :: gs).length : Nat) : Int)) = true := decide_eq_true (by simp)
          rw [hgt]
          refine ⟨_, rfl, .inl ⟨p, _, 0, _, rfl, rfl, sq_of hp, rfl, ?_⟩⟩
          refine ⟨_, rfl, .inl ⟨g, _, 0, .int g0, rfl, rfl, sq_of hg, (show atI ((g0 :: gs).map V.int) ((0 : Nat) : Int) = some (.int g0) from atI_nat rfl), ?_⟩⟩
          refine ⟨_, rfl, 1, rfl, g, _, rfl, sq_of hg, fun l hl => ?_⟩
          have ec : cutV ((g0 :: gs).map V.int) (some 1) none = gs.map V.int := cut_drop ((g0 :: gs).map V.int) 1
          rw [ec]
          refine ⟨(by show 2 ≤ sizeLine; decide), fun T hT => ⟨T, _, rfl, st_of upd_same, rfl, _, _, rfl, ?_⟩⟩
          have npl : p ≠ l := ne_of_none hp hl
          have hp1 : upd H l (.lst (gs.map V.int)) p = some (.lst [.ref g, .ref s', .int n, .int kk]) := by rw [upd_ne npl]; exact hp
          have npT : p ≠ T := ne_of_none hp1 hT
          have nlT : l ≠ T := ne_of_none upd_same hT
          have nsl : s' ≠ l := ne_of_none hs hl
          have hs1 : upd H l (.lst (gs.map V.int)) s' = some (.lst (ss.map V.int)) := by rw [upd_ne nsl]; exact hs
          have nsT : s' ≠ T := ne_of_none hs1 hT
          refine ⟨_, rfl, p, _, 2, 2, rfl, rfl, (by rw [upd_ne npT]; exact hp1), rfl, _, _, rfl, _, rfl, p, _, 0, 0, rfl, rfl, upd_same, rfl, rfl, ⟨_, rfl⟩, ?_, ?_⟩
          · refine ⟨l, s', g0, kk, gs, ss, upd_same, npl.symm, sp, pg g0 (by simp), k0, ?_, fun x hx => pg x (by simp [hx]), by simp at lg; omega, ?_, ps, ls⟩
            · rw [upd_ne npl.symm, upd_ne npl.symm, upd_ne nlT, upd_same]
            · rw [upd_ne sp, upd_ne sp, upd_ne nsT]; exact hs1
          · exact Kp.of (K0.put (K0.put (K0.new (K0.new (K0.refl p H) hl) hT))) hp upd_same (.inr hl)
    · rintro σ' H1 ⟨⟨v, rfl⟩, ⟨g, s', n, kk, gs, ss, hp, gp, sp, n0, k0, hg, pg, lg, hs, ps, ls⟩, K1⟩
      refine ⟨fun σ' H' => (∃ v2, σ' = [some (.ref p), some (.int m), v2, none, none, none]) ∧ H' = H1, ?_, ?_⟩
      · refine ⟨_, rfl, .inl ⟨p, _, 2, _, rfl, rfl, sq_of hp, rfl, _, _, rfl, rfl, _, rfl, ?_⟩⟩
        refine ite2 (fun hn => ?_) (fun _ => ⟨⟨_, rfl⟩, rfl⟩)
        have hn0 : 0 < n := of_decide_eq_true hn
        refine ⟨_, rfl, .inl ⟨p, _, 2, _, rfl, rfl, sq_of hp, rfl, .inl ⟨n, rfl, _, rfl, n, m, rfl, rfl, (by show 0 < m; omega), ?_⟩⟩⟩
        refine ⟨_, rfl, .inl ⟨p, _, 2, _, rfl, rfl, sq_of hp, rfl, _, rfl, n, m, rfl, rfl, ⟨by omega, by omega⟩, ?_⟩⟩
        refine ⟨(by show 2 ≤ sizeLine; decide), fun T hT => ⟨T, _, rfl, st_of upd_same, rfl, _, _, rfl, ?_⟩⟩
        have npT : p ≠ T := ne_of_none hp hT
        refine ⟨_, _, rfl, _, rfl, p, _, 2, 2, rfl, rfl, (by rw [upd_ne npT]; exact hp), rfl, rfl, _, rfl, ?_⟩
        refine k _ _ (Int.emod_nonneg _ (by omega)) (Int.emod_lt_of_pos _ (by omega)) (K1.trans (Kp.of (K0.put (K0.new (K0.refl p _) hT)) hp upd_same (.inl rfl))) ?_
        refine ⟨g, s', n / m, kk, gs, ss, upd_same, gp, sp, Int.ediv_nonneg n0 (by omega), k0, ?_, pg, lg, ?_, ps, ls⟩
        · rw [upd_ne gp, upd_ne (ne_of_none hg hT)]; exact hg
        · rw [upd_ne sp, upd_ne (ne_of_none hs hT)]; exact hs
      · rintro σ' H2 ⟨⟨v2, rfl⟩, rfl⟩
        refine ⟨_, rfl, .inl ⟨p, _, 3, _, rfl, rfl, sq_of hp, rfl, kk, 1, rfl, rfl, ?_⟩⟩
        refine ⟨_, rfl, p, _, 3, 3, rfl, rfl, hp, rfl, ?_⟩
        have K3 : Kp p H (upd H2 p (.lst ([.ref g, .ref s', .int n, .int kk].set 3 (.int (kk + 1))))) := K1.trans (Kp.of (K0.put (K0.refl p _)) hp upd_same (.inl rfl))
        have hp3 : upd H2 p (.lst ([.ref g, .ref s', .int n, .int kk].set 3 (.int (kk + 1)))) p = some (.lst [.ref g, .ref s', .int n, .int (kk + 1)]) := upd_same
        have hg3 : upd H2 p (.lst ([.ref g, .ref s', .int n, .int kk].set 3 (.int (kk + 1)))) g = some (.lst (gs.map V.int)) := by rw [upd_ne gp]; exact hg
        have hs3 : upd H2 p (.lst ([.ref g, .ref s', .int n, .int kk].set 3 (.int (kk + 1)))) s' = some (.lst (ss.map V.int)) := by rw [upd_ne sp]; exact hs
        generalize upd H2 p (.lst ([.ref g, .ref s', .int n, .int kk].set 3 (.int (kk + 1)))) = H3 at K3 hp3 hg3 hs3
        have P3 : Pool H3 p := ⟨g, s', n, kk + 1, gs, ss, hp3, gp, sp, n0, by omega, hg3, pg, lg, hs3, ps, ls⟩
        -- the seed
        refine ⟨_, rfl, .inl ⟨p, _, 1, _, rfl, rfl, sq_of hp3, rfl, (by show 1 ≤ sizeLine; decide), fun b hb => ?_⟩⟩
        have e4 : Ex H3 (upd H3 b (.lst [.int 0])) := Ex.new hb
        refine ⟨s', b, _, _, rfl, rfl, e4 _ _ hs3, upd_same, (by rw [List.length_map]; exact Nat.le_trans (Nat.add_le_add_right ls 1) (by decide)), fun c hc => ?_⟩
        have e5 : Ex H3 (upd (upd H3 b (.lst [.int 0])) c (.lst (ss.map V.int ++ [.int 0]))) := e4.trans (Ex.new hc)
        have hc5 : upd (upd H3 b (.lst [.int 0])) c (.lst (ss.map V.int ++ [.int 0])) c = some (.lst (ss.map V.int ++ [.int 0])) := upd_same
        generalize upd (upd H3 b (.lst [.int 0])) c (.lst (ss.map V.int ++ [.int 0])) = H5 at e5 hc5
        have hp5 := e5 _ _ hp3
        have hs5 := e5 _ _ hs3
        have P5 : Pool H5 p := P3.ex e5
        have K5 : Kp p H H5 := K3.trans (Kp.ex e5 P3)
        refine ⟨_, rfl, .inl ⟨p, _, 3, _, rfl, rfl, sq_of hp5, rfl, .inl ⟨kk + 1, rfl, ?_⟩⟩⟩
        refine ⟨_, rfl, .inl ⟨p, _, 1, _, rfl, rfl, sq_of hp5, rfl, .ref s', ss.length, rfl, .inl ⟨_, sq_of hs5, by rw [List.length_map]⟩, 1, (ss.length : Int), rfl, ?_⟩⟩
        generalize hmx : (if ((ss.length : Nat) : Int) > 1 then ((ss.length : Nat) : Int) else 1) = mx
        have hmx1 : 1 ≤ mx ∧ mx ≤ (ss.length : Int) + 1 := by
          rw [← hmx]
          split <;> omega
        have hj0 : 0 ≤ (kk + 1) % mx := Int.emod_nonneg _ (by omega)
        have hj1 : (kk + 1) % mx < mx := Int.emod_lt_of_pos _ (by omega)
        obtain ⟨z, hz⟩ : ∃ z, (ss ++ [0])[((kk + 1) % mx).toNat]? = some z := ⟨_, List.getElem?_eq_getElem (by rw [List.length_append, List.length_singleton]; omega)⟩
        have hz2 : (ss.map V.int ++ [.int 0])[((kk + 1) % mx).toNat]? = some (V.int z) := by
          have e : ss.map V.int ++ [.int 0] = (ss ++ [0]).map V.int := by simp
          rw [e, List.getElem?_map, hz]
          rfl
        refine ⟨kk + 1, mx, rfl, rfl, (by show 0 < mx; omega), .inl ⟨c, _, _, .int z, rfl, rfl, sq_of hc5, at_of (j := ((kk + 1) % mx).toNat) (by omega) hz2, ?_⟩⟩
        -- the numbers
        refine ⟨_, rfl, _, rfl, .inl ⟨p, _, 3, _, rfl, rfl, sq_of hp5, rfl, 7919, kk + 1, rfl, rfl, .inl ⟨by decide, by decide⟩, z, _, rfl, rfl, _, 1, rfl, rfl, _, 48271, rfl, rfl, .inr ⟨by decide, by decide⟩, .inl ⟨_, rfl, _, 2147483647, rfl, rfl, (by show (0 : Int) < 2147483647; decide), ?_⟩⟩⟩
        dsimp only
        generalize h1 : (z + 7919 * (kk + 1) + 1) * 48271 % 2147483647 = n1
        have b1 : 0 ≤ n1 ∧ n1 < 2147483647 := by rw [← h1]; exact ⟨Int.emod_nonneg _ (by decide), Int.emod_lt_of_pos _ (by decide)⟩
        refine ⟨_, rfl, _, rfl, n1, 1009, rfl, rfl, ⟨by decide, by decide⟩, _, 69621, rfl, rfl, n1, _, rfl, rfl, .inl ⟨by omega, by omega⟩, .inl ⟨_, rfl, _, 2147483647, rfl, rfl, (by show (0 : Int) < 2147483647; decide), ?_⟩⟩
        dsimp only
        generalize h2 : n1 * (n1 / 1009 + 69621) % 2147483647 = n2
        have b2 : 0 ≤ n2 ∧ n2 < 2147483647 := by rw [← h2]; exact ⟨Int.emod_nonneg _ (by decide), Int.emod_lt_of_pos _ (by decide)⟩
        refine ⟨_, rfl, _, rfl, n2, 2003, rfl, rfl, ⟨by decide, by decide⟩, _, 40692, rfl, rfl, n2, _, rfl, rfl, .inl ⟨by omega, by omega⟩, .inl ⟨_, rfl, _, 2147483399, rfl, rfl, (by show (0 : Int) < 2147483399; decide), ?_⟩⟩
        exact ⟨_, rfl, _, 16, rfl, rfl, ⟨by decide, by decide⟩, .inl ⟨_, rfl, _, rfl, _, m, rfl, rfl, (by show 0 < m; omega), k _ _ (Int.emod_nonneg _ (by omega)) (Int.emod_lt_of_pos _ (by omega)) K5 P5⟩⟩
abbrev s__law_pick : Stmt := top 42
theorem sc__law_pick : FnScope ["_law_pool_here", "_law_items"] ["_law_pool_here", "_law_items"] (defScope s__law_pick) := ⟨rfl, rfl, rfl, by decide +kernel, rfl, by decide +kernel, by decide +kernel⟩
def spPick : Sp := fun vs H Q _ => ∃ (p a : Addr) (xs : List V), vs = [.ref p, .ref a] ∧ Pool H p ∧ a ≠ p ∧ (H a = some (.lst xs) ∨ H a = some (.tup xs)) ∧ xs ≠ [] ∧ xs.length ≤ 1000 ∧ ∀ x H', x ∈ xs → Kp p H H' → Pool H' p → Q x H'
theorem ok_pick (G : Gz mg) (D : Df K mg "_law_pick" s__law_pick f fd ["_law_pool_here", "_law_items"]) (c__law_draw : Callee P w K mg base CXn 1 "_law_draw" 2 spDraw) : Callee P w K mg base CXn 2 "_law_pick" 2 spPick := by
  refine D.callee (D.fn.ok sc__law_pick (fun vs H Q E h => ?_) (fun cdv A outer s H vs Q E hr h => ⟨_, PSs.nox (pss_one (ps_ret (pe_ix (ixK (K := K) rfl) (pv 1) (pe_cl (E := En) c__law_draw (hr.mono (by decide)) rfl passN (pa_cons (pv 0) (pa_cons (pe_callB (lenK (K := K) rfl) rfl G.g_len PySem.boot_len (pa_cons (pv 1) pa_nil)) pa_nil))) (fun _ _ => rfl)))), ?_⟩))
  · obtain ⟨_, _, _, rfl, _⟩ := h
    rfl
  · obtain ⟨p, a, xs, rfl, hP, nap, hx, hne, hl, k⟩ := h
    have hlen : LenV K (.ref a) H xs.length := hx.elim (fun z => .inl ⟨_, sq_of z, rfl⟩) fun z => .inr ⟨_, st_of z, rfl⟩
    have hpos : 0 < xs.length := List.length_pos_iff.mpr hne
    refine ⟨_, rfl, _, rfl, _, rfl, .ref a, xs.length, rfl, hlen, p, _, rfl, hP, by omega, by omega, fun d H1 d0 d1 K1 P1 => ?_⟩
    obtain ⟨x, hxd⟩ : ∃ x, xs[d.toNat]? = some x := ⟨_, List.getElem?_eq_getElem (by omega)⟩
    have fin := k x H1 (List.mem_of_getElem? hxd) K1 P1
    rcases hx with hx | hx
    · exact .inl ⟨a, xs, d, x, rfl, rfl, sq_of (K1.k _ _ nap hx), at_of (j := d.toNat) (by omega) hxd, fin⟩
    · exact .inr (.inl ⟨a, xs, d, x, rfl, rfl, st_of (K1.k _ _ nap hx), at_of (j := d.toNat) (by omega) hxd, fin⟩)
def sg (c : Nat) : Str := ⟨#[c]⟩
abbrev abc : Str := "abcdefghijklmnopqrstuvwxyz"
theorem abc_at : ∀ j : Fin 26, abc.cps.toList[j.1]? = some (97 + j.1) := by decide +kernel
theorem abc_len : abc.cps.toList.length = 26 := by decide +kernel
theorem abc_mem {c : Nat} (h : c ∈ abc.cps.toList) : 97 ≤ c ∧ c ≤ 122 := by
  obtain ⟨j, hj⟩ := List.getElem?_of_mem h
  have hl := (List.getElem?_eq_some_iff.mp hj).1
  rw [abc_len] at hl
  rw [abc_at ⟨j, hl⟩] at hj
  cases hj
  show 97 ≤ 97 + j ∧ 97 + j ≤ 122
  omega
theorem join_sg : ∀ cs : List Nat, (Str.join "" (cs.map sg)).cps.toList = cs
  | [] => rfl
  | [c] => rfl
  | c :: d :: r => by
    have ih := join_sg (d :: r)
    show (sg c ++ "" ++ Str.join "" ((d :: r).map sg)).cps.toList = _
    rw [Str.cps_append, Str.cps_append, Array.toList_append, Array.toList_append, ih]
    rfl
theorem txt_ext {a b : Str} (h : a.cps.toList = b.cps.toList) : a = b := str_ext h
theorem inV_str (z : Str) (zs : List Str) : inV (.str z) (zs.map V.str) = decide (z ∈ zs) := by
  unfold inV
  rw [Bool.eq_iff_iff, List.any_eq_true]
  constructor
  · rintro ⟨y, hy, e⟩
    obtain ⟨u, hu, rfl⟩ := List.mem_map.mp hy
    have e2 : (u == z) = true := e
    rw [← beq_iff_eq.mp e2]
    exact decide_eq_true hu
  · intro h
    refine ⟨.str z, List.mem_map.mpr ⟨z, of_decide_eq_true h, rfl⟩, ?_⟩
    show (z == z) = true
    exact beq_self_eq_true z
theorem flat_strs (zs : List Str) : (zs.map V.str).all flatV = true := by
  rw [List.all_eq_true]
  intro v hv
  obtain ⟨z, _, rfl⟩ := List.mem_map.mp hv
  rfl
/-- more different ones than places -/
theorem pigeon {α : Type} [DecidableEq α] : ∀ (l m : List α), l.Nodup → (∀ x ∈ l, x ∈ m) → l.length ≤ m.length
  | [], m, _, _ => Nat.zero_le _
  | a :: l, m, nd, h => by
    obtain ⟨na, nd2⟩ := List.nodup_cons.mp nd
    have ih := pigeon l (m.erase a) nd2 fun x hx => by
      have hm := h x (List.mem_cons_of_mem _ hx)
      have ne : x ≠ a := fun z => na (z ▸ hx)
      exact (List.mem_erase_of_ne ne).mpr hm
    have hm := h a List.mem_cons_self
    rw [List.length_erase_of_mem hm] at ih
    have : 0 < m.length := List.length_pos_of_mem hm
    rw [List.length_cons]
    omega
/-- the letter behind the first nine -/
def nx9 (z : Str) : V → Str
  | .str c => cutS z none (some 9) ++ c
  | _ => z
theorem cut9 (z : Str) : (cutS z none (some 9)).cps.toList = z.cps.toList.take 9 := by
  unfold cutS
  rw [HT.sIx_none]
  have e : HT.sIx z.length z.length (some 9) = min 9 z.length := HT.sIx_nat z.length z.length 9
  rw [e]
  show ((z.cps.toList.drop 0).take (min 9 z.length - 0)) = z.cps.toList.take 9
  rw [List.drop_zero, Nat.sub_zero]
  have hl : z.cps.toList.length = z.length := Array.length_toList
  rcases Nat.le_total 9 z.length with h | h
  · rw [Nat.min_eq_left h]
  · rw [Nat.min_eq_right h, List.take_of_length_le (by omega), List.take_of_length_le (by omega)]
theorem nx9_cps (z : Str) (c : Nat) : (nx9 z (.str (sg c))).cps.toList = z.cps.toList.take 9 ++ [c] := by
  show (cutS z none (some 9) ++ sg c).cps.toList = _
  rw [Str.cps_append, Array.toList_append, cut9]
  rfl
theorem nx9_inj {z : Str} {c d : Nat} (h : nx9 z (.str (sg c)) = nx9 z (.str (sg d))) : c = d := by
  have e1 := nx9_cps z c
  rw [h, nx9_cps z d] at e1
  have e2 := List.append_cancel_left e1
  simpa using e2.symm
theorem nx9_some (z : Str) (zs : List Str) (hz : zs.length ≤ 20) : ∃ c r, (chs abc).filter (fun x => !decide (nx9 z x ∈ zs)) = .str (sg c) :: r ∧ c ∈ abc.cps.toList ∧ nx9 z (.str (sg c)) ∉ zs := by
  have mem : ∀ x ∈ chs abc, ∃ c, c ∈ abc.cps.toList ∧ V.str (sg c) = x := fun x hx => by
    unfold chs at hx
    exact List.mem_map.mp hx
  cases e : (chs abc).filter (fun x => !decide (nx9 z x ∈ zs)) with
  | nil =>
    have all : ∀ x ∈ (chs abc).map (nx9 z), x ∈ zs := fun y hy => by
      obtain ⟨x, hx, rfl⟩ := List.mem_map.mp hy
      have h := List.filter_eq_nil_iff.mp e x hx
      simpa using h
    have nd : ((chs abc).map (nx9 z)).Nodup := by
      unfold chs
      rw [List.map_map]
      have nd0 : abc.cps.toList.Nodup := by decide +kernel
      exact List.Pairwise.map _ (fun c d hcd z2 => hcd (nx9_inj z2)) nd0
    have h1 := pigeon _ _ nd all
    rw [List.length_map, chs_len] at h1
    have h2 : abc.length = 26 := by decide +kernel
    omega
  | cons x r =>
    have hx : x ∈ (chs abc).filter (fun x => !decide (nx9 z x ∈ zs)) := by rw [e]; exact List.mem_cons_self
    obtain ⟨h1, h2⟩ := List.mem_filter.mp hx
    obtain ⟨c, hc, rfl⟩ := mem x h1
    exact ⟨c, r, rfl, hc, by simpa using h2⟩
theorem nx9_nm {z : Str} {c : Nat} (h : IsNm z) (hc : 97 ≤ c ∧ c ≤ 122) : IsNm (nx9 z (.str (sg c))) := by
  have e := nx9_cps z c
  have hl : (nx9 z (.str (sg c))).length = (z.cps.toList.take 9 ++ [c]).length := by rw [← e, Array.length_toList]; rfl
  rw [List.length_append, List.length_take, List.length_singleton] at hl
  refine ⟨by omega, by omega, fun d hd => ?_⟩
  rw [e] at hd
  rcases List.mem_append.mp hd with hd | hd
  · exact h.2.2 d (List.mem_of_mem_take hd)
  · rw [List.mem_singleton.mp hd]; exact hc
abbrev s__law_name : Stmt := top 43
theorem sc__law_name : FnScope ["_law_pool_here", "_law_taken", "_law_letters", "_law_size", "_law_name_here", "_law_k", "_law_letter"] ["_law_pool_here", "_law_taken"] (defScope s__law_name) := ⟨rfl, rfl, rfl, by decide +kernel, rfl, by decide +kernel, by decide +kernel⟩
def spName : Sp := fun vs H Q _ => ∃ (p a : Addr) (zs : List Str), vs = [.ref p, .ref a] ∧ Pool H p ∧ a ≠ p ∧ H a = some (.lst (zs.map V.str)) ∧ zs.length ≤ 20 ∧ ∀ z H', IsNm z → z ∉ zs → Kp p H H' → Pool H' p → Q (.str z) H'
theorem ok_name (G : Gz mg) (D : Df K mg "_law_name" s__law_name f fd ["_law_pool_here", "_law_taken"]) (c__law_draw : Callee P w K mg base CXn 1 "_law_draw" 2 spDraw) : Callee P w K mg base CXn 2 "_law_name" 2 spName := by
  refine D.callee (D.fn.ok sc__law_name (fun vs H Q E h => ?_) (fun cdv A outer s H vs Q E hr h => ⟨_, PSs.nox (pss_cons (ps_set (i := 2) sc__law_name.nd rfl (Or.inr rfl) pe_str) (pss_cons (ps_set (i := 3) sc__law_name.nd rfl (Or.inl rfl) (pe_ix (ixK (K := K) rfl) (pe_lst (pa_cons pe_int (pa_cons pe_int (pa_cons pe_int (pa_cons pe_int (pa_cons pe_int (pa_cons pe_int (pa_cons pe_int pa_nil)))))))) (pe_cl (E := En) c__law_draw (hr.mono (by decide)) rfl passN (pa_cons (pv 0) (pa_cons pe_int pa_nil))) (fun _ _ => rfl))) (pss_cons (ps_set (i := 4) sc__law_name.nd rfl (Or.inr rfl) (pe_join pe_str (pe_lc (own := [("_law_k", 5)]) rfl sc__law_name.nd (pi_range1 rfl G.g_range (pa_cons (pv 3) pa_nil)) (BlkOk.mk (N := ["_law_pool_here", "_law_taken", "_law_letters", "_law_size", "_law_name_here", "_law_k", "_law_letter"]) (sc := defScope s__law_name) rfl (by decide +kernel) (by decide +kernel) (by decide +kernel) (by decide +kernel)) (fun _ _ _ _ _ => (pg_name (i := 5) sc__law_name.nd rfl (Or.inl rfl))) (fun _ _ _ _ _ => pts_nil) (fun _ _ _ _ _ => (pe_ix (ixK (K := K) rfl) (pv 2) (pe_cl (E := En) c__law_draw (hr.mono (by decide)) rfl passN (pa_cons (pv 0) (pa_cons pe_int pa_nil))) (fun _ _ => rfl)))))) (pss_cut (ps_if (pt_cmpR (inK (K := K) rfl) (pv 4) (pv 1) (by rfl)) (pss_one (ps_set (i := 4) sc__law_name.nd rfl (Or.inr rfl) (pe_ix (ixK (K := K) rfl) (pe_lc (own := [("_law_letter", 6)]) rfl sc__law_name.nd (pi_str (pv 2)) (BlkOk.mk (N := ["_law_pool_here", "_law_taken", "_law_letters", "_law_size", "_law_name_here", "_law_k", "_law_letter"]) (sc := defScope s__law_name) rfl (by decide +kernel) (by decide +kernel) (by decide +kernel) (by decide +kernel)) (fun _ _ _ _ _ => (pg_name (i := 6) sc__law_name.nd rfl (Or.inl rfl))) (fun _ _ _ _ _ => (pts_one (pt_cmpR (notInK (K := K) rfl) (pe_op op_add_str (pe_slice sl_str (pv 4) po_none (po_some pe_int)) (pv 6)) (pv 1) (by rfl)))) (fun _ _ _ _ _ => (pe_op op_add_str (pe_slice sl_str (pv 4) po_none (po_some pe_int)) (pv 6)))) pe_int (fun _ _ => rfl)))) pss_nil) (pss_one (ps_ret (pv 4))))))), ?_⟩))
  · obtain ⟨_, _, _, rfl, _⟩ := h
    rfl
  · obtain ⟨p, a, zs, rfl, hP, nap, ha, hz, k⟩ := h
    refine ⟨(by show 7 ≤ sizeLine; decide), fun l hl => ⟨_, rfl, p, 7, rfl, hP.ex (Ex.new hl), by decide, by decide, fun d H1 d0 d1 K1' P1 => ?_⟩⟩
    have hm : ∃ m : Int, ([.int 1, .int 1, .int 2, .int 3, .int 4, .int 6, .int 10] : List V)[d.toNat]? = some (.int m) ∧ 1 ≤ m ∧ m ≤ 10 := by
      have hd : d = 0 ∨ d = 1 ∨ d = 2 ∨ d = 3 ∨ d = 4 ∨ d = 5 ∨ d = 6 := by omega
      rcases hd with rfl | rfl | rfl | rfl | rfl | rfl | rfl <;> exact ⟨_, rfl, by decide, by decide⟩
    obtain ⟨m, hm, m1, m10⟩ := hm
    have nlp : l ≠ p := fun z => hP.here (z ▸ hl)
    have K1 : Kp p H H1 := (Kp.ex (Ex.new hl) hP).trans K1'
    refine .inl ⟨l, _, d, .int m, rfl, rfl, sq_of (K1'.k l _ nlp upd_same), at_of (j := d.toNat) (by omega) hm, ?_⟩
    refine ⟨⟨_, rfl⟩, _, rfl, m, rfl, by omega, by omega, fun D hD => ?_⟩
    obtain ⟨hD0, nDp⟩ := K1.free P1 hD
    refine lc_range (fun i H' => ∃ cs : List Nat, cs.length = i ∧ (∀ c ∈ cs, 97 ≤ c ∧ c ≤ 122) ∧ H' D = some (.lst (cs.map fun c => .str (sg c))) ∧ Kp p H H' ∧ Pool H' p ∧ Apart H' p D) ?_ ?_ ?_
    · obtain ⟨_, ap⟩ := Apart.new (o := .lst []) P1 hD
      exact ⟨[], rfl, fun c hc => (nomatch hc), upd_same, K1.new P1 hD, P1.ex (Ex.new hD), ap⟩
    · rintro i H' hi ⟨cs, hcl, hcs, hd, K2, P2, A2⟩
      refine ⟨rfl, _, rfl, _, rfl, p, 26, rfl, P2, by decide, by decide, fun e H3 e0 e1 K3 P3 => ?_⟩
      have he : abc.cps.toList[e.toNat]? = some (97 + e.toNat) := abc_at ⟨e.toNat, by omega⟩
      have hd3 := K3.k D _ nDp hd
      refine .inr (.inr ⟨abc, e, 97 + e.toNat, rfl, rfl, (by decide), (by have q := atI_nat (xs := abc.cps.toList) he; rwa [show ((e.toNat : Nat) : Int) = e by omega] at q), _, hd3, ?_, ?_⟩)
      · rw [List.length_map]
        exact sz_lt (by omega)
      · have hd2 : H' D ≠ none := some_ne hd
        refine ⟨cs ++ [97 + e.toNat], by rw [List.length_append, hcl]; rfl, fun c hc => ?_, ?_, (K2.trans K3).mut hD0 nDp, P3.mut nDp (K3.a D nDp hd2 A2), Apart.mut nDp (K3.a D nDp hd2 A2)⟩
        · rcases List.mem_append.mp hc with hc | hc
          · exact hcs c hc
          · rw [List.mem_singleton.mp hc]; omega
        · rw [upd_same, List.map_append]
          rfl
    rintro H' ⟨cs, hcl, hcs, hd, K2, P2, A2⟩
    refine ⟨_, D, cs.map sg, rfl, rfl, .inl (sq_of (by rw [hd, List.map_map]; rfl)), ?_, ?_⟩
    · have h1 : (cs.map sg).map (·.length) = cs.map fun _ => 1 := by rw [List.map_map]; rfl
      have h2 : (cs.map fun _ => (1 : Nat)).sum = cs.length := by
        clear h1 hd hcs hcl
        induction cs with
        | nil => rfl
        | cons c r ih => rw [List.map_cons, List.sum_cons, ih, List.length_cons]; omega
      rw [h1, h2]
      show cs.length + (cs.map sg).length * 0 ≤ 16777216
      omega
    have hjn : (Txt.join "" (cs.map sg)).cps.toList = cs := by rw [show Txt.join "" (cs.map sg) = Str.join "" (cs.map sg) from StrLaws.glued_eq_join _ _]; exact join_sg cs
    generalize hzz : Txt.join "" (cs.map sg) = z at hjn ⊢
    have zl : z.length = cs.length := by rw [← hjn, Array.length_toList]; rfl
    have nz : IsNm z := ⟨by omega, by omega, fun c hc => hcs c (hjn ▸ hc)⟩
    have ha2 := K2.k a _ nap ha
    refine ⟨fun σ' H2 => ∃ y v5 v6, σ' = [some (.ref p), some (.ref a), some (.str abc), some (.int m), some (.str y), v5, v6] ∧ IsNm y ∧ y ∉ zs ∧ Kp p H H2 ∧ Pool H2 p, ?_, ?_⟩
    · refine ⟨_, rfl, _, rfl, a, _, rfl, .inl (sq_of ha2), rfl, flat_strs zs, _, rfl, ?_⟩
      show if (inV (.str z) (zs.map V.str)) = true then _ else _
      rw [inV_str]
      refine ite2 (fun hin => ?_) (fun hno => ⟨z, none, none, rfl, nz, fun z2 => hno (decide_eq_true z2), K2, P2⟩)
      refine ⟨_, rfl, abc, rfl, fun D2 hD2 => ?_⟩
      have lz : z.length ≤ sizeLine := Nat.le_trans nz.2.1 (by decide)
      have lc9 : ∀ c, (cutS z none (some 9)).length + (sg c).length ≤ sizeLine := fun c => by
        have h1 : (cutS z none (some 9)).length = ((cutS z none (some 9)).cps.toList).length := by rw [Array.length_toList]; rfl
        rw [cut9, List.length_take] at h1
        have h2 : (sg c).length = 1 := rfl
        exact Nat.le_trans (by omega : _ ≤ 10) (by decide)
      have mem : ∀ x ∈ chs abc, ∃ c, c ∈ abc.cps.toList ∧ V.str (sg c) = x := fun x hx => by
        unfold chs at hx
        exact List.mem_map.mp hx
      refine lc_ev (f := fun x => !decide (nx9 z x ∈ zs)) (v := fun x => .str (nx9 z x)) st_s (by rw [chs_len]; decide +kernel) (fun x => rfl) hD2 (fun x hx H3 e Q q => ?_) (fun x hx _ H3 e Q q => ?_) (fun H3 e3 hd3 => ?_)
      · obtain ⟨c, hc, rfl⟩ := mem x hx
        refine ⟨_, rfl, 9, rfl, z, rfl, lz, _, rfl, _, sg c, rfl, rfl, lc9 c, _, rfl, a, _, rfl, .inl (sq_of (e _ _ ha2)), rfl, flat_strs zs, _, rfl, ?_⟩
        show Q (!inV (.str (nx9 z (.str (sg c)))) (zs.map V.str)) H3
        rw [inV_str]
        exact q H3 (Ex.refl _)
      · obtain ⟨c, hc, rfl⟩ := mem x hx
        exact ⟨_, rfl, 9, rfl, z, rfl, lz, _, rfl, _, sg c, rfl, rfl, lc9 c, q H3 (Ex.refl _)⟩
      · obtain ⟨c, r, e, hc, hn⟩ := nx9_some z zs hz
        rw [e] at hd3
        refine .inl ⟨D2, _, 0, .str (nx9 z (.str (sg c))), rfl, rfl, sq_of hd3, (show atI _ ((0 : Nat) : Int) = _ from atI_nat rfl), ?_⟩
        exact ⟨_, _, _, rfl, nx9_nm nz (abc_mem hc), hn, K2.trans (Kp.ex e3 P2), P2.ex e3⟩
    · rintro σ' H2 ⟨y, v5, v6, rfl, ny, hy, K5, P5⟩
      exact ⟨_, rfl, k y H2 ny hy K5 P5⟩
abbrev s__law_names : Stmt := top 44
theorem sc__law_names : FnScope ["_law_pool_here", "_law_many", "_law_names_here", "_law_k"] ["_law_pool_here", "_law_many"] (defScope s__law_names) := ⟨rfl, rfl, rfl, by decide +kernel, rfl, by decide +kernel, by decide +kernel⟩
def spNames : Sp := fun vs H Q _ => ∃ (p : Addr) (m : Int), vs = [.ref p, .int m] ∧ Pool H p ∧ 0 ≤ m ∧ m ≤ 20 ∧ ∀ (a : Addr) (zs : List Str) (H' : Hp), zs.length = m.toNat → zs.Nodup → (∀ z ∈ zs, IsNm z) → Kp p H H' → Pool H' p → H a = none → a ≠ p → H' a = some (.lst (zs.map V.str)) → Q (.ref a) H'
theorem ok_names (G : Gz mg) (D : Df K mg "_law_names" s__law_names f fd ["_law_pool_here", "_law_many"]) (c__law_name : Callee P w K mg base CXn 2 "_law_name" 2 spName) : Callee P w K mg base CXn 3 "_law_names" 2 spNames := by
  refine D.callee (D.fn.ok sc__law_names (fun vs H Q E h => ?_) (fun cdv A outer s H vs Q E hr h => ⟨_, PSs.nox (pss_cons (ps_set (i := 2) sc__law_names.nd rfl (Or.inl rfl) (pe_lst pa_nil)) (pss_cons (ps_for PassesOwn.never rfl (pi_range1 rfl G.g_range (pa_cons (pv 1) pa_nil)) (pg_name (i := 3) sc__law_names.nd rfl (Or.inl rfl)) (pss_one (ps_expr (pe_bm PySem.F.plainAttrs_list PySem.F.slot_list_append PySem.F.type_list_append mt_append (pv 2) (pa_cons (pe_cl (E := En) c__law_name (hr.mono (by decide)) rfl passN (pa_cons (pv 0) (pa_cons (pv 2) pa_nil))) pa_nil))))) (pss_one (ps_ret (pv 2))))), ?_⟩))
  · obtain ⟨_, _, rfl, _⟩ := h
    rfl
  · obtain ⟨p, m, rfl, hP, m0, m20, k⟩ := h
    refine ⟨Nat.zero_le _, fun l hl => ?_⟩
    obtain ⟨nlp, al⟩ := Apart.new (o := .lst []) hP hl
    refine ⟨_, rfl, m, rfl, by omega, by omega, for_range (fun i σ' H' => (∃ v, σ' = [some (.ref p), some (.int m), some (.ref l), v]) ∧ ∃ zs : List Str, zs.length = i ∧ zs.Nodup ∧ (∀ z ∈ zs, IsNm z) ∧ H' l = some (.lst (zs.map V.str)) ∧ Kp p H H' ∧ Pool H' p ∧ Apart H' p l) ?_ ?_ ?_⟩
    · exact ⟨⟨none, rfl⟩, [], rfl, List.nodup_nil, fun z hz => (nomatch hz), upd_same, (Kp.refl p H).new hP hl, hP.ex (Ex.new hl), al⟩
    · rintro i σ' H' hi ⟨⟨v, rfl⟩, zs, hzl, nd, nm, hd, K1, P1, A1⟩
      refine ⟨_, rfl, .inl ⟨rfl, _, sq_of hd⟩, _, rfl, _, rfl, p, l, zs, rfl, P1, nlp, hd, by omega, fun z H2 nz hz K2 P2 => ?_⟩
      have hd2 := K2.k l _ nlp hd
      have A2 := K2.a l nlp (some_ne hd) A1
      refine ⟨l, _, _, rfl, rfl, hd2, ?_, ⟨_, rfl⟩, zs ++ [z], by rw [List.length_append, hzl]; rfl, ?_, ?_, ?_, (K1.trans K2).mut hl nlp, P2.mut nlp A2, Apart.mut nlp A2⟩
      · rw [List.length_map]
        exact sz_lt (by omega)
      · rw [List.nodup_append]
        refine ⟨nd, by simp, fun x hx y hy => ?_⟩
        rw [List.mem_singleton.mp hy]
        exact fun e => hz (e ▸ hx)
      · intro x hx
        rcases List.mem_append.mp hx with hx | hx
        · exact nm x hx
        · rw [List.mem_singleton.mp hx]; exact nz
      · rw [upd_same, List.map_append]
        rfl
    · rintro σ' H' ⟨⟨v, rfl⟩, zs, hzl, nd, nm, hd, K1, P1, A1⟩
      exact ⟨_, rfl, k l zs H' hzl nd nm K1 P1 hl nlp hd⟩
end
end WK

set_option Elab.async false
set_option linter.all false
set_option maxRecDepth 100000
set_option maxHeartbeats 4000000
/-! Triples (number, text, number) as data. -/
namespace WW
open PySem PySem.Spec PyProof.Rows L2
/-- a step: from, word, to -/
abbrev Stp := Int × Str × Int
def encS (t : Stp) : PyData := .tuple [.int t.1, .str t.2.1, .int t.2.2]
def OkS (z : Stp) : Prop := PyData.strOk z.2.1 = true
theorem encS_lay {z : Stp} (h : OkS z) : (encS z).canLay0 = true := by
  have h : PyData.strOk z.2.1 = true := h
  simp [encS, PyData.canLay0, PyData.canLayAll0, h]
theorem encS_depth (z : Stp) : (encS z).depth ≤ 2 := by simp [encS, PyData.depth, PyData.depthAll]
theorem encSs_lay : ∀ zs : List Stp, (∀ z ∈ zs, OkS z) → PyData.canLayAll0 (zs.map encS) = true
  | [], _ => by simp [PyData.canLayAll0]
  | z :: zs, h => by
    have h1 := encS_lay (h z List.mem_cons_self)
    have h2 := encSs_lay zs fun y hy => h y (List.mem_cons_of_mem _ hy)
    simp only [List.map_cons, PyData.canLayAll0]
    rw [h1, h2]
    rfl
theorem encSs_depth : ∀ zs : List Stp, PyData.depthAll (zs.map encS) ≤ 2
  | [] => by simp [PyData.depthAll]
  | z :: zs => by
    have h1 := encSs_depth zs
    have h2 := encS_depth z
    simp only [List.map_cons, PyData.depthAll]
    omega
theorem encS_shaped {z : Stp} (h0 : OkS z) : SeqAt.shaped (encS z) = true := by
  have h := encS_depth z
  show ((encS z).canLay0 && decide ((encS z).depth ≤ 64)) = true
  rw [Bool.and_eq_true]
  exact ⟨encS_lay h0, decide_eq_true (by omega)⟩
theorem encSs_shaped {zs : List Stp} (h0 : ∀ z ∈ zs, OkS z) : SeqAt.shaped (.list (zs.map encS)) = true := by
  have h1 := encSs_depth zs
  have h2 : PyData.depth (.list (zs.map encS)) ≤ 64 := by
    simp only [PyData.depth]
    omega
  show (PyData.canLay0 (.list (zs.map encS)) && decide (PyData.depth (.list (zs.map encS)) ≤ 64)) = true
  rw [Bool.and_eq_true]
  exact ⟨by simp only [PyData.canLay0]; exact encSs_lay zs h0, decide_eq_true h2⟩
theorem encSs_shapedT {zs : List Stp} (h0 : ∀ z ∈ zs, OkS z) : SeqAt.shaped (.tuple (zs.map encS)) = true := by
  have h1 := encSs_depth zs
  have h2 : PyData.depth (.tuple (zs.map encS)) ≤ 64 := by
    simp only [PyData.depth]
    omega
  show (PyData.canLay0 (.tuple (zs.map encS)) && decide (PyData.depth (.tuple (zs.map encS)) ≤ 64)) = true
  rw [Bool.and_eq_true]
  exact ⟨by simp only [PyData.canLay0]; exact encSs_lay zs h0, decide_eq_true h2⟩
theorem encS_eqv (z w : Stp) : PyData.eqv (encS z) (encS w) = decide (z = w) := by
  obtain ⟨a, b, c⟩ := z
  obtain ⟨a', b', c'⟩ := w
  have e : PyData.eqv (encS (a, b, c)) (encS (a', b', c')) = ((a == a') && ((b == b') && ((c == c') && true))) := by simp only [encS, PyData.eqv, PyData.eqvAll]
  rw [e, Bool.eq_iff_iff]
  simp
theorem encSs_eqvAll : ∀ (zs ws : List Stp), PyData.eqvAll (zs.map encS) (ws.map encS) = decide (zs = ws)
  | [], [] => by simp [PyData.eqvAll]
  | [], _ :: _ => by simp [PyData.eqvAll]
  | _ :: _, [] => by simp [PyData.eqvAll]
  | z :: zs, w :: ws => by
    rw [List.map_cons, List.map_cons]
    simp only [PyData.eqvAll]
    rw [encS_eqv, encSs_eqvAll zs ws, Bool.eq_iff_iff]
    simp
theorem encSs_eqv (zs ws : List Stp) : PyData.eqv (.list (zs.map encS)) (.list (ws.map encS)) = decide (zs = ws) := by
  simp only [PyData.eqv]
  exact encSs_eqvAll zs ws
theorem encSs_eqvT (zs ws : List Stp) : PyData.eqv (.tuple (zs.map encS)) (.tuple (ws.map encS)) = decide (zs = ws) := by
  simp only [PyData.eqv]
  exact encSs_eqvAll zs ws
theorem encSs_any (zs : List Stp) (z : Stp) : ((zs.map encS).any fun y => PyData.eqv y (encS z)) = decide (z ∈ zs) := by
  rw [List.any_map, Bool.eq_iff_iff, List.any_eq_true]
  constructor
  · rintro ⟨w, hw, e⟩
    have e2 := encS_eqv w z
    rw [show PyData.eqv (encS w) (encS z) = true from e] at e2
    rw [← of_decide_eq_true e2.symm]
    exact decide_eq_true hw
  · intro h
    refine ⟨z, of_decide_eq_true h, ?_⟩
    show PyData.eqv (encS z) (encS z) = true
    rw [encS_eqv]
    exact decide_eq_true rfl
theorem encS_alike (z w : Stp) : PySem.W.alike (encS z) (encS w) = true := by simp [encS, PySem.W.alike, PySem.W.alikeAll]
theorem encS_sortable (zs : List Stp) : PySem.W.Sortable (zs.map encS) := PySem.W.Sortable.tuples fun _ => ⟨_, _, rfl⟩
theorem encS_keys {z w : Stp} (h : PySem.W.keyToks (encS z) = PySem.W.keyToks (encS w)) : z = w := by
  obtain ⟨a, b, c⟩ := z
  obtain ⟨a', b', c'⟩ := w
  simp [encS, PySem.W.keyToks, PySem.W.keyToksAll] at h
  obtain ⟨h1, h2, h3⟩ := h
  have hb : b = b' := by
    cases b; cases b'
    first | exact congrArg Str.mk (Array.ext' h2) | exact congrArg Str.mk h2
  rw [h1, hb, h3]
abbrev leT : Stp → Stp → Bool := PySem.W.dataLe false encS
theorem leT_anti (a b : Stp) (h1 : leT a b = true) (h2 : leT b a = true) : a = b := by
  refine encS_keys ?_
  have e1 : (listOrd itemOrd).blt (PySem.W.keyToks (encS b)) (PySem.W.keyToks (encS a)) = false := by simpa [leT, PySem.W.dataLe, PySem.W.sortLe] using h1
  have e2 : (listOrd itemOrd).blt (PySem.W.keyToks (encS a)) (PySem.W.keyToks (encS b)) = false := by simpa [leT, PySem.W.dataLe, PySem.W.sortLe] using h2
  exact (listOrd itemOrd).total _ _ e2 e1
def sortT (ts : List Stp) : List Stp := ts.mergeSort leT
theorem sortT_perm (ts : List Stp) : (sortT ts).Perm ts := List.mergeSort_perm ts leT
theorem sortT_sorted (ts : List Stp) : (sortT ts).Pairwise (fun a b => leT a b = true) := List.pairwise_mergeSort (PySem.W.sortLe_total _ _ _).trans (fun a b => Bool.or_eq_true_iff.mpr ((PySem.W.sortLe_total _ _ _).total a b)) ts
theorem sortT_congr {ks ls : List Stp} (p : ks.Perm ls) : sortT ks = sortT ls :=
  List.Perm.eq_of_pairwise (fun a b _ _ => leT_anti a b) (sortT_sorted ks) (sortT_sorted ls) (((sortT_perm ks).trans p).trans (sortT_perm ls).symm)
theorem sortT_len (ts : List Stp) : (sortT ts).length = ts.length := (sortT_perm ts).length_eq
end WW

set_option Elab.async false
set_option linter.all false
set_option maxRecDepth 100000
set_option maxHeartbeats 4000000
namespace WK
open PySem PySem.Spec PyProof.Rows L2 WW Evl
def StepAt (H : Hp) (v : V) (t : Stp) : Prop := ∃ a, v = .ref a ∧ H a = some (.tup [.int t.1, .str t.2.1, .int t.2.2])
def Rw (H : Hp) (xs : List V) (ts : List Stp) : Prop := Paired (StepAt H) xs ts
def GoodStep (t : Stp) : Prop := 0 ≤ t.1 ∧ t.1 ≤ 99 ∧ IsNm t.2.1 ∧ 0 ≤ t.2.2 ∧ t.2.2 ≤ 99
/-- the steps before it that begin where it does -/
def cnt (t : Stp) (ts : List Stp) : Nat := (ts.filter fun u => u.1 == t.1).length
theorem ok_of_nm {z : Str} (h : IsNm z) : PyData.strOk z = true := by
  unfold PyData.strOk
  rw [Array.all_eq_true_iff_forall_mem]
  intro c hc
  have := h.2.2 c (by simpa using hc)
  exact decide_eq_true (by omega)
theorem GoodStep.ok {t : Stp} (h : GoodStep t) : OkS t := ok_of_nm h.2.2.1
structure GoodRow (ts : List Stp) : Prop where
  least : 1 ≤ ts.length
  most : ts.length ≤ 20
  good : ∀ t ∈ ts, GoodStep t
  nd : ts.Nodup
  few : ∀ t ∈ ts, cnt t ts ≤ 3
theorem Rw.ex {H H' : Hp} {xs : List V} {ts : List Stp} (e : Ex H H') (h : Rw H xs ts) : Rw H' xs ts := Paired.mapP h fun v t ⟨a, e1, e2⟩ => ⟨a, e1, e _ _ e2⟩
theorem Rw.len {H : Hp} {xs : List V} {ts : List Stp} (h : Rw H xs ts) : xs.length = ts.length := Paired.length h
theorem Rw.at {H : Hp} : ∀ {xs : List V} {ts : List Stp} {i : Nat} {x : V}, Rw H xs ts → xs[i]? = some x → ∃ t, ts[i]? = some t ∧ StepAt H x t
  | _, _, i, _, .nil, e => by simp at e
  | _, _, 0, _, .cons g _, e => by simp at e; subst e; exact ⟨_, rfl, g⟩
  | _, _, i + 1, _, .cons _ r, e => by simpa using Rw.at r (by simpa using e)
theorem Rw.take {H : Hp} : ∀ {xs : List V} {ts : List Stp} (n : Nat), Rw H xs ts → Rw H (xs.take n) (ts.take n)
  | _, _, 0, _ => by simp; exact .nil
  | _, _, n + 1, .nil => by simp; exact .nil
  | _, _, n + 1, .cons g r => by simp only [List.take_succ_cons]; exact .cons g (Rw.take n r)
theorem StepAt.dp {K : PySem.W.Frag} {H : Hp} {v : V} {t : Stp} (h : StepAt H v t) : Dp K H v (encS t) := by
  obtain ⟨a, rfl, ha⟩ := h
  exact .tup (st_of ha) (.cons (.int _) (.cons (.str _) (.cons (.int _) .nil)))
theorem Rw.dps {K : PySem.W.Frag} {H : Hp} : ∀ {xs : List V} {ts : List Stp}, Rw H xs ts → DpAll K H xs (ts.map encS)
  | _, _, .nil => .nil
  | _, _, .cons g r => .cons g.dp (Rw.dps r)
/-- the value begins at the state i -/
def hit (H : Hp) (i : Int) : V → Bool
  | .ref b => (match H b with
    | some (.tup (.int j :: _)) => j == i
    | _ => false)
  | _ => false
theorem hit_at {H : Hp} {v : V} {t : Stp} {i : Int} (h : StepAt H v t) : hit H i v = (t.1 == i) := by
  obtain ⟨a, rfl, ha⟩ := h
  show (match H a with
    | some (.tup (.int j :: _)) => j == i
    | _ => false) = (t.1 == i)
  rw [ha]
theorem hit_len {H : Hp} {i : Int} : ∀ {xs : List V} {ts : List Stp}, Rw H xs ts → (xs.filter (hit H i)).length = (ts.filter fun u => u.1 == i).length
  | _, _, .nil => rfl
  | _, _, .cons (a := x) (b := t) g r => by
    rw [List.filter_cons, List.filter_cons, hit_at g]
    have ih := hit_len (i := i) r
    cases t.1 == i <;> simp [ih]
/-- t in that row -/
theorem in_go {K : PySem.W.Frag} {H : Hp} {p : Addr} {ys : List V} {us : List Stp} {x : V} {t : Stp} {Q : VK} (hx : StepAt H x t) (hp : SqX H p ys) (hy : Rw H ys us) (ho : ∀ z ∈ us, OkS z) (ht : OkS t) (q : Q (.bl (decide (t ∈ us))) H) : rInD K x (.ref p) H Q ∨ rInDT K x (.ref p) H Q := by
  rcases hp with hp | hp
  · exact .inl ⟨encS t, us.map encS, hx.dp, .lst (sq_of hp) hy.dps, encS_shaped ht, encSs_shaped ho, by rw [encSs_any]; exact q⟩
  · exact .inr ⟨encS t, us.map encS, hx.dp, .tup (st_of hp) hy.dps, encS_shaped ht, encSs_shapedT ho, by rw [encSs_any]; exact q⟩
theorem nd_take {ts : List Stp} {i : Nat} {t : Stp} (nd : ts.Nodup) (h : ts[i]? = some t) : t ∉ ts.take i := fun m => by
  obtain ⟨j, hj⟩ := List.getElem?_of_mem m
  have hj2 : j < i ∧ ts[j]? = some t := by
    rw [List.getElem?_take] at hj
    split at hj
    · exact ⟨by assumption, hj⟩
    · cases hj
  have hi := (List.getElem?_eq_some_iff.mp h)
  have hjj := (List.getElem?_eq_some_iff.mp hj2.2)
  obtain ⟨l1, e1⟩ := hi
  obtain ⟨l2, e2⟩ := hjj
  have := (List.getElem_inj nd (h₀ := l1) (h₁ := l2)).mp (e1.trans e2.symm)
  omega
theorem cnt_take {ts : List Stp} {i : Nat} {t : Stp} (h : ts[i]? = some t) : cnt t (ts.take i) + 1 ≤ cnt t ts := by
  have e : ts = ts.take i ++ t :: ts.drop (i + 1) := by
    obtain ⟨l1, e1⟩ := List.getElem?_eq_some_iff.mp h
    rw [← e1, List.getElem_cons_drop, List.take_append_drop]
  unfold cnt
  conv => rhs; rw [e]
  rw [List.filter_append, List.length_append, List.filter_cons]
  simp
/-- the word of a step -/
def wd (H : Hp) : V → Str
  | .ref b => (match H b with
    | some (.tup (_ :: .str z :: _)) => z
    | _ => Str.empty)
  | _ => Str.empty
theorem wd_at {H : Hp} {v : V} {t : Stp} (h : StepAt H v t) : wd H v = t.2.1 := by
  obtain ⟨a, rfl, ha⟩ := h
  show (match H a with
    | some (.tup (_ :: .str z :: _)) => z
    | _ => Str.empty) = t.2.1
  rw [ha]
theorem wd_map {H : Hp} : ∀ {xs : List V} {ts : List Stp}, Rw H xs ts → xs.map (wd H) = ts.map (·.2.1)
  | _, _, .nil => rfl
  | _, _, .cons g r => by rw [List.map_cons, List.map_cons, wd_at g, wd_map r]
/-- what a drawn hand keeps -/
structure Drawn (ws : List Str) (st : Int) (ts : List Stp) : Prop where
  row : GoodRow ts
  st0 : 0 ≤ st ∧ st ≤ 96
  low : ∀ t ∈ ts, t.1 ≤ 96 ∧ t.2.2 ≤ 96
  short : ts.length ≤ 12
  word : ∀ t ∈ ts, t.2.1 ∈ ws
/-- tuples stay -/
def Tu (H H' : Hp) : Prop := ∀ b ys, H b = some (.tup ys) → H' b = some (.tup ys)
theorem Tu.trans {H H1 H2 : Hp} (a : Tu H H1) (b : Tu H1 H2) : Tu H H2 := fun c ys h => b c ys (a c ys h)
theorem Tu.ex {H H' : Hp} (e : Ex H H') : Tu H H' := fun b ys h => e _ _ h
theorem Tu.lst {H : Hp} {l : Addr} {xs : List V} {o : HO} (h : H l = some (.lst xs)) : Tu H (upd H l o) := fun b ys hb => by
  rw [upd_ne (fun z => by rw [z, h] at hb; cases hb)]
  exact hb
theorem Kp.tu {p : Addr} {H H' : Hp} (hP : Pool H p) (k : Kp p H H') : Tu H H' := fun b ys hb => by
  obtain ⟨g, s, n, kk, gs, ss, h1, _⟩ := hP
  exact k.k b _ (fun z => by rw [z, h1] at hb; cases hb) hb
theorem Rw.tu {H H' : Hp} {xs : List V} {ts : List Stp} (e : Tu H H') (h : Rw H xs ts) : Rw H' xs ts := Paired.mapP h fun v t ⟨a, e1, e2⟩ => ⟨a, e1, e _ _ e2⟩
theorem StepAt.tu {H H' : Hp} {v : V} {t : Stp} (e : Tu H H') (h : StepAt H v t) : StepAt H' v t := let ⟨a, e1, e2⟩ := h; ⟨a, e1, e _ _ e2⟩
theorem Rw.snoc {H : Hp} {x : V} {t : Stp} (hx : StepAt H x t) : ∀ {xs : List V} {ts : List Stp}, Rw H xs ts → Rw H (xs ++ [x]) (ts ++ [t])
  | _, _, .nil => .cons hx .nil
  | _, _, .cons g r => .cons g (Rw.snoc hx r)
theorem Rw.app {H : Hp} : ∀ {xs ys : List V} {ts us : List Stp}, Rw H xs ts → Rw H ys us → Rw H (xs ++ ys) (ts ++ us)
  | _, _, _, _, .nil, r => r
  | _, _, _, _, .cons g r, q => .cons g (Rw.app r q)
theorem Rw.drop {H : Hp} : ∀ {xs : List V} {ts : List Stp} (n : Nat), Rw H xs ts → Rw H (xs.drop n) (ts.drop n)
  | _, _, 0, h => h
  | _, _, n + 1, .nil => by simp; exact .nil
  | _, _, n + 1, .cons _ r => by simpa using Rw.drop n r
/-- steps over low states and these words -/
structure Row96 (zs : List Str) (ts : List Stp) : Prop where
  good : ∀ t ∈ ts, (0 ≤ t.1 ∧ t.1 ≤ 96) ∧ t.2.1 ∈ zs ∧ (0 ≤ t.2.2 ∧ t.2.2 ≤ 96)
  nd : ts.Nodup
  few : ∀ t ∈ ts, cnt t ts ≤ 3
theorem cnt_app (u : Stp) (ts us : List Stp) : cnt u (ts ++ us) = cnt u ts + cnt u us := by
  unfold cnt
  rw [List.filter_append, List.length_append]
theorem cnt_one (u t : Stp) : cnt u [t] = if t.1 = u.1 then 1 else 0 := by
  unfold cnt
  by_cases h : t.1 = u.1
  · simp [h]
  · simp [h]
theorem cnt_same {u t : Stp} (h : u.1 = t.1) (ts : List Stp) : cnt u ts = cnt t ts := by
  unfold cnt
  rw [h]
theorem Row96.nil (zs : List Str) : Row96 zs [] := ⟨fun _ h => (nomatch h), List.nodup_nil, fun _ h => (nomatch h)⟩
theorem Row96.add {zs : List Str} {ts : List Stp} {t : Stp} (h : Row96 zs ts) (ht : (0 ≤ t.1 ∧ t.1 ≤ 96) ∧ t.2.1 ∈ zs ∧ (0 ≤ t.2.2 ∧ t.2.2 ≤ 96)) (hn : t ∉ ts) (hc : cnt t ts < 3) : Row96 zs (ts ++ [t]) where
  good := fun u hu => by
    rcases List.mem_append.mp hu with hu | hu
    · exact h.good u hu
    · rw [List.mem_singleton.mp hu]; exact ht
  nd := by
    rw [List.nodup_append]
    refine ⟨h.nd, by simp, fun x hx y hy => ?_⟩
    rw [List.mem_singleton.mp hy]
    exact fun e => hn (e ▸ hx)
  few := fun u hu => by
    rw [cnt_app, cnt_one]
    by_cases e : t.1 = u.1
    · rw [if_pos e, cnt_same e.symm]
      omega
    · rw [if_neg e]
      rcases List.mem_append.mp hu with hu | hu
      · exact h.few u hu
      · exact absurd (by rw [List.mem_singleton.mp hu]) e
theorem Row96.row {zs : List Str} {ts : List Stp} (h : Row96 zs ts) (hz : ∀ z ∈ zs, IsNm z) (h1 : ts ≠ []) (h2 : ts.length ≤ 20) : GoodRow ts :=
  ⟨List.length_pos_iff.mpr h1, h2, fun t ht => let ⟨⟨a, b⟩, c, d, e⟩ := h.good t ht; ⟨a, by omega, hz _ c, d, by omega⟩, h.nd, h.few⟩
section
variable {P : Program} {w : World} {K : PySem.W.Frag} {mg : Str → Option Value} {base : Heap} {f : Addr} {fd : FuncData}
/-- the row of steps at sl while it is filled; B: what stood before -/
def HI (p sl : Addr) (B H : Hp) (zs : List Str) (xs : List V) (ts : List Stp) : Prop := H sl = some (.lst xs) ∧ Rw H xs ts ∧ Row96 zs ts ∧ Kp p B H ∧ Pool H p ∧ Apart H p sl
theorem HI.draw {p sl : Addr} {B H H2 : Hp} {zs : List Str} {xs : List V} {ts : List Stp} (h : HI p sl B H zs xs ts) (n : sl ≠ p) (K : Kp p H H2) (P : Pool H2 p) : HI p sl B H2 zs xs ts :=
  ⟨K.k sl _ n h.1, h.2.1.tu (K.tu h.2.2.2.2.1), h.2.2.1, h.2.2.2.1.trans K, P, K.a sl n (some_ne h.1) h.2.2.2.2.2⟩
theorem HI.ex {p sl : Addr} {B H H2 : Hp} {zs : List Str} {xs : List V} {ts : List Stp} (h : HI p sl B H zs xs ts) (n : sl ≠ p) (e : Ex H H2) : HI p sl B H2 zs xs ts := h.draw n (Kp.ex e h.2.2.2.2.1) (h.2.2.2.2.1.ex e)
theorem HI.add {p sl : Addr} {B H : Hp} {zs : List Str} {xs : List V} {ts : List Stp} {x : V} {t : Stp} (h : HI p sl B H zs xs ts) (n : sl ≠ p) (hb : B sl = none) (hx : StepAt H x t) (r : Row96 zs (ts ++ [t])) : HI p sl B (upd H sl (.lst (xs ++ [x]))) zs (xs ++ [x]) (ts ++ [t]) :=
  ⟨upd_same, (h.2.1.snoc hx).tu (Tu.lst h.1), r, h.2.2.2.1.mut hb n, h.2.2.2.2.1.mut n h.2.2.2.2.2, Apart.mut n h.2.2.2.2.2⟩
abbrev s__law_hand : Stmt := top 45
theorem sc__law_hand : FnScope ["_law_pool_here", "_law_words_here", "_law_most", "_law_shape", "_law_first", "_law_gap", "_law_many", "_law_places", "_law_k", "_law_turn", "_law_orderly", "_law_steps", "_law_word", "_law_more", "_law_step", "_law_old"] ["_law_pool_here", "_law_words_here", "_law_most"] (defScope s__law_hand) := ⟨rfl, rfl, rfl, by decide +kernel, rfl, by decide +kernel, by decide +kernel⟩
def spHand : Sp := fun vs H Q _ => ∃ (p a : Addr) (zs : List Str) (m : Int), vs = [.ref p, .ref a, .int m] ∧ Pool H p ∧ a ≠ p ∧ H a = some (.lst (zs.map V.str)) ∧ zs ≠ [] ∧ zs.length ≤ 20 ∧ (∀ z ∈ zs, IsNm z) ∧ 1 ≤ m ∧ m ≤ 4 ∧
  ∀ q t xs st ts H', Drawn zs st ts → Kp p H H' → Pool H' p → H' q = some (.tup [.int st, .ref t]) → H' t = some (.tup xs) → Rw H' xs ts → Q (.ref q) H'
theorem ok_hand (G : Gz mg) (D : Df K mg "_law_hand" s__law_hand f fd ["_law_pool_here", "_law_words_here", "_law_most"]) (c__law_draw : Callee P w K mg base CXn 1 "_law_draw" 2 spDraw) (c__law_pick : Callee P w K mg base CXn 2 "_law_pick" 2 spPick) : Callee P w K mg base CXn 3 "_law_hand" 3 spHand := by
  refine D.callee (D.fn.ok sc__law_hand (fun vs H Q E h => ?_) (fun cdv A outer s H vs Q E hr h => ⟨_, PSs.nox (pss_cons (ps_asg (pe_tup (pa_cons (pe_cl (E := En) c__law_draw (hr.mono (by decide)) rfl passN (pa_cons (pv 0) (pa_cons pe_int pa_nil))) (pa_cons (pe_cl (E := En) c__law_draw (hr.mono (by decide)) rfl passN (pa_cons (pv 0) (pa_cons pe_int pa_nil))) (pa_cons (pe_op op_add pe_int (pe_cl (E := En) c__law_draw (hr.mono (by decide)) rfl passN (pa_cons (pv 0) (pa_cons pe_int pa_nil)))) pa_nil)))) (pg_tup rfl (pgs_cons (pg_name (i := 3) sc__law_hand.nd rfl (Or.inl rfl)) (pgs_cons (pg_name (i := 4) sc__law_hand.nd rfl (Or.inr rfl)) (pgs_cons (pg_name (i := 5) sc__law_hand.nd rfl (Or.inr rfl)) pgs_nil))))) (pss_cons (ps_set (i := 6) sc__law_hand.nd rfl (Or.inl rfl) (pe_op op_sub (pv 2) (pe_op op_mul (pe_cl (E := En) c__law_draw (hr.mono (by decide)) rfl passN (pa_cons (pv 0) (pa_cons (pv 2) pa_nil))) (pe_callTy call_int1 rfl G.g_int (by rfl) (pa_cons (pe_cmpR op_eq (pe_cl (E := En) c__law_draw (hr.mono (by decide)) rfl passN (pa_cons (pv 0) (pa_cons pe_int pa_nil))) pe_int (nomark _)) pa_nil))))) (pss_cons (ps_setLc (i := 7) (y := "_law_places") (own := [("_law_k", 8)]) rfl sc__law_hand.nd rfl rfl rfl (pi_range1 rfl G.g_range (pa_cons (pv 6) pa_nil)) (BlkOk.mk (N := ["_law_pool_here", "_law_words_here", "_law_most", "_law_shape", "_law_first", "_law_gap", "_law_many", "_law_places", "_law_k", "_law_turn", "_law_orderly", "_law_steps", "_law_word", "_law_more", "_law_step", "_law_old"]) (sc := defScope s__law_hand) rfl (by decide +kernel) (by decide +kernel) (by decide +kernel) (by decide +kernel)) (fun _ _ _ _ _ => (pg_name (i := 8) sc__law_hand.nd rfl (Or.inl rfl))) (fun _ _ _ _ _ => pts_nil) (fun _ _ _ _ _ => (pe_op op_add (pv 4) (pe_op op_mul (pv 5) (pv 8))))) (pss_cons (ps_par (i := 9) (j := 10) rfl sc__law_hand.nd rfl rfl (by decide) rfl rfl (pa_cons (pe_cl (E := En) c__law_draw (hr.mono (by decide)) rfl passN (pa_cons (pv 0) (pa_cons (pe_callB (lenK (K := K) rfl) rfl G.g_len PySem.boot_len (pa_cons (pv 1) pa_nil)) pa_nil))) (pa_cons (pe_cmpR op_gt (pe_cl (E := En) c__law_draw (hr.mono (by decide)) rfl passN (pa_cons (pv 0) (pa_cons pe_int pa_nil))) pe_int (nomark _)) pa_nil)) rfl) (pss_cons (ps_set (i := 11) sc__law_hand.nd rfl (Or.inl rfl) (pe_lst pa_nil)) (pss_cons (ps_for PassesOwn.never rfl (pi_range1 rfl G.g_range (pa_cons (pe_op op_mul (pe_op op_sub (pv 6) (pe_callTy call_int1 rfl G.g_int (by rfl) (pa_cons (pe_cmpR op_gt (pv 3) pe_int (nomark _)) pa_nil))) (pe_callTy call_int1 rfl G.g_int (by rfl) (pa_cons (pe_cmpR op_gt (pv 3) pe_int (nomark _)) pa_nil))) pa_nil)) (pg_name (i := 8) sc__law_hand.nd rfl (Or.inl rfl)) (pss_cut (ps_set (i := 12) sc__law_hand.nd rfl (Or.inl rfl) (pe_ifExp (pt_val (pv 10)) (pe_ix (ixK (K := K) rfl) (pv 1) (pe_op op_mod (pe_callTy call_int1 rfl G.g_int (by rfl) (pa_cons (pe_op op_add (pv 9) (pv 8)) pa_nil)) (pe_callB (lenK (K := K) rfl) rfl G.g_len PySem.boot_len (pa_cons (pv 1) pa_nil))) (fun _ _ => rfl)) (pe_cl (E := En) c__law_pick (hr.mono (by decide)) rfl passN (pa_cons (pv 0) (pa_cons (pv 1) pa_nil))))) (pss_one (ps_expr (pe_bm PySem.F.plainAttrs_list PySem.F.slot_list_append PySem.F.type_list_append mt_append (pv 11) (pa_cons (pe_tup (pa_cons (pe_ix (ixK (K := K) rfl) (pv 7) (pv 8) (fun _ _ => rfl)) (pa_cons (pv 12) (pa_cons (pe_ix (ixK (K := K) rfl) (pv 7) (pe_op op_mod (pe_callTy call_int1 rfl G.g_int (by rfl) (pa_cons (pe_op op_add (pv 8) pe_int) pa_nil)) (pv 6)) (fun _ _ => rfl)) pa_nil)))) pa_nil)))))) (pss_cut (ps_set (i := 13) sc__law_hand.nd rfl (Or.inl rfl) (pe_op op_mul (pe_cl (E := En) c__law_draw (hr.mono (by decide)) rfl passN (pa_cons (pv 0) (pa_cons pe_int pa_nil))) (pe_callTy call_int1 rfl G.g_int (by rfl) (pa_cons (L2.pe_or (pe_not (pv 10)) (pe_one (pe_cmpR op_eq (pe_cl (E := En) c__law_draw (hr.mono (by decide)) rfl passN (pa_cons (pv 0) (pa_cons pe_int pa_nil))) pe_int (nomark _)))) pa_nil)))) (pss_cons (ps_for PassesOwn.never rfl (pi_range1 rfl G.g_range (pa_cons (pe_op op_add (pv 13) (pe_callTy call_int1 rfl G.g_int (by rfl) (pa_cons (pe_cmpR op_eq (pe_callB (lenK (K := K) rfl) rfl G.g_len PySem.boot_len (pa_cons (pv 11) pa_nil)) pe_int (nomark _)) pa_nil))) pa_nil)) (pg_name (i := 8) sc__law_hand.nd rfl (Or.inl rfl)) (pss_cons (ps_set (i := 14) sc__law_hand.nd rfl (Or.inr rfl) (pe_tup (pa_cons (pe_cl (E := En) c__law_pick (hr.mono (by decide)) rfl passN (pa_cons (pv 0) (pa_cons (pv 7) pa_nil))) (pa_cons (pe_cl (E := En) c__law_pick (hr.mono (by decide)) rfl passN (pa_cons (pv 0) (pa_cons (pv 1) pa_nil))) (pa_cons (pe_cl (E := En) c__law_pick (hr.mono (by decide)) rfl passN (pa_cons (pv 0) (pa_cons (pv 7) pa_nil))) pa_nil))))) (pss_one (ps_if (PW.pt (pw_and (pt_cmpR (op_notInD (room65 hr)) (pv 14) (pv 11) (by rfl)) (pw_and1 (pt_cmpR op_lt (pe_callB (lenK (K := K) rfl) rfl G.g_len PySem.boot_len (pa_cons (pe_lc (own := [("_law_old", 15)]) rfl sc__law_hand.nd (pi_list (pv 11)) (BlkOk.mk (N := ["_law_pool_here", "_law_words_here", "_law_most", "_law_shape", "_law_first", "_law_gap", "_law_many", "_law_places", "_law_k", "_law_turn", "_law_orderly", "_law_steps", "_law_word", "_law_more", "_law_step", "_law_old"]) (sc := defScope s__law_hand) rfl (by decide +kernel) (by decide +kernel) (by decide +kernel) (by decide +kernel)) (fun _ _ _ _ _ => (pg_name (i := 15) sc__law_hand.nd rfl (Or.inl rfl))) (fun _ _ _ _ _ => (pts_one (pt_cmpR op_eq (pe_ix (ixK (K := K) rfl) (pv 15) pe_int (fun _ _ => rfl)) (pe_ix (ixK (K := K) rfl) (pv 14) pe_int (fun _ _ => rfl)) (nomark _)))) (fun _ _ _ _ _ => pe_int)) pa_nil)) pe_int (nomark _))))) (pss_one (ps_expr (pe_bm PySem.F.plainAttrs_list PySem.F.slot_list_append PySem.F.type_list_append mt_append (pv 11) (pa_cons (pv 14) pa_nil)))) pss_nil)))) (pss_one (ps_ret (pe_tup (pa_cons (pe_ix (ixK (K := K) rfl) (pe_lst (pa_cons (pe_ix (ixK (K := K) rfl) (pe_ix (ixK (K := K) rfl) (pv 11) pe_int (fun _ _ => rfl)) pe_int (fun _ _ => rfl)) (pa_cons (pe_cl (E := En) c__law_pick (hr.mono (by decide)) rfl passN (pa_cons (pv 0) (pa_cons (pv 7) pa_nil))) pa_nil))) (pe_cl (E := En) c__law_draw (hr.mono (by decide)) rfl passN (pa_cons (pv 0) (pa_cons pe_int pa_nil))) (fun _ _ => rfl)) (pa_cons (pe_callTy (tupOfK (K := K) rfl) rfl G.g_tuple (by rfl) (pa_cons (pv 11) pa_nil)) pa_nil))))))))))))), ?_⟩))
  · obtain ⟨_, _, _, _, rfl, _⟩ := h
    rfl
  · obtain ⟨p, a, zs, m, rfl, hP, nap, ha, zne, zl, znm, m1, m4, k⟩ := h
    have zpos : 0 < zs.length := List.length_pos_iff.mpr zne
    refine ⟨_, rfl, p, 6, rfl, hP, by decide, by decide, fun sh H1 s0 s1 K1 P1 => ⟨_, rfl, p, 70, rfl, P1, by decide, by decide, fun fi H2 f0 f1 K2 P2 => ⟨_, rfl, p, 9, rfl, P2, by decide, by decide, fun ga H3 g0 g1 K3 P3 => ⟨1, ga, rfl, rfl, (by show 3 ≤ sizeLine; decide), fun T hT => ?_⟩⟩⟩⟩
    refine ⟨T, _, rfl, st_of upd_same, rfl, _, _, rfl, _, _, rfl, _, _, rfl, rfl, ?_⟩
    have K4 := (K1.trans (K2.trans K3)).new (o := .tup [.int sh, .int fi, .int (1 + ga)]) P3 hT
    have P4 := P3.ex (Ex.new (o := .tup [.int sh, .int fi, .int (1 + ga)]) hT)
    generalize upd H3 T (.tup [.int sh, .int fi, .int (1 + ga)]) = H4 at K4 P4
    -- many
    refine ⟨_, rfl, _, rfl, _, rfl, p, m, rfl, P4, by omega, by omega, fun d H5 d0 d1 K5 P5 => ⟨_, rfl, p, 5, rfl, P5, by decide, by decide, fun e H6 e0 e1 K6 P6 => ⟨rfl, .inr ⟨_, rfl, d, _, rfl, rfl, .inl ⟨by omega, by omega⟩, m, _, rfl, rfl, ?_⟩⟩⟩⟩
    dsimp only
    generalize hmany : m - d * (if decide (V.int e = V.int 0) = true then 1 else 0) = many
    have hm : 1 ≤ many ∧ many ≤ 4 := by
      rw [← hmany]
      split <;> omega
    have K6' : Kp p H H6 := K4.trans (K5.trans K6)
    -- places
    refine ⟨_, rfl, many, rfl, by omega, by omega, fun pl hpl => ?_⟩
    obtain ⟨hpl0, nplp⟩ := K6'.free P6 hpl
    refine lc_ev (f := fun _ => true) (v := fun x => match x with | .int j => .int (fi + (1 + ga) * j) | x => x) st_r (by rw [List.length_map, List.length_range]; omega) (fun x => rfl) hpl (fun x _ H7 e Q q => q H7 (Ex.refl _)) (fun x hx _ H7 e Q q => ?_) (fun H7 e7 hd7 => ?_)
    · obtain ⟨j, hj, rfl⟩ := List.mem_map.mp hx
      exact ⟨_, rfl, _, rfl, _, rfl, _, _, rfl, rfl, .inl ⟨by omega, by omega⟩, fi, _, rfl, rfl, q H7 (Ex.refl _)⟩
    have d7 : H7 pl = some (.lst (((List.range many.toNat).map fun i : Nat => fi + (1 + ga) * (0 + (i : Int))).map V.int)) := by
      rw [hd7, List.filter_eq_self.mpr (fun _ _ => rfl), List.map_map, List.map_map]
      rfl
    generalize hpls : (List.range many.toNat).map (fun i : Nat => fi + (1 + ga) * (0 + (i : Int))) = pls at d7
    have plen : pls.length = many.toNat := by rw [← hpls, List.length_map, List.length_range]
    have pat : ∀ i : Nat, i < many.toNat → pls[i]? = some (fi + (1 + ga) * (i : Int)) := fun i hi => by
      rw [← hpls, List.getElem?_map, List.getElem?_range hi]
      show some (fi + (1 + ga) * (0 + (i : Int))) = _
      rw [Int.zero_add]
    have plow : ∀ x ∈ pls, 0 ≤ x ∧ x ≤ 96 := fun x hx => by
      obtain ⟨i, hi⟩ := List.getElem?_of_mem hx
      have hl := (List.getElem?_eq_some_iff.mp hi).1
      rw [pat i (by omega)] at hi
      have hi2 : fi + (1 + ga) * (i : Int) = x := Option.some.inj hi
      have hi3 : i = 0 ∨ i = 1 ∨ i = 2 ∨ i = 3 := by omega
      rcases hi3 with rfl | rfl | rfl | rfl <;> omega
    have K7 := K6'.trans (Kp.ex e7 P6)
    have P7 := P6.ex e7
    have ha7 := K7.k a _ nap ha
    -- turn, orderly
    refine ⟨_, rfl, _, rfl, .ref a, zs.length, rfl, .inl ⟨_, sq_of ha7, by rw [List.length_map]⟩, p, _, rfl, P7, by omega, by omega, fun tu H8 t0 t1 K8 P8 => ⟨_, rfl, p, 3, rfl, P8, by decide, by decide, fun o H9 o0 o1 K9 P9 => ⟨o, 0, rfl, rfl, _, _, rfl, ?_⟩⟩⟩
    have K79 := K8.trans K9
    have K9' := K7.trans K79
    have ha9 := K79.k a _ nap ha7
    have d9 := K79.k pl _ nplp d7
    clear hd7 e7 K8 K9 K5 K6 K1 K2 K3
    -- steps
    refine ⟨Nat.zero_le _, fun sl hsl => ?_⟩
    obtain ⟨nslp, asl⟩ := Apart.new (o := .lst []) P9 hsl
    refine ⟨_, rfl, _, rfl, sh, 3, rfl, rfl, .inr ⟨_, rfl, many, _, rfl, rfl, _, rfl, sh, 0, rfl, rfl, .inr ⟨_, rfl, _, _, rfl, rfl, .inl ⟨?_, ?_⟩, _, rfl, ?_, ?_, ?_⟩⟩⟩
    · split <;> omega
    · split <;> omega
    · split <;> split <;> omega
    · split <;> split <;> omega
    have I0 : HI p sl H9 (upd H9 sl (.lst [])) zs [] [] := ⟨upd_same, .nil, Row96.nil zs, (Kp.refl p H9).new P9 hsl, P9.ex (Ex.new hsl), asl⟩
    have key : ∀ {H' xs ts}, HI p sl H9 H' zs xs ts → H' a = some (.lst (zs.map V.str)) ∧ H' pl = some (.lst (pls.map V.int)) := fun {H' xs ts} h => ⟨h.2.2.2.1.k a _ nap ha9, h.2.2.2.1.k pl _ nplp d9⟩
    refine for_range (fun i σ' H' => ∃ v8 v12 xs ts, σ' = [some (.ref p), some (.ref a), some (.int m), some (.int sh), some (.int fi), some (.int (1 + ga)), some (.int many), some (.ref pl), v8, some (.int tu), some (.bl (decide ((0 : Int) < o))), some (.ref sl), v12, none, none, none] ∧ HI p sl H9 H' zs xs ts ∧ ts.length = i ∧ ∀ (j : Nat) t, ts[j]? = some t → t.1 = fi + (1 + ga) * (j : Int)) ⟨none, none, [], [], rfl, I0, rfl, fun j t h => (nomatch h)⟩ ?_ ?_
    · rintro i σ' H' hi ⟨v8, v12, xs, ts, rfl, I, hl, hat⟩
      have him : i < many.toNat := by
        revert hi
        (first | dsimp only | skip)
        split <;> split <;> omega
      refine ⟨fun σ2 H2 => ∃ w, w ∈ zs ∧ σ2 = [some (.ref p), some (.ref a), some (.int m), some (.int sh), some (.int fi), some (.int (1 + ga)), some (.int many), some (.ref pl), some (.int (0 + (i : Int))), some (.int tu), some (.bl (decide ((0 : Int) < o))), some (.ref sl), some (.str w), none, none, none] ∧ HI p sl H9 H2 zs xs ts, ?_, ?_⟩
      · obtain ⟨ka, kp⟩ := key I
        refine ⟨_, rfl, _, rfl, ite2 (fun _ => ?_) (fun _ => ?_)⟩
        · have h0 : 0 ≤ (tu + (0 + (i : Int))) % (zs.length : Int) := Int.emod_nonneg _ (by omega)
          have h1 : (tu + (0 + (i : Int))) % (zs.length : Int) < (zs.length : Int) := Int.emod_lt_of_pos _ (by omega)
          obtain ⟨w, hw⟩ : ∃ w, zs[((tu + (0 + (i : Int))) % (zs.length : Int)).toNat]? = some w := ⟨_, List.getElem?_eq_getElem (by omega)⟩
          refine ⟨_, rfl, _, rfl, _, rfl, tu, _, rfl, rfl, .inl ⟨_, rfl, _, rfl, .ref a, zs.length, rfl, .inl ⟨_, sq_of ka, by rw [List.length_map]⟩, _, _, rfl, rfl, (by show (0 : Int) < (zs.length : Int); omega), ?_⟩⟩
          refine .inl ⟨a, _, _, .str w, rfl, rfl, sq_of ka, at_of (j := ((tu + (0 + (i : Int))) % (zs.length : Int)).toNat) (by omega) (by rw [List.getElem?_map, hw]; rfl), w, List.mem_of_getElem? hw, rfl, I⟩
        · refine ⟨_, rfl, _, rfl, p, a, _, rfl, I.2.2.2.2.1, nap, .inl ka, (by intro z; rw [List.map_eq_nil_iff] at z; exact zne z), (by rw [List.length_map]; omega), fun x H2 hx K2 P2 => ?_⟩
          obtain ⟨w, hw, rfl⟩ := List.mem_map.mp hx
          exact ⟨w, hw, rfl, I.draw nslp K2 P2⟩
      · rintro σ2 H2 ⟨w, hw, rfl, I2⟩
        obtain ⟨ka, kp⟩ := key I2
        have hp1 := pat i him
        have h0 : 0 ≤ (0 + (i : Int) + 1) % many := Int.emod_nonneg _ (by omega)
        have h1 : (0 + (i : Int) + 1) % many < many := Int.emod_lt_of_pos _ (by omega)
        have hp2 := pat ((0 + (i : Int) + 1) % many).toNat (by omega)
        have low1 := plow _ (List.mem_of_getElem? hp1)
        have low2 := plow _ (List.mem_of_getElem? hp2)
        generalize fi + (1 + ga) * ((((0 + (i : Int) + 1) % many).toNat : Nat) : Int) = y2 at hp2 low2
        refine ⟨_, rfl, .inl ⟨rfl, _, sq_of I2.1⟩, _, rfl, _, rfl, .inl ⟨pl, _, _, .int (fi + (1 + ga) * (i : Int)), rfl, rfl, sq_of kp, at_of (j := i) (by omega) (by rw [List.getElem?_map, hp1]; rfl), _, rfl, ?_⟩⟩
        refine ⟨_, rfl, _, rfl, _, _, rfl, rfl, .inl ⟨_, rfl, _, rfl, _, many, rfl, rfl, (by show 0 < many; omega), .inl ⟨pl, _, _, .int y2, rfl, rfl, sq_of kp, at_of (j := ((0 + (i : Int) + 1) % many).toNat) (by omega) (by rw [List.getElem?_map, hp2]; rfl), (by show 3 ≤ sizeLine; decide), fun q hq => ?_⟩⟩⟩
        have I3 := I2.ex nslp (Ex.new (o := .tup [.int (fi + (1 + ga) * (i : Int)), .str w, .int y2]) hq)
        have hst : StepAt (upd H2 q (.tup [.int (fi + (1 + ga) * (i : Int)), .str w, .int y2])) (.ref q) (fi + (1 + ga) * (i : Int), w, y2) := ⟨q, rfl, upd_same⟩
        have hlx : xs.length = ts.length := I2.2.1.len
        refine ⟨sl, xs, .ref q, rfl, rfl, I3.1, sz_lt (by omega), _, _, _, _, rfl, I3.add nslp hsl hst ?_, by rw [List.length_append, hl]; rfl, fun j t hj => ?_⟩
        · have far : ∀ u ∈ ts, u.1 ≠ fi + (1 + ga) * (i : Int) := fun u hu => by
            obtain ⟨j, hj⟩ := List.getElem?_of_mem hu
            have hjl := (List.getElem?_eq_some_iff.mp hj).1
            rw [hat j u hj]
            intro e
            have e2 : (1 + ga) * ((i : Int) - (j : Int)) = 0 := by rw [Int.mul_sub]; omega
            rcases Int.mul_eq_zero.mp e2 with z | z <;> omega
          refine I3.2.2.1.add ⟨low1, hw, low2⟩ (fun hm => far _ hm rfl) ?_
          have hc : cnt (fi + (1 + ga) * (i : Int), w, y2) ts = 0 := by
            unfold cnt
            rw [List.length_eq_zero_iff, List.filter_eq_nil_iff]
            intro u hu
            have := far u hu
            simpa using this
          omega
        · rw [List.getElem?_append] at hj
          split at hj
          · exact hat j t hj
          · rw [List.getElem?_singleton] at hj
            split at hj
            · cases hj
              have : j = i := by omega
              rw [this]
            · cases hj
    · rintro σ' H' ⟨v8, v12, xs, ts, rfl, I, hl, hat⟩
      have hl4 : ts.length ≤ 4 := by
        rw [hl]
        (first | dsimp only | skip)
        split <;> split <;> omega
      clear hl hat
      have plne : pls.map V.int ≠ [] := fun z => by
        have z2 := congrArg List.length z
        rw [List.length_map, plen] at z2
        simp at z2
        omega
      have zne2 : zs.map V.str ≠ [] := fun z => by rw [List.map_eq_nil_iff] at z; exact zne z
      -- more
      refine ⟨fun σ2 H2 => ∃ mo : Int, 0 ≤ mo ∧ mo ≤ 3 ∧ σ2 = [some (.ref p), some (.ref a), some (.int m), some (.int sh), some (.int fi), some (.int (1 + ga)), some (.int many), some (.ref pl), v8, some (.int tu), some (.bl (decide ((0 : Int) < o))), some (.ref sl), v12, some (.int mo), none, none] ∧ HI p sl H9 H2 zs xs ts, ?_, ?_⟩
      · refine ⟨_, rfl, p, 4, rfl, I.2.2.2.2.1, by decide, by decide, fun d H2 d0 d1 K2 P2 => ?_⟩
        have I2 := I.draw nslp K2 P2
        refine ⟨_, rfl, _, rfl, _, rfl, ite2 (fun _ => ?_) (fun _ => ?_)⟩
        · exact .inr ⟨true, rfl, d, 1, rfl, rfl, .inr ⟨by decide, by decide⟩, d * 1, by omega, by omega, rfl, I2⟩
        · refine ⟨_, rfl, p, 2, rfl, P2, by decide, by decide, fun e H3 e0 e1 K3 P3 => ⟨rfl, .inr ⟨_, rfl, d, _, rfl, rfl, .inl ⟨by omega, by omega⟩, _, ?_, ?_, rfl, I2.draw nslp K3 P3⟩⟩⟩
          · split <;> omega
          · split <;> omega
      rintro σ2 H2 ⟨mo, mo0, mo3, rfl, I2⟩
      refine ⟨_, rfl, _, rfl, .ref sl, xs.length, rfl, .inl ⟨_, sq_of I2.1, rfl⟩, rfl, .inr ⟨_, rfl, mo, _, rfl, rfl, _, rfl, ?_, ?_, ?_⟩⟩
      · split <;> omega
      · split <;> omega
      refine for_range (fun i σ' H' => ∃ v8 v14 v15 xs' ts', σ' = [some (.ref p), some (.ref a), some (.int m), some (.int sh), some (.int fi), some (.int (1 + ga)), some (.int many), some (.ref pl), v8, some (.int tu), some (.bl (decide ((0 : Int) < o))), some (.ref sl), v12, some (.int mo), v14, v15] ∧ HI p sl H9 H' zs xs' ts' ∧ ts'.length ≤ 4 + i ∧ (1 ≤ i ∨ ts ≠ [] → ts' ≠ [])) ⟨v8, none, none, xs, ts, rfl, I2, by omega, fun h => h.elim (fun z => absurd z (by decide)) id⟩ ?_ ?_
      · rintro i σ' H' hi ⟨w8, w14, w15, xs', ts', rfl, I3, hl3, hne3⟩
        have hi4 : i < 4 := by
          revert hi
          split <;> omega
        refine ⟨_, rfl, _, rfl, p, pl, _, rfl, I3.2.2.2.2.1, nplp, .inl (key I3).2, plne, (by rw [List.length_map]; omega), fun x1 H4 hx1 K4 P4 => ?_⟩
        have I4 := I3.draw nslp K4 P4
        refine ⟨_, rfl, _, rfl, p, a, _, rfl, P4, nap, .inl (key I4).1, zne2, (by rw [List.length_map]; omega), fun x2 H5 hx2 K5 P5 => ?_⟩
        have I5 := I4.draw nslp K5 P5
        refine ⟨_, rfl, _, rfl, p, pl, _, rfl, P5, nplp, .inl (key I5).2, plne, (by rw [List.length_map]; omega), fun x3 H6 hx3 K6 P6 => ?_⟩
        have I6 := I5.draw nslp K6 P6
        obtain ⟨i1, hi1, rfl⟩ := List.mem_map.mp hx1
        obtain ⟨w, hw, rfl⟩ := List.mem_map.mp hx2
        obtain ⟨i3, hi3, rfl⟩ := List.mem_map.mp hx3
        refine ⟨(by show 3 ≤ sizeLine; decide), fun q hq => ?_⟩
        have I7 := I6.ex nslp (Ex.new (o := .tup [.int i1, .str w, .int i3]) hq)
        have hst : StepAt (upd H6 q (.tup [.int i1, .str w, .int i3])) (.ref q) (i1, w, i3) := ⟨q, rfl, upd_same⟩
        generalize upd H6 q (.tup [.int i1, .str w, .int i3]) = H7 at I7 hst
        have okz : ∀ z ∈ ts', OkS z := fun z hz => ok_of_nm (znm _ (I7.2.2.1.good z hz).2.1)
        have okt : OkS (i1, w, i3) := ok_of_nm (znm _ hw)
        have hlx : xs'.length = ts'.length := I7.2.1.len
        refine ⟨_, rfl, _, rfl, encS (i1, w, i3), ts'.map encS, hst.dp, .lst (sq_of I7.1) I7.2.1.dps, encS_shaped okt, encSs_shaped okz, ?_⟩
        rw [encSs_any]
        refine ⟨_, rfl, ?_⟩
        by_cases hm : (i1, w, i3) ∈ ts'
        · rw [decide_eq_true hm]
          exact iteF (iteF ⟨_, _, _, xs', ts', rfl, I7, by omega, fun _ z => by rw [z] at hm; cases hm⟩)
        · rw [decide_eq_false hm]
          refine iteT ?_
          refine ⟨_, rfl, sl, rfl, ⟨_, sq_of I7.1⟩, fun D hD => ?_⟩
          refine lc_ev (f := hit H7 i1) (v := fun _ => .int 1) (st_l (sq_of I7.1)) (by omega) (fun x => rfl) hD (fun x mx H8 e Q q => ?_) (fun x mx _ H8 e Q q => q H8 (Ex.refl _)) (fun H8 e8 hd8 => ?_)
          · obtain ⟨j, hj⟩ := List.getElem?_of_mem mx
            obtain ⟨u, hu, b, rfl, hb⟩ := I7.2.1.at hj
            obtain ⟨c, hce, hc⟩ := hst
            cases hce
            refine ⟨_, rfl, .inr (.inl ⟨b, _, 0, _, rfl, rfl, st_of (e _ _ hb), (by rfl), ?_⟩)⟩
            refine ⟨_, rfl, .inr (.inl ⟨_, _, 0, _, rfl, rfl, st_of (e _ _ hc), (by rfl), rfl, _, rfl, ?_⟩)⟩
            have e1 : decide (V.int u.1 = V.int i1) = hit H7 i1 (.ref b) := by
              rw [hit_at (t := u) ⟨b, rfl, hb⟩, Bool.eq_iff_iff]
              simp
            rw [e1]
            exact q H8 (Ex.refl _)
          · have I8 := I7.ex nslp e8
            have hst8 := hst.tu (Tu.ex e8)
            refine ⟨.ref D, _, rfl, .inl ⟨_, sq_of hd8, rfl⟩, _, 3, rfl, rfl, _, rfl, ?_⟩
            have hcn : ((((xs'.filter (hit H7 i1)).map fun _ => V.int 1).length : Nat) : Int) = (cnt (i1, w, i3) ts' : Int) := by
              rw [List.length_map, hit_len I7.2.1]
              rfl
            refine ite2 (fun hlt => ?_) (fun hge => ?_)
            · have hlt2 : cnt (i1, w, i3) ts' < 3 := by
                have := of_decide_eq_true hlt
                omega
              have I9 := I8.add nslp hsl hst8 (I8.2.2.1.add ⟨plow _ hi1, hw, plow _ hi3⟩ hm hlt2)
              exact ⟨_, rfl, .inl ⟨rfl, _, sq_of I8.1⟩, _, rfl, sl, xs', .ref q, rfl, rfl, I8.1, sz_lt (by omega), _, _, _, _, _, rfl, I9, by rw [List.length_append, List.length_singleton]; omega, fun _ z => by simp at z⟩
            · refine ⟨_, _, _, xs', ts', rfl, I8, by omega, fun _ z => hge ?_⟩
              subst z
              refine decide_eq_true ?_
              rw [hcn]
              show ((0 : Nat) : Int) < 3
              decide
      · rintro σ' H' ⟨w8, w14, w15, xs', ts', rfl, I3, hl3, hne3⟩
        have hl8 : ts'.length ≤ 12 := by
          revert hl3
          split <;> omega
        have hne : ts' ≠ [] := by
          refine hne3 ?_
          by_cases hz : ts = []
          · refine .inl ?_
            have hx0 : xs.length = 0 := by rw [I2.2.1.len, hz]; rfl
            rw [hx0]
            rw [if_pos (show decide (V.int ((0 : Nat) : Int) = V.int 0) = true from by simp)]
            omega
          · exact .inr hz
        clear hl3 hne3
        obtain ⟨t0, tr, rfl⟩ : ∃ t0 tr, ts' = t0 :: tr := by
          cases ts' with
          | nil => exact absurd rfl hne
          | cons t0 tr => exact ⟨t0, tr, rfl⟩
        have hxs := I3.2.1
        obtain ⟨x0, xr, rfl⟩ : ∃ x0 xr, xs' = x0 :: xr := by
          cases xs' with
          | nil => exact (nomatch hxs)
          | cons x0 xr => exact ⟨x0, xr, rfl⟩
        obtain ⟨t, ht, b0, rfl, hb0⟩ := hxs.at (i := 0) rfl
        cases ht
        have g0' := (I3.2.2.1.good t0 List.mem_cons_self).1
        refine ⟨_, rfl, .inl ⟨sl, _, 0, .ref b0, rfl, rfl, sq_of I3.1, (show atI _ ((0 : Nat) : Int) = _ from atI_nat rfl), .inr (.inl ⟨b0, _, 0, _, rfl, rfl, st_of hb0, (by rfl), ?_⟩)⟩⟩
        refine ⟨_, rfl, _, rfl, p, pl, _, rfl, I3.2.2.2.2.1, nplp, .inl (key I3).2, plne, (by rw [List.length_map]; omega), fun x1 H4 hx1 K4 P4 => ?_⟩
        have I4 := I3.draw nslp K4 P4
        obtain ⟨i1, hi1, rfl⟩ := List.mem_map.mp hx1
        refine ⟨(by show 2 ≤ sizeLine; decide), fun q hq => ?_⟩
        have I5 := I4.ex nslp (Ex.new (o := .lst [.int t0.1, .int i1]) hq)
        have nqp : q ≠ p := fun z => P4.here (z ▸ hq)
        refine ⟨_, rfl, p, 2, rfl, I5.2.2.2.2.1, by decide, by decide, fun d H6 d0 d1 K6 P6 => ?_⟩
        have hq6 := K6.k q _ nqp upd_same
        have I6 := I5.draw nslp K6 P6
        have hst : ∃ st : Int, ([.int t0.1, .int i1] : List V)[d.toNat]? = some (.int st) ∧ 0 ≤ st ∧ st ≤ 96 := by
          have hd : d = 0 ∨ d = 1 := by omega
          rcases hd with rfl | rfl
          · exact ⟨_, rfl, g0'⟩
          · exact ⟨_, rfl, plow _ hi1⟩
        obtain ⟨st, hst, st0, st96⟩ := hst
        refine .inl ⟨q, _, d, .int st, rfl, rfl, sq_of hq6, at_of (j := d.toNat) (by omega) hst, ?_⟩
        refine ⟨.ref sl, rfl, ?_⟩
        dsimp only [tNil]
        refine tupof_go (K := K) (.inl I6.1) fun tp H7 e7 htp => ?_
        have I7 := I6.ex nslp e7
        refine ⟨(by show 2 ≤ sizeLine; decide), fun q2 hq2 => ?_⟩
        have I8 := I7.ex nslp (Ex.new (o := .tup [.int st, .ref tp]) hq2)
        refine k q2 tp _ st _ _ ⟨I8.2.2.1.row znm (by simp) (by omega), ⟨st0, st96⟩, fun u hu => ?_, hl8, fun u hu => (I8.2.2.1.good u hu).2.1⟩ (K9'.trans I8.2.2.2.1) I8.2.2.2.2.1 upd_same (Ex.new hq2 _ _ htp) I8.2.1
        obtain ⟨⟨_, a2⟩, _, _, a4⟩ := I8.2.2.1.good u hu
        exact ⟨a2, a4⟩
end
end WK

set_option Elab.async false
set_option linter.all false
set_option maxRecDepth 100000
set_option maxHeartbeats 4000000
namespace WK
open PySem PySem.Spec PyProof.Rows L2 WW Evl
/-- a hand's start and its row of steps -/
abbrev Hnd : Type := Int × List Stp
def HdT (H : Hp) (v : V) (h : Hnd) : Prop := ∃ a b xs, v = .ref a ∧ H a = some (.tup [.int h.1, .ref b]) ∧ H b = some (.tup xs) ∧ Rw H xs h.2
theorem HdT.tu {H H' : Hp} {v : V} {h : Hnd} (e : Tu H H') (q : HdT H v h) : HdT H' v h := by
  obtain ⟨a, b, xs, rfl, h1, h2, h3⟩ := q
  exact ⟨a, b, xs, rfl, e _ _ h1, e _ _ h2, h3.tu e⟩
/-- the tuple of hands -/
def HdsAt (H : Hp) (a : Addr) (hs : List Hnd) : Prop := ∃ vs, H a = some (.tup vs) ∧ Paired (HdT H) vs hs
theorem HdsAt.tu {H H' : Hp} {a : Addr} {hs : List Hnd} (e : Tu H H') (q : HdsAt H a hs) : HdsAt H' a hs := by
  obtain ⟨vs, h1, h2⟩ := q
  exact ⟨vs, e _ _ h1, Paired.mapP h2 fun _ _ z => z.tu e⟩
theorem prd_at {α β : Type} {R : α → β → Prop} : ∀ {xs : List α} {os : List β} {i : Nat} {x : α}, Paired R xs os → xs[i]? = some x → ∃ o, os[i]? = some o ∧ R x o
  | _, _, i, _, .nil, e => by simp at e
  | _, _, 0, _, .cons g _, e => by simp at e; subst e; exact ⟨_, rfl, g⟩
  | _, _, i + 1, _, .cons _ r, e => by simpa using prd_at r (by simpa using e)
theorem HdsAt.get {H : Hp} {a : Addr} {hs : List Hnd} {i : Nat} {h : Hnd} (q : HdsAt H a hs) (e : hs[i]? = some h) : ∃ vs v, H a = some (.tup vs) ∧ vs[i]? = some v ∧ HdT H v h := by
  obtain ⟨vs, h1, h2⟩ := q
  have hl := Paired.length h2
  have li : i < vs.length := by
    have := (List.getElem?_eq_some_iff.mp e).1
    omega
  obtain ⟨v, hv⟩ : ∃ v, vs[i]? = some v := ⟨_, List.getElem?_eq_getElem li⟩
  obtain ⟨o, ho, r⟩ := prd_at h2 hv
  rw [e] at ho
  cases ho
  exact ⟨vs, v, h1, hv, r⟩
theorem put_mem {κ : Type} [DecidableEq κ] {kvs : List (κ × V)} {k : κ} {v : V} {q : κ × V} (h : q ∈ putK kvs k v) : q ∈ kvs ∨ q = (k, v) := by
  unfold putK at h
  split at h
  · obtain ⟨r, hr, e⟩ := List.mem_map.mp h
    split at e
    · rename_i hk
      right
      rw [← e, hk]
    · left
      rw [← e]
      exact hr
  · rcases List.mem_append.mp h with h | h
    · exact .inl h
    · exact .inr (List.mem_singleton.mp h)
theorem put_ne {κ : Type} [DecidableEq κ] (kvs : List (κ × V)) (k : κ) (v : V) : putK kvs k v ≠ [] := fun z => by
  have h := valV_put kvs k k v
  rw [z, if_pos rfl] at h
  cases h
/-- a pattern's row, for m hands -/
def PatK (m : Nat) (kvs : List (Key × V)) : Prop := ∀ q ∈ kvs, ∃ k v : Int, q = (.inl k, .int v) ∧ 0 ≤ k ∧ k < m ∧ 0 ≤ v ∧ v ≤ 99
theorem PatK.put {m : Nat} {kvs : List (Key × V)} {k v : Int} (h : PatK m kvs) (h1 : 0 ≤ k) (h2 : k < m) (h3 : 0 ≤ v) (h4 : v ≤ 99) : PatK m (putK kvs (.inl k) (.int v)) := fun q hq => by
  rcases put_mem hq with hq | rfl
  · exact h q hq
  · exact ⟨k, v, rfl, h1, h2, h3, h4⟩
/-- the thing at D while it is filled; B: what stood before -/
structure Fil (p D : Addr) (B H : Hp) : Prop where
  kp : Kp p B H
  pool : Pool H p
  ap : Apart H p D
theorem Fil.draw {p D : Addr} {B H H2 : Hp} {o : HO} (h : Fil p D B H) (n : D ≠ p) (hd : H D = some o) (K : Kp p H H2) (P : Pool H2 p) : Fil p D B H2 ∧ H2 D = some o :=
  ⟨⟨h.kp.trans K, P, K.a D n (some_ne hd) h.ap⟩, K.k D o n hd⟩
theorem Fil.put {p D : Addr} {B H : Hp} {o : HO} (h : Fil p D B H) (n : D ≠ p) (hb : B D = none) : Fil p D B (upd H D o) := ⟨h.kp.mut hb n, h.pool.mut n h.ap, Apart.mut n h.ap⟩
theorem Fil.new {p D : Addr} {B : Hp} {o : HO} (hP : Pool B p) (hb : B D = none) : Fil p D B (upd B D o) ∧ D ≠ p := by
  obtain ⟨n, a⟩ := Apart.new (o := o) hP hb
  exact ⟨⟨(Kp.refl p B).new hP hb, hP.ex (Ex.new hb), a⟩, n⟩
theorem Fil.ex {p D : Addr} {B H H2 : Hp} {o : HO} (h : Fil p D B H) (n : D ≠ p) (hd : H D = some o) (e : Ex H H2) : Fil p D B H2 ∧ H2 D = some o := h.draw n hd (Kp.ex e h.pool) (h.pool.ex e)
section
variable {P : Program} {w : World} {K : PySem.W.Frag} {mg : Str → Option Value} {base : Heap} {f : Addr} {fd : FuncData}
abbrev s__law_pattern : Stmt := top 46
theorem sc__law_pattern : FnScope ["_law_pool_here", "_law_hands", "_law_pattern_here", "_law_k", "_law_step"] ["_law_pool_here", "_law_hands"] (defScope s__law_pattern) := ⟨rfl, rfl, rfl, by decide +kernel, rfl, by decide +kernel, by decide +kernel⟩
def spPattern : Sp := fun vs H Q _ => ∃ (p a : Addr) (hs : List Hnd), vs = [.ref p, .ref a] ∧ Pool H p ∧ HdsAt H a hs ∧ hs ≠ [] ∧ hs.length ≤ 3 ∧ (∀ h ∈ hs, GoodRow h.2) ∧
  ∀ D kvs H', Kp p H H' → Pool H' p → H D = none → D ≠ p → kvs ≠ [] → kvs.length ≤ 4 → PatK hs.length kvs → H' D = some (.dK kvs) → Q (.ref D) H'
theorem ok_pattern (G : Gz mg) (D : Df K mg "_law_pattern" s__law_pattern f fd ["_law_pool_here", "_law_hands"]) (c__law_draw : Callee P w K mg base CXn 1 "_law_draw" 2 spDraw) (c__law_pick : Callee P w K mg base CXn 2 "_law_pick" 2 spPick) : Callee P w K mg base CXn 3 "_law_pattern" 2 spPattern := by
  refine D.callee (D.fn.ok sc__law_pattern (fun vs H Q E h => ?_) (fun cdv A outer s H vs Q E hr h => ⟨_, PSs.nox (pss_cons (ps_set (i := 2) sc__law_pattern.nd rfl (Or.inl rfl) pe_dnewK) (pss_cons (ps_for PassesOwn.never rfl (pi_range1 rfl G.g_range (pa_cons (pe_callB (lenK (K := K) rfl) rfl G.g_len PySem.boot_len (pa_cons (pv 1) pa_nil)) pa_nil)) (pg_name (i := 3) sc__law_pattern.nd rfl (Or.inl rfl)) (pss_one (ps_if (pt_cmpR op_eq (pe_cl (E := En) c__law_draw (hr.mono (by decide)) rfl passN (pa_cons (pv 0) (pa_cons pe_int pa_nil))) pe_int (nomark _)) (pss_cons (ps_set (i := 4) sc__law_pattern.nd rfl (Or.inl rfl) (pe_cl (E := En) c__law_pick (hr.mono (by decide)) rfl passN (pa_cons (pv 0) (pa_cons (pe_ix (ixK (K := K) rfl) (pe_ix (ixK (K := K) rfl) (pv 1) (pv 3) (fun _ _ => rfl)) pe_int (fun _ _ => rfl)) pa_nil)))) (pss_one (ps_dput (room1 hr) (pv 2) (pv 3) (pe_ix (ixK (K := K) rfl) (pv 4) (pe_op op_mul pe_int (pe_cl (E := En) c__law_draw (hr.mono (by decide)) rfl passN (pa_cons (pv 0) (pa_cons pe_int pa_nil)))) (fun _ _ => rfl)) rfl))) pss_nil))) (pss_cut (ps_if (pt_cmpR op_eq (pe_callB call_lenD rfl G.g_len PySem.boot_len (pa_cons (pv 2) pa_nil)) pe_int (nomark _)) (pss_one (ps_dput (room1 hr) (pv 2) pe_int (pe_ix (ixK (K := K) rfl) (pe_cl (E := En) c__law_pick (hr.mono (by decide)) rfl passN (pa_cons (pv 0) (pa_cons (pe_ix (ixK (K := K) rfl) (pe_ix (ixK (K := K) rfl) (pv 1) pe_int (fun _ _ => rfl)) pe_int (fun _ _ => rfl)) pa_nil))) pe_int (fun _ _ => rfl)) rfl)) pss_nil) (pss_one (ps_ret (pv 2)))))), ?_⟩))
  · obtain ⟨_, _, _, rfl, _⟩ := h
    rfl
  · obtain ⟨p, a, hs, rfl, hP, ha, hne, h3, good, k⟩ := h
    have tup0 : ∀ {H' : Hp}, Kp p H H' → HdsAt H' a hs := fun K' => ha.tu (K'.tu hP)
    -- one of a hand's steps
    have one : ∀ {H' : Hp} {i : Nat} {h : Hnd}, Kp p H H' → hs[i]? = some h → ∃ vs v b xs, H' a = some (.tup vs) ∧ vs[i]? = some v ∧ v = .ref b ∧ ∃ c, H' b = some (.tup [.int h.1, .ref c]) ∧ H' c = some (.tup xs) ∧ Rw H' xs h.2 := fun K' e => by
      obtain ⟨vs, v, h1, h2, b, c, xs, rfl, h4, h5, h6⟩ := (tup0 K').get e
      exact ⟨vs, _, b, xs, h1, h2, rfl, c, h4, h5, h6⟩
    refine fun D hD => ?_
    obtain ⟨F0, nDp⟩ := Fil.new (o := .dK []) hP hD
    have hl : ∃ vs, H a = some (.tup vs) ∧ vs.length = hs.length := let ⟨vs, h1, h2⟩ := ha; ⟨vs, h1, Paired.length h2⟩
    obtain ⟨vs0, ha0, hl0⟩ := hl
    have e0 : Ex H (upd H D (.dK [])) := Ex.new hD
    refine ⟨_, rfl, .ref a, hs.length, rfl, .inr ⟨vs0, st_of (e0 _ _ ha0), hl0.symm⟩, (hs.length : Int), rfl, by omega, by omega, for_range (fun i σ' H' => ∃ v3 v4 kvs, σ' = [some (.ref p), some (.ref a), some (.ref D), v3, v4] ∧ Fil p D H H' ∧ PatK hs.length kvs ∧ kvs.length ≤ i ∧ H' D = some (.dK kvs)) ?_ ?_ ?_⟩
    · exact ⟨none, none, [], rfl, F0, fun q z => (nomatch z), Nat.le_refl _, upd_same⟩
    · rintro i σ' H' hi ⟨v3, v4, kvs, rfl, F, hk, hkl, hd⟩
      have hi2 : i < hs.length := by simpa using hi
      obtain ⟨h, hh⟩ : ∃ h, hs[i]? = some h := ⟨_, List.getElem?_eq_getElem hi2⟩
      have gh := good h (List.mem_of_getElem? hh)
      refine ⟨_, rfl, p, 2, rfl, F.pool, by decide, by decide, fun d H1 d0 d1 K1 P1 => ⟨rfl, _, rfl, ?_⟩⟩
      obtain ⟨F1, hd1⟩ := F.draw nDp hd K1 P1
      refine ite2 (fun _ => ?_) (fun _ => ⟨_, _, kvs, rfl, F1, hk, by omega, hd1⟩)
      obtain ⟨vs, v, b, xs, x1, x2, rfl, c, x4, x5, x6⟩ := one F1.kp hh
      have ncp : c ≠ p := fun z => by
        obtain ⟨_, _, _, _, _, _, hp, _⟩ := P1
        rw [z, hp] at x5
        cases x5
      have lx := x6.len
      have l1 := gh.least
      have l2 := gh.most
      refine ⟨_, rfl, _, rfl, _, rfl, .inr (.inl ⟨a, vs, _, .ref b, rfl, rfl, st_of x1, at_of (j := i) (by omega) x2, .inr (.inl ⟨b, _, 1, _, rfl, rfl, st_of x4, (by rfl), ?_⟩)⟩)⟩
      refine ⟨p, c, xs, rfl, P1, ncp, .inr x5, (fun z => by rw [z] at lx; simp at lx; omega), by omega, fun x H2 hx K2 P2 => ?_⟩
      obtain ⟨j, hj⟩ := List.getElem?_of_mem hx
      obtain ⟨u, hu, hst⟩ := x6.at hj
      have gu := gh.good u (List.mem_of_getElem? hu)
      obtain ⟨F2, hd2⟩ := F1.draw nDp hd1 K2 P2
      have hst2 := hst.tu (K2.tu P1)
      refine ⟨_, rfl, _, rfl, p, 2, rfl, P2, by decide, by decide, fun e H3 e0' e1' K3 P3 => ?_⟩
      obtain ⟨F3, hd3⟩ := F2.draw nDp hd2 K3 P3
      obtain ⟨b2, rfl, hb2⟩ := hst2.tu (K3.tu P2)
      have hv : ∃ y : Int, ([.int u.1, .str u.2.1, .int u.2.2] : List V)[(2 * e).toNat]? = some (.int y) ∧ 0 ≤ y ∧ y ≤ 99 := by
        have he : e = 0 ∨ e = 1 := by omega
        rcases he with rfl | rfl
        · exact ⟨_, rfl, gu.1, gu.2.1⟩
        · exact ⟨_, rfl, gu.2.2.2.1, gu.2.2.2.2⟩
      obtain ⟨y, hy, y0, y99⟩ := hv
      refine ⟨2, e, rfl, rfl, .inl ⟨by omega, by omega⟩, .inr (.inl ⟨b2, _, 2 * e, .int y, rfl, rfl, st_of hb2, at_of (j := (2 * e).toNat) (by omega) hy, ?_⟩)⟩
      refine ⟨_, rfl, _, rfl, D, _, rfl, DPut.k (k := .inl (0 + (i : Int))) hd3 (sz_lt (by omega)), ?_⟩
      exact ⟨_, _, _, rfl, F3.put nDp hD, hk.put (by omega) (by omega) y0 y99, by have := length_putK kvs (Sum.inl (0 + (i : Int)) : Key) (V.int y); omega, upd_same⟩
    · rintro σ' H' ⟨v3, v4, kvs, rfl, F, hk, hkl, hd⟩
      have hkl3 : kvs.length ≤ 3 := by simp at hkl; omega
      refine ⟨fun σ2 H2 => ∃ v3 v4 kvs, σ2 = [some (.ref p), some (.ref a), some (.ref D), v3, v4] ∧ Fil p D H H2 ∧ kvs ≠ [] ∧ kvs.length ≤ 4 ∧ PatK hs.length kvs ∧ H2 D = some (.dK kvs), ?_, ?_⟩
      · refine ⟨_, rfl, D, kvs, rfl, hd, rfl, _, rfl, ite2 (fun _ => ?_) (fun hz => ⟨_, _, kvs, rfl, F, fun z => hz (by rw [z]; rfl), by omega, hk, hd⟩)⟩
        obtain ⟨h, hh⟩ : ∃ h, hs[0]? = some h := ⟨_, List.getElem?_eq_getElem (List.length_pos_iff.mpr hne)⟩
        have gh := good h (List.mem_of_getElem? hh)
        obtain ⟨vs, v, b, xs, x1, x2, rfl, c, x4, x5, x6⟩ := one F.kp hh
        have P1 := F.pool
        have ncp : c ≠ p := fun z => by
          obtain ⟨_, _, _, _, _, _, hp, _⟩ := P1
          rw [z, hp] at x5
          cases x5
        have lx := x6.len
        have l1 := gh.least
        have l2 := gh.most
        refine ⟨_, rfl, _, rfl, .inr (.inl ⟨a, vs, _, .ref b, rfl, rfl, st_of x1, at_of (j := 0) (by rfl) x2, .inr (.inl ⟨b, _, 1, _, rfl, rfl, st_of x4, (by rfl), ?_⟩)⟩)⟩
        refine ⟨p, c, xs, rfl, P1, ncp, .inr x5, (fun z => by rw [z] at lx; simp at lx; omega), by omega, fun x H2 hx K2 P2 => ?_⟩
        obtain ⟨j, hj⟩ := List.getElem?_of_mem hx
        obtain ⟨u, hu, hst⟩ := x6.at hj
        have gu := gh.good u (List.mem_of_getElem? hu)
        obtain ⟨F2, hd2⟩ := F.draw nDp hd K2 P2
        obtain ⟨b2, rfl, hb2⟩ := hst.tu (K2.tu P1)
        refine .inr (.inl ⟨b2, _, 2, _, rfl, rfl, st_of hb2, (by rfl), ?_⟩)
        refine ⟨_, rfl, D, _, rfl, DPut.k (k := .inl 0) hd2 (sz_lt (by omega)), ?_⟩
        have hp1 : 0 < hs.length := List.length_pos_iff.mpr hne
        exact ⟨_, _, _, rfl, F2.put nDp hD, put_ne _ _ _, by have := length_putK kvs (Sum.inl 0 : Key) (V.int u.2.2); omega, hk.put (Int.le_refl 0) (by omega) gu.2.2.2.1 gu.2.2.2.2, upd_same⟩
      · rintro σ2 H2 ⟨v3', v4', kvs', rfl, F2, ne, l4, hk2, hd2⟩
        exact ⟨_, rfl, k D kvs' H2 F2.kp F2.pool hD nDp ne l4 hk2 hd2⟩
end
end WK

set_option Elab.async false
set_option linter.all false
set_option maxRecDepth 100000
set_option maxHeartbeats 4000000
namespace WK
open PySem PySem.Spec PyProof.Rows L2 WW Evl
/-- the keys of a locked dict -/
theorem st_k {H : Hp} {d : Addr} {o : Obj} {kvs : List (Key × V)} (h : H d = some (.frz o (.dK kvs))) : Steady (Itk d o kvs) H (kvs.map fun q => kV q.1) where
  go := fun i H' e hi => ⟨e _ _ h, by simpa using hi⟩
  yld := fun i H' x H'' e _ y => by
    obtain ⟨e1, k, v, hk, rfl⟩ := y
    refine ⟨e1, ?_⟩
    rw [List.getElem?_map, hk]
    rfl
  stop := fun H' e => ⟨e _ _ h, by simp⟩
theorem unlock_ex {H H' : Hp} {d : Addr} {o : Obj} {u : HO} (h : H d = some u) (e : Ex (upd H d (.frz o u)) H') : Ex H (upd H' d u) := fun b x hb => by
  by_cases z : b = d
  · rw [z] at hb ⊢
    rw [upd_same, ← hb, h]
  · rw [upd_ne z]
    exact e b x (by rw [upd_ne z]; exact hb)
theorem frz_get {H H' : Hp} {d : Addr} {o : Obj} {kvs : List (Key × V)} {k : Key} (h : H d = some (.frz o (.dK kvs))) : DGet H d (kV k) (valV kvs k) := .inl ⟨kvs, k, .inr ⟨o, h⟩, rfl, rfl⟩
theorem valV_of {m : Nat} {kvs : List (Key × V)} {q : Key × V} (h : PatK m kvs) (hq : q ∈ kvs) : ∃ k v : Int, q.1 = .inl k ∧ 0 ≤ k ∧ k < m ∧ valV kvs q.1 = some (.int v) := by
  obtain ⟨k, v, rfl, k0, km, v0, v9⟩ := h q hq
  cases e : valV kvs (.inl k) with
  | none =>
    have : (kvs.any fun kv => decide (kv.1 = (Sum.inl k : Key))) = true := List.any_eq_true.mpr ⟨_, hq, by simp⟩
    rw [valV_any, e] at this
    cases this
  | some x =>
    have hm : ∃ q2 ∈ kvs, q2 = (.inl k, x) := by
      clear h hq
      induction kvs with
      | nil => cases e
      | cons a r ih =>
        by_cases z : a.1 = (Sum.inl k : Key)
        · rw [valV_pos z] at e
          exact ⟨a, List.mem_cons_self, by cases a; cases z; cases e; rfl⟩
        · rw [valV_neg z] at e
          obtain ⟨q2, m2, e2⟩ := ih e
          exact ⟨q2, List.mem_cons_of_mem _ m2, e2⟩
    obtain ⟨q2, m2, rfl⟩ := hm
    obtain ⟨k', v', e', _⟩ := h _ m2
    cases e'
    exact ⟨_, _, rfl, k0, km, rfl⟩
/-- a standing and a pattern part at x -/
def apart' (ss : List Int) (kvs : List (Key × V)) : V → Bool
  | .int k => !decide (((ss.map V.int)[k.toNat]?).getD .non = (valV kvs (.inl k)).getD .non)
  | _ => false
section
variable {P : Program} {w : World} {K : PySem.W.Frag} {mg : Str → Option Value} {base : Heap} {f : Addr} {fd : FuncData}
abbrev s__law_agrees : Stmt := top 47
theorem sc__law_agrees : FnScope ["_law_pattern_here", "_law_standing", "_law_k"] ["_law_pattern_here", "_law_standing"] (defScope s__law_agrees) := ⟨rfl, rfl, rfl, by decide +kernel, rfl, by decide +kernel, by decide +kernel⟩
def spAgrees : Sp := fun vs H Q _ => ∃ (D T : Addr) (kvs : List (Key × V)) (ss : List Int), vs = [.ref D, .ref T] ∧ H D = some (.dK kvs) ∧ PatK ss.length kvs ∧ kvs.length ≤ 100 ∧ H T = some (.tup (ss.map V.int)) ∧ ∀ b H', Ex H H' → Q (.bl b) H'
theorem ok_agrees (G : Gz mg) (D : Df K mg "_law_agrees" s__law_agrees f fd ["_law_pattern_here", "_law_standing"]) : Callee P w K mg base CXn 1 "_law_agrees" 2 spAgrees := by
  refine D.callee (D.fn.ok sc__law_agrees (fun vs H Q E h => ?_) (fun cdv A outer s H vs Q E hr h => ⟨_, PSs.nox (pss_one (ps_ret (pe_cmpR op_eq (pe_callB (lenK (K := K) rfl) rfl G.g_len PySem.boot_len (pa_cons (pe_lock (pe_lc (own := [("_law_k", 2)]) rfl sc__law_agrees.nd (pi_keys (pv 0)) (BlkOk.mk (N := ["_law_pattern_here", "_law_standing", "_law_k"]) (sc := defScope s__law_agrees) rfl (by decide +kernel) (by decide +kernel) (by decide +kernel) (by decide +kernel)) (fun _ _ _ _ _ => (pg_name (i := 2) sc__law_agrees.nd rfl (Or.inl rfl))) (fun _ _ _ _ _ => (pts_one (pt_cmpR op_ne (pe_ix (ixK (K := K) rfl) (pv 1) (pv 2) (fun _ _ => rfl)) (pe_dget (room1 hr) (pv 0) (pv 2) (fun _ _ => rfl)) (nomark _)))) (fun _ _ _ _ _ => (pv 2)))) pa_nil)) pe_int (nomark _)))), ?_⟩))
  · obtain ⟨_, _, _, _, rfl, _⟩ := h
    rfl
  · obtain ⟨D, T, kvs, ss, rfl, hD, hk, hkl, hT, k⟩ := h
    have nTD : T ≠ D := fun z => by rw [z, hD] at hT; cases hT
    refine ⟨D, .dK kvs, hD, trivial, fun od => ?_⟩
    have hf : upd H D (.frz od (.dK kvs)) D = some (.frz od (.dK kvs)) := upd_same
    have hT2 : upd H D (.frz od (.dK kvs)) T = some (.tup (ss.map V.int)) := by rw [upd_ne nTD]; exact hT
    refine ⟨_, rfl, D, od, rfl, .inl ⟨kvs, hf, fun N hN => ?_⟩⟩
    refine lc_ev (f := apart' ss kvs) (v := fun x => x) (st_k hf) (by rw [List.length_map]; omega) (fun x => rfl) hN (fun x hx H1 e Q q => ?_) (fun x hx _ H1 e Q q => ⟨_, rfl, q H1 (Ex.refl _)⟩) (fun H' e hd => ⟨e _ _ hf, ?_⟩)
    · obtain ⟨y, hy, rfl⟩ := List.mem_map.mp hx
      obtain ⟨ky, vy, e1, k0, km, hv⟩ := valV_of hk hy
      have li : ky.toNat < (ss.map V.int).length := by rw [List.length_map]; omega
      obtain ⟨z, hz⟩ : ∃ z, (ss.map V.int)[ky.toNat]? = some z := ⟨_, List.getElem?_eq_getElem li⟩
      have hz2 := hz
      rw [List.getElem?_map] at hz2
      obtain ⟨s0, hs0, rfl⟩ := Option.map_eq_some_iff.mp hz2
      have ef : apart' ss kvs (kV y.1) = !decide (V.int s0 = V.int vy) := by
        rw [e1] at hv ⊢
        show (!decide (((ss.map V.int)[ky.toNat]?).getD .non = (valV kvs (.inl ky)).getD .non)) = _
        rw [hz, hv]
        rfl
      have hg : DGet H1 D (kV y.1) (some (.int vy)) := by
        rw [← hv]
        exact frz_get (H' := H1) (e _ _ hf)
      have e2 : kV y.1 = .int ky := by rw [e1]; rfl
      have q1 := q H1 (Ex.refl _)
      rw [ef] at q1
      refine ⟨_, rfl, _, rfl, .inr (.inl ⟨T, _, ky, .int s0, rfl, e2, st_of (e _ _ hT2), at_of (j := ky.toNat) (by omega) hz, ?_⟩)⟩
      exact ⟨_, rfl, _, rfl, D, .int vy, rfl, hg, rfl, _, rfl, q1⟩
    · have ex := unlock_ex hD e
      have nND : N ≠ D := fun z => by rw [z, hf] at hN; cases hN
      refine ⟨.ref N, _, rfl, .inl ⟨_, sq_of (by rw [upd_ne nND]; exact hd), rfl⟩, rfl, k _ _ ex⟩
end
/-- the words of hands, in their order -/
def wds (hs : List Hnd) : List Str := hs.flatMap fun h => h.2.map (·.2.1)
section
variable {P : Program} {w : World} {K : PySem.W.Frag} {mg : Str → Option Value} {base : Heap} {f : Addr} {fd : FuncData}
/-- sorted(set(a list of texts)) -/
theorem words_go {H : Hp} {D : Addr} {zs : List Str} {Q : VK} (hd : H D = some (.lst (zs.map V.str))) (hl : zs.length + 1 < scanBound) (q : ∀ W ks H', Ex H H' → H W = none → ks.Nodup → (∀ x, x ∈ ks ↔ x ∈ zs) → H' W = some (.lst ((sortS ks).map V.str)) → Q (.ref W) H') :
    rSetOfS K P w [.ref D] H fun v H1 => rSortSS P w [v] H1 Q :=
  ⟨D, zs, rfl, sq_of hd, hl, fun A ks hA nd hm => ⟨A, ks, rfl, upd_same, fun W hW => q W ks _ ((Ex.new hA).trans (Ex.new hW)) (fresh_back (Ex.new hA) hW) nd hm upd_same⟩⟩
abbrev s__law_words : Stmt := top 48
theorem sc__law_words : FnScope ["_law_hands", "_law_words_here", "_law_hand_here", "_law_step"] ["_law_hands"] (defScope s__law_words) := ⟨rfl, rfl, rfl, by decide +kernel, rfl, by decide +kernel, by decide +kernel⟩
def spWordsP : Sp := fun vs H Q _ => ∃ (a : Addr) (hs : List Hnd), vs = [.ref a] ∧ HdsAt H a hs ∧ hs.length ≤ 3 ∧ (∀ h ∈ hs, h.2.length ≤ 20) ∧ ∀ W ks H', Ex H H' → H W = none → ks.Nodup → (∀ x, x ∈ ks ↔ x ∈ wds hs) → H' W = some (.lst ((sortS ks).map V.str)) → Q (.ref W) H'
theorem ok_wordsP (G : Gz mg) (D : Df K mg "_law_words" s__law_words f fd ["_law_hands"]) : Callee P w K mg base CXn 1 "_law_words" 1 spWordsP := by
  refine D.callee (D.fn.ok sc__law_words (fun vs H Q E h => ?_) (fun cdv A outer s H vs Q E hr h => ⟨_, PSs.nox (pss_cons (ps_set (i := 1) sc__law_words.nd rfl (Or.inl rfl) (pe_lst pa_nil)) (pss_cons (ps_for PassesOwn.never rfl (pi_tup (pv 0)) (pg_name (i := 2) sc__law_words.nd rfl (Or.inl rfl)) (pss_one (ps_set (i := 1) sc__law_words.nd rfl (Or.inl rfl) (pe_op op_cat (pv 1) (pe_lc (own := [("_law_step", 3)]) rfl sc__law_words.nd (pi_tup (pe_ix (ixK (K := K) rfl) (pv 2) pe_int (fun _ _ => rfl))) (BlkOk.mk (N := ["_law_hands", "_law_words_here", "_law_hand_here", "_law_step"]) (sc := defScope s__law_words) rfl (by decide +kernel) (by decide +kernel) (by decide +kernel) (by decide +kernel)) (fun _ _ _ _ _ => (pg_name (i := 3) sc__law_words.nd rfl (Or.inl rfl))) (fun _ _ _ _ _ => pts_nil) (fun _ _ _ _ _ => (pe_ix (ixK (K := K) rfl) (pv 3) pe_int (fun _ _ => rfl)))))))) (pss_one (ps_ret (pe_callB (cr_sortSS rfl hr.units) rfl G.g_sorted (by rfl) (pa_cons (pe_callTy (cr_setOfS rfl) rfl G.g_set (by rfl) (pa_cons (pv 1) pa_nil)) pa_nil)))))), ?_⟩))
  · obtain ⟨_, _, rfl, _⟩ := h
    rfl
  · obtain ⟨a, hs, rfl, ⟨vs, ha, hv⟩, h3, hl20, k⟩ := h
    have hvl := Paired.length hv
    refine ⟨Nat.zero_le _, fun l0 hl0 => ?_⟩
    have e0 : Ex H (upd H l0 (.lst [])) := Ex.new hl0
    refine ⟨_, rfl, a, rfl, ⟨vs, st_of (e0 _ _ ha)⟩, for_tup (fun i σ' H' => ∃ l v2, σ' = [some (.ref a), some (.ref l), v2, none] ∧ Ex H H' ∧ H' l = some (.lst ((wds (hs.take i)).map V.str)) ∧ (wds (hs.take i)).length ≤ 20 * i) ⟨l0, none, rfl, e0, upd_same, Nat.le_refl _⟩ (fun i σ' H' _ ⟨_, _, _, e, _⟩ => st_of (e _ _ ha)) ?_ ?_⟩
    · rintro i x σ' H' hx ⟨l, v2, rfl, e, hl, hll⟩
      obtain ⟨h, hh, b, c, xs, rfl, x1, x2, x3⟩ := prd_at hv hx
      have h20 := hl20 h (List.mem_of_getElem? hh)
      have i3 : i < 3 := by
        have := (List.getElem?_eq_some_iff.mp hh).1
        omega
      have hw := x3.ex e
      have lx := x3.len
      refine ⟨_, rfl, _, rfl, .inr (.inl ⟨b, _, 1, _, rfl, rfl, st_of (e _ _ x1), (by rfl), c, rfl, ⟨xs, st_of (e _ _ x2)⟩, fun N hN => ?_⟩)⟩
      refine lc_ev (f := fun _ => true) (v := fun y => .str (wd H' y)) (st_t (st_of (e _ _ x2))) (by omega) (fun x => rfl) hN (fun y _ H1 e Q q => q H1 (Ex.refl _)) (fun y my _ H1 e1 Q q => ?_) (fun H1 e1 hd => ?_)
      · obtain ⟨j, hj⟩ := List.getElem?_of_mem my
        obtain ⟨u, hu, hst2⟩ := hw.at hj
        rw [wd_at hst2] at q
        obtain ⟨d, rfl, hc⟩ := hst2
        exact ⟨_, rfl, .inr (.inl ⟨d, _, 1, _, rfl, rfl, st_of (e1 _ _ hc), (by rfl), q H1 (Ex.refl _)⟩)⟩
      have hd2 : H1 N = some (.lst ((h.2.map (·.2.1)).map V.str)) := by
        rw [hd, List.filter_eq_self.mpr (fun _ _ => rfl), ← wd_map hw, List.map_map]
        rfl
      have et : wds (hs.take (i + 1)) = wds (hs.take i) ++ h.2.map (·.2.1) := by
        unfold wds
        rw [List.take_add_one, hh, List.flatMap_append]
        simp
      refine ⟨l, N, _, _, rfl, rfl, e1 _ _ hl, hd2, sz_of (by rw [List.length_map, List.length_map, List.length_map]; omega), fun q hq => ⟨q, _, rfl, e.trans (e1.trans (Ex.new hq)), ?_, ?_⟩⟩
      · rw [upd_same, et, List.map_append]
      · rw [et, List.length_append, List.length_map]
        omega
    · rintro σ' H' ⟨l, v2, rfl, e, hl, hll⟩
      have et : hs.take vs.length = hs := by rw [hvl]; exact List.take_length
      rw [et] at hl hll
      refine ⟨_, rfl, ?_⟩
      dsimp only [tNil]
      refine words_go hl ?_ fun W ks H2 e2 hn nd hm hW => ?_
      · have : (1002 : Nat) ≤ scanBound := by decide
        omega
      · exact k W ks H2 (e.trans e2) (fresh_back e hn) nd hm hW
abbrev s__law_start : Stmt := top 49
theorem sc__law_start : FnScope ["_law_hands", "_law_hand_here"] ["_law_hands"] (defScope s__law_start) := ⟨rfl, rfl, rfl, by decide +kernel, rfl, by decide +kernel, by decide +kernel⟩
def spStartP : Sp := fun vs H Q _ => ∃ (a : Addr) (hs : List Hnd), vs = [.ref a] ∧ HdsAt H a hs ∧ hs.length ≤ 3 ∧ ∀ T H', Ex H H' → H' T = some (.tup ((hs.map (·.1)).map V.int)) → Q (.ref T) H'
/-- the start of a hand -/
def stO : Option HO → V | some (.tup (x :: _)) => x | _ => .non
def stV (H : Hp) : V → V | .ref a => stO (H a) | _ => .non
theorem ok_startP (G : Gz mg) (D : Df K mg "_law_start" s__law_start f fd ["_law_hands"]) : Callee P w K mg base CXn 1 "_law_start" 1 spStartP := by
  refine D.callee (D.fn.ok sc__law_start (fun vs H Q E h => ?_) (fun cdv A outer s H vs Q E hr h => ⟨_, PSs.nox (pss_one (ps_ret (pe_callTy (tupOfK (K := K) rfl) rfl G.g_tuple (by rfl) (pa_cons (pe_lc (own := [("_law_hand_here", 1)]) rfl sc__law_start.nd (pi_tup (pv 0)) (BlkOk.mk (N := ["_law_hands", "_law_hand_here"]) (sc := defScope s__law_start) rfl (by decide +kernel) (by decide +kernel) (by decide +kernel) (by decide +kernel)) (fun _ _ _ _ _ => (pg_name (i := 1) sc__law_start.nd rfl (Or.inl rfl))) (fun _ _ _ _ _ => pts_nil) (fun _ _ _ _ _ => (pe_ix (ixK (K := K) rfl) (pv 1) pe_int (fun _ _ => rfl)))) pa_nil)))), ?_⟩))
  · obtain ⟨_, _, rfl, _⟩ := h
    rfl
  · obtain ⟨a, hs, rfl, ⟨vs, ha, hv⟩, h3, k⟩ := h
    have hvl := Paired.length hv
    refine ⟨_, rfl, a, rfl, ⟨vs, st_of ha⟩, fun N hN => ?_⟩
    refine lc_ev (f := fun _ => true) (v := stV H) (st_t (st_of ha)) (by omega) (fun x => rfl) hN (fun y _ H1 e Q q => q H1 (Ex.refl _)) (fun y my _ H1 e1 Q q => ?_) (fun H1 e1 hd => ?_)
    · obtain ⟨j, hj⟩ := List.getElem?_of_mem my
      obtain ⟨h, hh, b, c, xs, rfl, x1, x2, x3⟩ := prd_at hv hj
      have es : stV H (.ref b) = .int h.1 := by show stO (H b) = _; rw [x1]; rfl
      rw [es] at q
      exact ⟨_, rfl, .inr (.inl ⟨b, _, 0, _, rfl, rfl, st_of (e1 _ _ x1), (by rfl), q H1 (Ex.refl _)⟩)⟩
    have hd2 : H1 N = some (.lst ((hs.map (·.1)).map V.int)) := by
      rw [hd, List.filter_eq_self.mpr (fun _ _ => rfl)]
      congr 2
      clear hd hN ha hvl k
      induction hv with
      | nil => rfl
      | cons g r ih =>
        obtain ⟨b, c, xs, rfl, x1, x2, x3⟩ := g
        rw [List.map_cons, List.map_cons, List.map_cons, ih (by simp at h3; omega)]
        congr 1
        show stO (H b) = _
        rw [x1]
        rfl
    dsimp only [tNil]
    exact tupof_go (K := K) (.inl hd2) fun T H2 e2 hT => k T H2 (e1.trans e2) hT
end
end WK

set_option Elab.async false
set_option linter.all false
set_option maxRecDepth 100000
set_option maxHeartbeats 4000000
namespace WK
open PySem PySem.Spec PyProof.Rows L2 WW Evl
/-- words of faults with their names -/
def Bl (zs : List Str) (kvs : List (Key × V)) : Prop := ∀ q ∈ kvs, ∃ x n : Str, q = (.inr x, .str n) ∧ x ∈ zs ∧ IsNm n
theorem Bl.put {zs : List Str} {kvs : List (Key × V)} {x n : Str} (h : Bl zs kvs) (hx : x ∈ zs) (hn : IsNm n) : Bl zs (putK kvs (.inr x) (.str n)) := fun q hq => by
  rcases put_mem hq with hq | rfl
  · exact h q hq
  · exact ⟨x, n, rfl, hx, hn⟩
theorem two_at {ns : List Str} (h : ns.length = 2) (b : Bool) : ∃ n ∈ ns, atI (ns.map V.str) (if b = true then 1 else 0) = some (.str n) := by
  match ns, h with
  | [x, y], _ =>
    cases b
    · exact ⟨x, by simp, at_of (j := 0) rfl rfl⟩
    · exact ⟨y, by simp, at_of (j := 1) rfl rfl⟩
section
variable {P : Program} {w : World} {K : PySem.W.Frag} {mg : Str → Option Value} {base : Heap} {f : Addr} {fd : FuncData}
abbrev s__law_blames : Stmt := top 50
theorem sc__law_blames : FnScope ["_law_pool_here", "_law_words_here", "_law_names_here", "_law_blames_here", "_law_word", "_law_part"] ["_law_pool_here", "_law_words_here"] (defScope s__law_blames) := ⟨rfl, rfl, rfl, by decide +kernel, rfl, by decide +kernel, by decide +kernel⟩
def spBlames : Sp := fun vs H Q _ => ∃ (p a : Addr) (zs : List Str), vs = [.ref p, .ref a] ∧ Pool H p ∧ a ≠ p ∧ H a = some (.lst (zs.map V.str)) ∧ zs.length ≤ 100 ∧
  ∀ v H', Kp p H H' → Pool H' p → (v = .non ∨ ∃ D kvs, v = .ref D ∧ D ≠ p ∧ H' D = some (.dK kvs) ∧ Bl zs kvs) → Q v H'
theorem ok_blames (G : Gz mg) (D : Df K mg "_law_blames" s__law_blames f fd ["_law_pool_here", "_law_words_here"]) (c__law_draw : Callee P w K mg base CXn 1 "_law_draw" 2 spDraw) (c__law_names : Callee P w K mg base CXn 3 "_law_names" 2 spNames) : Callee P w K mg base CXn 4 "_law_blames" 2 spBlames := by
  refine D.callee (D.fn.ok sc__law_blames (fun vs H Q E h => ?_) (fun cdv A outer s H vs Q E hr h => ⟨_, PSs.nox (pss_cons (ps_par (i := 2) (j := 3) rfl sc__law_blames.nd rfl rfl (by decide) rfl rfl (pa_cons (pe_cl (E := En) c__law_names (hr.mono (by decide)) rfl passN (pa_cons (pv 0) (pa_cons pe_int pa_nil))) (pa_cons pe_dnewK pa_nil)) rfl) (pss_cons (ps_for PassesOwn.never rfl (pi_list (pv 1)) (pg_name (i := 4) sc__law_blames.nd rfl (Or.inl rfl)) (pss_cons (ps_set (i := 5) sc__law_blames.nd rfl (Or.inl rfl) (pe_cl (E := En) c__law_draw (hr.mono (by decide)) rfl passN (pa_cons (pv 0) (pa_cons pe_int pa_nil)))) (pss_one (ps_if (pt_cmpR op_lt (pv 5) pe_int (nomark _)) (pss_one (ps_dput (room1 hr) (pv 3) (pv 4) (pe_ix (ixK (K := K) rfl) (pv 2) (pe_callTy call_int1 rfl G.g_int (by rfl) (pa_cons (L2.pe_and (pe_cmpR op_eq (pv 5) pe_int (nomark _)) (pe_one (pe_cmpR op_eq (pe_cl (E := En) c__law_draw (hr.mono (by decide)) rfl passN (pa_cons (pv 0) (pa_cons pe_int pa_nil))) pe_int (nomark _)))) pa_nil)) (fun _ _ => rfl)) rfl)) pss_nil)))) (pss_cons (ps_if (PW.pt (pw_and (pt_cmpR op_eq (pe_callB call_lenD rfl G.g_len PySem.boot_len (pa_cons (pv 3) pa_nil)) pe_int (nomark _)) (pw_and1 (pt_cmpR op_eq (pe_cl (E := En) c__law_draw (hr.mono (by decide)) rfl passN (pa_cons (pv 0) (pa_cons pe_int pa_nil))) pe_int (nomark _))))) (pss_one (ps_ret pe_non)) pss_nil) (pss_one (ps_ret (pv 3)))))), ?_⟩))
  · obtain ⟨_, _, _, rfl, _⟩ := h
    rfl
  · obtain ⟨p, a, zs, rfl, hP, nap, ha, zl, k⟩ := h
    refine ⟨_, rfl, p, 2, rfl, hP, by decide, by decide, fun nl ns H1 nlen nd nm K1 P1 hnl nnl hns => fun D hD => ⟨_, _, rfl, ?_⟩⟩
    have nlen2 : ns.length = 2 := nlen
    obtain ⟨F0, nDp⟩ := Fil.new (o := .dK []) P1 hD
    have ha1 := K1.k _ _ nap ha
    have keep : ∀ {H' : Hp}, Fil p D H1 H' → H' a = some (.lst (zs.map V.str)) ∧ H' nl = some (.lst (ns.map V.str)) := fun F => ⟨F.kp.k _ _ nap ha1, F.kp.k _ _ nnl hns⟩
    refine ⟨_, rfl, a, rfl, ⟨_, sq_of (keep F0).1⟩, for_list (fun i σ' H' => ∃ v4 v5 kvs, σ' = [some (.ref p), some (.ref a), some (.ref nl), some (.ref D), v4, v5] ∧ Fil p D H1 H' ∧ H' D = some (.dK kvs) ∧ Bl zs kvs ∧ kvs.length ≤ i) ⟨none, none, [], rfl, F0, upd_same, (fun q z => nomatch z), Nat.le_refl _⟩ (fun i σ' H' _ ⟨_, _, _, _, F, _⟩ => sq_of (keep F).1) ?_ ?_⟩
    · rintro i x σ' H' hx ⟨v4, v5, kvs, rfl, F, hd, hb, hkl⟩
      obtain ⟨z, hz, rfl⟩ := List.mem_map.mp (List.mem_of_getElem? hx)
      have i100 : i < 100 := by
        have := (List.getElem?_eq_some_iff.mp hx).1
        rw [List.length_map] at this
        omega
      refine ⟨_, rfl, p, 7, rfl, F.pool, by decide, by decide, fun d H2 d0 d1 K2 P2 => ?_⟩
      obtain ⟨F2, hd2⟩ := F.draw nDp hd K2 P2
      refine ⟨_, rfl, _, 2, rfl, rfl, _, rfl, ite2 (fun _ => ?_) (fun _ => ⟨_, _, kvs, rfl, F2, hd2, hb, by omega⟩)⟩
      have fin : ∀ {H3 : Hp} {n : Str}, Fil p D H1 H3 → H3 D = some (.dK kvs) → n ∈ ns → DPut H3 D (.str z) (.str n) (upd H3 D (.dK (putK kvs (.inr z) (.str n)))) ∧ ∃ v4 v5 kvs', [some (V.ref p), some (V.ref a), some (V.ref nl), some (V.ref D), some (V.str z), some (V.int d)] = [some (.ref p), some (.ref a), some (.ref nl), some (.ref D), v4, v5] ∧ Fil p D H1 (upd H3 D (.dK (putK kvs (.inr z) (.str n)))) ∧ upd H3 D (.dK (putK kvs (.inr z) (.str n))) D = some (.dK kvs') ∧ Bl zs kvs' ∧ kvs'.length ≤ i + 1 := fun {H3 n} F3 hd3 hn =>
        ⟨DPut.k (k := .inr z) hd3 (sz_lt (by omega)), _, _, _, rfl, F3.put nDp hD, upd_same, hb.put hz (nm n hn), by have := length_putK kvs (Sum.inr z : Key) (V.str n); omega⟩
      refine ⟨_, rfl, _, rfl, rfl, decide (V.int d = V.int 1), rfl, ?_⟩
      cases decide (V.int d = V.int 1) with
      | false =>
        obtain ⟨n, hn, hat⟩ := two_at nlen2 false
        obtain ⟨f1, f2⟩ := fin F2 hd2 hn
        exact .inr ⟨false, rfl, .inl ⟨nl, _, _, .str n, rfl, rfl, sq_of (keep F2).2, hat, _, rfl, _, rfl, D, _, rfl, f1, f2⟩⟩
      | true =>
        refine ⟨_, rfl, p, 2, rfl, P2, by decide, by decide, fun e H3 e0 e1 K3 P3 => ⟨rfl, .inr ⟨_, rfl, ?_⟩⟩⟩
        obtain ⟨F3, hd3⟩ := F2.draw nDp hd2 K3 P3
        obtain ⟨n, hn, hat⟩ := two_at nlen2 (decide (V.int e = V.int 0))
        obtain ⟨f1, f2⟩ := fin F3 hd3 hn
        exact .inl ⟨nl, _, _, .str n, rfl, rfl, sq_of (keep F3).2, hat, _, rfl, _, rfl, D, _, rfl, f1, f2⟩
    · rintro σ' H' ⟨v4, v5, kvs, rfl, F, hd, hb, hkl⟩
      have end_ : ∀ {H2 : Hp}, Fil p D H1 H2 → H2 D = some (.dK kvs) → Q (.ref D) H2 := fun F2 hd2 => k _ _ (K1.trans F2.kp) F2.pool (.inr ⟨D, kvs, rfl, nDp, hd2, hb⟩)
      refine ⟨_, rfl, D, kvs, rfl, hd, rfl, _, rfl, ite2 (fun _ => ?_) (fun _ => ⟨_, rfl, end_ F hd⟩)⟩
      refine ⟨_, rfl, p, 2, rfl, F.pool, by decide, by decide, fun e H2 e0 e1 K2 P2 => ⟨rfl, _, rfl, ?_⟩⟩
      obtain ⟨F2, hd2⟩ := F.draw nDp hd K2 P2
      exact ite2 (fun _ => k _ _ (K1.trans F2.kp) F2.pool (.inl rfl)) (fun _ => ⟨_, rfl, end_ F2 hd2⟩)
abbrev s__law_hides : Stmt := top 51
theorem sc__law_hides : FnScope ["_law_pool_here", "_law_hands", "_law_hides_here", "_law_name_here", "_law_k"] ["_law_pool_here", "_law_hands"] (defScope s__law_hides) := ⟨rfl, rfl, rfl, by decide +kernel, rfl, by decide +kernel, by decide +kernel⟩
def spHides : Sp := fun vs H Q _ => ∃ (p a : Addr) (hs : List Hnd), vs = [.ref p, .ref a] ∧ Pool H p ∧ HdsAt H a hs ∧ hs ≠ [] ∧ hs.length ≤ 3 ∧ (∀ h ∈ hs, GoodRow h.2) ∧ ∀ v H', Kp p H H' → Pool H' p → Q v H'
theorem ok_hides (G : Gz mg) (D : Df K mg "_law_hides" s__law_hides f fd ["_law_pool_here", "_law_hands"]) (c__law_draw : Callee P w K mg base CXn 1 "_law_draw" 2 spDraw) (c__law_names : Callee P w K mg base CXn 3 "_law_names" 2 spNames) (c__law_pattern : Callee P w K mg base CXn 3 "_law_pattern" 2 spPattern) : Callee P w K mg base CXn 4 "_law_hides" 2 spHides := by
  refine D.callee (D.fn.ok sc__law_hides (fun vs H Q E h => ?_) (fun cdv A outer s H vs Q E hr h => ⟨_, PSs.nox (pss_cons (ps_set (i := 2) sc__law_hides.nd rfl (Or.inl rfl) pe_dnewK) (pss_cons (ps_for PassesOwn.never rfl (pi_list (pe_cl (E := En) c__law_names (hr.mono (by decide)) rfl passN (pa_cons (pv 0) (pa_cons (pe_cl (E := En) c__law_draw (hr.mono (by decide)) rfl passN (pa_cons (pv 0) (pa_cons pe_int pa_nil))) pa_nil)))) (pg_name (i := 3) sc__law_hides.nd rfl (Or.inl rfl)) (pss_one (ps_dput (room1 hr) (pv 2) (pv 3) (pe_lc (own := [("_law_k", 4)]) rfl sc__law_hides.nd (pi_range1 rfl G.g_range (pa_cons (pe_op op_add pe_int (pe_cl (E := En) c__law_draw (hr.mono (by decide)) rfl passN (pa_cons (pv 0) (pa_cons pe_int pa_nil)))) pa_nil)) (BlkOk.mk (N := ["_law_pool_here", "_law_hands", "_law_hides_here", "_law_name_here", "_law_k"]) (sc := defScope s__law_hides) rfl (by decide +kernel) (by decide +kernel) (by decide +kernel) (by decide +kernel)) (fun _ _ _ _ _ => (pg_name (i := 4) sc__law_hides.nd rfl (Or.inl rfl))) (fun _ _ _ _ _ => pts_nil) (fun _ _ _ _ _ => (pe_cl (E := En) c__law_pattern (hr.mono (by decide)) rfl passN (pa_cons (pv 0) (pa_cons (pv 1) pa_nil))))) rfl))) (pss_cons (ps_if (PW.pt (pw_and (pt_cmpR op_eq (pe_callB call_lenD rfl G.g_len PySem.boot_len (pa_cons (pv 2) pa_nil)) pe_int (nomark _)) (pw_and1 (pt_cmpR op_eq (pe_cl (E := En) c__law_draw (hr.mono (by decide)) rfl passN (pa_cons (pv 0) (pa_cons pe_int pa_nil))) pe_int (nomark _))))) (pss_one (ps_ret pe_non)) pss_nil) (pss_one (ps_ret (pv 2)))))), ?_⟩))
  · obtain ⟨_, _, _, rfl, _⟩ := h
    rfl
  · obtain ⟨p, a, hs, rfl, hP, ha, hne, h3, good, k⟩ := h
    intro D hD
    obtain ⟨F0, nDp⟩ := Fil.new (o := .dK []) hP hD
    refine ⟨_, rfl, _, rfl, p, 3, rfl, F0.pool, by decide, by decide, fun d H1 d0 d1 K1 P1 => ⟨p, d, rfl, P1, d0, by omega, fun nl ns H2 nlen nd nm K2 P2 hnl nnl hns => ?_⟩⟩
    obtain ⟨F1, hd1⟩ := F0.draw nDp upd_same K1 P1
    obtain ⟨F2, hd2⟩ := F1.draw nDp hd1 K2 P2
    have nDl : D ≠ nl := fun z => by rw [z, hnl] at hd1; cases hd1
    refine ⟨nl, rfl, ⟨_, sq_of hns⟩, for_list (fun i σ' H' => ∃ v3 kvs, σ' = [some (.ref p), some (.ref a), some (.ref D), v3, none] ∧ Fil p D H H' ∧ H' D = some (.dK kvs) ∧ kvs.length ≤ i ∧ H' nl = some (.lst (ns.map V.str))) ⟨none, [], rfl, F2, hd2, Nat.le_refl _, hns⟩ (fun i σ' H' _ ⟨_, _, _, _, _, _, h⟩ => sq_of h) ?_ ?_⟩
    · rintro i x σ' H' hx ⟨v3, kvs, rfl, F, hd, hkl, hn'⟩
      obtain ⟨z, hz, rfl⟩ := List.mem_map.mp (List.mem_of_getElem? hx)
      have i3 : i < 3 := by
        have := (List.getElem?_eq_some_iff.mp hx).1
        rw [List.length_map, nlen] at this
        omega
      refine ⟨_, rfl, p, 2, rfl, F.pool, by decide, by decide, fun e H3 e0 e1 K3 P3 => ⟨1, e, rfl, rfl, 1 + e, rfl, by omega, by omega, fun N hN => ?_⟩⟩
      obtain ⟨F3, hd3⟩ := F.draw nDp hd K3 P3
      have hn3 := K3.k _ _ nnl hn'
      obtain ⟨E0, nNp⟩ := Fil.new (o := .lst []) P3 hN
      refine lc_range (fun j H' => ∃ ms : List V, ms.length = j ∧ H' N = some (.lst ms) ∧ Fil p N H3 H') ⟨[], rfl, upd_same, E0⟩ ?_ ?_
      · rintro j H4 hj ⟨ms, hml, hM, E4⟩
        have K04 : Kp p H H4 := F3.kp.trans E4.kp
        refine ⟨rfl, _, rfl, _, rfl, p, a, hs, rfl, E4.pool, ha.tu (K04.tu hP), hne, h3, good, fun D2 kvs2 H5 K5 P5 hD2 nD2 ne2 l4 pk2 hd5 => ?_⟩
        obtain ⟨E5, hM5⟩ := E4.draw nNp hM K5 P5
        refine ⟨ms, hM5, sz_lt (by omega), ms ++ [.ref D2], by rw [List.length_append, hml]; rfl, upd_same, E5.put nNp hN⟩
      · rintro H4 ⟨ms, hml, hM, E4⟩
        obtain ⟨F4, hd4⟩ := F3.draw nDp hd3 E4.kp E4.pool
        have hn4 := E4.kp.k _ _ nnl hn3
        refine ⟨_, rfl, _, rfl, D, _, rfl, DPut.k (k := .inr z) hd4 (sz_lt (by omega)), ?_⟩
        refine ⟨_, _, rfl, F4.put nDp hD, upd_same, by have := length_putK kvs (Sum.inr z : Key) (V.ref N); omega, ?_⟩
        rw [upd_ne nDl.symm]
        exact hn4
    · rintro σ' H' ⟨v3, kvs, rfl, F, hd, hkl, hn'⟩
      refine ⟨_, rfl, D, kvs, rfl, hd, rfl, _, rfl, ite2 (fun _ => ?_) (fun _ => ⟨_, rfl, k _ _ F.kp F.pool⟩)⟩
      refine ⟨_, rfl, p, 2, rfl, F.pool, by decide, by decide, fun e H2 e0 e1 K2 P2 => ⟨rfl, _, rfl, ?_⟩⟩
      exact ite2 (fun _ => k _ _ (F.kp.trans K2) P2) (fun _ => ⟨_, rfl, k _ _ (F.kp.trans K2) P2⟩)
end
end WK

set_option Elab.async false
set_option linter.all false
set_option maxRecDepth 100000
set_option maxHeartbeats 4000000
namespace WK
open PySem PySem.Spec PyProof.Rows L2 WW Evl
theorem Drawn.mono {ws zs : List Str} {st : Int} {ts : List Stp} (h : Drawn ws st ts) (s : ∀ x ∈ ws, x ∈ zs) : Drawn zs st ts := ⟨h.row, h.st0, h.low, h.short, fun t m => s _ (h.word t m)⟩
theorem cut_mem {xs : List V} {lo hi : Option Int} {x : V} (h : x ∈ cutV xs lo hi) : x ∈ xs := List.mem_of_mem_drop (List.mem_of_mem_take h)
theorem two_atI {a b : Int} (c : Bool) : ∃ m, atI [V.int a, .int b] (if c = true then 1 else 0) = some (.int m) ∧ (m = a ∨ m = b) := by
  cases c
  · exact ⟨a, at_of (j := 0) rfl rfl, .inl rfl⟩
  · exact ⟨b, at_of (j := 1) rfl rfl, .inr rfl⟩
/-- how many places each hand has -/
def Shp (H : Hp) (v : V) : Prop := ∃ (T : Addr) (ks : List Int), v = .ref T ∧ H T = some (.tup (ks.map V.int)) ∧ 1 ≤ ks.length ∧ ks.length ≤ 3 ∧ ∀ k ∈ ks, 2 ≤ k ∧ k ≤ 4
theorem Shp.ex {H H' : Hp} {v : V} (e : Ex H H') (h : Shp H v) : Shp H' v := by
  obtain ⟨T, ks, rfl, h1, h2⟩ := h
  exact ⟨T, ks, rfl, e _ _ h1, h2⟩
theorem prd_snoc {α β : Type} {R : α → β → Prop} {x : α} {y : β} : ∀ {xs : List α} {ys : List β}, Paired R xs ys → R x y → Paired R (xs ++ [x]) (ys ++ [y])
  | _, _, .nil, h => .cons h .nil
  | _, _, .cons g r, h => .cons g (prd_snoc r h)
theorem not_list {p a : Addr} {H : Hp} {xs : List V} (hP : Pool H p) (h : H a = some (.tup xs)) : a ≠ p := fun z => by
  obtain ⟨_, _, _, _, _, _, hp, _⟩ := hP
  rw [z, hp] at h
  cases h
section
variable {P : Program} {w : World} {K : PySem.W.Frag} {mg : Str → Option Value} {base : Heap} {f : Addr} {fd : FuncData}
abbrev s__law_plan : Stmt := top 52
theorem sc__law_plan : FnScope ["_law_pool_here", "_law_size", "_law_shapes", "_law_shape", "_law_words_here", "_law_hands", "_law_k", "_law_own", "_law_at", "_law_gates", "_law_pattern_here"] ["_law_pool_here", "_law_size"] (defScope s__law_plan) := ⟨rfl, rfl, rfl, by decide +kernel, rfl, by decide +kernel, by decide +kernel⟩
def spPlan : Sp := fun vs H Q _ => ∃ (p : Addr) (sz : Int), vs = [.ref p, .int sz] ∧ Pool H p ∧ 0 ≤ sz ∧ sz ≤ 2 ∧
  ∀ T hd a1 a2 a3 a4 hs zs H', Kp p H H' → Pool H' p → H' T = some (.tup [.ref hd, a1, a2, a3, a4]) → HdsAt H' hd hs → hs ≠ [] → hs.length ≤ 3 → (∀ h ∈ hs, Drawn zs h.1 h.2) → zs.length ≤ 5 → (∀ z ∈ zs, IsNm z) → zs.Nodup → Q (.ref T) H'
theorem ok_plan (G : Gz mg) (D : Df K mg "_law_plan" s__law_plan f fd ["_law_pool_here", "_law_size"]) (c__law_draw : Callee P w K mg base CXn 1 "_law_draw" 2 spDraw) (c__law_pick : Callee P w K mg base CXn 2 "_law_pick" 2 spPick) (c__law_names : Callee P w K mg base CXn 3 "_law_names" 2 spNames) (c__law_hand : Callee P w K mg base CXn 3 "_law_hand" 3 spHand)
    (c__law_pattern : Callee P w K mg base CXn 3 "_law_pattern" 2 spPattern) (c__law_agrees : Callee P w K mg base CXn 1 "_law_agrees" 2 spAgrees) (c__law_words : Callee P w K mg base CXn 1 "_law_words" 1 spWordsP) (c__law_start : Callee P w K mg base CXn 1 "_law_start" 1 spStartP)
    (c__law_blames : Callee P w K mg base CXn 4 "_law_blames" 2 spBlames) (c__law_hides : Callee P w K mg base CXn 4 "_law_hides" 2 spHides) : Callee P w K mg base CXn 5 "_law_plan" 2 spPlan := by
  refine D.callee (D.fn.ok sc__law_plan (fun vs H Q E h => ?_) (fun cdv A outer s H vs Q E hr h => ⟨_, PSs.nox (pss_cons (ps_set (i := 2) sc__law_plan.nd rfl (Or.inl rfl) (pe_lst (pa_cons (pe_tup (pa_cons pe_int pa_nil)) (pa_cons (pe_tup (pa_cons pe_int pa_nil)) (pa_cons (pe_tup (pa_cons pe_int pa_nil)) (pa_cons (pe_tup (pa_cons pe_int (pa_cons pe_int pa_nil))) (pa_cons (pe_tup (pa_cons pe_int (pa_cons pe_int pa_nil))) (pa_cons (pe_tup (pa_cons pe_int (pa_cons pe_int pa_nil))) (pa_cons (pe_tup (pa_cons pe_int (pa_cons pe_int pa_nil))) (pa_cons (pe_tup (pa_cons pe_int (pa_cons pe_int (pa_cons pe_int pa_nil)))) (pa_cons (pe_tup (pa_cons pe_int (pa_cons pe_int pa_nil))) pa_nil))))))))))) (pss_cons (ps_set (i := 3) sc__law_plan.nd rfl (Or.inr rfl) (pe_cl (E := En) c__law_pick (hr.mono (by decide)) rfl passN (pa_cons (pv 0) (pa_cons (pe_slice sl_list (pv 2) (po_some (pe_ix (ixK (K := K) rfl) (pe_lst (pa_cons pe_int (pa_cons pe_int (pa_cons pe_int pa_nil)))) (pv 1) (fun _ _ => rfl))) (po_some (pe_ix (ixK (K := K) rfl) (pe_lst (pa_cons pe_int (pa_cons pe_int (pa_cons pe_int pa_nil)))) (pv 1) (fun _ _ => rfl)))) pa_nil)))) (pss_cons (ps_set (i := 4) sc__law_plan.nd rfl (Or.inr rfl) (pe_cl (E := En) c__law_names (hr.mono (by decide)) rfl passN (pa_cons (pv 0) (pa_cons (pe_op op_add pe_int (pe_cl (E := En) c__law_draw (hr.mono (by decide)) rfl passN (pa_cons (pv 0) (pa_cons pe_int pa_nil)))) pa_nil)))) (pss_cons (ps_set (i := 5) sc__law_plan.nd rfl (Or.inl rfl) (pe_lst pa_nil)) (pss_cons (ps_for PassesOwn.never rfl (pi_range1 rfl G.g_range (pa_cons (pe_callB (lenK (K := K) rfl) rfl G.g_len PySem.boot_len (pa_cons (pv 3) pa_nil)) pa_nil)) (pg_name (i := 6) sc__law_plan.nd rfl (Or.inr rfl)) (pss_cons (ps_setLc (i := 7) (y := "_law_own") (own := [("_law_at", 8)]) rfl sc__law_plan.nd rfl rfl rfl (pi_range1 rfl G.g_range (pa_cons (pe_callB (lenK (K := K) rfl) rfl G.g_len PySem.boot_len (pa_cons (pv 4) pa_nil)) pa_nil)) (BlkOk.mk (N := ["_law_pool_here", "_law_size", "_law_shapes", "_law_shape", "_law_words_here", "_law_hands", "_law_k", "_law_own", "_law_at", "_law_gates", "_law_pattern_here"]) (sc := defScope s__law_plan) rfl (by decide +kernel) (by decide +kernel) (by decide +kernel) (by decide +kernel)) (fun _ _ _ _ _ => (pg_name (i := 8) sc__law_plan.nd rfl (Or.inl rfl))) (fun _ _ _ _ _ => (pts_one (PW.pt (pw_or (pt_cmpR op_eq (pe_op op_mod (pe_callTy call_int1 rfl G.g_int (by rfl) (pa_cons (pv 8) pa_nil)) (pe_callB (lenK (K := K) rfl) rfl G.g_len PySem.boot_len (pa_cons (pv 3) pa_nil))) (pv 6) (nomark _)) (pw_or1 (pt_cmpR op_eq (pe_cl (E := En) c__law_draw (hr.mono (by decide)) rfl passN (pa_cons (pv 0) (pa_cons pe_int pa_nil))) pe_int (nomark _))))))) (fun _ _ _ _ _ => (pe_ix (ixK (K := K) rfl) (pv 4) (pv 8) (fun _ _ => rfl)))) (pss_one (ps_expr (pe_bm PySem.F.plainAttrs_list PySem.F.slot_list_append PySem.F.type_list_append mt_append (pv 5) (pa_cons (pe_cl (E := En) c__law_hand (hr.mono (by decide)) rfl passN (pa_cons (pv 0) (pa_cons (pv 7) (pa_cons (pe_ix (ixK (K := K) rfl) (pv 3) (pv 6) (fun _ _ => rfl)) pa_nil)))) pa_nil)))))) (pss_cons (ps_set (i := 5) sc__law_plan.nd rfl (Or.inl rfl) (pe_callTy (tupOfK (K := K) rfl) rfl G.g_tuple (by rfl) (pa_cons (pv 5) pa_nil))) (pss_cons (ps_set (i := 9) sc__law_plan.nd rfl (Or.inl rfl) (pe_lst pa_nil)) (pss_cons (ps_for PassesOwn.never rfl (pi_range1 rfl G.g_range (pa_cons (pe_ix (ixK (K := K) rfl) (pe_lst (pa_cons (pe_cl (E := En) c__law_draw (hr.mono (by decide)) rfl passN (pa_cons (pv 0) (pa_cons pe_int pa_nil))) (pa_cons (pe_cl (E := En) c__law_draw (hr.mono (by decide)) rfl passN (pa_cons (pv 0) (pa_cons pe_int pa_nil))) pa_nil))) (pe_callTy call_int1 rfl G.g_int (by rfl) (pa_cons (pe_cmpR op_eq (pe_cl (E := En) c__law_draw (hr.mono (by decide)) rfl passN (pa_cons (pv 0) (pa_cons pe_int pa_nil))) pe_int (nomark _)) pa_nil)) (fun _ _ => rfl)) pa_nil)) (pg_name (i := 6) sc__law_plan.nd rfl (Or.inr rfl)) (pss_cons (ps_set (i := 10) sc__law_plan.nd rfl (Or.inl rfl) (pe_cl (E := En) c__law_pattern (hr.mono (by decide)) rfl passN (pa_cons (pv 0) (pa_cons (pv 5) pa_nil)))) (pss_one (ps_if (pt_not (pt_val (pe_cl (E := En) c__law_agrees (hr.mono (by decide)) rfl passN (pa_cons (pv 10) (pa_cons (pe_cl (E := En) c__law_start (hr.mono (by decide)) rfl passN (pa_cons (pv 5) pa_nil)) pa_nil))))) (pss_one (ps_expr (pe_bm PySem.F.plainAttrs_list PySem.F.slot_list_append PySem.F.type_list_append mt_append (pv 9) (pa_cons (pv 10) pa_nil)))) pss_nil)))) (pss_one (ps_ret (pe_tup (pa_cons (pv 5) (pa_cons (pv 9) (pa_cons (pe_cl (E := En) c__law_blames (hr.mono (by decide)) rfl passN (pa_cons (pv 0) (pa_cons (pe_cl (E := En) c__law_words (hr.mono (by decide)) rfl passN (pa_cons (pv 5) pa_nil)) pa_nil))) (pa_cons (pe_cl (E := En) c__law_hides (hr.mono (by decide)) rfl passN (pa_cons (pv 0) (pa_cons (pv 5) pa_nil))) (pa_cons (pe_revL (pe_lc (own := [("_law_k", 6)]) rfl sc__law_plan.nd (pi_range1 rfl G.g_range (pa_cons (pe_callB (lenK (K := K) rfl) rfl G.g_len PySem.boot_len (pa_cons (pv 5) pa_nil)) pa_nil)) (BlkOk.mk (N := ["_law_pool_here", "_law_size", "_law_shapes", "_law_shape", "_law_words_here", "_law_hands", "_law_k", "_law_own", "_law_at", "_law_gates", "_law_pattern_here"]) (sc := defScope s__law_plan) rfl (by decide +kernel) (by decide +kernel) (by decide +kernel) (by decide +kernel)) (fun _ _ _ _ _ => (pg_name (i := 6) sc__law_plan.nd rfl (Or.inl rfl))) (fun _ _ _ _ _ => (pts_one (pt_cmpR op_eq (pe_cl (E := En) c__law_draw (hr.mono (by decide)) rfl passN (pa_cons (pv 0) (pa_cons pe_int pa_nil))) pe_int (nomark _)))) (fun _ _ _ _ _ => (pv 6)))) pa_nil)))))))))))))))), ?_⟩))
  · obtain ⟨_, _, rfl, _⟩ := h
    rfl
  · obtain ⟨p, sz, rfl, hP, sz0, sz2, k⟩ := h
    -- the shapes
    have one : ∀ {A B : Hp} {T : Addr} {o : HO}, Ex H A → A T = none → upd A T o = B → Ex H B ∧ B T = some o ∧ Ex A B := fun {A B T o} e n eb => by
      subst eb
      exact ⟨e.trans (Ex.new n), upd_same, Ex.new n⟩
    refine ⟨(by show 1 ≤ sizeLine; decide), fun A1 n1 => ?_⟩
    obtain ⟨B1, eB⟩ : ∃ B, upd H A1 (.tup [.int 2]) = B := ⟨_, rfl⟩
    obtain ⟨E1, h1, x1⟩ := one (Ex.refl _) n1 eB
    rw [eB]
    clear eB n1
    refine ⟨(by show 1 ≤ sizeLine; decide), fun A2 n2 => ?_⟩
    obtain ⟨B2, eB⟩ : ∃ B, upd B1 A2 (.tup [.int 3]) = B := ⟨_, rfl⟩
    obtain ⟨E2, h2, x2⟩ := one E1 n2 eB
    rw [eB]
    clear eB n2
    refine ⟨(by show 1 ≤ sizeLine; decide), fun A3 n3 => ?_⟩
    obtain ⟨B3, eB⟩ : ∃ B, upd B2 A3 (.tup [.int 4]) = B := ⟨_, rfl⟩
    obtain ⟨E3, h3, x3⟩ := one E2 n3 eB
    rw [eB]
    clear eB n3
    refine ⟨(by show 2 ≤ sizeLine; decide), fun A4 n4 => ?_⟩
    obtain ⟨B4, eB⟩ : ∃ B, upd B3 A4 (.tup [.int 2, .int 2]) = B := ⟨_, rfl⟩
    obtain ⟨E4, h4, x4⟩ := one E3 n4 eB
    rw [eB]
    clear eB n4
    refine ⟨(by show 2 ≤ sizeLine; decide), fun A5 n5 => ?_⟩
    obtain ⟨B5, eB⟩ : ∃ B, upd B4 A5 (.tup [.int 2, .int 3]) = B := ⟨_, rfl⟩
    obtain ⟨E5, h5, x5⟩ := one E4 n5 eB
    rw [eB]
    clear eB n5
    refine ⟨(by show 2 ≤ sizeLine; decide), fun A6 n6 => ?_⟩
    obtain ⟨B6, eB⟩ : ∃ B, upd B5 A6 (.tup [.int 3, .int 2]) = B := ⟨_, rfl⟩
    obtain ⟨E6, h6, x6⟩ := one E5 n6 eB
    rw [eB]
    clear eB n6
    refine ⟨(by show 2 ≤ sizeLine; decide), fun A7 n7 => ?_⟩
    obtain ⟨B7, eB⟩ : ∃ B, upd B6 A7 (.tup [.int 3, .int 3]) = B := ⟨_, rfl⟩
    obtain ⟨E7, h7, x7⟩ := one E6 n7 eB
    rw [eB]
    clear eB n7
    refine ⟨(by show 3 ≤ sizeLine; decide), fun A8 n8 => ?_⟩
    obtain ⟨B8, eB⟩ : ∃ B, upd B7 A8 (.tup [.int 2, .int 2, .int 2]) = B := ⟨_, rfl⟩
    obtain ⟨E8, h8, x8⟩ := one E7 n8 eB
    rw [eB]
    clear eB n8
    refine ⟨(by show 2 ≤ sizeLine; decide), fun A9 n9 => ?_⟩
    obtain ⟨B9, eB⟩ : ∃ B, upd B8 A9 (.tup [.int 4, .int 2]) = B := ⟨_, rfl⟩
    obtain ⟨E9, h9, x9⟩ := one E8 n9 eB
    rw [eB]
    clear eB n9
    have sh : ∀ v ∈ [V.ref A1, .ref A2, .ref A3, .ref A4, .ref A5, .ref A6, .ref A7, .ref A8, .ref A9], Shp B9 v := by
      simp only [List.forall_mem_cons]
      exact ⟨⟨A1, [2], rfl, (x2.trans (x3.trans (x4.trans (x5.trans (x6.trans (x7.trans (x8.trans x9))))))) _ _ h1, by decide, by decide, by decide⟩, ⟨A2, [3], rfl, (x3.trans (x4.trans (x5.trans (x6.trans (x7.trans (x8.trans x9)))))) _ _ h2, by decide, by decide, by decide⟩, ⟨A3, [4], rfl, (x4.trans (x5.trans (x6.trans (x7.trans (x8.trans x9))))) _ _ h3, by decide, by decide, by decide⟩,
        ⟨A4, [2, 2], rfl, (x5.trans (x6.trans (x7.trans (x8.trans x9)))) _ _ h4, by decide, by decide, by decide⟩, ⟨A5, [2, 3], rfl, (x6.trans (x7.trans (x8.trans x9))) _ _ h5, by decide, by decide, by decide⟩, ⟨A6, [3, 2], rfl, (x7.trans (x8.trans x9)) _ _ h6, by decide, by decide, by decide⟩, ⟨A7, [3, 3], rfl, (x8.trans x9) _ _ h7, by decide, by decide, by decide⟩,
        ⟨A8, [2, 2, 2], rfl, x9 _ _ h8, by decide, by decide, by decide⟩, ⟨A9, [4, 2], rfl, h9, by decide, by decide, by decide⟩, fun _ z => nomatch z⟩
    clear h1 h2 h3 h4 h5 h6 h7 h8 h9 x1 x2 x3 x4 x5 x6 x7 x8 x9 E1 E2 E3 E4 E5 E6 E7 E8 one
    refine ⟨(by show 9 ≤ sizeLine; decide), fun LS nLS => ?_⟩
    obtain ⟨C0, eC⟩ : ∃ C, upd B9 LS (.lst [V.ref A1, .ref A2, .ref A3, .ref A4, .ref A5, .ref A6, .ref A7, .ref A8, .ref A9]) = C := ⟨_, rfl⟩
    have eC0 : Ex B9 C0 := eC ▸ Ex.new nLS
    have hLS : C0 LS = some (.lst [V.ref A1, .ref A2, .ref A3, .ref A4, .ref A5, .ref A6, .ref A7, .ref A8, .ref A9]) := eC ▸ upd_same
    rw [eC]
    clear eC nLS
    generalize hxs : [V.ref A1, .ref A2, .ref A3, .ref A4, .ref A5, .ref A6, .ref A7, .ref A8, .ref A9] = shs at sh hLS
    have hsl : shs.length = 9 := by rw [← hxs]; rfl
    clear hxs
    have EC : Ex H C0 := E9.trans eC0
    replace sh : ∀ v ∈ shs, Shp C0 v := fun v m => (sh v m).ex eC0
    clear E9 eC0
    have PC := hP.ex EC
    -- a part of them
    have lohi : ∃ lo hi : Int, ([.int 0, .int 2, .int 2] : List V)[sz.toNat]? = some (.int lo) ∧ ([.int 4, .int 6, .int 9] : List V)[sz.toNat]? = some (.int hi) ∧ 0 < HT.sIx 9 9 (some hi) - HT.sIx 9 0 (some lo) ∧ HT.sIx 9 0 (some lo) < 9 := by
      have hsz : sz = 0 ∨ sz = 1 ∨ sz = 2 := by omega
      rcases hsz with rfl | rfl | rfl
      · exact ⟨0, 4, rfl, rfl, by decide +kernel, by decide +kernel⟩
      · exact ⟨2, 6, rfl, rfl, by decide +kernel, by decide +kernel⟩
      · exact ⟨2, 9, rfl, rfl, by decide +kernel, by decide +kernel⟩
    obtain ⟨lo, hi, hlo, hhi, hpos, hlt⟩ := lohi
    refine ⟨_, rfl, _, rfl, (by show 3 ≤ sizeLine; decide), fun L1 nL1 => ⟨_, rfl, .inl ⟨L1, _, sz, .int lo, rfl, rfl, sq_of upd_same, at_of (j := sz.toNat) (by omega) hlo, lo, rfl, ?_⟩⟩⟩
    have f1 : Ex C0 (upd C0 L1 (.lst [.int 0, .int 2, .int 2])) := Ex.new nL1
    generalize upd C0 L1 (.lst [.int 0, .int 2, .int 2]) = C1 at f1
    refine ⟨(by show 3 ≤ sizeLine; decide), fun L2 nL2 => ⟨_, rfl, .inl ⟨L2, _, sz, .int hi, rfl, rfl, sq_of upd_same, at_of (j := sz.toNat) (by omega) hhi, hi, rfl, ?_⟩⟩⟩
    have f2 : Ex C1 (upd C1 L2 (.lst [.int 4, .int 6, .int 9])) := Ex.new nL2
    generalize upd C1 L2 (.lst [.int 4, .int 6, .int 9]) = C2 at f2
    refine ⟨LS, shs, rfl, sq_of ((f1.trans f2) _ _ hLS), fun L3 nL3 => ?_⟩
    have f3 : Ex C2 (upd C2 L3 (.lst (cutV shs (some lo) (some hi)))) := Ex.new nL3
    have hL3 : upd C2 L3 (.lst (cutV shs (some lo) (some hi))) L3 = some (.lst (cutV shs (some lo) (some hi))) := upd_same
    generalize upd C2 L3 (.lst (cutV shs (some lo) (some hi))) = C3 at f3 hL3
    have EC3 := EC.trans (f1.trans (f2.trans f3))
    have PC3 := hP.ex EC3
    have nL3p : L3 ≠ p := fun z => by
      obtain ⟨g, s', n', k', gs, ss, hp, _⟩ := hP
      have := (EC.trans (f1.trans f2)) _ _ hp
      rw [← z, nL3] at this
      cases this
    have cl : 0 < (cutV shs (some lo) (some hi)).length := by
      unfold cutV
      rw [List.length_take, List.length_drop, hsl]
      omega
    refine ⟨p, L3, _, rfl, PC3, nL3p, .inl hL3, List.length_pos_iff.mp cl, (by have := cutV_length shs (some lo) (some hi); omega), fun x H1 hx K1' P1 => ?_⟩
    have K1 : Kp p H H1 := (Kp.ex EC3 hP).trans K1'
    have hshp := sh x (cut_mem hx)
    obtain ⟨T, ks, rfl, hT0, kl1, kl3, kb⟩ := hshp.ex (f1.trans (f2.trans f3))
    have hT1 : H1 T = some (.tup (ks.map V.int)) := (K1'.tu PC3) _ _ hT0
    clear K1' hT0 hx cl nL3p PC3 EC3 hL3 f3 f2 f1 nL3 nL2 nL1 hlo hhi hpos hlt sh hLS PC EC hsl
    -- the words
    refine ⟨_, rfl, _, rfl, p, 3, rfl, P1, by decide, by decide, fun d H2 d0 d1 K2 P2 => ⟨3, d, rfl, rfl, p, 3 + d, rfl, P2, by omega, by omega, fun wl zs H3 zl znd znm K3 P3 hwl nwl hw3 => ?_⟩⟩
    have zlen : zs.length = (3 + d).toNat := zl
    have z35 : 3 ≤ zs.length ∧ zs.length ≤ 5 := by omega
    have K03 := K1.trans (K2.trans K3)
    have hT3 := ((K2.tu P1).trans (K3.tu P2)) _ _ hT1
    -- the hands
    refine ⟨Nat.zero_le _, fun hl nhl => ?_⟩
    obtain ⟨F0, nhp⟩ := Fil.new (o := .lst []) P3 nhl
    have kT : ∀ {H' : Hp}, Kp p H3 H' → H' T = some (.tup (ks.map V.int)) := fun K' => (K'.tu P3) _ _ hT3
    have kW : ∀ {H' : Hp}, Kp p H3 H' → H' wl = some (.lst (zs.map V.str)) := fun K' => K'.k _ _ nwl hw3
    have lT : ∀ {H' : Hp}, Kp p H3 H' → LenV K (.ref T) H' ks.length := fun K' => .inr ⟨_, st_of (kT K'), by rw [List.length_map]⟩
    refine ⟨_, rfl, .ref T, ks.length, rfl, lT F0.kp, (ks.length : Int), rfl, by omega, by omega, for_range (fun i σ' H' => ∃ v6 v7 vs hs, σ' = [some (.ref p), some (.int sz), some (.ref LS), some (.ref T), some (.ref wl), some (.ref hl), v6, v7, none, none, none] ∧ Fil p hl H3 H' ∧ H' hl = some (.lst vs) ∧ Paired (HdT H') vs hs ∧ hs.length = i ∧ ∀ h ∈ hs, Drawn zs h.1 h.2) ?_ ?_ ?_⟩
    · exact ⟨none, none, [], [], rfl, F0, upd_same, .nil, rfl, fun _ z => nomatch z⟩
    · rintro i σ' H' hi ⟨v6, v7, vs, hs, rfl, F, hv, pv', hsl, dr⟩
      have hi2 : i < ks.length := by simpa using hi
      rw [Int.zero_add]
      obtain ⟨m, hm⟩ : ∃ m, ks[i]? = some m := ⟨_, List.getElem?_eq_getElem hi2⟩
      have mb := kb m (List.mem_of_getElem? hm)
      refine ⟨_, rfl, .ref wl, zs.length, rfl, .inl ⟨_, sq_of (kW F.kp), by rw [List.length_map]⟩, (zs.length : Int), rfl, by omega, by omega, fun N hN => ?_⟩
      obtain ⟨E0, nNp⟩ := Fil.new (o := .lst []) F.pool hN
      refine lc_range (fun j H2 => ∃ os : List Str, H2 N = some (.lst (os.map V.str)) ∧ Fil p N H' H2 ∧ (∀ x ∈ os, x ∈ zs) ∧ os.length ≤ j ∧ (i < j → os ≠ [])) ⟨[], upd_same, E0, (fun _ z => nomatch z), Nat.le_refl _, fun z => absurd z (Nat.not_lt_zero i)⟩ ?_ ?_
      · rintro j H2 hj ⟨os, hos, E, sub, ol, one⟩
        have hj2 : j < zs.length := by simpa using hj
        rw [Int.zero_add]
        obtain ⟨z, hz⟩ : ∃ z, zs[j]? = some z := ⟨_, List.getElem?_eq_getElem hj2⟩
        have put : ∀ {H3' : Hp}, Fil p N H' H3' → H3' N = some (.lst (os.map V.str)) → ∃ acc, H3' N = some (.lst acc) ∧ acc.length < sizeLine ∧ ∃ os' : List Str, upd H3' N (.lst (acc ++ [.str z])) N = some (.lst (os'.map V.str)) ∧ Fil p N H' (upd H3' N (.lst (acc ++ [.str z]))) ∧ (∀ x ∈ os', x ∈ zs) ∧ os'.length ≤ j + 1 ∧ (i < j + 1 → os' ≠ []) := fun {H3'} E3 h3 =>
          ⟨_, h3, by rw [List.length_map]; exact sz_lt (by omega), os ++ [z], by rw [upd_same, List.map_append]; rfl, E3.put nNp hN, fun x hx => by
            rcases List.mem_append.mp hx with hx | hx
            · exact sub x hx
            · rw [List.mem_singleton.mp hx]; exact List.mem_of_getElem? hz, by rw [List.length_append, List.length_singleton]; omega, fun _ => by simp⟩
        have K32 := F.kp.trans E.kp
        refine ⟨rfl, _, rfl, .inl ⟨_, rfl, _, rfl, .ref T, ks.length, rfl, lT K32, (j : Int), (ks.length : Int), rfl, rfl, (by show (0 : Int) < (ks.length : Int); omega), _, rfl, rfl, decide (V.int ((j : Int) % (ks.length : Int)) = V.int (i : Int)), rfl, ?_⟩⟩
        by_cases hmod : V.int ((j : Int) % (ks.length : Int)) = V.int (i : Int)
        · rw [decide_eq_true hmod]
          exact iteT ⟨_, rfl, _, rfl, .inl ⟨wl, _, _, .str z, rfl, rfl, sq_of (kW K32), at_of (j := j) rfl (by rw [List.getElem?_map, hz]; rfl), put E hos⟩⟩
        · rw [decide_eq_false hmod]
          refine iteF ⟨_, rfl, p, 6, rfl, E.pool, by decide, by decide, fun e H4 e0 e1 K4 P4 => ⟨rfl, _, rfl, ?_⟩⟩
          obtain ⟨E4, h4⟩ := E.draw nNp hos K4 P4
          refine ite2 (fun _ => ⟨_, rfl, _, rfl, .inl ⟨wl, _, _, .str z, rfl, rfl, sq_of (kW (F.kp.trans E4.kp)), at_of (j := j) rfl (by rw [List.getElem?_map, hz]; rfl), put E4 h4⟩⟩) (fun _ => ⟨os, h4, E4, sub, by omega, fun hij => ?_⟩)
          refine one ?_
          rcases Nat.lt_or_ge i j with q | q
          · exact q
          · exfalso
            have : i = j := by omega
            subst this
            exact hmod (by rw [Int.emod_eq_of_lt (by omega) (by omega)])
      · rintro H2 ⟨os, hos, E, sub, ol, one⟩
        have one' : os ≠ [] := one (by simp; omega)
        obtain ⟨F2, hv2⟩ := F.draw nhp hv E.kp E.pool
        have ol5 : os.length ≤ 20 := by simp at ol; omega
        refine ⟨_, rfl, .inl ⟨rfl, _, sq_of hv2⟩, _, rfl, _, rfl, _, rfl, _, rfl, .inr (.inl ⟨T, _, (i : Int), .int m, rfl, rfl, st_of (kT F2.kp), at_of (j := i) rfl (by rw [List.getElem?_map, hm]; rfl), ?_⟩)⟩
        refine ⟨p, N, os, m, rfl, E.pool, nNp, hos, one', ol5, fun x hx => znm x (sub x hx), by omega, by omega, fun q t xs st ts H4 drw K4 P4 hq ht hw => ?_⟩
        obtain ⟨F4, hv4⟩ := F2.draw nhp hv2 K4 P4
        have tuE : Tu H' H4 := (E.kp.tu F.pool).trans (K4.tu E.pool)
        have tu4 : Tu H4 (upd H4 hl (.lst (vs ++ [.ref q]))) := Tu.lst hv4
        have vl := Paired.length pv'
        refine ⟨hl, vs, .ref q, rfl, rfl, hv4, sz_lt (by omega), _, _, vs ++ [.ref q], hs ++ [(st, ts)], rfl, F4.put nhp nhl, upd_same, ?_, by rw [List.length_append, hsl]; rfl, ?_⟩
        · have h1 : Paired (HdT (upd H4 hl (.lst (vs ++ [.ref q])))) vs hs := Paired.mapP pv' fun _ _ z => (z.tu tuE).tu tu4
          have h2 : HdT (upd H4 hl (.lst (vs ++ [.ref q]))) (.ref q) (st, ts) := HdT.tu tu4 ⟨q, t, xs, rfl, hq, ht, hw⟩
          exact prd_snoc h1 h2
        · intro h hh
          rcases List.mem_append.mp hh with hh | hh
          · exact dr h hh
          · rw [List.mem_singleton.mp hh]
            exact drw.mono sub
    · rintro σ' H4 ⟨v6, v7, vs, hs, rfl, F, hv, pv', hsl, dr⟩
      have hsl2 : hs.length = ks.length := by simpa using hsl
      have hne : hs ≠ [] := fun z => by rw [z] at hsl2; simp at hsl2; omega
      have h3 : hs.length ≤ 3 := by omega
      have good : ∀ h ∈ hs, GoodRow h.2 := fun h m => (dr h m).row
      have h20 : ∀ h ∈ hs, h.2.length ≤ 20 := fun h m => (good h m).most
      refine ⟨.ref hl, rfl, ?_⟩
      dsimp only [tNil]
      refine tupof_go (K := K) (.inl hv) fun TH H5 e5 hTH => ?_
      have P5 := F.pool.ex e5
      have hds5 : HdsAt H5 TH hs := ⟨vs, hTH, Paired.mapP pv' fun _ _ z => z.tu (Tu.ex e5)⟩
      have K05 : Kp p H H5 := K03.trans (F.kp.trans (Kp.ex e5 F.pool))
      have vl := Paired.length pv'
      have kH : ∀ {H' : Hp}, Kp p H5 H' → HdsAt H' TH hs := fun K' => hds5.tu (K'.tu P5)
      have lH : ∀ {H' : Hp}, Kp p H5 H' → LenV K (.ref TH) H' hs.length := fun K' => .inr ⟨vs, st_of ((K'.tu P5) _ _ hTH), by omega⟩
      have dr' := dr
      clear hds5 e5 F hv pv' dr
      -- the gates
      refine ⟨Nat.zero_le _, fun gl ngl => ?_⟩
      obtain ⟨F0', ngp⟩ := Fil.new (o := .lst []) P5 ngl
      refine ⟨_, rfl, p, 3, rfl, F0'.pool, by decide, by decide, fun a1 Ha a10 a11 Ka Pa => ⟨_, rfl, p, 7, rfl, Pa, by decide, by decide, fun a2 Hb a20 a21 Kb Pb => ⟨(by show 2 ≤ sizeLine; decide), fun LL nLL => ?_⟩⟩⟩
      obtain ⟨Fa, ga⟩ := F0'.draw ngp upd_same Ka Pa
      obtain ⟨Fb, gb⟩ := Fa.draw ngp ga Kb Pb
      obtain ⟨Fc, gc⟩ := Fb.ex ngp gb (Ex.new (o := .lst [.int a1, .int a2]) nLL)
      have nLp : LL ≠ p := fun z => Pb.here (z ▸ nLL)
      refine ⟨_, rfl, p, 8, rfl, Fc.pool, by decide, by decide, fun e Hd e0 e1 Kd Pd => ⟨rfl, .inr ⟨_, rfl, ?_⟩⟩⟩
      have hLL := Kd.k LL _ nLp upd_same
      obtain ⟨Fd, gd⟩ := Fc.draw ngp gc Kd Pd
      obtain ⟨m, hat, hm12⟩ := two_atI (a := a1) (b := a2) (decide (V.int e = V.int 0))
      have m7 : 0 ≤ m ∧ m < 7 := by rcases hm12 with rfl | rfl <;> omega
      refine .inl ⟨LL, _, _, .int m, rfl, rfl, sq_of hLL, hat, m, rfl, by omega, by omega, for_range (fun i σ' H' => ∃ v6 v7 v10 gs, σ' = [some (.ref p), some (.int sz), some (.ref LS), some (.ref T), some (.ref wl), some (.ref TH), v6, v7, none, some (.ref gl), v10] ∧ Fil p gl H5 H' ∧ H' gl = some (.lst gs) ∧ gs.length ≤ i) ⟨v6, v7, none, [], rfl, Fd, gd, Nat.le_refl _⟩ ?_ ?_⟩
      · rintro i σ' H' hi ⟨w6, w7, w10, gs, rfl, F, hg, hgl⟩
        refine ⟨_, rfl, _, rfl, p, TH, hs, rfl, F.pool, kH F.kp, hne, h3, good, fun DD kvs H6 K6 P6 hDD nDD kne k4 pk hd6 => ?_⟩
        obtain ⟨F6, hg6⟩ := F.draw ngp hg K6 P6
        refine ⟨_, rfl, _, rfl, TH, hs, rfl, kH F6.kp, h3, fun T2 H7 e7 hT2 => ⟨DD, T2, kvs, hs.map (·.1), rfl, e7 _ _ hd6, by rw [List.length_map]; exact pk, by omega, hT2, fun b H8 e8 => ⟨b, rfl, ?_⟩⟩⟩
        obtain ⟨F8, hg8⟩ := F6.ex ngp hg6 (e7.trans e8)
        cases b with
        | true => exact iteF ⟨_, _, _, gs, rfl, F8, hg8, by omega⟩
        | false => exact iteT ⟨_, rfl, .inl ⟨rfl, _, sq_of hg8⟩, _, rfl, gl, gs, .ref DD, rfl, rfl, hg8, sz_lt (by omega), _, _, _, _, rfl, F8.put ngp ngl, upd_same, by rw [List.length_append, List.length_singleton]; omega⟩
      · rintro σ' H' ⟨w6, w7, w10, gs, rfl, F, hg, hgl⟩
        have wl60 : (wds hs).length ≤ 60 := by
          have gen : ∀ (l : List Hnd), (∀ h ∈ l, h.2.length ≤ 20) → (wds l).length ≤ 20 * l.length := by
            intro l
            induction l with
            | nil => intro _; exact Nat.le_refl _
            | cons a r ih =>
              intro hl'
              have h1 := hl' a List.mem_cons_self
              have h2 := ih fun h m => hl' h (List.mem_cons_of_mem _ m)
              unfold wds at h2 ⊢
              rw [List.flatMap_cons, List.length_append, List.length_map, List.length_cons]
              omega
          have := gen hs h20
          omega
        refine ⟨_, rfl, _, rfl, _, rfl, _, rfl, TH, hs, rfl, kH F.kp, h3, h20, fun W' ks' H6 e6 hn6 nd6 hm6 hW6 => ?_⟩
        have nWp : W' ≠ p := fun z => F.pool.here (z ▸ hn6)
        have P6 := F.pool.ex e6
        have kl : ks'.length ≤ 60 := Nat.le_trans (pigeon ks' (wds hs) nd6 fun x hx => (hm6 x).mp hx) wl60
        refine ⟨p, W', sortS ks', rfl, P6, nWp, hW6, by rw [sortS_len]; omega, fun v3 H7 K7 P7 _ => ?_⟩
        have K57 : Kp p H5 H7 := F.kp.trans ((Kp.ex e6 F.pool).trans K7)
        refine ⟨_, rfl, _, rfl, p, TH, hs, rfl, P7, kH K57, hne, h3, good, fun v4 H8 K8 P8 => ?_⟩
        have K58 := K57.trans K8
        refine ⟨_, rfl, .ref TH, hs.length, rfl, lH K58, (hs.length : Int), rfl, by omega, by omega, fun N hN => ?_⟩
        obtain ⟨E0, nNp⟩ := Fil.new (o := .lst []) P8 hN
        refine lc_range (fun j H2 => ∃ os : List V, H2 N = some (.lst os) ∧ Fil p N H8 H2 ∧ os.length ≤ j) ⟨[], upd_same, E0, Nat.le_refl _⟩ ?_ ?_
        · rintro j H2 hj ⟨os, hos, E, ol⟩
          refine ⟨rfl, _, rfl, p, 2, rfl, E.pool, by decide, by decide, fun e' H9 e0' e1' K9 P9 => ⟨rfl, _, rfl, ?_⟩⟩
          obtain ⟨E9, h9⟩ := E.draw nNp hos K9 P9
          have hj3 : j < 3 := by simp at hj; omega
          exact ite2 (fun _ => ⟨_, rfl, os, h9, sz_lt (by omega), _, upd_same, E9.put nNp hN, by rw [List.length_append, List.length_singleton]; omega⟩) (fun _ => ⟨os, h9, E9, by omega⟩)
        · rintro H2 ⟨os, hos, E, ol⟩
          refine ⟨N, os, rfl, sq_of hos, fun r nr => ⟨(by show 5 ≤ sizeLine; decide), fun TT nTT => ?_⟩⟩
          have er : Ex H2 (upd H2 r (.lst os.reverse)) := Ex.new nr
          have Pr := E.pool.ex er
          have eT : Ex (upd H2 r (.lst os.reverse)) (upd (upd H2 r (.lst os.reverse)) TT (.tup [.ref TH, .ref gl, v3, v4, .ref r])) := Ex.new nTT
          have K5e : Kp p H5 (upd (upd H2 r (.lst os.reverse)) TT (.tup [.ref TH, .ref gl, v3, v4, .ref r])) := K58.trans (E.kp.trans ((Kp.ex er E.pool).trans (Kp.ex eT Pr)))
          exact k TT TH _ _ _ _ hs zs _ (K05.trans K5e) (Pr.ex eT) upd_same (kH K5e) hne h3 dr' z35.2 znm znd
end
end WK

set_option Elab.async false
set_option linter.all false
set_option maxRecDepth 100000
set_option maxHeartbeats 4000000
/-! a or b, a anything whose truth is told. -/
namespace WW
open PySem PySem.Spec PyProof.Rows L2
def tOrT (K : PySem.W.Frag) (ta tb : TE) : TE := fun σ H Q => ta σ H fun x H1 => ∃ c, TruV K x H1 c ∧ if c = true then Q x H1 else tb σ H1 Q
theorem pe_orT {X : Cx} {a b : Expr} {rest : List Expr} {pos : Pos} {ta tb : TE} (ha : PE X a ta) (hb : PE X (.BoolOp .Or (b :: rest) pos) tb) : PE X (.BoolOp .Or (a :: b :: rest) pos) (tOrT X.K ta tb) := by
  refine ⟨fun pins s σ H Q I h => ?_⟩
  refine BoolOp_or (thn (ha.run pins s σ H _ I h) fun v s1 ⟨x, H1, I1, r1, c, hc, q1⟩ => ?_)
  refine thn (tru_ok pins s1 σ H1 x v (fun k H2 => k = c ∧ H2 = H1) I1 r1 ⟨c, hc, rfl, rfl⟩) fun k s2 ⟨H2, I2, ek, eh⟩ => ?_
  subst ek eh
  cases k with
  | false => exact hb.run pins s2 σ H2 Q I2 q1
  | true => exact ⟨x, H2, I2, r1, q1⟩
end WW

set_option Elab.async false
set_option linter.all false
set_option maxRecDepth 100000
set_option maxHeartbeats 4000000
namespace WK
open PySem PySem.Spec PyProof.Rows L2 WW Evl
/-- an instrument that is drawn: a lock holds ws, a sensor shows sg for ws -/
structure Ins where
  lk : Bool
  nm : Str
  po : Int
  ws : List Str
  sg : List Str
  co : Int
def kvsOf (ws sg : List Str) : List (Key × V) := (ws.zip sg).map fun q => (.inr q.1, .str q.2)
def Ins.thing (r : Ins) : HO := if r.lk = true then .lst (r.ws.map V.str) else .dK (kvsOf r.ws r.sg)
structure Ins.Ok (r : Ins) : Prop where
  nm : IsNm r.nm
  po : r.po = 0 ∨ r.po = 1
  co : 1 ≤ r.co ∧ r.co ≤ 1000
  ne : r.ws ≠ []
  le : r.ws.length ≤ 10
  nd : r.ws.Nodup
  ws : ∀ x ∈ r.ws, IsNm x
  sl : r.lk = false → r.sg.length = r.ws.length
  sg : ∀ x ∈ r.sg, IsNm x
def Ins.kind (r : Ins) : Str := if r.lk = true then "lock" else "sensor"
/-- the row of an instrument -/
def InsT (p : Addr) (H : Hp) (v : V) (r : Ins) : Prop := ∃ a b, v = .ref a ∧ b ≠ p ∧ H a = some (.tup [.str r.kind, .str r.nm, .int r.po, .ref b, .int r.co]) ∧ H b = some r.thing
theorem InsT.kp {p : Addr} {H H' : Hp} {v : V} {r : Ins} (hP : Pool H p) (K : Kp p H H') (h : InsT p H v r) : InsT p H' v r := by
  obtain ⟨a, b, rfl, n, h1, h2⟩ := h
  exact ⟨a, b, rfl, n, (K.tu hP) _ _ h1, K.k _ _ n h2⟩
theorem InsT.ex {p : Addr} {H H' : Hp} {v : V} {r : Ins} (e : Ex H H') (h : InsT p H v r) : InsT p H' v r := by
  obtain ⟨a, b, rfl, n, h1, h2⟩ := h
  exact ⟨a, b, rfl, n, e _ _ h1, e _ _ h2⟩
/-- the same, and what it holds is not at q -/
def InsQ (p q : Addr) (H : Hp) (v : V) (r : Ins) : Prop := ∃ a b, v = .ref a ∧ b ≠ p ∧ b ≠ q ∧ H a = some (.tup [.str r.kind, .str r.nm, .int r.po, .ref b, .int r.co]) ∧ H b = some r.thing
theorem InsQ.t {p q : Addr} {H : Hp} {v : V} {r : Ins} (h : InsQ p q H v r) : InsT p H v r := let ⟨a, b, h1, h2, _, h3, h4⟩ := h; ⟨a, b, h1, h2, h3, h4⟩
theorem InsQ.kp {p q : Addr} {H H' : Hp} {v : V} {r : Ins} (hP : Pool H p) (K : Kp p H H') (h : InsQ p q H v r) : InsQ p q H' v r := by
  obtain ⟨a, b, rfl, n, n2, h1, h2⟩ := h
  exact ⟨a, b, rfl, n, n2, (K.tu hP) _ _ h1, K.k _ _ n h2⟩
theorem InsQ.put {p q : Addr} {H : Hp} {v : V} {r : Ins} {xs : List V} {o : HO} (hq : H q = some (.lst xs)) (h : InsQ p q H v r) : InsQ p q (upd H q o) v r := by
  obtain ⟨a, b, rfl, n, n2, h1, h2⟩ := h
  exact ⟨a, b, rfl, n, n2, by rw [upd_ne (fun z => by rw [z, hq] at h1; cases h1)]; exact h1, by rw [upd_ne n2]; exact h2⟩
theorem kvs_put {ws sg : List Str} {x n : Str} (hl : sg.length = ws.length) (h : x ∉ ws) : putK (kvsOf ws sg) (.inr x) (.str n) = kvsOf (ws ++ [x]) (sg ++ [n]) := by
  have hv : valV (kvsOf ws sg) (.inr x : Key) = none := by
    cases e : valV (kvsOf ws sg) (.inr x : Key) with
    | none => rfl
    | some v =>
      exfalso
      have ha : ((kvsOf ws sg).any fun kv => decide (kv.1 = (Sum.inr x : Key))) = true := by rw [valV_any, e]; rfl
      obtain ⟨q, hq, eq⟩ := List.any_eq_true.mp ha
      obtain ⟨z, hz, rfl⟩ := List.mem_map.mp hq
      have e1 := of_decide_eq_true eq
      have e2 : z.1 = x := Sum.inr.inj e1
      exact h (e2 ▸ (List.of_mem_zip hz).1)
  rw [putK_new _ hv]
  unfold kvsOf
  rw [List.zip_append hl.symm, List.map_append]
  rfl
theorem wds_sub {zs : List Str} {hs : List Hnd} (h : ∀ q ∈ hs, Drawn zs q.1 q.2) : ∀ x ∈ wds hs, x ∈ zs := fun x hx => by
  unfold wds at hx
  obtain ⟨q, hq, hm⟩ := List.mem_flatMap.mp hx
  obtain ⟨t, ht, rfl⟩ := List.mem_map.mp hm
  exact (h q hq).word t ht
section
variable {P : Program} {w : World} {K : PySem.W.Frag} {mg : Str → Option Value} {base : Heap} {f : Addr} {fd : FuncData}
abbrev s__law_instruments : Stmt := top 53
theorem sc__law_instruments : FnScope ["_law_pool_here", "_law_plan_here", "_law_most", "_law_words_here", "_law_signs", "_law_rows", "_law_name_here", "_law_kind", "_law_post", "_law_cost", "_law_some", "_law_word", "_law_shown"] ["_law_pool_here", "_law_plan_here", "_law_most"] (defScope s__law_instruments) := ⟨rfl, rfl, rfl, by decide +kernel, rfl, by decide +kernel, by decide +kernel⟩
def spInstr : Sp := fun vs H Q _ => ∃ (p T : Addr) (most : Int) (hd : Addr) (a1 a2 a3 a4 : V) (hs : List Hnd) (zs : List Str), vs = [.ref p, .ref T, .int most] ∧ Pool H p ∧ 1 ≤ most ∧ most ≤ 6 ∧ H T = some (.tup [.ref hd, a1, a2, a3, a4]) ∧ HdsAt H hd hs ∧ hs ≠ [] ∧ hs.length ≤ 3 ∧ (∀ h ∈ hs, Drawn zs h.1 h.2) ∧ zs.length ≤ 5 ∧ (∀ z ∈ zs, IsNm z) ∧
  ∀ rl xs rs H', Kp p H H' → Pool H' p → rl ≠ p → H' rl = some (.lst xs) → Paired (InsT p H') xs rs → (∀ r ∈ rs, r.Ok) → (rs.map (·.nm)).Nodup → 1 ≤ rs.length → rs.length ≤ 6 → Q (.ref rl) H'
theorem ok_instruments (G : Gz mg) (D : Df K mg "_law_instruments" s__law_instruments f fd ["_law_pool_here", "_law_plan_here", "_law_most"]) (c__law_draw : Callee P w K mg base CXn 1 "_law_draw" 2 spDraw) (c__law_pick : Callee P w K mg base CXn 2 "_law_pick" 2 spPick) (c__law_name : Callee P w K mg base CXn 2 "_law_name" 2 spName) (c__law_names : Callee P w K mg base CXn 3 "_law_names" 2 spNames)
    (c__law_words : Callee P w K mg base CXn 1 "_law_words" 1 spWordsP) : Callee P w K mg base CXn 4 "_law_instruments" 3 spInstr := by
  refine D.callee (D.fn.ok sc__law_instruments (fun vs H Q E h => ?_) (fun cdv A outer s H vs Q E hr h => ⟨_, PSs.nox (pss_cons (ps_set (i := 3) sc__law_instruments.nd rfl (Or.inl rfl) (pe_cl (E := En) c__law_words (hr.mono (by decide)) rfl passN (pa_cons (pe_ix (ixK (K := K) rfl) (pv 1) pe_int (fun _ _ => rfl)) pa_nil))) (pss_cons (ps_set (i := 3) sc__law_instruments.nd rfl (Or.inl rfl) (pe_op op_cat (pv 3) (pe_lst (pa_cons (pe_cl (E := En) c__law_name (hr.mono (by decide)) rfl passN (pa_cons (pv 0) (pa_cons (pv 3) pa_nil))) pa_nil)))) (pss_cons (ps_set (i := 4) sc__law_instruments.nd rfl (Or.inl rfl) (pe_cl (E := En) c__law_names (hr.mono (by decide)) rfl passN (pa_cons (pv 0) (pa_cons (pe_op op_add pe_int (pe_cl (E := En) c__law_draw (hr.mono (by decide)) rfl passN (pa_cons (pv 0) (pa_cons pe_int pa_nil)))) pa_nil)))) (pss_cons (ps_set (i := 5) sc__law_instruments.nd rfl (Or.inl rfl) (pe_lst pa_nil)) (pss_cons (ps_for PassesOwn.never rfl (pi_list (pe_cl (E := En) c__law_names (hr.mono (by decide)) rfl passN (pa_cons (pv 0) (pa_cons (pe_op op_add pe_int (pe_cl (E := En) c__law_draw (hr.mono (by decide)) rfl passN (pa_cons (pv 0) (pa_cons (pv 2) pa_nil)))) pa_nil)))) (pg_name (i := 6) sc__law_instruments.nd rfl (Or.inl rfl)) (pss_cons (ps_par (i := 7) (j := 8) rfl sc__law_instruments.nd rfl rfl (by decide) rfl rfl (pa_cons (pe_cl (E := En) c__law_draw (hr.mono (by decide)) rfl passN (pa_cons (pv 0) (pa_cons pe_int pa_nil))) (pa_cons (pe_cl (E := En) c__law_draw (hr.mono (by decide)) rfl passN (pa_cons (pv 0) (pa_cons pe_int pa_nil))) pa_nil)) rfl) (pss_cons (ps_set (i := 9) sc__law_instruments.nd rfl (Or.inl rfl) (pe_op op_add pe_int (pe_ix (ixK (K := K) rfl) (pe_lst (pa_cons (pe_cl (E := En) c__law_draw (hr.mono (by decide)) rfl passN (pa_cons (pv 0) (pa_cons pe_int pa_nil))) (pa_cons (pe_cl (E := En) c__law_draw (hr.mono (by decide)) rfl passN (pa_cons (pv 0) (pa_cons pe_int pa_nil))) pa_nil))) (pe_callTy call_int1 rfl G.g_int (by rfl) (pa_cons (pe_cmpR op_eq (pe_cl (E := En) c__law_draw (hr.mono (by decide)) rfl passN (pa_cons (pv 0) (pa_cons pe_int pa_nil))) pe_int (nomark _)) pa_nil)) (fun _ _ => rfl)))) (pss_cut (ps_set (i := 10) sc__law_instruments.nd rfl (Or.inl rfl) (pe_orT (pe_lc (own := [("_law_word", 11)]) rfl sc__law_instruments.nd (pi_list (pv 3)) (BlkOk.mk (N := ["_law_pool_here", "_law_plan_here", "_law_most", "_law_words_here", "_law_signs", "_law_rows", "_law_name_here", "_law_kind", "_law_post", "_law_cost", "_law_some", "_law_word", "_law_shown"]) (sc := defScope s__law_instruments) rfl (by decide +kernel) (by decide +kernel) (by decide +kernel) (by decide +kernel)) (fun _ _ _ _ _ => (pg_name (i := 11) sc__law_instruments.nd rfl (Or.inl rfl))) (fun _ _ _ _ _ => (pts_one (pt_cmpR op_eq (pe_cl (E := En) c__law_draw (hr.mono (by decide)) rfl passN (pa_cons (pv 0) (pa_cons pe_int pa_nil))) pe_int (nomark _)))) (fun _ _ _ _ _ => (pv 11))) (pe_one (pe_lst (pa_cons (pe_cl (E := En) c__law_pick (hr.mono (by decide)) rfl passN (pa_cons (pv 0) (pa_cons (pv 3) pa_nil))) pa_nil))))) (pss_one (ps_if (pt_cmpR op_eq (pv 7) pe_int (nomark _)) (pss_one (ps_expr (pe_bm PySem.F.plainAttrs_list PySem.F.slot_list_append PySem.F.type_list_append mt_append (pv 5) (pa_cons (pe_tup (pa_cons pe_str (pa_cons (pv 6) (pa_cons (pv 8) (pa_cons (pv 10) (pa_cons (pv 9) pa_nil)))))) pa_nil)))) (pss_cons (ps_set (i := 12) sc__law_instruments.nd rfl (Or.inl rfl) pe_dnewK) (pss_cons (ps_for PassesOwn.never rfl (pi_list (pv 10)) (pg_name (i := 11) sc__law_instruments.nd rfl (Or.inl rfl)) (pss_one (ps_dput (room1 hr) (pv 12) (pv 11) (pe_cl (E := En) c__law_pick (hr.mono (by decide)) rfl passN (pa_cons (pv 0) (pa_cons (pv 4) pa_nil))) rfl))) (pss_one (ps_expr (pe_bm PySem.F.plainAttrs_list PySem.F.slot_list_append PySem.F.type_list_append mt_append (pv 5) (pa_cons (pe_tup (pa_cons pe_str (pa_cons (pv 6) (pa_cons (pv 8) (pa_cons (pv 12) (pa_cons (pv 9) pa_nil)))))) pa_nil)))))))))))) (pss_one (ps_ret (pv 5)))))))), ?_⟩))
  · obtain ⟨_, _, _, _, _, _, _, _, _, _, rfl, _⟩ := h
    rfl
  · obtain ⟨p, T, most, hd, b1, b2, b3, b4, hs, zs, rfl, hP, m1, m6, hT, hds, hne, h3, dr, z5, znm, k⟩ := h
    have h20 : ∀ h ∈ hs, h.2.length ≤ 20 := fun h m => (dr h m).row.most
    refine ⟨_, rfl, .inr (.inl ⟨T, _, 0, _, rfl, rfl, st_of hT, (by rfl), hd, hs, rfl, hds, h3, h20, fun W ks H1 e1 hnW nd hm hW => ?_⟩)⟩
    have nWp : W ≠ p := fun z => hP.here (z ▸ hnW)
    have P1 := hP.ex e1
    have K01 : Kp p H H1 := Kp.ex e1 hP
    have ksz : ∀ x ∈ ks, x ∈ zs := fun x hx => wds_sub dr x ((hm x).mp hx)
    have kl5 : ks.length ≤ 5 := Nat.le_trans (pigeon ks zs nd ksz) z5
    -- one more word
    refine ⟨_, rfl, _, rfl, _, rfl, p, W, sortS ks, rfl, P1, nWp, hW, by rw [sortS_len]; omega, fun z H2 zn zo K2 P2 => ⟨(by show 1 ≤ sizeLine; decide), fun l1 nl1 => ?_⟩⟩
    have hW2 := K2.k _ _ nWp hW
    have e2 : Ex H2 (upd H2 l1 (.lst [.str z])) := Ex.new nl1
    have hl1 : upd H2 l1 (.lst [.str z]) l1 = some (.lst [.str z]) := upd_same
    generalize upd H2 l1 (.lst [.str z]) = H3 at e2 hl1
    refine ⟨W, l1, _, _, rfl, rfl, e2 _ _ hW2, hl1, sz_of (by rw [List.length_map, sortS_len]; show _ + 1 ≤ 100000; omega), fun wl nwl => ?_⟩
    have P3 := P2.ex e2
    have nwp : wl ≠ p := fun q => P3.here (q ▸ nwl)
    have e3 : Ex H3 (upd H3 wl (.lst ((sortS ks).map V.str ++ [.str z]))) := Ex.new nwl
    obtain ⟨us, hus, ule, une, und, unm⟩ : ∃ us : List Str, (sortS ks).map V.str ++ [.str z] = us.map V.str ∧ us.length ≤ 6 ∧ us ≠ [] ∧ us.Nodup ∧ ∀ x ∈ us, IsNm x := by
      refine ⟨sortS ks ++ [z], by rw [List.map_append]; rfl, by rw [List.length_append, sortS_len]; show _ + 1 ≤ 6; omega, by simp, ?_, ?_⟩
      · rw [List.nodup_append]
        refine ⟨(sortS_perm ks).nodup_iff.mpr nd, by simp, fun x hx y hy => ?_⟩
        rw [List.mem_singleton.mp hy]
        exact fun q => zo (q ▸ hx)
      · intro x hx
        rcases List.mem_append.mp hx with hx | hx
        · exact znm x (ksz x (sortS_mem.mp hx))
        · rw [List.mem_singleton.mp hx]; exact zn
    have hwl : upd H3 wl (.lst ((sortS ks).map V.str ++ [.str z])) wl = some (.lst (us.map V.str)) := by rw [upd_same, hus]
    generalize upd H3 wl (.lst ((sortS ks).map V.str ++ [.str z])) = H4 at e3 hwl
    have P4 := P3.ex e3
    have K04 : Kp p H H4 := K01.trans (K2.trans ((Kp.ex e2 P2).trans (Kp.ex e3 P3)))
    clear hus hW hW2 hl1 e2 e3 K2 P2 nwl nl1 P3 zn zo hnW nWp
    -- the signs
    refine ⟨_, rfl, _, rfl, p, 3, rfl, P4, by decide, by decide, fun d H5 d0 d1 K5 P5 => ⟨1, d, rfl, rfl, p, 1 + d, rfl, P5, by omega, by omega, fun sl ss H6 ssl ssd ssn K6 P6 hsl nsp hss => ?_⟩⟩
    have K46 := K5.trans K6
    have hw6 := K46.k _ _ nwp hwl
    have ssl' : 1 ≤ ss.length ∧ ss.length ≤ 3 := by have : ss.length = (1 + d).toNat := ssl; omega
    have sne : ss.map V.str ≠ [] := fun z => by rw [List.map_eq_nil_iff] at z; rw [z] at ssl'; simp at ssl'
    have une' : us.map V.str ≠ [] := fun z => by rw [List.map_eq_nil_iff] at z; exact une z
    -- the rows
    refine ⟨Nat.zero_le _, fun rl nrl => ?_⟩
    obtain ⟨F0, nrp⟩ := Fil.new (o := .lst []) P6 nrl
    refine ⟨_, rfl, _, rfl, _, rfl, p, most, rfl, F0.pool, by omega, by omega, fun e H7 e0 e1' K7 P7 => ⟨1, e, rfl, rfl, p, 1 + e, rfl, P7, by omega, by omega, fun nl ns H8 nsl nsd nsn K8 P8 hnl nnl hns => ?_⟩⟩
    obtain ⟨F7, hr7⟩ := F0.draw nrp upd_same K7 P7
    obtain ⟨F8, hr8⟩ := F7.draw nrp hr7 K8 P8
    have nrn : nl ≠ rl := fun z => by rw [z, hr7] at hnl; cases hnl
    have nsl' : ns.length = (1 + e).toNat := nsl
    have kS : ∀ {H' : Hp}, Kp p H6 H' → H' sl = some (.lst (ss.map V.str)) := fun K' => K'.k _ _ nsp hss
    have kW : ∀ {H' : Hp}, Kp p H6 H' → H' wl = some (.lst (us.map V.str)) := fun K' => K'.k _ _ nwp hw6
    refine ⟨nl, rfl, ⟨_, sq_of hns⟩, for_list (fun i σ' H' => ∃ v6 v7 v8 v9 v10 v11 v12 xs rs, σ' = [some (.ref p), some (.ref T), some (.int most), some (.ref wl), some (.ref sl), some (.ref rl), v6, v7, v8, v9, v10, v11, v12] ∧ Fil p rl H6 H' ∧ H' nl = some (.lst (ns.map V.str)) ∧ H' rl = some (.lst xs) ∧ Paired (InsQ p rl H') xs rs ∧ (∀ r ∈ rs, r.Ok) ∧ rs.map (·.nm) = ns.take i)
      ⟨none, none, none, none, none, none, none, [], [], rfl, F8, hns, hr8, .nil, (fun _ z => nomatch z), by simp⟩ (fun i σ' H' _ ⟨_, _, _, _, _, _, _, _, _, _, _, h, _⟩ => sq_of h) ?_ ?_⟩
    · rintro i x σ' H' hx ⟨v6, v7, v8, v9, v10, v11, v12, xs, rs, rfl, F, hn', hr', pr, ok, nms⟩
      rw [List.getElem?_map] at hx
      obtain ⟨nme, hnme, rfl⟩ := Option.map_eq_some_iff.mp hx
      have i6 : i < 6 := by
        have := (List.getElem?_eq_some_iff.mp hnme).1
        omega
      have nmok := nsn nme (List.mem_of_getElem? hnme)
      have rl6 : rs.length ≤ 6 := by
        have := congrArg List.length nms
        rw [List.length_map, List.length_take] at this
        omega
      -- what stays at each turn
      have stay : ∀ {H2 : Hp}, Kp p H' H2 → Pool H2 p → Fil p rl H6 H2 ∧ H2 nl = some (.lst (ns.map V.str)) ∧ H2 rl = some (.lst xs) ∧ Paired (InsQ p rl H2) xs rs := fun {H2} K' P' =>
        ⟨(F.draw nrp hr' K' P').1, K'.k _ _ nnl hn', (F.draw nrp hr' K' P').2, Paired.mapP pr fun _ _ z => z.kp F.pool K'⟩
      refine ⟨_, rfl, p, 3, rfl, F.pool, by decide, by decide, fun kd Ha a0 a1 Ka Pa => ⟨_, rfl, p, 2, rfl, Pa, by decide, by decide, fun po Hb p0 p1 Kb Pb => ⟨_, _, rfl, ?_⟩⟩⟩
      refine ⟨_, rfl, p, 9, rfl, Pb, by decide, by decide, fun c1 Hc c10 c11 Kc Pc => ⟨_, rfl, p, 1000, rfl, Pc, by decide, by decide, fun c2 Hd c20 c21 Kd Pd => ⟨(by show 2 ≤ sizeLine; decide), fun LL nLL => ⟨_, rfl, p, 5, rfl, Pd.ex (Ex.new nLL), by decide, by decide, fun c3 He c30 c31 Ke' Pe => ⟨rfl, .inr ⟨_, rfl, ?_⟩⟩⟩⟩⟩⟩
      have nLp : LL ≠ p := fun z => Pd.here (z ▸ nLL)
      have hLL := Ke'.k LL _ nLp upd_same
      have Ke : Kp p Hd He := (Kp.ex (Ex.new nLL) Pd).trans Ke'
      obtain ⟨cm, hat, hcm⟩ := two_atI (a := c1) (b := c2) (decide (V.int c3 = V.int 0))
      have cb : 0 ≤ cm ∧ cm < 1000 := by rcases hcm with rfl | rfl <;> omega
      refine .inl ⟨LL, _, _, .int cm, rfl, rfl, sq_of hLL, hat, 1, cm, rfl, rfl, ?_⟩
      have Kbe : Kp p H' He := Ka.trans (Kb.trans (Kc.trans (Kd.trans Ke)))
      clear hLL hat Ke Ke' Kd Kc Kb Ka Pd Pc Pb Pa hcm nLL nLp
      obtain ⟨Fe, hne', hre, pre⟩ := stay Kbe Pe
      have nma : ∀ {l : List Ins}, l.map (·.nm) = ns.take i → ∀ r : Ins, r.nm = nme → (l ++ [r]).map (·.nm) = ns.take (i + 1) := fun {l} q r e' => by
        rw [List.map_append, q, List.take_add_one, hnme]
        simp [e']
      -- some of the words
      refine ⟨fun σ2 H2 => ∃ so os v11' , σ2 = [some (.ref p), some (.ref T), some (.int most), some (.ref wl), some (.ref sl), some (.ref rl), some (.str nme), some (.int kd), some (.int po), some (.int (1 + cm)), some (.ref so), v11', v12] ∧ Kp p H' H2 ∧ Pool H2 p ∧ so ≠ p ∧ so ≠ rl ∧ H2 so = some (.lst (os.map V.str)) ∧ os ≠ [] ∧ os.Nodup ∧ (∀ x ∈ os, x ∈ us) ∧ os.length ≤ 6, ?_, ?_⟩
      · refine ⟨_, rfl, wl, rfl, ⟨_, sq_of (kW Fe.kp)⟩, fun N hN => ?_⟩
        obtain ⟨E0, nNp⟩ := Fil.new (o := .lst []) Pe hN
        refine lc_list (fun j H2 => ∃ os : List Str, H2 N = some (.lst (os.map V.str)) ∧ Fil p N He H2 ∧ os.Sublist (us.take j)) ⟨[], upd_same, E0, List.nil_sublist _⟩ (fun j H2 _ ⟨os, _, E, _⟩ => sq_of (kW (Fe.kp.trans E.kp))) ?_ ?_
        · rintro j y H2 hy ⟨os, hos, E, sub⟩
          rw [List.getElem?_map] at hy
          obtain ⟨u, hu, rfl⟩ := Option.map_eq_some_iff.mp hy
          have et : us.take (j + 1) = us.take j ++ [u] := by rw [List.take_add_one, hu]; rfl
          have ol : os.length ≤ 6 := Nat.le_trans sub.length_le (by rw [List.length_take]; omega)
          refine ⟨rfl, _, rfl, p, 2, rfl, E.pool, by decide, by decide, fun q Hf q0 q1 Kf Pf => ⟨rfl, _, rfl, ?_⟩⟩
          obtain ⟨E2, h2⟩ := E.draw nNp hos Kf Pf
          refine ite2 (fun _ => ⟨_, rfl, _, h2, by rw [List.length_map]; exact sz_lt (by omega), os ++ [u], by rw [upd_same, List.map_append]; rfl, E2.put nNp hN, by rw [et]; exact List.Sublist.append sub (List.Sublist.refl _)⟩) (fun _ => ⟨os, h2, E2, by rw [et]; exact sub.trans (List.sublist_append_left _ _)⟩)
        · rintro Hf ⟨os, hos, E, sub⟩
          have K2 : Kp p H' Hf := Kbe.trans E.kp
          have sub' : os.Sublist us := sub.trans (List.take_sublist _ _)
          have sq : SqL K Hf N (os.map V.str) := sq_of hos
          refine ⟨!(os.map V.str).isEmpty, .inl ⟨_, sq, rfl⟩, ?_⟩
          refine ite2 (fun hb => ?_) (fun _ => ?_)
          · exact ⟨N, os, _, rfl, K2, E.pool, nNp, (fun z => by rw [z, hre] at hN; cases hN), hos, (fun z => by rw [z] at hb; exact absurd hb (by decide)), und.sublist sub', fun x hx => sub'.subset hx, Nat.le_trans sub'.length_le ule⟩
          · refine ⟨_, rfl, _, rfl, p, wl, _, rfl, E.pool, nwp, .inl (kW (Fe.kp.trans E.kp)), une', by rw [List.length_map]; omega, fun x Hg hx Kg Pg => ⟨(by show 1 ≤ sizeLine; decide), fun L2' nL2 => ?_⟩⟩
            obtain ⟨u, hu, rfl⟩ := List.mem_map.mp hx
            have eL : Ex Hg (upd Hg L2' (.lst [.str u])) := Ex.new nL2
            exact ⟨L2', [u], _, rfl, K2.trans (Kg.trans (Kp.ex eL Pg)), Pg.ex eL, (fun z => Pg.here (z ▸ nL2)), (fun z => by rw [z, (stay (K2.trans Kg) Pg).2.2.1] at nL2; cases nL2), upd_same, by simp, by simp, fun x hx' => by rw [List.mem_singleton.mp hx']; exact hu, by show 1 ≤ 6; decide⟩
      rintro σ2 Hf ⟨so, os, v11', rfl, Kf, Pf, nsop, nsor, hso, one, ond, osu, ole⟩
      obtain ⟨Ff, hnf, hrf, prf⟩ := stay Kf Pf
      have okr : ∀ (b : Bool) (sg : List Str), (b = false → sg.length = os.length) → (∀ x ∈ sg, IsNm x) → (Ins.mk b nme po os sg (1 + cm)).Ok := fun b sg h1 h2 =>
        ⟨nmok, by show po = 0 ∨ po = 1; omega, by show 1 ≤ 1 + cm ∧ 1 + cm ≤ 1000; omega, one, by show os.length ≤ 10; omega, ond, fun x hx => unm x (osu x hx), h1, h2⟩
      refine ⟨_, rfl, rfl, _, rfl, ite2 (fun _ => ?_) (fun _ => ?_)⟩
      · refine ⟨_, rfl, .inl ⟨rfl, _, sq_of hrf⟩, _, rfl, _, rfl, _, rfl, _, rfl, (by show 5 ≤ sizeLine; decide), fun T5 nT5 => ?_⟩
        have eT : Ex Hf (upd Hf T5 (.tup [.str "lock", .str nme, .int po, .ref so, .int (1 + cm)])) := Ex.new nT5
        obtain ⟨Fg, hrg⟩ := Ff.ex nrp hrf eT
        have prg : Paired (InsQ p rl (upd Hf T5 (.tup [.str "lock", .str nme, .int po, .ref so, .int (1 + cm)]))) xs rs := Paired.mapP prf fun _ _ z => z.kp Pf (Kp.ex eT Pf)
        have new : InsQ p rl (upd Hf T5 (.tup [.str "lock", .str nme, .int po, .ref so, .int (1 + cm)])) (.ref T5) (Ins.mk true nme po os [] (1 + cm)) := ⟨T5, so, rfl, nsop, nsor, upd_same, eT _ _ hso⟩
        have hng := eT _ _ hnf
        generalize upd Hf T5 (.tup [.str "lock", .str nme, .int po, .ref so, .int (1 + cm)]) = Hg at Fg hrg prg new hng
        have xl := Paired.length pr
        refine ⟨rl, xs, .ref T5, rfl, rfl, hrg, sz_lt (by omega), _, _, _, _, _, _, _, xs ++ [.ref T5], rs ++ [Ins.mk true nme po os [] (1 + cm)], rfl, Fg.put nrp nrl, by rw [upd_ne nrn]; exact hng, upd_same, prd_snoc (Paired.mapP prg fun _ _ z => z.put hrg) (new.put hrg), fun r hr'' => ?_, nma nms _ rfl⟩
        rcases List.mem_append.mp hr'' with h | h
        · exact ok r h
        · rw [List.mem_singleton.mp h]
          exact okr true [] (fun z => nomatch z) (fun _ z => nomatch z)
      · intro D nD
        obtain ⟨G0, nDp⟩ := Fil.new (o := .dK []) Pf nD
        have kSo : ∀ {Hx : Hp}, Kp p Hf Hx → Hx so = some (.lst (os.map V.str)) := fun K' => K'.k _ _ nsop hso
        refine ⟨_, rfl, so, rfl, ⟨_, sq_of (kSo G0.kp)⟩, for_list (fun j σ3 H3 => ∃ v11 sg, σ3 = [some (.ref p), some (.ref T), some (.int most), some (.ref wl), some (.ref sl), some (.ref rl), some (.str nme), some (.int kd), some (.int po), some (.int (1 + cm)), some (.ref so), v11, some (.ref D)] ∧ Fil p D Hf H3 ∧ H3 D = some (.dK (kvsOf (os.take j) sg)) ∧ sg.length = (os.take j).length ∧ ∀ x ∈ sg, IsNm x)
          ⟨_, [], rfl, G0, upd_same, rfl, fun _ z => nomatch z⟩ (fun j σ3 H3 _ ⟨_, _, _, G, _⟩ => sq_of (kSo G.kp)) ?_ ?_⟩
        · rintro j y σ3 H3 hy ⟨w11, sg, rfl, G, hD, sgl, sgn⟩
          rw [List.getElem?_map] at hy
          obtain ⟨u, hu, rfl⟩ := Option.map_eq_some_iff.mp hy
          have et : os.take (j + 1) = os.take j ++ [u] := by rw [List.take_add_one, hu]; rfl
          have nu : u ∉ os.take j := fun z => by
            have q := ond.sublist (List.take_sublist (j + 1) os)
            rw [et, List.nodup_append] at q
            exact q.2.2 u z u (by simp) rfl
          have Ksl := kS (Ff.kp.trans G.kp)
          refine ⟨_, rfl, _, rfl, p, sl, _, rfl, G.pool, nsp, .inl Ksl, sne, by rw [List.length_map]; omega, fun x H4 hx K4 P4 => ?_⟩
          obtain ⟨n', hn'', rfl⟩ := List.mem_map.mp hx
          obtain ⟨G4, hD4⟩ := G.draw nDp hD K4 P4
          have kvl : (kvsOf (os.take j) sg).length < 100000 := by
            unfold kvsOf
            rw [List.length_map, List.length_zip, List.length_take]
            omega
          refine ⟨_, rfl, _, rfl, D, _, rfl, DPut.k (k := .inr u) hD4 (sz_lt kvl), ?_⟩
          refine ⟨_, sg ++ [n'], rfl, G4.put nDp nD, ?_, ?_, ?_⟩
          · rw [upd_same, kvs_put sgl nu, et]
          · rw [et, List.length_append, List.length_append, sgl]
            rfl
          · intro x hx
            rcases List.mem_append.mp hx with hx | hx
            · exact sgn x hx
            · rw [List.mem_singleton.mp hx]; exact ssn n' hn''
        · rintro σ3 H3 ⟨w11, sg, rfl, G, hD, sgl, sgn⟩
          have eo : os.take (os.map V.str).length = os := by rw [List.length_map]; exact List.take_length
          rw [eo] at hD sgl
          have K3 : Kp p H' H3 := Kf.trans G.kp
          obtain ⟨F3, hn3, hr3, pr3⟩ := stay K3 G.pool
          have nDr : D ≠ rl := fun z => by rw [z, hrf] at nD; cases nD
          refine ⟨_, rfl, .inl ⟨rfl, _, sq_of hr3⟩, _, rfl, _, rfl, _, rfl, _, rfl, (by show 5 ≤ sizeLine; decide), fun T5 nT5 => ?_⟩
          have eT : Ex H3 (upd H3 T5 (.tup [.str "sensor", .str nme, .int po, .ref D, .int (1 + cm)])) := Ex.new nT5
          obtain ⟨Fg, hrg⟩ := F3.ex nrp hr3 eT
          have prg : Paired (InsQ p rl (upd H3 T5 (.tup [.str "sensor", .str nme, .int po, .ref D, .int (1 + cm)]))) xs rs := Paired.mapP pr3 fun _ _ z => z.kp G.pool (Kp.ex eT G.pool)
          have new : InsQ p rl (upd H3 T5 (.tup [.str "sensor", .str nme, .int po, .ref D, .int (1 + cm)])) (.ref T5) (Ins.mk false nme po os sg (1 + cm)) := ⟨T5, D, rfl, nDp, nDr, upd_same, eT _ _ hD⟩
          have hng := eT _ _ hn3
          generalize upd H3 T5 (.tup [.str "sensor", .str nme, .int po, .ref D, .int (1 + cm)]) = Hg at Fg hrg prg new hng
          have xl := Paired.length pr
          refine ⟨rl, xs, .ref T5, rfl, rfl, hrg, sz_lt (by omega), _, _, _, _, _, _, _, xs ++ [.ref T5], rs ++ [Ins.mk false nme po os sg (1 + cm)], rfl, Fg.put nrp nrl, by rw [upd_ne nrn]; exact hng, upd_same, prd_snoc (Paired.mapP prg fun _ _ z => z.put hrg) (new.put hrg), fun r hr'' => ?_, nma nms _ rfl⟩
          rcases List.mem_append.mp hr'' with h | h
          · exact ok r h
          · rw [List.mem_singleton.mp h]
            exact okr false sg (fun _ => sgl) sgn
    · rintro σ' H' ⟨v6, v7, v8, v9, v10, v11, v12, xs, rs, rfl, F, hn', hr', pr, ok, nms⟩
      have et : ns.take (ns.map V.str).length = ns := by rw [List.length_map]; exact List.take_length
      rw [et] at nms
      have rsl : rs.length = ns.length := by rw [← nms, List.length_map]
      exact ⟨_, rfl, k rl xs rs H' (K04.trans (K46.trans F.kp)) F.pool nrp hr' (Paired.mapP pr fun _ _ z => z.t) ok (by rw [nms]; exact nsd) (by omega) (by omega)⟩
end
end WK

set_option Elab.async false
set_option linter.all false
set_option maxRecDepth 100000
set_option maxHeartbeats 4000000
/-! An own exception (over ValueError) whose __init__ says super().__init__(a text) and keeps its argument. -/
namespace WW
open PySem PySem.Spec PyProof.Rows L2

section
variable {prog : Program} {w : World} {A : Around} {E : Value → Shared → Prop} {h : Heap} {g : Array GenState} {d : Drawn} {t : Nat} {os : OsState}
variable {nm q : Str} {C N : Addr} {bs bm : List Value} {hdct : Bool} {sn : List Str} {sub : List Value} {ab : Bool} {col : Option Bool} {dd : Option Addr} {k0 k1 k2 k3 k5 : Option Value}
/-- the bound ValueError.__init__ called -/
theorem call_bwV {u e t0 : Addr} {rest : List Value} {Q : Value → Shared → Prop}
    (hC : h.get? C = some (excClassObj nm q C N bs bm hdct sn sub ab col dd k0 k1 k2 k3 k5 "ValueError.__new__")) (he : h.get? e = some (PySem.HandSPX.excO C t0)) (hu : h.get? u = some (PySem.W.kxs_mw "ValueError.__init__" e)) (hrest : rest.length ≤ sizeLine)
    (hq : ∀ h' t1, (∀ b o, b ≠ e → h.get? b = some o → h'.get? b = some o) → h'.get? e = some (PySem.HandSPX.excO C t1) → Q .none ⟨h', g, d, t, os⟩) :
    wpAny (model prog w) A (call (.ref u) rest) Q E ⟨h, g, d, t, os⟩ := by
  refine wpAny_call (codeAny_of_tree ?_)
  show wpAny _ A.in1 (callAny (.ref u) ⟨rest, []⟩) _ _ _
  simp only [callAny]
  refine wpAny_bind (wpAny_load hu ?_)
  simp only [PySem.W.kxs_mw, show (Value.type "method-wrapper" == Value.type "method" || Value.type "method-wrapper" == Value.type "builtin_function_or_method" || Value.type "method-wrapper" == Value.type "method-wrapper") = true by decide, if_true]
  refine PySem.W.KFB.if_so (by decide) ?_
  refine wpAny_bind (PySem.ESX.check_bound F.excBase_ValueError hC he rfl ?_)
  refine wpAny_bind (wpAny_pure (wpAny_pure ?_))
  refine ⟨Code.quiet_builtin _ (by decide +kernel), codeAny_builtin F.excBase_ValueError.initEntry ?_⟩
  rw [Around.under_plainId F.excBase_ValueError.init.plain _]
  wp_walk
  refine hq _ h.objs.size (fun b o hb ho => ?_) ?_
  · rw [Heap.get?_update_other _ _ (Ne.symm hb)]
    exact Heap.get?_push_of_some _ ho
  · rw [Heap.get?_update_self _ (Heap.get?_push_of_some _ he) rfl]
    rfl
end

/-- the context of such a body -/
def cxE (P : Program) (w : World) (K : PySem.W.Frag) (mg : Str → Option Value) (base : Heap) (par qual : Str) (scope : Scope) (f cc : Addr) (cd : Value) (A : Around) (outer : List Env) (s : Shared) (H : Hp) : Cx where
  prog := P
  w := w
  K := K
  mg := mg
  base := base
  A := A.deeper (PySem.W.ksEnv qual scope s.heap.objs.size f cd cc)
  N := ["self", par]
  s_0 := s
  H_0 := H
  env := PySem.W.ksEnv qual scope s.heap.objs.size f cd cc
  outer := outer
  stack := PySem.W.ksEnv qual scope s.heap.objs.size f cd cc :: outer
  ex := []
  calm := true
  fn := fun x => !(x == ("__class__" : Str))
  pn := []
  xe := fun _ _ => False

/-- what the written part says of such a class and its __init__ -/
structure ExD (P : Program) (K : PySem.W.Frag) (mg : Str → Option Value) (C f cc cda : Addr) (qual : Str) (params : Arguments) (body : List Stmt) (scope : Scope) (fd : FuncData) : Prop where
  T : OexC K C
  fdat : ∃ kV doc pm an ct, fd = PySem.W.ksFn "__init__" qual params body scope .none kV doc pm an (.ref cda) ct cc
  lk : ∃ oc od osl, K.lookup f = some ⟨oc, od, .func fd, osl⟩
  code : PySem.W.codeIn K (.ref cda) qual = true
  file : ∃ ccl cdd vs ccs fl tf, K.lookup cda = some ⟨ccl, cdd, .fields vs, ccs⟩ ∧ vs[2]? = some (.str fl tf) ∧ ((P.main.file : Str) == fl) = true
  cell : ∃ cl cld csl, K.lookup cc = some ⟨cl, cld, .cell (some (.ref C)), csl⟩
  cls : ∃ cd, PySem.W.clsIn K C = some cd ∧ PySem.W.alongIn K "__init__" ((cd.mro.dropWhile (· != .ref C)).drop 1) = some (some (.builtin "ValueError.__init__"))
  self : PySem.W.mroIn K C (.ref C) = some true
  ve : PySem.W.subIn K (.ref C) (.type "ValueError") = some true
  opq : PySem.W.nsIn K PySem.cStatics "thirdparty.any" = some none
  sup : mg "super" = none
  top : (P.main.scope.names.lookup ("super" : Str)).isSome = false

/-- .. of its text -/
structure ExT (par : Str) (params : Arguments) (scope : Scope) : Prop where
  arg : ∃ ar, (params.posonlyargs ++ params.args).head? = some ar ∧ ar.arg = "self"
  kind : scope.kind = .function
  co : scope.isCoroutine = false
  gen : scope.isGenerator = false
  nd : ("self" : Str) ≠ par
  sup : scope.names.lookup ("super" : Str) = some .globalImplicit
  clsn : scope.names.lookup ("__class__" : Str) = some .free
  s : scope.names.lookup ("self" : Str) = some .local
  p : scope.names.lookup par = some .local
  free : ∀ y ∈ scope.names, y.2 = .free → y.1 = "__class__"
  cell : ∀ y ∈ scope.names, y.2 ≠ .cell

section
variable {P : Program} {w : World} {K : PySem.W.Frag} {mg : Str → Option Value} {base : Heap} {C f cc cda : Addr} {qual par : Str} {params : Arguments} {body : List Stmt} {scope : Scope} {fd : FuncData} {A : Around} {outer : List Env} {s : Shared} {H : Hp}
theorem inv_startE (S : ExT par params scope) (D : ExD P K mg C f cc cda qual params body scope fd) (hd : A.handled = none) (e0 : Env0 P w K mg base A outer s H) {u0 u1 : Value} {v0 v1 : V} (r0 : RelV v0 u0) (r1 : RelV v1 u1) {h1 : Heap} {tk : Nat}
    (hns : h1.Ns s.heap.objs.size (fun x => ([(("self" : Str), u0), (par, u1)] : List (Str × Value)).reverse.lookup x)) (hk : ∀ b o, s.heap.get? b = some o → h1.get? b = some o) :
    Inv (cxE P w K mg base par qual scope f cc (.ref cda) A outer s H) [] [some v0, some v1] H { s with heap := h1, toks := tk } := by
  obtain ⟨cl, cld, csl, hcc⟩ := D.cell
  have hcb := e0.mod.kin _ _ hcc
  have hcs := e0.bs _ _ hcb
  have lkc : ∀ x c, (([(("__class__" : Str), cc)] : List (Str × Addr)).lookup x = some c) → x = "__class__" ∧ c = cc := fun x c e => by
    rw [List.lookup_cons] at e
    split at e
    · rename_i hx
      cases e
      exact ⟨beq_iff_eq.mp hx, rfl⟩
    · cases e
  have noA : ∀ b : Addr, b ∉ ([] : List Addr) := fun b z => absurd z (by simp)
  refine ⟨⟨e0.mod, S.kind, rfl, rfl, Nat.le_refl _, fun y z c h1 h2 => ?_, fun y hy => ?_, fun y c hf h => ?_, fun _ => hd, Around.frames_deeper e0.frames, .inr ⟨rfl, rfl⟩, fun b z => absurd z (noA b), e0.bs, e0.bsz, fun b _ _ => noA b, fun b z => absurd z (noA b), e0.funs, e0.frf⟩,
    rfl, e0.bare, Un.kept hk, ⟨_, hns, fun i y v h1 h2 h3 => ?_⟩, fun y c h => ?_, e0.hok.fresh (Nat.le_refl _), fun y c h => ?_, fun p hp => absurd (show p ∈ ([] : List (Addr × Obj)) from hp) (by simp), e0.hok.kept hk, rfl⟩
  · rw [(lkc _ _ h1).1, (lkc _ _ h2).1]
  · have hy : scope.names.lookup y = some .cell ∨ scope.names.lookup y = some .free := hy
    rcases hy with hy | hy
    · exact absurd rfl (S.cell _ (PySem.mem_of_lookup hy))
    · have e := S.free _ (PySem.mem_of_lookup hy) rfl
      have e : y = "__class__" := e
      subst e
      exact ⟨cc, by show ([(("__class__" : Str), cc)] : List (Str × Addr)).lookup _ = _; rw [List.lookup_cons_self]⟩
  · have e := (lkc _ _ h).1
    subst e
    have hf : (!(("__class__" : Str) == ("__class__" : Str))) = true := hf
    rw [beq_self_eq_true] at hf
    cases hf
  · match i, h1, h2 with
    | 0, h1, h2 =>
      cases h1
      cases h2
      refine ⟨u0, r0, .inl ⟨S.s, ?_⟩⟩
      show ([(par, u1), (("self" : Str), u0)] : List (Str × Value)).lookup ("self" : Str) = some u0
      rw [List.lookup_cons, show (("self" : Str) == par) = false from beq_eq_false_iff_ne.mpr S.nd]
      exact List.lookup_cons_self
    | 1, h1, h2 =>
      cases h1
      cases h2
      refine ⟨u1, r1, .inl ⟨S.p, ?_⟩⟩
      show ([(par, u1), (("self" : Str), u0)] : List (Str × Value)).lookup par = some u1
      exact List.lookup_cons_self
    | i + 2, h1, h2 => cases h1
  · obtain ⟨_, rfl⟩ := lkc _ _ h
    exact ⟨_, _, hk _ _ hcs.1, rfl⟩
  · obtain ⟨_, rfl⟩ := lkc _ _ h
    exact hcs.2

/-- its promise: the exception at a gets a dict with that one attribute -/
def spExc (C : Addr) (attr : Str) : Sp := fun vs H Q _ => ∃ a y, vs = [.ref a, y] ∧ H a = some (exo a C none) ∧ ∀ dx, H dx = none → dx ≠ a → Q .non (upd (upd H dx (exd dx [(attr, y)])) a (exo a C (some dx)))
theorem fn_exc {CX : CXT} {k : Nat} {attr msg : Str} {j : Nat} {p0 p1 p2 p3 p4 p5 p6 p7 p8 p9 : Pos} (S : ExT par params scope) (D : ExD P K mg C f cc cda qual params body scope fd)
    (hb : body = [.Expr (.Call (.Attribute (.Call (.Name "super" p0) [] [] p1) "__init__" p2) [.Constant (.str msg) j p3] [] p4) p5, .Assign [.Attribute (.Name "self" p6) attr p7] (.Name par p8) p9])
    (hno : PySem.W.findIn K (.ref C) attr = some none) (hdp : (par == ("__debug__" : Str)) = false) (hcp : (par == ("__classdict__" : Str)) = false)
    (hev : ∀ env : Env, ∃ pl : Sem Bool, eval (.Call (.Attribute (.Call (.Name "super" p0) [] [] p1) "__init__" p2) [.Constant (.str msg) j p3] [] p4) env = (do
      let ov ← attributeBase (.Call (.Name "super" p0) [] [] p1) "__init__" env (eval (.Call (.Name "super" p0) [] [] p1) env)
      standAt p2.atName
      let (f, first) ← holding [ov] (getMethod ov "__init__" pl)
      callWith p4 f first (backTo p4 (starEach [.Constant (.str msg) j p3] env)) []))
    (hsw : ∀ env, swapsWith (.Name par p8) (some (.Attribute (.Name "self" p6) attr p7)) p9.line env = pure false) :
    FnOk P w K mg base CX (k + 1) f fd ["self", par] (spExc C attr) := by
  refine ⟨fun vs H Q E h => ?_, fun A outer s H args us vs Q E hr e0 hbind r hsp => ?_⟩
  · obtain ⟨a, y, rfl, _⟩ := h
    rfl
  obtain ⟨a, y, rfl, ha, q⟩ := hsp
  obtain ⟨u1, rfl⟩ : ∃ u1, us = [.ref a, u1] := by
    match us, r with
    | [_, u1], .cons r0 (.cons _ .nil) => cases r0; exact ⟨u1, rfl⟩
  have r1 : RelV y u1 := by
    cases r with
    | cons _ rr => cases rr with
      | cons r1 _ => exact r1
  obtain ⟨oc, od, osl, lk⟩ := D.lk
  have KX : K.In s.heap := e0.mod.kin.keeps fun b o e => (e0.bs b o e).1
  have lim : s.heap.NoLimit := e0.mod.nolimit.keeps fun b o e => (e0.bs b o e).1
  obtain ⟨kV, doc, pm, an, ct, hfd⟩ := D.fdat
  subst hfd
  refine PySem.ks_codeAny_call_defAt (fd := PySem.W.ksFn "__init__" qual params body scope .none kV doc pm an (.ref cda) ct cc) (body := body) (binds := [("self", .ref a), (par, u1)]) hr.depth (KX _ _ lk) rfl lim (PySem.W.codeRec_of KX D.code) rfl hbind S.cell ?_ (fun h1 hns hk => ?_) S.co S.gen S.kind
  · intro x hx
    rcases List.mem_cons.mp hx with rfl | hx
    · exact S.s
    · rw [List.mem_singleton.mp hx]; exact S.p
  have I := inv_startE (tk := s.toks + 2) S D hr.hd e0 (u0 := .ref a) (v0 := .ref a) rfl r1 hns hk
  show PySem.wpAt (model P w) (cxE P w K mg base par qual scope f cc (.ref cda) A outer s H).A (.func body (cxE P w K mg base par qual scope f cc (.ref cda) A outer s H).env) (execs body (cxE P w K mg base par qual scope f cc (.ref cda) A outer s H).env) _ _ { s with heap := h1, toks := s.toks + 2 }
  -- the rest, from any state behind the first row
  have rest : ∀ s5, Inv (cxE P w K mg base par qual scope f cc (.ref cda) A outer s H) [] [some (.ref a), some y] H s5 → wpAny (model P w) (cxE P w K mg base par qual scope f cc (.ref cda) A outer s H).A (execs [.Assign [.Attribute (.Name "self" p6) attr p7] (.Name par p8) p9] (cxE P w K mg base par qual scope f cc (.ref cda) A outer s H).env)
      (fun fl s' => CR CX outer P w H s Q E (.ok (.ret (match fl with | .ret v => v | _ => .none))) s') (fun _ _ => False) s5 := fun s5 J => by
    have ps : PSs (cxE P w K mg base par qual scope f cc (.ref cda) A outer s H) [.Assign [.Attribute (.Name "self" p6) attr p7] (.Name par p8) p9] (tOst K attr (tVar 0) (tVar 1)) :=
      pss_one (ps_ost (pe_var (i := 0) rfl (.inl S.s)) (pe_var (i := 1) rfl (.inl S.p) hdp hcp) (hsw _))
    refine wpAny_mono (ps.run [] s5 [some (.ref a), some y] H { nx := fun _ H' => Q .non H', rt := fun _ _ => False, bk := fun _ _ => False, ct := fun _ _ => False } J ⟨y, rfl, .ref a, rfl, a, C, rfl, D.T, hno, .inl ⟨ha, fun dx n1 n2 => q dx n1 n2⟩⟩) (fun fl s' hs => ?_) fun _ _ z => z
    cases fl with
    | next =>
      obtain ⟨σ', H', J', q'⟩ := hs
      exact ⟨.non, H', J'.os, J'.bare, J'.base, J'.hok, rfl, q'⟩
    | ret u => obtain ⟨_, _, _, _, _, z⟩ := hs; exact z.elim
    | brk => obtain ⟨_, _, _, z⟩ := hs; exact z.elim
    | cont => obtain ⟨_, _, _, z⟩ := hs; exact z.elim
  obtain ⟨ar, har, hself⟩ := S.arg
  obtain ⟨ccl, cdd, vs, ccs, fl, tf, hcode, hvs, hfile⟩ := D.file
  obtain ⟨cl, cld, csl, hcell⟩ := D.cell
  obtain ⟨cd, hcd, halong⟩ := D.cls
  obtain ⟨mb, b1, b2⟩ := e0.mod.blt
  have K1 : K.In h1 := KX.keeps hk
  obtain ⟨oC, hC1, hC2⟩ : ∃ oC, h1.get? C = some oC ∧ oC.data = .cls cd := by
    unfold PySem.W.clsIn at hcd
    split at hcd
    · rename_i c d' cd' sl ho
      cases hcd
      exact ⟨_, K1 _ _ ho, rfl⟩
    · cases hcd
  obtain ⟨t0, hx⟩ := exo_at I.hok ha
  have hx : h1.get? a = some ({ cls := .ref C, dict := none, data := .fields #[.ref t0, .none, .none, .none, .bool false, .none] } : Obj) := hx
  subst hb
  have hnc : ∀ c, ({ cls := .ref C, dict := none, data := .fields #[.ref t0, .none, .none, .none, .bool false, .none] } : Obj).data ≠ .cls c := fun c z => nomatch z
  obtain ⟨pl, hpl⟩ := hev (cxE P w K mg base par qual scope f cc (.ref cda) A outer s H).env
  refine ks_wpAt_execs_cons (ks_wpAt_Expr_any (ks_wpAt_MethodCall (pl := pl) (ks_wpAt_super_base (f := f) (cc := cda) S.sup S.clsn (by decide) rfl (K1 _ _ lk) rfl har rfl (K1 _ _ hcode) rfl hvs hfile D.top ?_) hpl) I.quiet)
  refine PySem.W.ks_loadName_global S.kind S.sup (Calls.loadGlobal_builtin (e0.mod.glob.keeps I.bk) D.sup (b1.keeps I.bk) ((b2 "super" (by decide)).trans (by rfl)) ⟨rfl, ?_⟩)
  refine wpAny_loadName_free (c := cc) S.kind S.clsn rfl ⟨_, K1 _ _ hcell, rfl⟩ ?_
  rw [hself]
  refine wpAny_loadName_local S.kind S.s hns (v := .ref a) ?_ ?_
  · show ([(par, u1), (("self" : Str), Value.ref a)] : List (Str × Value)).lookup ("self" : Str) = some (.ref a)
    rw [List.lookup_cons, show (("self" : Str) == par) = false from beq_eq_false_iff_ne.mpr S.nd]
    exact List.lookup_cons_self
  refine ks_wpAny_isType_cls hC1 hC2 ⟨rfl, ?_⟩
  refine ks_wpAny_call_super hC1 hC2 hx rfl hnc (PySem.W.looks_mroIn K1 D.self) (fun h2 e2 k2 => ?_)
  have K2 : K.In h2 := K1.keeps k2
  have I2 := I.kept (t' := s.toks + 2) k2
  have hx2 := k2 _ _ hx
  have hI : PySem.W.Looks (model P w) h2 (isInstance (.ref a) (.type "ValueError")) true := (show PySem.W.InstAt h2 a _ C none from ⟨hx2, rfl, rfl, trivial⟩).type.andThen (PySem.W.looks_subIn K2 D.ve)
  have hxC : a ≠ C := fun z => by
    rw [z, hC1] at hx
    cases hx
    cases hC2
  refine PySem.W.kxs_getMethod PySem.W.kxs_ValueError e2 (PySem.W.looks_opaque K2 D.opq) (l₀ := cd.mro) (fun A Q E s k q => wpAny_bind ((PySem.W.looks_clsIn K2 hcd) A _ E s k (wpAny_pure q))) rfl K2 halong hI hxC (by decide) ?_
  have I3 := I2.kept (t' := s.toks + 2 + 1) (h' := h2.push (PySem.W.kxs_mw "ValueError.__init__" a)) fun b o e => Heap.get?_push_of_some _ e
  have hmw : (h2.push (PySem.W.kxs_mw "ValueError.__init__" a)).get? h2.objs.size = some (PySem.W.kxs_mw "ValueError.__init__" a) := Heap.get?_push_size _ rfl
  have I4 := I3.pins_of (pins' := [(h2.objs.size, PySem.W.kxs_mw "ValueError.__init__" a)]) fun p hp => by
    rw [List.mem_singleton.mp hp]
    exact ⟨hmw, I2.hok.fresh (Nat.le_refl _), Nat.ne_of_gt I2.lt, I2.nofs (Nat.le_refl _), fun v z => nomatch z⟩
  have hst : starEach [.Constant (.str msg) j p3] (cxE P w K mg base par qual scope f cc (.ref cda) A outer s H).env = (false, eval (.Constant (.str msg) j p3) (cxE P w K mg base par qual scope f cc (.ref cda) A outer s H).env) :: starEach [] (cxE P w K mg base par qual scope f cc (.ref cda) A outer s H).env := by rfl
  have pa : PA (cxE P w K mg base par qual scope f cc (.ref cda) A outer s H) [.Constant (.str msg) j p3] (tCons (tC (.str msg)) tNil) := pa_cons pe_str pa_nil
  have run := pa.run p4 _ _ _ _ (fun vs H1 => vs = [.str msg] ∧ H1 = H) I4 ⟨rfl, rfl⟩
  rw [hst] at run ⊢
  refine PySem.W.kxs_callWith (i := "ValueError.__init__") (x := a) (by rfl) ?_
  refine Calls.evalArgs_plain ?_
  refine wpAny_mono run (fun us s3 z => ?_) fun _ _ z => z.elim
  obtain ⟨vs3, H3, I5, r3, rfl, rfl⟩ := z
  have hpin := I5.pin _ (List.mem_append_right _ (List.mem_singleton.mpr rfl))
  refine ⟨hpin.1, ?_⟩
  obtain ⟨nm, q', N, bs, bm, sn, sub, ab, col, dd, k0, k1, k2', k3, k5, hCo, hbm⟩ := D.T.cls
  obtain ⟨t1, hx3⟩ := exo_at I5.hok ha
  have K5 : K.In s3.heap := I5.kIn
  obtain ⟨hp, g, d, t, os⟩ := s3
  have hlen : us.length ≤ sizeLine := by
    rw [← Paired.length r3]
    show 1 ≤ sizeLine
    decide
  refine call_bwV (K5 _ _ hCo) hx3 hpin.1 hlen fun h' t2 kk hx' => ?_
  have J := I5.write (t' := t) (x := a) (e := a) (o := exo a C none) (by rw [ha]; exact True.intro) (.inl rfl) kk ⟨_, hx'⟩ (exo_ok hx')
  have eu : upd H3 a (exo a C none) = H3 := by
    funext b
    by_cases hb : b = a
    · rw [hb, upd_same, ha]
    · rw [upd_ne hb]
  rw [eu] at J
  exact wpAt_of_wpAny (wpAny_mono (rest _ (J.pins_of (pins' := []) fun p hp => nomatch hp)) (fun _ _ z => z) fun _ _ z => z.elim)
end
end WW

set_option Elab.async false
set_option linter.all false
set_option maxRecDepth 100000
set_option maxHeartbeats 4000000
/-! raise of an own exception made with one argument that it keeps. -/
namespace WW
open PySem PySem.Spec PyProof.Rows L2
/-- the class x of the module's names can be raised with one argument, which it keeps as attr -/
structure ExR (P : Program) (w : World) (K : PySem.W.Frag) (mg : Str → Option Value) (base : Heap) (k : Nat) (x : Str) (C : Addr) (attr : Str) : Prop where
  T : OexC K C
  ini : ∃ fI fd par, PySem.W.findIn K (.ref C) "__init__" = some (some (.ref fI)) ∧ PySem.W.typeIn K (.ref fI) = some (.type "function") ∧ FnOk P w K mg base CXn k fI fd ["self", par] (spExc C attr) ∧ Binds K fd ["self", par] []
  g : mg x = some (.ref C)
/-- raise x(e) -/
def tRaiseE (C : Addr) (attr : Str) (W : WX) (te : TE) : TS := fun _ σ H => tMkO C (spExc C attr) [] (tCons te tNil) σ H fun cls d H' => W cls d σ H'
theorem ps_raiseE {X : Cx} {W : WX} {k : Nat} {x : Str} {C : Addr} {attr : Str} {e : Expr} {te : TE} {p pos pos2 : Pos} (D : ExR X.prog X.w X.K X.mg X.base k x C attr) (hc : X.calm = true) (hr : Room (k + 1) X.A) (tk : Takes X W) (hg : Gl X x) (he : PE X e te)
    (hdb : (x == ("__debug__" : Str)) = false := by decide) (hs : starEach [e] X.env = (false, eval e X.env) :: starEach [] X.env := by rfl) (hpl : (backTo pos (starEach [] X.env)).any (·.1) = false := by rfl) :
    PS X (.Raise (some (.Call (.Name x p) [e] [] pos)) none pos2) (tRaiseE C attr W te) := by
  obtain ⟨fI, fd, par, h1, h2, h3, h4⟩ := D.ini
  exact ps_raise hc tk (pmk_oex D.T h1 h2 h3 hr h4 .nil (fun _ _ _ _ _ _ _ h => h.elim) hg D.g (pa_cons he pa_nil hs) hdb hs hpl)
theorem raise_go {C : Addr} {attr : Str} {y : V} {H1 : Hp} {Q : XK} (h : ∀ d, H1 d = none → Q (.ref C) (some d) (upd H1 d (.xd [(attr, y)]))) :
    [y].length ≤ 1000 ∧ ∀ a, H1 a = none → spExc C attr (.ref a :: ([y] ++ [])) (upd H1 a (exo a C none)) (fun v H2 => v = .non ∧ ∃ (d : Addr) (fs : List (Str × V)), H2 a = some (exo a C (some d)) ∧ H2 d = some (exd d fs) ∧ H1 d = none ∧ Q (.ref C) (some d) (upd (del H2 a) d (.xd fs))) (fun _ _ _ => False) := by
  refine ⟨show 1 ≤ 1000 by decide, fun a ha => ⟨a, y, rfl, upd_same, fun dx hd hne => ⟨rfl, dx, [(attr, y)], upd_same, ?_, ?_, ?_⟩⟩⟩
  · rw [upd_ne hne, upd_same]
  · rw [upd_ne hne] at hd; exact hd
  · have e : upd (del (upd (upd (upd H1 a (exo a C none)) dx (exd dx [(attr, y)])) a (exo a C (some dx))) a) dx (.xd [(attr, y)]) = upd H1 dx (.xd [(attr, y)]) := by
      funext b
      by_cases hb : b = dx
      · subst hb; rw [upd_same, upd_same]
      · rw [upd_ne hb, upd_ne hb]
        by_cases hc : b = a
        · subst hc; rw [del_same, ha]
        · rw [del_ne hc, upd_ne hc, upd_ne hb, upd_ne hc]
    rw [e]
    exact h dx (by rw [upd_ne hne] at hd; exact hd)
end WW

set_option Elab.async false
set_option linter.all false
set_option maxRecDepth 100000
set_option maxHeartbeats 4000000
/-! try with several clauses «except x as n». -/
namespace WW
open PySem PySem.Spec PyProof.Rows L2
abbrev Suite : Type := Addr → Value → Option Addr → TS
/-- the clauses' wishes of an exception, from the first on; a clause is (class, slot of its name, suite) -/
def wAsM (K : PySem.W.Frag) (Wout : WX) (D : Ends) : List (Value × Nat × Suite) → WX
  | [] => Wout
  | (c, i, ts) :: r => wAs K c i ts (wAsM K Wout D r) D
inductive HdsAs (X : Cx) : List ExceptHandler → List (Value × Nat × Suite) → Prop
  | done : HdsAs X [] []
  | clause {x n : Str} {c : Value} {i : Nat} {ts : Suite} {b : Stmt} {bs : List Stmt} {p q : Pos} {hds : List ExceptHandler} {l : List (Value × Nat × Suite)} (hc : Names X x c) (hi : X.N[i]? = some n) (hk : X.env.kindOf n = some .local)
      (body : ∀ (a : Addr) (oe : Obj) (cls : Value) (d : Option Addr) (pn : List (Addr × Obj)), Zc cls d oe → (∃ vs, oe.data = .fields vs) → PSs (X.suite a ((a, oe) :: pn)) (b :: bs) (ts a cls d)) (more : HdsAs X hds l) :
      HdsAs X (.ExceptHandler (some (.Name x p)) (some n) (b :: bs) q :: hds) ((c, i, ts) :: l)
/-- the exception a has come to the clauses -/
structure Came (X : Cx) (pins : List (Addr × Obj)) (σ : L2.St) (H : Hp) (B : Heap) (a : Addr) (cls : Value) (d : Option Addr) (s : Shared) : Prop where
  fly : PySem.HandSPX.FlyingZ B (X.env :: X.outer) a (Zc cls d) s.heap
  inv : ∀ h, PySem.HandSPX.FlyingZ B (X.env :: X.outer) a (Zc cls d) h → s.heap.UpToSlots h → Inv X pins σ H { s with heap := h }
  na : H a = none
  nL : a ≠ X.env.locals
  nF : a ∉ X.fs
section
variable {X : Cx} {pins : List (Addr × Obj)} {σ : L2.St} {H : Hp} {B : Heap} {a : Addr} {cls : Value} {d : Option Addr} {s : Shared} {D : Ends} {Wout : WX}
/-- with the exception pinned, as the suite sees it -/
theorem Came.suite (Z : Came X pins σ H B a cls d s) {h : Heap} (f : PySem.HandSPX.FlyingZ B (X.env :: X.outer) a (Zc cls d) h) (u : s.heap.UpToSlots h) :
    ∃ oe, Zc cls d oe ∧ (∃ vs, oe.data = .fields vs) ∧ h.get? a = some oe ∧ Inv (X.suite a ((a, oe) :: (X.pn ++ pins))) [] σ H { s with heap := h } := by
  obtain ⟨oe, vs, e, z, dt⟩ := f.there
  exact ⟨oe, z, ⟨vs, dt⟩, e, (Z.inv h f u).suite e dt Z.na Z.nL Z.nF⟩
/-- no clause takes it -/
theorem Came.pass (Z : Came X pins σ H B a cls d s) (hf : X.env.frame = some X.env.locals) (out : ∀ h, PySem.HandSPX.HeldZ B (X.env :: X.outer) a (Zc cls d) X.env.locals h → s.heap.UpToSlots h → X.xe (.ref a) { s with heap := h }) :
    wpAny (model X.prog X.w) X.A (handleBy (.ref a) X.env []) (SP X pins D) X.xe s := by
  refine wpAny_handleBy_nil ?_
  have up : wpAny (model X.prog X.w) X.A (setFlight (.ref a) X.env.frame) (fun _ t => wpAny (model X.prog X.w) X.A (throw (.ref a) : Sem Flow) (SP X pins D) X.xe t) X.xe s := by
    rw [hf]
    exact PySem.HandSPX.setFlight_upZ Z.fly fun h hh u => wpAny_throw (out h hh u)
  obtain ⟨_, _, _, oe, vs, T, _, _, e, _, dt, v1, _⟩ := id Z.fly
  have nn : ¬ ((Value.ref T == Value.none) = true) := by simp
  unfold PySem.passOn
  refine wpAny_bind (wpAny_field e dt v1 ?_)
  rw [if_neg nn]
  first
    | exact wpAny_bind up
    | exact wpAny_bind (wpAny_pure (wpAny_bind up))
theorem Came.clauses (hN : X.N.Nodup) (ok : X.Ok) (hf : X.env.frame = some X.env.locals) : ∀ {hds : List ExceptHandler} {l : List (Value × Nat × Suite)}, HdsAs X hds l → Came X pins σ H B a cls d s →
    (Wout cls d σ H → ∀ h, PySem.HandSPX.HeldZ B (X.env :: X.outer) a (Zc cls d) X.env.locals h → s.heap.UpToSlots h → X.xe (.ref a) { s with heap := h }) → wAsM X.K Wout D l cls d σ H →
    wpAny (model X.prog X.w) X.A (handleBy (.ref a) X.env hds) (SP X pins D) X.xe s
  | _, _, .done, Z, out, w => Z.pass hf (out w)
  | _, _, .clause (x := x) (n := n) (c := c) (i := i) (ts := ts) (p := p) (q := q) hc hi hk body more, Z, out, w => by
    obtain ⟨yes, hm, wy, wn⟩ := w
    obtain ⟨oe, z, hd, e, S⟩ := Z.suite Z.fly (Heap.UpToSlots.refl _)
    have named : ∀ {R : Value → Shared → Prop} {F : Value → Shared → Prop}, R c s → wpAny (model X.prog X.w) (X.A.mark (some (.ref a))) (eval (.Name x p) X.env) R F s := fun {R F} r =>
      match hc with
      | ⟨g, nd, .inl m⟩ => ld_glob (X := X.suite a ((a, oe) :: (X.pn ++ pins))) S g m r nd
      | ⟨g, nd, .inr ⟨m, b, nn⟩⟩ => ld_blt (X := X.suite a ((a, oe) :: (X.pn ++ pins))) S g m b r nn nd
    have ofCls : PySem.W.Looks (model X.prog X.w) s.heap (typeOf (.ref a)) cls := fun _ _ _ _ k r => wpAny_typeOf_ref (k _ _ e) (by rw [z.1]; exact r)
    refine wpAny_handleBy_cons (codeAny_handlers_test (named ((PySem.W.exm_one (M := model X.prog X.w) S.kIn ofCls hm).here ?_))) (fun r => nomatch r)
    cases yes with
    | false => exact Came.clauses hN ok hf more Z out (wn rfl)
    | true =>
      refine codeAny_handlers_suite_as (PySem.HandSPX.lands_againZ Z.fly fun h f u => ?_)
      obtain ⟨ob, zb, hb, eb, Sb⟩ := Z.suite f u
      refine store_ok (X := X.suite a ((a, ob) :: (X.pn ++ pins))) (v := .ref a) Sb hN hi (.inl hk) rfl (fun t St => ?_) (.inr hk)
      refine wpAny_mono ((body a ob cls d (X.pn ++ pins) zb hb).run [] t _ H _ St (wy rfl a Z.na)) (fun fl t2 r => ?_) fun _ _ r => r.elim
      have gone : ∀ {σ2 : L2.St} {H2 : Hp} {R : Shared → Prop}, Inv (X.suite a ((a, ob) :: (X.pn ++ pins))) [] σ2 H2 t2 → (∀ t3, Inv X pins (σ2.set i none) H2 t3 → R t3) →
          wpAny (model X.prog X.w) X.A (do bindName X.env n .none; unbindBehindTheSuite X.env n q) (fun _ t3 => R t3) X.xe t2 := fun I2 k => gone_ok (I2.unsuite ok) hN hi hk k
      cases fl with
      | ret u =>
        obtain ⟨v2, σ2, H2, I2, rv, k⟩ := r
        exact gone I2 fun _ J => ⟨v2, _, H2, J, rv, k⟩
      | next =>
        obtain ⟨σ2, H2, I2, k⟩ := r
        exact gone I2 fun _ J => ⟨_, H2, J, k⟩
      | brk =>
        obtain ⟨σ2, H2, I2, k⟩ := r
        exact gone I2 fun _ J => ⟨_, H2, J, k⟩
      | cont =>
        obtain ⟨σ2, H2, I2, k⟩ := r
        exact gone I2 fun _ J => ⟨_, H2, J, k⟩
/-- try: body / except c1 as n1: .. / except c2 as n2: .. -/
theorem ps_try_asM {body : List Stmt} {h0 : ExceptHandler} {hds : List ExceptHandler} {l : List (Value × Nat × Suite)} {tb : WX → TS} {pos : Pos} (hs : X.stack = X.env :: X.outer) (hf : X.env.frame = some X.env.locals) (hN : X.N.Nodup) (tk : Takes X Wout)
    (hb : ∀ (W : WX) (pn : List (Addr × Obj)) (xe : Value → Shared → Prop), Takes (X.tr pn xe) W → PassesOwn (model X.prog X.w) X.A X.env xe → PSs (X.tr pn xe) body (tb W)) (hh : HdsAs X (h0 :: hds) l) :
    PS X (.Try body (h0 :: hds) [] [] pos) (fun D σ H => tb (wAsM X.K Wout D l) D σ H) := by
  refine ⟨fun pins s σ H D I h => wpAny_Try_except ?_⟩
  have caught : Takes (X.tr (X.pn ++ pins) fun e s1 => wpAny (model X.prog X.w) X.A (noteFrame e X.env) (fun _ s2 => wpAny (model X.prog X.w) X.A (setFlight e none) (fun _ s3 => wpAny (model X.prog X.w) X.A (handleBy e X.env (h0 :: hds)) (SP X pins D) X.xe s3) X.xe s2) X.xe s1) (wAsM X.K Wout D l) := by
    intro v t x
    obtain ⟨a, B, sI, pins2, σ2, H2, cls, d, rfl, J2, nb, up, sky, na, os, ag, w⟩ := x
    have J := J2.ofTry (pins := pins) I.ok
    have sk : Sky B (X.env :: X.outer) a (Zc cls d) X.env.locals t.heap := hs ▸ sky
    have fr : X.A.frames = some (X.env :: X.outer) := I.ok.frames.trans (congrArg some hs)
    show wpAny (model X.prog X.w) X.A (noteFrame (.ref a) X.env) _ _ _
    refine Sky.land Zc.steady fr hf sk fun h f u => ?_
    have far : a ∉ frs (X.env :: X.outer) := fun m => by
      obtain ⟨oe, vs, e, _, dt⟩ := f.there
      obtain ⟨_, oe2, e2, nf⟩ := PySem.Heap.FunFrames.mem f.2.2.1 m
      cases e.symm.trans e2
      exact nf _ dt
    have Z : Came X pins σ2 H2 B a cls d { t with heap := h } := {
      fly := f
      inv := fun h2 f2 u2 => J.landed nb f2.1 ((up.trans u).trans u2) os ag
      na := na
      nL := fun z => far (List.mem_filterMap.mpr ⟨X.env, List.mem_cons_self, hf.trans (congrArg some z.symm)⟩)
      nF := fun m => by
        obtain ⟨en, me, fe⟩ := List.mem_filterMap.mp m
        exact far (List.mem_filterMap.mpr ⟨en, List.mem_cons_of_mem _ me, fe⟩) }
    exact Z.clauses hN I.ok hf hh (fun w h2 held u2 => tk _ _ ⟨a, B, sI, pins, σ2, H2, cls, d, rfl, J, nb, (up.trans u).trans u2, .inr (.inr (hs ▸ held)), na, os, ag, w⟩) w
  refine wpAny_mono ((hb _ (X.pn ++ pins) _ caught PassesOwn.looking).run [] s σ H D (I.toTry _) h) (fun fl t r => ?_) fun _ _ z => z
  cases fl with
  | next =>
    obtain ⟨σ2, H2, J, k⟩ := r
    exact wpAny_execs_nil ⟨σ2, H2, J.ofTry I.ok, k⟩
  | ret u =>
    obtain ⟨v, σ2, H2, J, rv, k⟩ := r
    exact ⟨v, σ2, H2, J.ofTry I.ok, rv, k⟩
  | brk =>
    obtain ⟨σ2, H2, J, k⟩ := r
    exact ⟨σ2, H2, J.ofTry I.ok, k⟩
  | cont =>
    obtain ⟨σ2, H2, J, k⟩ := r
    exact ⟨σ2, H2, J.ofTry I.ok, k⟩
end
end WW

set_option Elab.async false
set_option linter.all false
set_option maxRecDepth 100000
set_option maxHeartbeats 4000000
/-! Calls of what may raise, inside a try: a def by its name, a class. -/
namespace WW
open PySem PySem.Spec PyProof.Rows L2
section
variable {X : Cx} {CX : CXT} {k n : Nat} {f C : Addr} {fd : FuncData} {ps : List Str} {sp : Sp} {E : L2.St → XK} {x : Str} {p pos : Pos} {e : Expr} {es : List Expr} {t : TA}
theorem pe_clS (c : Callee X.prog X.w X.K X.mg X.base CX k x n sp) (hr : Room k X.A) (hg : Gl X x) (hx : ∀ σ, PassesAt CX X σ (E σ)) (ha : PA X (e :: es) t)
    (hdb : (x == ("__debug__" : Str)) = false := by decide) (he : starEach (e :: es) X.env = (false, eval e X.env) :: starEach es X.env := by rfl) (hpl : (backTo pos (starEach es X.env)).any (·.1) = false := by rfl) :
    PE X (.Call (.Name x p) (e :: es) [] pos) (tCallS sp E t) := by
  obtain ⟨f, fd, ps, _, F, hm, hk, hb⟩ := c.ex
  exact pe_callS F hr hg hm hk hb hx ha hdb he hpl
/-- C(..), whose __init__ may raise -/
def tMakeS (C : Addr) (sp : Sp) (E : L2.St → XK) (t : TA) : TE := fun σ H Q => t σ H fun vs H1 => ∀ o m, H1 o = none → H1 m = none → m ≠ o → sp (.ref o :: vs) (upd (upd H1 m (.own o)) o (.ins C m [])) (fun v H2 => v = .non ∧ Q (.ref o) H2) (E σ)
theorem pe_makeS (M : Mk X.K C f) (F : FnOk X.prog X.w X.K X.mg X.base CX k f fd ps sp) (hr : Room (k + 1) X.A) (hg : Gl X x) (hm : X.mg x = some (.ref C)) (hb : Binds X.K fd ps []) (hx : ∀ σ, PassesAt CX X σ (E σ)) (ha : PA X (e :: es) t)
    (hdb : (x == ("__debug__" : Str)) = false := by decide) (he : starEach (e :: es) X.env = (false, eval e X.env) :: starEach es X.env := by rfl) (hpl : (backTo pos (starEach es X.env)).any (·.1) = false := by rfl) :
    PE X (.Call (.Name x p) (e :: es) [] pos) (tMakeS C sp E t) := by
  refine ⟨fun pins s σ H Q I h => wpAny_Call_Name_kw (ld_glob I hg hm (PySem.W.callWith_K (h₀ := X.base) I.ok.mod.kin M.kp (thn (ha.run pos pins s σ H _ I h) fun us s1 z => ?_) he hpl) hdb)⟩
  obtain ⟨vs, H1, I1, r, q⟩ := z
  refine ⟨I1.kIn, ?_⟩
  have low : s1.heap.objs.size ≤ s1.heap.objs.size + 1 := Nat.le_succ _
  have new := q (s1.heap.objs.size + 1) s1.heap.objs.size (I1.hok.fresh low) (I1.hok.fresh (Nat.le_refl _)) (Nat.ne_of_lt (Nat.lt_succ_self _))
  have rs : Vals (V.ref (s1.heap.objs.size + 1) :: vs) (Value.ref (s1.heap.objs.size + 1) :: us) := .cons rfl r
  have J := I1.made (C := C)
  have many : (Value.ref (s1.heap.objs.size + 1) :: us ++ []).length = ps.length := by rw [List.append_nil, ← rs.length, F.len _ _ _ _ new]
  have bs := hb _ (Value.ref (s1.heap.objs.size + 1) :: us) J.kIn many
  rw [List.append_nil] at bs
  refine wpAny_call (make_map (f := f) I1.kIn M.makes M.init (beq_iff_eq.mp M.fn) (codeAny_mono (F.run _ X.stack _ _ ⟨Value.ref (s1.heap.objs.size + 1) :: us, []⟩ _ _ _ (E σ) (hr.make C us []) (J.env0.make C us []) bs rs new) fun a t z => ?_))
  match a, z with
  | .error _, z => exact hx σ _ _ _ _ t J z
  | .ok (.ret u), z =>
    obtain ⟨v, H2, J2, rv, rfl, k2⟩ := J.after z
    exact ⟨rv, .ref (s1.heap.objs.size + 1), H2, J2, rfl, k2⟩
  | .ok .next, z => exact False.elim z
  | .ok .brk, z => exact False.elim z
  | .ok .cont, z => exact False.elim z
end
end WW

set_option Elab.async false
set_option linter.all false
set_option maxRecDepth 100000
set_option maxHeartbeats 4000000
/-! A head's facts: those of the layer, defs found anyhow, one more Bool. -/
namespace WW
open PySem PySem.Spec PyProof.Rows L2 He
def obsB (fa : List Fa) (fn : List He5.DefA) (ex : PySem.W.Frag → Bool) (K : PySem.W.Frag) : He.AlD := (((fa.all fun f => f.ok K) && ex K) && fn.all fun d => d.ok K, fn.map fun d => He5.fnA K (d.at_ K))
def SaysB (fa : List Fa) (fn : List He5.DefA) (ex : PySem.W.Frag → Bool) (K : PySem.W.Frag) : Prop := obsB fa fn ex K = He5.valA fn
def obsBG (n : Nat) (fa : List Fa) (fn : List He5.DefA) (ex : PySem.W.Frag → Bool) (g : Addr → Option Obj) : He.AlD := obsB fa fn ex (frG g (He5.asA g n))
def hookB (n : Nat) (fa : List Fa) (fn : List He5.DefA) (ex : PySem.W.Frag → Bool) : PySem.W.Hook where
  α := He.AlD
  obs := fun s => obsBG n fa fn ex s.heap.get?
  val := fun _ => He5.valA fn
  says := fun _ h => ∃ K : PySem.W.Frag, K.In h ∧ SaysB fa fn ex K
  of := fun _ _ e => ⟨_, frG_in, e⟩
  keeps := fun _ _ _ ⟨K, hK, c⟩ k => ⟨K, PySem.W.Frag.In.keeps hK k, c⟩
theorem obsBG_eq {n : Nat} {fa : List Fa} {fn : List He5.DefA} {ex : PySem.W.Frag → Bool} {g : Addr → Option Obj} {s : Shared} (h : ∀ a, g a = s.heap.get? a) : obsBG n fa fn ex g = (hookB n fa fn ex).obs s := by
  have e : g = s.heap.get? := funext h
  rw [e] <;> rfl
section
variable {fa : List Fa} {fn : List He5.DefA} {ex : PySem.W.Frag → Bool} {K : PySem.W.Frag}
theorem SaysB.fact (c : SaysB fa fn ex K) {f : Fa} (h : f ∈ fa) : f.ok K = true := by
  have c1 := (ba (ba (show (((fa.all fun f => f.ok K) && ex K) && fn.all fun d => d.ok K) = true from congrArg (fun z : He.AlD => z.1) c)).1).1
  exact List.all_eq_true.mp c1 f h
theorem SaysB.ext (c : SaysB fa fn ex K) : ex K = true :=
  (ba (ba (show (((fa.all fun f => f.ok K) && ex K) && fn.all fun d => d.ok K) = true from congrArg (fun z : He.AlD => z.1) c)).1).2
theorem SaysB.def_ (c : SaysB fa fn ex K) (i : Nat) {d : He5.DefA} (h : fn[i]? = some d := by rfl) : ∃ fd, L2.FunD K d.name d.qual d.params d.body d.scope (d.dvs K) (d.kws K) (d.at_ K) fd := by
  have c2 := (ba (show (((fa.all fun f => f.ok K) && ex K) && fn.all fun d => d.ok K) = true from congrArg (fun z : He.AlD => z.1) c)).2
  have e : fn.map (fun d => He5.fnA K (d.at_ K)) = fn.map He5.DefA.val := congrArg (fun z : He.AlD => z.2) c
  have e2 : (fn.map fun d => He5.fnA K (d.at_ K))[i]? = (fn.map He5.DefA.val)[i]? := by rw [e]
  rw [List.getElem?_map, List.getElem?_map, h] at e2
  exact He5.DefA.funD (Option.some.inj e2) (List.all_eq_true.mp c2 d (List.mem_of_getElem? h))
end
/-- the getter of a property -/
def getr (K : PySem.W.Frag) (C : Addr) (f : Str) : Addr := match PySem.W.recIn K (ma K C f) "property" with
  | some (.ref g :: _) => g
  | _ => 0
def propB (K : PySem.W.Frag) (C : Addr) (f : Str) : Bool := eqO (PySem.W.findIn K (.ref C) f) (some (some (.ref (ma K C f)))) && (eqO (PySem.W.specialIn K (.ref (ma K C f)) "__get__") (some (some (.builtin "property.__get__"))) &&
  (decide (PySem.W.takesIn K (.ref (ma K C f)) = some true) && (match PySem.W.recIn K (ma K C f) "property" with
    | some (.ref g :: _) => true
    | _ => false)))
theorem propB_ok {K : PySem.W.Frag} {C : Addr} {f : Str} (h : propB K C f = true) : PropOf K C f (ma K C f) (getr K C f) := by
  obtain ⟨h1, h⟩ := ba h
  obtain ⟨h2, h⟩ := ba h
  obtain ⟨h3, h4⟩ := ba h
  refine ⟨eqO_ok h1, eqO_ok h2, of_decide_eq_true h3, ?_⟩
  unfold getr
  cases e : PySem.W.recIn K (ma K C f) "property" with
  | none => rw [e] at h4; cases h4
  | some l =>
    cases l with
    | nil => rw [e] at h4; cases h4
    | cons v r =>
      cases v with
      | ref g => exact ⟨r, rfl⟩
      | _ => rw [e] at h4; cases h4
end WW

set_option Elab.async false
set_option linter.all false
set_option maxRecDepth 100000
set_option maxHeartbeats 4000000
/-! A head's facts of own exceptions whose __init__ says super(). -/
namespace WW
open PySem PySem.Spec PyProof.Rows L2 He
def oexB (K : PySem.W.Frag) (C : Addr) : Bool := (match K.lookup C with
  | some ⟨.type "type", _, .cls cd, sl⟩ => (match cd.mro, sl.toList with
    | .ref C' :: bm, [_, _, _, _, some (.builtin n), _] => decide (C' = C) && (decide (n = "ValueError.__new__") && (!cd.hasDel && (cd.hasDict && PySem.HandSPX.refsVE bm)))
    | _, _ => false)
  | _ => false) && (eqO (PySem.W.findIn K (.ref C) "__setattr__") (some (some (.builtin "object.__setattr__"))) && (decide (PySem.W.subIn K (.ref C) (.type "BaseException") = some true) && (decide (PySem.W.typeIn K (.ref C) = some (.type "type")) && PySem.W.keepIn K (.ref C))))
theorem oexB_ok {K : PySem.W.Frag} {C : Addr} (h : oexB K C = true) : OexC K C := by
  obtain ⟨q, h⟩ := ba h
  obtain ⟨h2, h⟩ := ba h
  obtain ⟨h3, h⟩ := ba h
  obtain ⟨h4, h5⟩ := ba h
  refine ⟨?_, eqO_ok h2, of_decide_eq_true h3, of_decide_eq_true h4, h5⟩
  split at q
  · rename_i dd cd sl ho
    split at q
    · rename_i C' bm k0 k1 k2 k3 n k5 hm hs
      simp only [Bool.and_eq_true, decide_eq_true_eq, Bool.not_eq_true'] at q
      obtain ⟨rfl, rfl, hdel, hdict, ht⟩ := q
      obtain ⟨nm, bs, mro, ns, qn, hd, sn, sub, ab, col, del⟩ := cd
      dsimp only at hm hdel hdict
      subst hm hdel hdict
      have hsl : sl = #[k0, k1, k2, k3, some (.builtin "ValueError.__new__"), k5] := by
        obtain ⟨l⟩ := sl
        simp only at hs
        rw [hs]
      subst hsl
      exact ⟨nm, qn, ns, bs, bm, sn, sub, ab, col, dd, k0, k1, k2, k3, k5, ho, ht⟩
    · cases q
  · cases q

abbrev FnE : Type := Option (Str × Str × Arguments × FuncBody × Scope × Addr × List Str × Addr)
def fnE (K : PySem.W.Frag) (a : Addr) : FnE := match K.lookup a with
  | some ⟨_, _, .func fd, _⟩ => some (fd.name, fd.qualname, fd.params, fd.body, fd.scope, fd.globals, fd.closure.map (·.1), fd.builtins)
  | _ => none
structure DefE where
  cls : Str
  qual : Str
  params : Arguments
  body : List Stmt
  scope : Scope
def DefE.val (d : DefE) : FnE := some ("__init__", d.qual, d.params, .stmts d.body, d.scope, mainGlobals, ["__class__"], builtinsNs)
def exI (K : PySem.W.Frag) (x : Str) : Addr := ma K (ga K x) "__init__"
def exCda (K : PySem.W.Frag) (x : Str) : Addr := match K.lookup (exI K x) with
  | some ⟨_, _, .func fd, _⟩ => (match fd.code with
    | .ref c => c
    | _ => 0)
  | _ => 0
def exCc (K : PySem.W.Frag) (x : Str) : Addr := match K.lookup (exI K x) with
  | some ⟨_, _, .func fd, _⟩ => (match fd.closure with
    | [(_, c)] => c
    | _ => 0)
  | _ => 0
def exdB (file : Str) (K : PySem.W.Frag) (d : DefE) : Bool := oexB K (ga K d.cls) && (PySem.W.codeIn K (.ref (exCda K d.cls)) d.qual && ((match K.lookup (exCda K d.cls) with
    | some ⟨_, _, .fields vs, _⟩ => (match (vs[2]? : Option Value) with
      | some (.str fl _) => file == fl
      | _ => false)
    | _ => false) && ((match K.lookup (exCc K d.cls) with
    | some ⟨_, _, .cell (some (.ref D)), _⟩ => decide (D = ga K d.cls)
    | _ => false) && ((match PySem.W.clsIn K (ga K d.cls) with
    | some cd => eqO (PySem.W.alongIn K "__init__" ((cd.mro.dropWhile (· != .ref (ga K d.cls))).drop 1)) (some (some (.builtin "ValueError.__init__")))
    | none => false) && (decide (PySem.W.mroIn K (ga K d.cls) (.ref (ga K d.cls)) = some true) && (decide (PySem.W.subIn K (.ref (ga K d.cls)) (.type "ValueError") = some true) && (eqO (PySem.W.nsIn K PySem.cStatics "thirdparty.any") (some none) && ((match K.lookup (exI K d.cls) with
    | some ⟨_, _, .func fd, _⟩ => decide (fd.code = .ref (exCda K d.cls)) && decide (fd.defaults = .none)
    | _ => false) && (eqO (PySem.W.findIn K (.ref (ga K d.cls)) "__init__") (some (some (.ref (exI K d.cls)))) && decide (PySem.W.typeIn K (.ref (exI K d.cls)) = some (.type "function")))))))))))
theorem exdB_ok {P : Program} {K : PySem.W.Frag} {mg : Str → Option Value} {d : DefE} (h : exdB P.main.file K d = true) (e : fnE K (exI K d.cls) = d.val) (hs : mg "super" = none) (ht : (P.main.scope.names.lookup ("super" : Str)).isSome = false) :
    ∃ fd, ExD P K mg (ga K d.cls) (exI K d.cls) (exCc K d.cls) (exCda K d.cls) d.qual d.params d.body d.scope fd ∧ PySem.W.findIn K (.ref (ga K d.cls)) "__init__" = some (some (.ref (exI K d.cls))) ∧ PySem.W.typeIn K (.ref (exI K d.cls)) = some (.type "function") := by
  obtain ⟨h1, h⟩ := ba h
  obtain ⟨h2, h⟩ := ba h
  obtain ⟨h3, h⟩ := ba h
  obtain ⟨h4, h⟩ := ba h
  obtain ⟨h5, h⟩ := ba h
  obtain ⟨h6, h⟩ := ba h
  obtain ⟨h7, h⟩ := ba h
  obtain ⟨h8, h⟩ := ba h
  obtain ⟨h9, h⟩ := ba h
  obtain ⟨h10, h11⟩ := ba h
  have hcc : exCc K d.cls = (match K.lookup (exI K d.cls) with
    | some ⟨_, _, .func fd, _⟩ => (match fd.closure with
      | [(_, c)] => c
      | _ => 0)
    | _ => 0) := rfl
  cases q : K.lookup (exI K d.cls) with
  | none => rw [q] at h9; cases h9
  | some o =>
    obtain ⟨oc, od, dt, osl⟩ := o
    rw [q] at h9 hcc
    unfold fnE at e
    rw [q] at e
    cases dt with
    | func fd =>
      obtain ⟨n1, n2, n3, n4, n5, n6, n7, n8, n9, n10, n11, n12, n13, n14, n15⟩ := fd
      have e2 : (some (n1, n2, n3, n4, n5, n6, n7.map (·.1), n15) : FnE) = some (("__init__" : Str), d.qual, d.params, FuncBody.stmts d.body, d.scope, mainGlobals, [("__class__" : Str)], builtinsNs) := e
      simp only [Option.some.injEq, Prod.mk.injEq] at e2
      obtain ⟨e1, e2, e3, e4, e5, e6, e7, e8⟩ := e2
      obtain ⟨g1, g2⟩ := ba h9
      have g3 : n13 = .ref (exCda K d.cls) := of_decide_eq_true g1
      have g4 : n8 = .none := of_decide_eq_true g2
      match n7, e7, hcc with
      | [(x, c)], e7, hcc =>
        have ex : x = "__class__" := by simpa using e7
        have hc2 : exCc K d.cls = c := hcc
        subst ex
        rw [← hc2] at q
        refine ⟨_, ⟨oexB_ok h1, ⟨n9, n10, n11, n12, n14, rfl⟩, ⟨oc, od, osl, ?_⟩, h2, ?_, ?_, ?_, of_decide_eq_true h6, of_decide_eq_true h7, eqO_ok h8, hs, ht⟩, eqO_ok h10, of_decide_eq_true h11⟩
        · rw [q, e1, e2, e3, e4, e5, e6, e8, g3, g4]
        · cases z : K.lookup (exCda K d.cls) with
          | none => rw [z] at h3; cases h3
          | some o3 =>
            obtain ⟨a1, a2, a3, a4⟩ := o3
            rw [z] at h3
            cases a3 with
            | fields vs =>
              have h3 : (match (vs[2]? : Option Value) with
                | some (.str fl _) => P.main.file == fl
                | _ => false) = true := h3
              split at h3
              · rename_i fl tf hv
                exact ⟨_, _, vs, _, fl, tf, rfl, hv, h3⟩
              · cases h3
            | _ => cases h3
        · cases z : K.lookup (exCc K d.cls) with
          | none => rw [z] at h4; cases h4
          | some o4 =>
            rw [z] at h4
            split at h4
            · rename_i D a4 hq
              cases hq
              have hD := of_decide_eq_true h4
              subst hD
              exact ⟨_, _, _, rfl⟩
            · cases h4
        · cases z : PySem.W.clsIn K (ga K d.cls) with
          | none => rw [z] at h5; cases h5
          | some cd =>
            rw [z] at h5
            exact ⟨cd, rfl, eqO_ok h5⟩
      | [], e7, _ => cases e7
      | _ :: _ :: _, e7, _ => exact absurd (congrArg List.length e7) (by simp)
    | _ => cases h9
end WW

set_option Elab.async false
set_option linter.all false
set_option maxRecDepth 100000
set_option maxHeartbeats 4000000
/-! A head's facts with the __init__s of own exceptions. -/
namespace WW
open PySem PySem.Spec PyProof.Rows L2 He
abbrev AlE : Type := He.AlD × List FnE
def obsE (fa : List Fa) (fn : List He5.DefA) (fe : List DefE) (ex : PySem.W.Frag → Bool) (K : PySem.W.Frag) : AlE := (obsB fa fn ex K, fe.map fun d => fnE K (exI K d.cls))
def valE (fn : List He5.DefA) (fe : List DefE) : AlE := (He5.valA fn, fe.map DefE.val)
def SaysE (fa : List Fa) (fn : List He5.DefA) (fe : List DefE) (ex : PySem.W.Frag → Bool) (K : PySem.W.Frag) : Prop := obsE fa fn fe ex K = valE fn fe
def obsEG (n : Nat) (fa : List Fa) (fn : List He5.DefA) (fe : List DefE) (ex : PySem.W.Frag → Bool) (g : Addr → Option Obj) : AlE := obsE fa fn fe ex (frG g (He5.asA g n))
def hookE (n : Nat) (fa : List Fa) (fn : List He5.DefA) (fe : List DefE) (ex : PySem.W.Frag → Bool) : PySem.W.Hook where
  α := AlE
  obs := fun s => obsEG n fa fn fe ex s.heap.get?
  val := fun _ => valE fn fe
  says := fun _ h => ∃ K : PySem.W.Frag, K.In h ∧ SaysE fa fn fe ex K
  of := fun _ _ e => ⟨_, frG_in, e⟩
  keeps := fun _ _ _ ⟨K, hK, c⟩ k => ⟨K, PySem.W.Frag.In.keeps hK k, c⟩
theorem obsEG_eq {n : Nat} {fa : List Fa} {fn : List He5.DefA} {fe : List DefE} {ex : PySem.W.Frag → Bool} {g : Addr → Option Obj} {s : Shared} (h : ∀ a, g a = s.heap.get? a) : obsEG n fa fn fe ex g = (hookE n fa fn fe ex).obs s := by
  have e : g = s.heap.get? := funext h
  rw [e] <;> rfl
section
variable {fa : List Fa} {fn : List He5.DefA} {fe : List DefE} {ex : PySem.W.Frag → Bool} {K : PySem.W.Frag}
theorem SaysE.b (c : SaysE fa fn fe ex K) : SaysB fa fn ex K := congrArg (fun z : AlE => z.1) c
theorem SaysE.exc (c : SaysE fa fn fe ex K) (i : Nat) {d : DefE} (h : fe[i]? = some d := by rfl) : fnE K (exI K d.cls) = d.val := by
  have e : fe.map (fun d => fnE K (exI K d.cls)) = fe.map DefE.val := congrArg (fun z : AlE => z.2) c
  have e2 : (fe.map fun d => fnE K (exI K d.cls))[i]? = (fe.map DefE.val)[i]? := by rw [e]
  rw [List.getElem?_map, List.getElem?_map, h] at e2
  exact Option.some.inj e2
end
theorem all_at {l : List Bool} {b : Bool} (h : l.all id = true) (i : Nat) (e : l[i]? = some b) : b = true := List.all_eq_true.mp h b (List.mem_of_getElem? e)
theorem ExD.binds {P : Program} {K : PySem.W.Frag} {mg : Str → Option Value} {C f cc cda : Addr} {qual par : Str} {params : Arguments} {body : List Stmt} {scope : Scope} {fd : FuncData} (D : ExD P K mg C f cc cda qual params body scope fd)
    (h : ∀ (kV doc pm : Value) (an : Option Addr) (ct : Value) (us : List Value), us.length = 2 → bindArgs (PySem.W.ksFn "__init__" qual params body scope .none kV doc pm an (.ref cda) ct cc) ⟨us, []⟩ = pure ((["self", par] : List Str).zip us)) : Binds K fd ["self", par] [] := by
  obtain ⟨kV, doc, pm, an, ct, rfl⟩ := D.fdat
  exact .all fun us hl => h kV doc pm an ct us hl
/-- a promise that never speaks of what is raised: nothing is -/
theorem fn_none {P : Program} {w : World} {K : PySem.W.Frag} {mg : Str → Option Value} {base : Heap} {k : Nat} {f : Addr} {fd : FuncData} {ps : List Str} {sp : Sp} (F : FnOk P w K mg base (L2.CX P w) k f fd ps sp) (h : ∀ vs H Q E, sp vs H Q E → sp vs H Q En) : FnOk P w K mg base CXn k f fd ps sp := by
  refine ⟨F.len, fun A outer s H args us vs Q E hr e0 hbind r hsp => codeAny_mono (F.run A outer s H args us vs Q En hr e0 hbind r (h _ _ _ _ hsp)) fun a t z => ?_⟩
  match a, z with
  | .error _, z =>
    obtain ⟨_, _, _, _, _, _, _, _, _, _, _, _, q⟩ := z
    exact q.elim
  | .ok (.ret u), z => exact z
  | .ok .next, z => exact z
  | .ok .brk, z => exact z
  | .ok .cont, z => exact z
end WW

set_option Elab.async false
set_option linter.all false
set_option maxRecDepth 100000
set_option maxHeartbeats 4000000
/-! o[i] by a class's own __getitem__; o.m(..) that may raise, inside a try. -/
namespace WW
open PySem PySem.Spec PyProof.Rows L2
/-- the def at f is what answers o[i] -/
structure OwnIx (K : PySem.W.Frag) (C f : Addr) : Prop where
  at_ : PySem.W.findIn K (.ref C) "__getitem__" = some (some (.ref f))
  def_ : PySem.W.fnIn K f = true
  fn : PySem.W.isFn K (.ref f) = true
def rOwnIx (C : Addr) (sp : Sp) (E : XK) : R2 := fun x y H Q => ∃ a dx fs, x = .ref a ∧ H a = some (.ins C dx fs) ∧ sp [x, y] H Q E
section
variable {X : Cx} {CX : CXT} {C f : Addr} {fd : FuncData} {ps : List Str} {sp : Sp} {E : XK} {n : Nat} {a b : Expr} {ta tb : TE} {pos : Pos}
theorem pe_ownIx (O : OwnIx X.K C f) (F : FnOk X.prog X.w X.K X.mg X.base CX n f fd ps sp) (hr : Room (n + 1) X.A) (hb : Binds X.K fd ps []) (hx : Passes CX X E) (pa : PE X a ta) (pb : PE X b tb)
    (hsl : ∀ o i, subscripted b true (.ref o) i = runValue (.builtin "lifetime.subscript" ⟨[.ref o, i], []⟩)) : PE X (.Subscript a b pos) (tOp (rOwnIx C sp E) ta tb) := by
  refine ⟨fun pins s σ H Q I h => ?_⟩
  refine Subscript_ (binT pa pb I h fun v u s2 x y H2 I2 rx ry q => ?_)
  obtain ⟨o, dx, fs, rfl, ho, q⟩ := q
  cases rx
  obtain ⟨mA, J, _⟩ := ins_get I2.hok ho
  obtain ⟨od, J, _⟩ := J.look
  obtain ⟨m, hF⟩ := I2.fr
  refine PySem.W.sub_K hF I2.ok.mod.kin J O.at_ O.def_ O.fn ?_ (hsl _ _)
  have hl := F.len _ _ _ _ q
  have bd : BindsTo s2 fd ⟨[.ref o, u], []⟩ (ps.zip [.ref o, u]) := by
    have z := hb s2 [.ref o, u] I2.kIn (by simpa using hl)
    simpa using z
  refine wpAny_call (codeAny_mono (F.run X.A.in1 X.stack s2 H2 ⟨[.ref o, u], []⟩ [.ref o, u] [.ref o, y] _ E hr.in1 I2.env0.in1 bd (.cons rfl (.cons ry .nil)) q) fun r s' hq => ?_)
  cases r with
  | error e => exact hx pins σ H2 s2 e s' I2 hq
  | ok fl =>
    cases fl with
    | ret u => exact I2.after hq
    | next => exact False.elim hq
    | brk => exact False.elim hq
    | cont => exact False.elim hq
end
section
variable {X : Cx} {CX : CXT} {k : Nat} {f C : Addr} {fd : FuncData} {ps : List Str} {sp : Sp} {E : L2.St → XK} {x m : Str} {p pos apos : Pos} {e o : Expr} {es : List Expr} {ta : TE} {t : TA}
def tMethS (C : Addr) (m : Str) (sp : Sp) (E : L2.St → XK) (ta : TE) (t : TA) : TE := fun σ H Q => ta σ H fun x H1 => ∃ a dx fs, x = .ref a ∧ H1 a = some (.ins C dx fs) ∧ fs.lookup m = none ∧ t σ H1 fun vs H2 => sp (x :: vs) H2 Q (E σ)
theorem pe_methS {pl : Sem Bool} (he : PE X o ta) (c : Cls X.K C) (hm : Meth X.K C m f) (F : FnOk X.prog X.w X.K X.mg X.base CX k f fd ps sp) (hr : Room k X.A) (hb : Binds X.K fd ps []) (hx : ∀ σ, PassesAt CX X σ (E σ)) (ha : PA X (e :: es) t)
    (hst : starEach (e :: es) X.env = (false, eval e X.env) :: starEach es X.env := by rfl) (hpl : (backTo pos (starEach es X.env)).any (·.1) = false := by rfl)
    (ht : eval (.Call (.Attribute o m apos) (e :: es) [] pos) X.env = (do
      let ov ← eval o X.env
      standAt apos.atName
      let (f, first) ← holding [ov] (getMethod ov m pl)
      callWith pos f first (backTo pos (starEach (e :: es) X.env)) (backToKw pos (keywordEach [] X.env))) := by rfl) :
    PE X (.Call (.Attribute o m apos) (e :: es) [] pos) (tMethS C m sp E ta t) := by
  refine ⟨fun pins s σ H Q I h => ?_⟩
  refine PySem.W.methodCall_KW (pl := pl) (thn (he.run pins s σ H _ I h) fun u s1 ⟨x, H1, I1, rx, a, dx, fs, ex, ea, l, q⟩ => ?_) ht
  subst ex
  obtain rfl : u = Value.ref a := rx
  refine getmeth_ok I1 ea c hm l ?_
  refine PySem.W.callWith_K (first := [.ref a]) (h₀ := X.base) I.ok.mod.kin hm.kp (thn (ha.run pos pins s1 σ H1 _ I1 q) fun us s2 ⟨vs, H2, I2, r, q2⟩ => ⟨I2.kIn, ?_⟩) hst hpl
  exact run_fnS (us := .ref a :: us) (vs := .ref a :: vs) F hr hb (hx σ) I2 (.cons rfl r) q2
end
end WW

set_option Elab.async false
set_option linter.all false
set_option maxRecDepth 100000
set_option maxHeartbeats 4000000
/-! sorted of a list or a dict of texts; len of a set of texts; walks that only make things. -/
namespace WW
open PySem PySem.Spec PyProof.Rows L2 Evl
theorem leS_of_lt {a b : Str} (h : ltCps b.cps.toList a.cps.toList = false) : leS a b = true := by
  rw [ltCps_eq] at h
  unfold leS
  exact decide_eq_true (List.not_lt.mp (of_decide_eq_false h))
theorem rising_pw : ∀ {p : Str} {l : List Str}, risingS p l = true → (p :: l).Pairwise (fun a b => leS a b = true)
  | p, [], _ => List.pairwise_singleton _ _
  | p, x :: r, h => by
    have h2 : (!ltCps x.cps.toList p.cps.toList && risingS x r) = true := h
    rw [Bool.and_eq_true, Bool.not_eq_true'] at h2
    have ih := rising_pw h2.2
    have px := leS_of_lt h2.1
    refine List.pairwise_cons.mpr ⟨fun y hy => ?_, ih⟩
    rcases List.mem_cons.mp hy with rfl | hy
    · exact px
    · exact leS_trans _ _ _ px ((List.pairwise_cons.mp ih).1 y hy)
theorem sortS_of {ys ks : List Str} (p : ys.Perm ks) (h : sortedS ys = true) : ys = sortS ks := by
  have pw : ys.Pairwise (fun a b => leS a b = true) := by
    cases ys with
    | nil => exact .nil
    | cons x r => exact rising_pw h
  exact List.Perm.eq_of_pairwise (fun a b _ _ => leS_anti a b) pw (sortS_sorted ks) (p.trans (sortS_perm ks).symm)
section
variable {X : Cx} {K : PySem.W.Frag}
/-- sorted of a list or a tuple of texts -/
def rSortL (K : PySem.W.Frag) : List V → Hp → VK → Prop := fun vs H Q => ∃ (a : Addr) (xs : List Str), vs = [V.ref a] ∧ SqL K H a (xs.map V.str) ∧ xs.length < 64 ∧ ∀ p, H p = none → Q (.ref p) (upd H p (.lst ((sortS xs).map V.str)))
theorem cr_sortL (h : X.K = K) : CallR X (.builtin "sorted") (rSortL K) := by
  intro pins s σ H vs us Q I r q
  obtain ⟨a, xs, e, hs, h64, q⟩ := q
  exact cr_sortedS pins s σ H vs us Q I r ⟨a, xs, e, h ▸ hs, h64, fun ys p hp hy hn => by rw [sortS_of hp hy]; exact q p hn⟩
/-- sorted of a dict -/
def rSortK : List V → Hp → VK → Prop := fun vs H Q => ∃ (a : Addr) (kvs : List (Key × V)) (ks : List Str), vs = [.ref a] ∧ Rd H a (.dK kvs) ∧ kvs.map (·.1) = ks.map Sum.inr ∧ ks.length < 64 ∧ ∀ p, H p = none → Q (.ref p) (upd H p (.lst ((sortS ks).map V.str)))
theorem cr_sortK (hc : X.calm = true) : CallR X (.builtin "sorted") rSortK := by
  intro pins s σ H vs us Q I r q
  obtain ⟨a, kvs, ks, e, hd, hk, h64, q⟩ := q
  exact call_sortedD hc pins s σ H vs us Q I r ⟨a, kvs, ks, e, hd, hk, h64, fun ys p hp hy hn => by rw [sortS_of hp hy]; exact q p hn⟩
/-- len of a set of texts -/
def rLenS (P : Program) (w : World) : List V → Hp → VK → Prop := fun vs H Q => ∃ (a : Addr) (ks : List Str), vs = [.ref a] ∧ H a = some (SSO P w a ks) ∧ Q (.int ks.length) H
theorem cr_lenS : CallR X (.builtin "len") (rLenS X.prog X.w) := by
  intro pins s σ H vs us Q I r q
  obtain ⟨a, ks, rfl, ha, q⟩ := q
  rw [Vals.ref1 r]
  obtain ⟨o, es, ep, t, ho, hex, hd, nd, pr, hz, hf, _⟩ := sso_get I ha
  have hl : ks.length = es.size := by rw [Paired.length pr]; simp
  refine call_len_set ho hex hd hf (by unfold scanBound at hz; omega) ⟨.int ks.length, H, I.tok _, ⟨_, by rw [hl]⟩, q⟩
end
section
variable {J : It} {H : Hp} {xs : List V} {D : Addr} {σ : L2.St} {vs : List Nat} {j n : Nat} {g : TG} {tt : TT} {te tk tv : TE} {Q : Hp → Prop}
/-- a comprehension that only makes things, and puts all in -/
theorem lc_walk (v : Nat → V) (hn : n < 100000) (go : ∀ i H', Ex H H' → i < n → J.go i H') (stop : ∀ H', Ex H H' → J.stop n H') (hD : H D = none)
    (step : ∀ i H' x H'', Ex H H' → i < n → J.yld i H' x H'' → ∀ (N : V → Hp → Prop) (M : Hp → Prop), (∀ H4, Ex H' H4 → N (v i) H4) → g x (wipe σ vs) H'' fun σ2 H2 => wipe σ2 vs = wipe σ vs ∧ tt σ2 H2 fun b H3 => if b = true then te σ2 H3 fun y H4 => N y H4 else M H3)
    (q : ∀ H', Ex H H' → H' D = some (.lst ((List.range n).map v)) → Q H') :
    ∃ W : Nat → Nat → Hp → Prop, (∃ m, W 0 m (upd H D (.lst []))) ∧ ∀ i m H, W i m H →
      (J.stop i H ∧ Q H) ∨ (J.go i H ∧ ∃ Nx : Hp → Prop, (∀ H', Nx H' → ∃ m', m' < m ∧ W (i + 1) m' H') ∧ ∀ x H', J.yld i H x H' → g x (wipe σ vs) H' fun σ2 H2 => wipe σ2 vs = wipe σ vs ∧ tt σ2 H2 fun b H3 =>
        if b = true then te σ2 H3 fun y H4 => ∃ acc, H4 D = some (.lst acc) ∧ acc.length < sizeLine ∧ Nx (upd H4 D (.lst (acc ++ [y]))) else Nx H3) := by
  refine ⟨fun i m H' => m = n - i ∧ i ≤ n ∧ Ex H H' ∧ H' D = some (.lst ((List.range i).map v)), ⟨n, by simp, Nat.zero_le _, Ex.new hD, upd_same⟩, ?_⟩
  rintro i m H' ⟨rfl, hi, e, hd⟩
  by_cases hlt : i < n
  · refine .inr ⟨go i H' e hlt, fun H' => Ex H H' ∧ H' D = some (.lst ((List.range (i + 1)).map v)), fun H'' p' => ⟨n - (i + 1), by omega, rfl, hlt, p'⟩, fun x H'' y => ?_⟩
    refine step i H' x H'' e hlt y (fun y H4 => ∃ acc, H4 D = some (.lst acc) ∧ acc.length < sizeLine ∧ (Ex H (upd H4 D (.lst (acc ++ [y]))) ∧ (upd H4 D (.lst (acc ++ [y]))) D = some (.lst ((List.range (i + 1)).map v)))) _ fun H4 e4 => ⟨_, e4 _ _ hd, ?_, (e.trans e4).mut hD, ?_⟩
    · rw [List.length_map, List.length_range]
      exact sz_lt (by omega)
    · rw [upd_same, List.range_succ, List.map_append]
      rfl
  · have e1 : i = n := by omega
    subst e1
    exact .inl ⟨stop H' e, q H' e hd⟩
/-- {k: v for x in ..}, no key twice, that only makes things -/
theorem dc_ev {u : V → Str} {v : V → V} (S : Steady J H xs) (hz : xs.length < 100000) (nd : (xs.map u).Nodup) (hw : ∀ x, wipe ((wipe σ vs).set j (some x)) vs = wipe σ vs) (hD : H D = none)
    (hk : ∀ x ∈ xs, Ev tk ((wipe σ vs).set j (some x)) H (.str (u x))) (hv : ∀ x ∈ xs, Ev tv ((wipe σ vs).set j (some x)) H (v x))
    (q : ∀ H', Ex H H' → H' D = some (.dK (xs.map fun x => (.inr (u x), v x))) → Q H') :
    ∃ W : Nat → Nat → Hp → Prop, (∃ m, W 0 m (upd H D (.dK []))) ∧ ∀ i m H, W i m H →
      (J.stop i H ∧ Q H) ∨ (J.go i H ∧ ∃ Nx : Hp → Prop, (∀ H', Nx H' → ∃ m', m' < m ∧ W (i + 1) m' H') ∧ ∀ x H', J.yld i H x H' → gName j x (wipe σ vs) H' fun σ2 H2 => wipe σ2 vs = wipe σ vs ∧ tYes σ2 H2 fun b H3 =>
        if b = true then tk σ2 H3 fun y H4 => tv σ2 H4 fun z H5 => ∃ kvs k, y = kV k ∧ H5 D = some (.dK kvs) ∧ kvs.length < sizeLine ∧ Nx (upd H5 D (.dK (putK kvs k z))) else Nx H3) := by
  refine ⟨fun i m H' => m = xs.length - i ∧ i ≤ xs.length ∧ Ex H H' ∧ H' D = some (.dK ((xs.take i).map fun x => (.inr (u x), v x))), ⟨xs.length, by simp, Nat.zero_le _, Ex.new hD, upd_same⟩, ?_⟩
  rintro i m H' ⟨rfl, hi, e, hd⟩
  by_cases hlt : i < xs.length
  · refine .inr ⟨S.go i H' e hlt, fun H' => Ex H H' ∧ H' D = some (.dK ((xs.take (i + 1)).map fun x => (.inr (u x), v x))), fun H'' p' => ⟨xs.length - (i + 1), by omega, rfl, hlt, p'⟩, fun x H'' y => ?_⟩
    obtain ⟨e1, hx⟩ := S.yld i H' x H'' e hlt y
    subst e1
    have mx : x ∈ xs := List.mem_of_getElem? hx
    refine ⟨hw x, ?_⟩
    unfold tYes
    refine hk x mx _ e _ fun H2 e2 => hv x mx H2 (e.trans e2) _ fun H3 e3 => ⟨_, .inr (u x), rfl, e3 _ _ (e2 _ _ hd), ?_, (e.trans e2 |>.trans e3).mut hD, ?_⟩
    · rw [List.length_map, List.length_take]
      exact sz_lt (by omega)
    · rw [upd_same, putK_new, take_snoc hx, List.map_append]
      · rfl
      · cases ev : valV ((xs.take i).map fun x => ((.inr (u x) : Key), v x)) (.inr (u x)) with
        | none => rfl
        | some z =>
          exfalso
          have ha : (((xs.take i).map fun x => ((.inr (u x) : Key), v x)).any fun kv => decide (kv.1 = (Sum.inr (u x) : Key))) = true := by rw [valV_any, ev]; rfl
          obtain ⟨q2, hq, eq⟩ := List.any_eq_true.mp ha
          obtain ⟨z2, hz2, rfl⟩ := List.mem_map.mp hq
          have e2 : u z2 = u x := Sum.inr.inj (of_decide_eq_true eq)
          have nd2 := nd.sublist ((List.take_sublist (i + 1) xs).map u)
          rw [take_snoc hx, List.map_append, List.nodup_append] at nd2
          exact nd2.2.2 (u z2) (List.mem_map_of_mem hz2) (u x) (by simp) e2
  · have e1 : i = xs.length := by omega
    subst e1
    rw [List.take_length] at hd
    exact .inl ⟨S.stop H' e, q H' e hd⟩
end
end WW

set_option Elab.async false
set_option linter.all false
set_option maxRecDepth 100000
set_option maxHeartbeats 4000000
namespace WK
open PySem PySem.Spec PyProof.Rows L2 WW Evl
/-- a promise that holds of good ones alone: nothing is raised -/
theorem calm {P : Program} {w : World} {K : PySem.W.Frag} {mg : Str → Option Value} {base : Heap} {k : Nat} {f : Addr} {fd : FuncData} {ps : List Str} {sp sp0 : Sp} (F : FnOk P w K mg base (L2.CX P w) k f fd ps sp) (h : ∀ vs H Q E, sp0 vs H Q E → sp vs H Q E) (h2 : ∀ vs H Q E, sp0 vs H Q E → sp0 vs H Q En) : FnOk P w K mg base CXn k f fd ps sp0 :=
  fn_none (F.imp h) h2
theorem Callee.calm {P : Program} {w : World} {K : PySem.W.Frag} {mg : Str → Option Value} {base : Heap} {k n : Nat} {x : Str} {sp sp0 : Sp} (c : Callee P w K mg base (L2.CX P w) k x n sp) (h : ∀ vs H Q E, sp0 vs H Q E → sp vs H Q E) (h2 : ∀ vs H Q E, sp0 vs H Q E → sp0 vs H Q En) : Callee P w K mg base CXn k x n sp0 := by
  obtain ⟨f, fd, ps, l, F, r⟩ := c
  exact ⟨f, fd, ps, l, WK.calm F h h2, r⟩
theorem nmB_of {z : Str} (h : IsNm z) : nmB (.str z) = true := by
  rw [nmB_str, decide_eq_true (show (1 : Int) ≤ z.length by have := h.1; omega), decide_eq_true (show (z.length : Int) ≤ 10 by have := h.2.1; omega)]
  simp only [Bool.true_and]
  refine List.all_eq_true.mpr fun c hc => ?_
  have := h.2.2 c hc
  unfold ltB
  rw [decide_eq_true this.1, decide_eq_true this.2]
  rfl
section
variable {P : Program} {w : World} {K : PySem.W.Frag} {mg : Str → Option Value} {base : Heap} {f : Addr} {fd : FuncData}
theorem nmz {x : Str} (h : IsNm x) : ∀ z, V.str x = .str z → z.length ≤ 1000 := fun z e => by cases e; have := h.2.1; omega
def inB (m : Int) : V → Bool
  | .int i => decide (0 ≤ i) && decide (i < m)
  | _ => false
theorem inB_no {m : Int} {v : V} (h : isI v = false) : inB m v = false := by cases v <;> first | rfl | exact nomatch (show true = false from h)
abbrev s_is_index : Stmt := top 17
theorem sc_is_index : FnScope ["thing", "many"] ["thing", "many"] (defScope s_is_index) := ⟨rfl, rfl, rfl, by decide +kernel, rfl, by decide +kernel, by decide +kernel⟩
def spIsIndexG : Sp := fun vs H Q _ => ∃ v m, vs = [v, .int m] ∧ Pl H v ∧ ∀ H', Ex H H' → Q (.bl (inB m v)) H'
theorem okg_is_index (D : Df K mg "is_index" s_is_index f fd ["thing", "many"]) (c_is_integer : Callee P w K mg base CXn 1 "is_integer" 1 spIsIntegerG) : Callee P w K mg base CXn 2 "is_index" 2 spIsIndexG := by
  refine D.callee (D.fn.ok sc_is_index (fun vs H Q E h => ?_) (fun cdv A outer s H vs Q E hr h => ⟨_, PSs.nox (pss_one (ps_ret (L2.pe_and (pe_cl (E := En) c_is_integer (hr.mono (by decide)) rfl passN (pa_cons (pv 0) pa_nil)) (pe_one (pe_chain op_le op_lt pe_int (pv 0) (pv 1)))))), ?_⟩))
  · obtain ⟨_, _, rfl, _⟩ := h
    rfl
  · obtain ⟨v, m, rfl, hv, k⟩ := h
    refine ⟨_, rfl, v, rfl, hv, fun H1 e1 => ⟨_, rfl, ?_⟩⟩
    have q := k H1 e1
    cases hi : isI v with
    | false =>
      rw [inB_no hi] at q
      exact q
    | true =>
      cases v with
      | int i =>
        have e : inB m (.int i) = (decide (0 ≤ i) && decide (i < m)) := rfl
        rw [e] at q
        refine ⟨_, rfl, 0, i, rfl, rfl, decide ((0 : Int) ≤ i), rfl, ?_⟩
        cases hd : decide ((0 : Int) ≤ i) with
        | false =>
          rw [hd] at q
          exact q
        | true =>
          rw [hd] at q
          exact ⟨_, rfl, i, m, rfl, rfl, q⟩
      | _ => exact nomatch (show false = true from hi)
abbrev s_is_post : Stmt := top 16
theorem sc_is_post : FnScope ["thing"] ["thing"] (defScope s_is_post) := ⟨rfl, rfl, rfl, by decide +kernel, rfl, by decide +kernel, by decide +kernel⟩
def spIsPostG : Sp := fun vs H Q _ => ∃ v, vs = [v] ∧ Pl H v ∧ ∀ H', Ex H H' → Q (.bl (inB 2 v)) H'
theorem okg_is_post (D : Df K mg "is_post" s_is_post f fd ["thing"]) (c_is_index : Callee P w K mg base CXn 2 "is_index" 2 spIsIndexG) : Callee P w K mg base CXn 3 "is_post" 1 spIsPostG := by
  refine D.callee (D.fn.ok sc_is_post (fun vs H Q E h => ?_) (fun cdv A outer s H vs Q E hr h => ⟨_, PSs.nox (pss_one (ps_ret (pe_cl (E := En) c_is_index (hr.mono (by decide)) rfl passN (pa_cons (pv 0) (pa_cons pe_int pa_nil))))), ?_⟩))
  · obtain ⟨_, rfl, _⟩ := h
    rfl
  · obtain ⟨v, rfl, hv, k⟩ := h
    exact ⟨_, rfl, v, 2, rfl, hv, fun H1 e1 => k H1 e1⟩
abbrev s_check_name : Stmt := top 23
theorem sc_check_name : FnScope ["name"] ["name"] (defScope s_check_name) := ⟨rfl, rfl, rfl, by decide +kernel, rfl, by decide +kernel, by decide +kernel⟩
def spCkNameG (C : Addr) : Sp := fun vs H Q E => ∃ v, vs = [v] ∧ Pl H v ∧ (∀ z, v = .str z → z.length ≤ 1000) ∧ (nmB v = false → ∀ H' d, Ex H H' → H' d = none → E (.ref C) (some d) (upd H' d (.xd [("value", v)]))) ∧ (nmB v = true → ∀ H', Ex H H' → Q .non H')
theorem okg_check_name {C_BadName : Addr} (D : Df K mg "check_name" s_check_name f fd ["name"]) (X_BadName : ExR P w K mg base 1 "BadName" C_BadName "value") (c_is_name : Callee P w K mg base CXn 1 "is_name" 1 spIsNameG) : Callee P w K mg base (L2.CX P w) 3 "check_name" 1 (spCkNameG C_BadName) := by
  refine D.callee (D.fn.ok sc_check_name (fun vs H Q E h => ?_) (fun cdv A outer s H vs Q E hr h => ⟨_, (pss_one (ps_if (pt_not (pt_val (pe_cl (E := En) c_is_name (hr.mono (by decide)) rfl passN (pa_cons (pv 0) pa_nil)))) (pss_one (ps_raiseE X_BadName rfl (hr.mono (by decide)) (takes_of rfl rfl rfl rfl) rfl (pv 0))) pss_nil)), ?_⟩))
  · obtain ⟨_, rfl, _⟩ := h
    rfl
  · obtain ⟨v, rfl, hv, hz, bad, good⟩ := h
    refine ⟨_, rfl, v, rfl, hv, hz, fun H1 e1 => ⟨nmB v, rfl, ?_⟩⟩
    cases hb : nmB v with
    | false =>
      refine iteT ⟨_, rfl, ?_⟩
      exact raise_go fun d hd => bad hb H1 d e1 hd
    | true => exact iteF (good hb H1 e1)
/-- of a name -/
def spCkName0 : Sp := fun vs H Q _ => ∃ z, vs = [.str z] ∧ IsNm z ∧ ∀ H', Ex H H' → Q .non H'
theorem ckName0 {C : Addr} (vs : List V) (H : Hp) (Q : VK) (E : XK) (h : spCkName0 vs H Q E) : spCkNameG C vs H Q E := by
  obtain ⟨z, rfl, hz, k⟩ := h
  exact ⟨_, rfl, .str z, (fun y e => by cases e; have := hz.2.1; omega), fun n => absurd ((nmB_of hz).symm.trans n) (by decide), fun _ => k⟩
abbrev s_check_post : Stmt := top 24
theorem sc_check_post : FnScope ["post"] ["post"] (defScope s_check_post) := ⟨rfl, rfl, rfl, by decide +kernel, rfl, by decide +kernel, by decide +kernel⟩
def spCkPostG (C : Addr) : Sp := fun vs H Q E => ∃ v, vs = [v] ∧ Pl H v ∧ (inB 2 v = false → ∀ H' d, Ex H H' → H' d = none → E (.ref C) (some d) (upd H' d (.xd [("value", v)]))) ∧ (inB 2 v = true → ∀ H', Ex H H' → Q .non H')
theorem okg_check_post {C_BadPost : Addr} (D : Df K mg "check_post" s_check_post f fd ["post"]) (X_BadPost : ExR P w K mg base 1 "BadPost" C_BadPost "value") (c_is_post : Callee P w K mg base CXn 3 "is_post" 1 spIsPostG) : Callee P w K mg base (L2.CX P w) 4 "check_post" 1 (spCkPostG C_BadPost) := by
  refine D.callee (D.fn.ok sc_check_post (fun vs H Q E h => ?_) (fun cdv A outer s H vs Q E hr h => ⟨_, (pss_one (ps_if (pt_not (pt_val (pe_cl (E := En) c_is_post (hr.mono (by decide)) rfl passN (pa_cons (pv 0) pa_nil)))) (pss_one (ps_raiseE X_BadPost rfl (hr.mono (by decide)) (takes_of rfl rfl rfl rfl) rfl (pv 0))) pss_nil)), ?_⟩))
  · obtain ⟨_, rfl, _⟩ := h
    rfl
  · obtain ⟨v, rfl, hv, bad, good⟩ := h
    refine ⟨_, rfl, v, rfl, hv, fun H1 e1 => ⟨inB 2 v, rfl, ?_⟩⟩
    cases hb : inB 2 v with
    | false =>
      refine iteT ⟨_, rfl, ?_⟩
      exact raise_go fun d hd => bad hb H1 d e1 hd
    | true => exact iteF (good hb H1 e1)
def IsPo (i : Int) : Prop := i = 0 ∨ i = 1
theorem inB_of {i : Int} (h : IsPo i) : inB 2 (.int i) = true := by rcases h with rfl | rfl <;> rfl
def spCkPost0 : Sp := fun vs H Q _ => ∃ i, vs = [.int i] ∧ IsPo i ∧ ∀ H', Ex H H' → Q .non H'
theorem ckPost0 {C : Addr} (vs : List V) (H : Hp) (Q : VK) (E : XK) (h : spCkPost0 vs H Q E) : spCkPostG C vs H Q E := by
  obtain ⟨i, rfl, hi, k⟩ := h
  exact ⟨_, rfl, .int i, fun n => absurd ((inB_of hi).symm.trans n) (by decide), fun _ => k⟩
abbrev s_check_cost : Stmt := top 25
theorem sc_check_cost : FnScope ["cost"] ["cost"] (defScope s_check_cost) := ⟨rfl, rfl, rfl, by decide +kernel, rfl, by decide +kernel, by decide +kernel⟩
def spCkCost0 : Sp := fun vs H Q _ => ∃ i : Int, vs = [.int i] ∧ 1 ≤ i ∧ i ≤ 1000 ∧ ∀ H', Ex H H' → Q .non H'
theorem ok_check_cost (gc : ∃ t, mg "MOST_COST" = some (.int 1000 t)) (D : Df K mg "check_cost" s_check_cost f fd ["cost"]) (c_is_integer : Callee P w K mg base CXn 1 "is_integer" 1 spIsIntegerG) : Callee P w K mg base CXn 2 "check_cost" 1 spCkCost0 := by
  obtain ⟨tc, g_MOST_COST⟩ := gc
  have r_MOST_COST : RelV (.int 1000) (.int 1000 tc) := ⟨_, rfl⟩
  refine D.callee (D.fn.ok sc_check_cost (fun vs H Q E h => ?_) (fun cdv A outer s H vs Q E hr h => ⟨_, PSs.nox (pss_one (ps_if (PW.pt (pw_or (pt_not (pt_val (pe_cl (E := En) c_is_integer (hr.mono (by decide)) rfl passN (pa_cons (pv 0) pa_nil)))) (pw_or1 (pt_not (pt_chain op_le op_le pe_int (pv 0) (pe_glob rfl g_MOST_COST r_MOST_COST)))))) (pss_one ps_never) pss_nil)), ?_⟩))
  · obtain ⟨_, rfl, _⟩ := h
    rfl
  · obtain ⟨i, rfl, h1, h2, k⟩ := h
    refine ⟨_, rfl, .int i, rfl, .int i, fun H1 e1 => ⟨true, rfl, iteF ?_⟩⟩
    refine ⟨_, rfl, 1, i, rfl, rfl, decide ((1 : Int) ≤ i), rfl, ?_⟩
    rw [decide_eq_true h1]
    refine ⟨i, 1000, rfl, rfl, decide (i ≤ (1000 : Int)), rfl, ?_⟩
    rw [decide_eq_true h2]
    exact iteF (k H1 e1)
abbrev s_is_table_of_sights : Stmt := top 26
theorem sc_is_table_of_sights : FnScope ["thing", "word", "sight"] ["thing"] (defScope s_is_table_of_sights) := ⟨rfl, rfl, rfl, by decide +kernel, rfl, by decide +kernel, by decide +kernel⟩
/-- a dict of names -/
structure TabS (kvs : List (Key × V)) : Prop where
  least : 1 ≤ kvs.length
  most : kvs.length ≤ 10
  each : ∀ q ∈ kvs, ∃ x y : Str, q = (.inr x, .str y) ∧ IsNm x ∧ IsNm y
def spIsTable0 : Sp := fun vs H Q _ => ∃ D kvs, vs = [.ref D] ∧ H D = some (.dK kvs) ∧ TabS kvs ∧ ∀ H', Ex H H' → Q (.bl true) H'
theorem ok_is_table (G : Gz mg) (gc : ∃ t, mg "MOST_WORDS_OF_AN_INSTRUMENT" = some (.int 10 t)) (D : Df K mg "is_table_of_sights" s_is_table_of_sights f fd ["thing"]) (c_is_name : Callee P w K mg base CXn 1 "is_name" 1 spIsNameG) : Callee P w K mg base CXn 2 "is_table_of_sights" 1 spIsTable0 := by
  obtain ⟨tc, g_MOST_WORDS_OF_AN_INSTRUMENT⟩ := gc
  have r_MOST_WORDS_OF_AN_INSTRUMENT : RelV (.int 10) (.int 10 tc) := ⟨_, rfl⟩
  refine D.callee (D.fn.ok sc_is_table_of_sights (fun vs H Q E h => ?_) (fun cdv A outer s H vs Q E hr h => ⟨_, PSs.nox (pss_cons (ps_if (PW.pt (pw_or (pt_not (pt_val (pe_callB (isiK (K := K) rfl) rfl G.g_isinstance (by rfl) (pa_cons (pv 0) (pa_cons (pe_bltn (v := .ty "dict") rfl G.g_dict (by rfl) rfl) pa_nil))))) (pw_or1 (pt_not (pt_chain op_le op_le pe_int (pe_callB call_lenD rfl G.g_len PySem.boot_len (pa_cons (pv 0) pa_nil)) (pe_glob rfl g_MOST_WORDS_OF_AN_INSTRUMENT r_MOST_WORDS_OF_AN_INSTRUMENT)))))) (pss_one (ps_ret pe_bl)) pss_nil) (pss_one (ps_ret (pe_callB (cr_all rfl) rfl G.g_all (by rfl) (pa_cons (pe_lock (pe_lc (own := [("word", 1), ("sight", 2)]) rfl sc_is_table_of_sights.nd (pi_items (pv 0)) (BlkOk.mk (N := ["thing", "word", "sight"]) (sc := defScope s_is_table_of_sights) rfl (by decide +kernel) (by decide +kernel) (by decide +kernel) (by decide +kernel)) (fun _ _ _ _ _ => (show PG _ _ (gTup K 2 (gCons (gName 1) (gCons (gName 2) gNil))) from pg_tup (n := 2) rfl (pgs_cons (pg_name (i := 1) sc_is_table_of_sights.nd rfl (Or.inl rfl)) (pgs_cons (pg_name (i := 2) sc_is_table_of_sights.nd rfl (Or.inl rfl)) pgs_nil)))) (fun _ _ _ _ _ => pts_nil) (fun _ _ _ _ _ => (L2.pe_and (pe_cl (E := En) c_is_name (hr.mono (by decide)) rfl passN (pa_cons (pv 1) pa_nil)) (pe_one (pe_cl (E := En) c_is_name (hr.mono (by decide)) rfl passN (pa_cons (pv 2) pa_nil))))))) pa_nil))))), ?_⟩))
  · obtain ⟨_, _, rfl, _⟩ := h
    rfl
  · obtain ⟨D, kvs, rfl, hD, ok, k⟩ := h
    have ol := ok.least
    have om := ok.most
    refine ⟨_, rfl, .ref D, .ty "dict", .type "dict", .type "dict", true, rfl, .ty _, .base (.dK hD), kit_ty (r := true) (by decide +kernel), true, rfl, iteF ?_⟩
    refine ⟨_, rfl, D, kvs, rfl, hD, 1, (kvs.length : Int), rfl, rfl, decide ((1 : Int) ≤ (kvs.length : Int)), rfl, ?_⟩
    rw [decide_eq_true (show (1 : Int) ≤ (kvs.length : Int) by omega)]
    refine ⟨(kvs.length : Int), 10, rfl, rfl, decide ((kvs.length : Int) ≤ 10), rfl, ?_⟩
    rw [decide_eq_true (show (kvs.length : Int) ≤ (10 : Int) by omega)]
    refine iteF ?_
    refine ⟨D, .dK kvs, hD, trivial, fun od => ?_⟩
    have hf : upd H D (.frz od (.dK kvs)) D = some (.frz od (.dK kvs)) := upd_same
    refine ⟨_, rfl, D, od, kvs, rfl, hf, fun N hN => ?_⟩
    refine lc_walk (n := kvs.length) (fun _ => .bl true) (by omega) (fun i H' e hi => ⟨e _ _ hf, hi⟩) (fun H' e => ⟨e _ _ hf, Nat.le_refl _⟩) hN (fun i H' x H'' e hi y N M q => ?_) (fun H' e hd => ⟨e _ _ hf, ?_⟩)
    · obtain ⟨T, ky, v, hk, rfl, hT, rfl⟩ := y
      obtain ⟨x, y, e1, hx, hy⟩ := ok.each _ (List.mem_of_getElem? hk)
      cases e1
      have e2 : Ex H' (upd H' T (.tup [.str x, .str y])) := Ex.new hT
      refine ⟨T, _, rfl, st_of upd_same, rfl, _, _, rfl, _, _, rfl, rfl, rfl, ?_⟩
      refine ⟨_, rfl, .str x, rfl, .str x, nmz hx, fun H3 e3 => ⟨_, rfl, ?_⟩⟩
      rw [nmB_of hx]
      refine ⟨_, rfl, .str y, rfl, .str y, nmz hy, fun H4 e4 => ?_⟩
      rw [nmB_of hy]
      exact q H4 (e2.trans (e3.trans e4))
    · have ex := unlock_ex hD e
      have nND : N ≠ D := fun z => by rw [z, hf] at hN; cases hN
      refine ⟨N, (List.range kvs.length).map fun _ => true, rfl, sq_of ?_, ?_⟩
      · rw [upd_ne nND, hd, List.map_map]
        rfl
      · have e3 : ((List.range kvs.length).map fun _ => true).all id = true := List.all_eq_true.mpr fun b hb => by
          obtain ⟨_, _, rfl⟩ := List.mem_map.mp hb
          rfl
        rw [e3]
        exact k _ ex
abbrev s_is_row_of_words : Stmt := top 27
theorem sc_is_row_of_words : FnScope ["thing", "word"] ["thing"] (defScope s_is_row_of_words) := ⟨rfl, rfl, rfl, by decide +kernel, rfl, by decide +kernel, by decide +kernel⟩
/-- a row of words -/
structure RowW (ws : List Str) : Prop where
  least : 1 ≤ ws.length
  most : ws.length ≤ 10
  nd : ws.Nodup
  each : ∀ x ∈ ws, IsNm x
def spIsRowW0 : Sp := fun vs H Q _ => ∃ a ws, vs = [.ref a] ∧ H a = some (.lst (ws.map V.str)) ∧ RowW ws ∧ ∀ H', Ex H H' → Q (.bl true) H'
theorem ok_is_rowW (G : Gz mg) (gc : ∃ t, mg "MOST_WORDS_OF_AN_INSTRUMENT" = some (.int 10 t)) (D : Df K mg "is_row_of_words" s_is_row_of_words f fd ["thing"]) (c_is_name : Callee P w K mg base CXn 1 "is_name" 1 spIsNameG) (c_is_row_of : Callee P w K mg base CXn 2 "is_row_of" 3 spIsRowOfG) : Callee P w K mg base CXn 3 "is_row_of_words" 1 spIsRowW0 := by
  obtain ⟨tc, g_MOST_WORDS_OF_AN_INSTRUMENT⟩ := gc
  have r_MOST_WORDS_OF_AN_INSTRUMENT : RelV (.int 10) (.int 10 tc) := ⟨_, rfl⟩
  refine D.callee (D.fn.ok sc_is_row_of_words (fun vs H Q E h => ?_) (fun cdv A outer s H vs Q E hr h => ⟨_, PSs.nox (pss_cons (ps_if (PW.pt (pw_or (pt_not (pt_val (pe_cl (E := En) c_is_row_of (hr.mono (by decide)) rfl passN (pa_cons (pv 0) (pa_cons pe_int (pa_cons (pe_glob rfl g_MOST_WORDS_OF_AN_INSTRUMENT r_MOST_WORDS_OF_AN_INSTRUMENT) pa_nil)))))) (pw_or1 (pt_not (pt_val (pe_callB (cr_all rfl) rfl G.g_all (by rfl) (pa_cons (pe_lc (own := [("word", 1)]) rfl sc_is_row_of_words.nd (pi_list (pv 0)) (BlkOk.mk (N := ["thing", "word"]) (sc := defScope s_is_row_of_words) rfl (by decide +kernel) (by decide +kernel) (by decide +kernel) (by decide +kernel)) (fun _ _ _ _ _ => (pg_name (i := 1) sc_is_row_of_words.nd rfl (Or.inl rfl))) (fun _ _ _ _ _ => pts_nil) (fun _ _ _ _ _ => (pe_cl (E := En) c_is_name (hr.mono (by decide)) rfl passN (pa_cons (pv 1) pa_nil)))) pa_nil))))))) (pss_one (ps_ret pe_bl)) pss_nil) (pss_one (ps_ret (pe_cmpR op_eq (pe_callB cr_lenS rfl G.g_len PySem.boot_len (pa_cons (pe_callTy (cr_setOfS rfl) rfl G.g_set (by rfl) (pa_cons (pv 0) pa_nil)) pa_nil)) (pe_callB (lenK (K := K) rfl) rfl G.g_len PySem.boot_len (pa_cons (pv 0) pa_nil)) (nomark _))))), ?_⟩))
  · obtain ⟨_, _, rfl, _⟩ := h
    rfl
  · obtain ⟨a, ws, rfl, ha, ok, k⟩ := h
    have ol := ok.least
    have om := ok.most
    have hrow : rowB H (.ref a) 1 10 = true := by
      unfold rowB
      rw [rlen_at ha]
      show (decide ((1 : Int) ≤ ((ws.map V.str).length : Int)) && decide (((ws.map V.str).length : Int) ≤ 10)) = true
      rw [List.length_map, decide_eq_true (show (1 : Int) ≤ (ws.length : Int) by omega), decide_eq_true (show (ws.length : Int) ≤ (10 : Int) by omega)]
      rfl
    refine ⟨_, rfl, .ref a, 1, 10, rfl, .lst ha, fun H1 e1 => ?_⟩
    rw [hrow]
    refine ⟨true, rfl, iteF ?_⟩
    refine ⟨_, rfl, a, rfl, ⟨_, sq_of (e1 _ _ ha)⟩, fun N hN => ?_⟩
    refine lc_ev (f := fun _ => true) (v := fun _ => .bl true) (st_l (K := K) (sq_of (e1 _ _ ha))) (by rw [List.length_map]; omega) (fun x => rfl) hN (fun x _ H2 e Q q => q H2 (Ex.refl _)) (fun x hx _ H2 e Q q => ?_) (fun H2 e hd => ?_)
    · obtain ⟨z, hz, rfl⟩ := List.mem_map.mp hx
      refine ⟨_, rfl, .str z, rfl, .str z, nmz (ok.each z hz), fun H3 e3 => ?_⟩
      rw [nmB_of (ok.each z hz)]
      exact q H3 e3
    · refine ⟨N, ws.map fun _ => true, rfl, sq_of ?_, ?_⟩
      · rw [hd, List.filter_eq_self.mpr (fun _ _ => rfl), List.map_map, List.map_map]
        rfl
      · have e3 : (ws.map fun _ => true).all id = true := List.all_eq_true.mpr fun b hb => by
          obtain ⟨_, _, rfl⟩ := List.mem_map.mp hb
          rfl
        rw [e3]
        have e2 := e1.trans e
        refine ⟨true, rfl, iteF ?_⟩
        refine ⟨_, rfl, a, ws, rfl, sq_of (e2 _ _ ha), ?_, fun S ks hS nd hm => ⟨S, ks, rfl, upd_same, ?_⟩⟩
        · have : (1002 : Nat) ≤ scanBound := by decide
          omega
        · have e4 := e2.trans (Ex.new hS (o := SSO P w S ks))
          have hlen : ks.length = ws.length := Nat.le_antisymm (pigeon ks ws nd fun x hx => (hm x).mp hx) (pigeon ws ks ok.nd fun x hx => (hm x).mpr hx)
          refine ⟨_, rfl, .ref a, ws.length, rfl, .inl ⟨_, sq_of (e4 _ _ ha), by rw [List.length_map]⟩, ?_⟩
          rw [hlen]
          have q := k _ e4
          have q2 : Q (.bl (decide (V.int ((ws.length : Nat) : Int) = V.int ((ws.length : Nat) : Int)))) (upd H2 S (SSO P w S ks)) := by rw [decide_eq_true rfl]; exact q
          exact ⟨rfl, q2⟩
end
end WK

set_option Elab.async false
set_option linter.all false
set_option maxRecDepth 100000
set_option maxHeartbeats 4000000
namespace WK
open PySem PySem.Spec PyProof.Rows L2 WW Evl
/-! ### what is in a sensor, in a lock -/
def sf (nm : Str) (po : Int) (d : Addr) (co : Int) : List (Str × V) := putF "_cost" (.int co) (putF "_sights" (.ref d) (putF "_post" (.int po) (putF "_name" (.str nm) [])))
def lf (nm : Str) (po : Int) (d : Addr) (co : Int) : List (Str × V) := putF "_cost" (.int co) (putF "_words" (.ref d) (putF "_post" (.int po) (putF "_name" (.str nm) [])))
theorem i12 : ¬ (("_name" : Str) = "_post") := by decide +kernel
theorem i13 : ¬ (("_name" : Str) = "_sights") := by decide +kernel
theorem i13' : ¬ (("_name" : Str) = "_words") := by decide +kernel
theorem i14 : ¬ (("_name" : Str) = "_cost") := by decide +kernel
theorem i23 : ¬ (("_post" : Str) = "_sights") := by decide +kernel
theorem i23' : ¬ (("_post" : Str) = "_words") := by decide +kernel
theorem i24 : ¬ (("_post" : Str) = "_cost") := by decide +kernel
theorem i34 : ¬ (("_sights" : Str) = "_cost") := by decide +kernel
theorem i34' : ¬ (("_words" : Str) = "_cost") := by decide +kernel
section
variable {nm : Str} {po co : Int} {d : Addr}
theorem sf1 : (sf nm po d co).lookup ("_name" : Str) = some (.str nm) := by unfold sf; rw [lookup_putF, if_neg i14, lookup_putF, if_neg i13, lookup_putF, if_neg i12, lookup_putF, if_pos rfl]
theorem sf2 : (sf nm po d co).lookup ("_post" : Str) = some (.int po) := by unfold sf; rw [lookup_putF, if_neg i24, lookup_putF, if_neg i23, lookup_putF, if_pos rfl]
theorem sf3 : (sf nm po d co).lookup ("_sights" : Str) = some (.ref d) := by unfold sf; rw [lookup_putF, if_neg i34, lookup_putF, if_pos rfl]
theorem lf1 : (lf nm po d co).lookup ("_name" : Str) = some (.str nm) := by unfold lf; rw [lookup_putF, if_neg i14, lookup_putF, if_neg i13', lookup_putF, if_neg i12, lookup_putF, if_pos rfl]
theorem lf2 : (lf nm po d co).lookup ("_post" : Str) = some (.int po) := by unfold lf; rw [lookup_putF, if_neg i24, lookup_putF, if_neg i23', lookup_putF, if_pos rfl]
theorem lf3 : (lf nm po d co).lookup ("_words" : Str) = some (.ref d) := by unfold lf; rw [lookup_putF, if_neg i34', lookup_putF, if_pos rfl]
end
/-- a sensor's words and sights, looked up -/
def Ins.tab (r : Ins) : List (Key × V) := kvsOf r.ws r.sg
/-- what stands of an instrument -/
def InsAtD (CS CL : Addr) (H : Hp) (v : V) (r : Ins) (d : Addr) : Prop := ∃ a dx, v = .ref a ∧
  ((r.lk = true ∧ H a = some (.ins CL dx (lf r.nm r.po d r.co)) ∧ H d = some (.lst ((sortS r.ws).map V.str))) ∨
   (r.lk = false ∧ H a = some (.ins CS dx (sf r.nm r.po d r.co)) ∧ ∃ kvs, H d = some (.dK kvs) ∧ kvs.length ≤ 10 ∧ ∀ x : Str, valV kvs (.inr x) = valV r.tab (.inr x)))
def InsAt (CS CL : Addr) (H : Hp) (v : V) (r : Ins) : Prop := ∃ a dx d, v = .ref a ∧
  ((r.lk = true ∧ H a = some (.ins CL dx (lf r.nm r.po d r.co)) ∧ H d = some (.lst ((sortS r.ws).map V.str))) ∨
   (r.lk = false ∧ H a = some (.ins CS dx (sf r.nm r.po d r.co)) ∧ ∃ kvs, H d = some (.dK kvs) ∧ kvs.length ≤ 10 ∧ ∀ x : Str, valV kvs (.inr x) = valV r.tab (.inr x)))
theorem InsAtD.at {CS CL : Addr} {H : Hp} {v : V} {r : Ins} {d : Addr} (h : InsAtD CS CL H v r d) : InsAt CS CL H v r := let ⟨a, dx, e, z⟩ := h; ⟨a, dx, d, e, z⟩
theorem InsAt.ex {CS CL : Addr} {H H' : Hp} {v : V} {r : Ins} (e : Ex H H') (h : InsAt CS CL H v r) : InsAt CS CL H' v r := by
  obtain ⟨a, dx, d, rfl, ⟨h0, h1, h2⟩ | ⟨h0, h1, kvs, h2, h3, h4⟩⟩ := h
  · exact ⟨a, dx, d, rfl, .inl ⟨h0, e _ _ h1, e _ _ h2⟩⟩
  · exact ⟨a, dx, d, rfl, .inr ⟨h0, e _ _ h1, kvs, e _ _ h2, h3, h4⟩⟩
/-- the classes of instruments -/
structure ICl (K : PySem.W.Frag) (mg : Str → Option Value) (CS CL : Addr) : Prop where
  clS : Cls K CS
  clL : Cls K CL
  atS : mg "Sensor" = some (.ref CS)
  atL : mg "Lock" = some (.ref CL)
  s1 : NoAttr K CS "_name"
  s2 : NoAttr K CS "_post"
  s3 : NoAttr K CS "_sights"
  s4 : NoAttr K CS "_cost"
  l1 : NoAttr K CL "_name"
  l2 : NoAttr K CL "_post"
  l3 : NoAttr K CL "_words"
  l4 : NoAttr K CL "_cost"
  isaS : ∀ (H : Hp) (a dx : Addr) (fs : List (Str × V)), H a = some (.ins CS dx fs) → TyOf K H (.ref a) (.ref CS)
  isaL : ∀ (H : Hp) (a dx : Addr) (fs : List (Str × V)), H a = some (.ins CL dx fs) → TyOf K H (.ref a) (.ref CL)
  kSS : PySem.W.kitOne K (.ref CS) (.ref CS) = some true
  kSL : PySem.W.kitOne K (.ref CS) (.ref CL) = some false
  kLS : PySem.W.kitOne K (.ref CL) (.ref CS) = some false
  kLL : PySem.W.kitOne K (.ref CL) (.ref CL) = some true
def strOf : V → Str | .str x => x | _ => Str.empty
/-- the value at a text -/
def valAt (kvs : List (Key × V)) : V → V | .str x => (valV kvs (.inr x)).getD .non | _ => .non
theorem valV_fn (g : Str → V) : ∀ (l : List Str) (x : Str), valV (l.map fun y => ((.inr y : Key), g y)) (.inr x) = if x ∈ l then some (g x) else none
  | [], x => by simp; rfl
  | y :: l, x => by
    rw [List.map_cons]
    by_cases z : y = x
    · rw [valV_pos (by rw [z]), if_pos (by rw [z]; exact List.mem_cons_self), z]
    · rw [valV_neg (by intro q; exact z (Sum.inr.inj q)), valV_fn g l x]
      by_cases m : x ∈ l
      · rw [if_pos m, if_pos (List.mem_cons_of_mem _ m)]
      · rw [if_neg m, if_neg (fun q => (List.mem_cons.mp q).elim (fun q => z q.symm) m)]
theorem kvs_keys : ∀ {ws sg : List Str}, sg.length = ws.length → (kvsOf ws sg).map (·.1) = ws.map Sum.inr
  | [], _, _ => by simp [kvsOf]
  | w :: ws, [], h => by simp at h
  | w :: ws, g :: sg, h => by
    have ih := kvs_keys (ws := ws) (sg := sg) (by simpa using h)
    unfold kvsOf at *
    simp only [List.zip_cons_cons, List.map_cons, ih]
theorem val_some {κ : Type} [DecidableEq κ] {kvs : List (κ × V)} {k : κ} : (∃ v, valV kvs k = some v) ↔ k ∈ kvs.map (·.1) := by
  constructor
  · rintro ⟨v, h⟩
    have ha : (kvs.any fun kv => decide (kv.1 = k)) = true := by rw [valV_any, h]; rfl
    obtain ⟨q, hq, e⟩ := List.any_eq_true.mp ha
    exact of_decide_eq_true e ▸ List.mem_map_of_mem hq
  · intro h
    obtain ⟨q, hq, rfl⟩ := List.mem_map.mp h
    cases e : valV kvs q.1 with
    | some v => exact ⟨v, rfl⟩
    | none =>
      have ha : (kvs.any fun kv => decide (kv.1 = q.1)) = true := List.any_eq_true.mpr ⟨q, hq, by simp⟩
      rw [valV_any, e] at ha
      cases ha
theorem Ins.Ok.row {r : Ins} (h : r.Ok) : RowW r.ws := ⟨by have := h.ne; cases e : r.ws with | nil => exact absurd e this | cons _ _ => simp, h.le, h.nd, h.ws⟩
theorem Ins.Ok.keys {r : Ins} (h : r.Ok) (s : r.lk = false) : r.tab.map (·.1) = r.ws.map Sum.inr := kvs_keys (h.sl s)
theorem Ins.Ok.tabLen {r : Ins} (h : r.Ok) (s : r.lk = false) : r.tab.length = r.ws.length := by
  have := congrArg List.length (h.keys s)
  simpa using this
theorem Ins.Ok.tabS {r : Ins} (h : r.Ok) (s : r.lk = false) : TabS r.tab := by
  refine ⟨by rw [h.tabLen s]; exact h.row.least, by rw [h.tabLen s]; exact h.le, fun q hq => ?_⟩
  unfold Ins.tab kvsOf at hq
  obtain ⟨z, hz, rfl⟩ := List.mem_map.mp hq
  exact ⟨z.1, z.2, rfl, h.ws _ (List.of_mem_zip hz).1, h.sg _ (List.of_mem_zip hz).2⟩
theorem Ins.Ok.isPo {r : Ins} (h : r.Ok) : IsPo r.po := h.po
section
variable {P : Program} {w : World} {K : PySem.W.Frag} {mg : Str → Option Value} {base : Heap} {f : Addr} {fd : FuncData}
abbrev s_Sensor___init__ : Stmt := inClass (top 21) 0
theorem sc_Sensor___init__ : FnScope ["self", "name", "post", "sights", "cost", "word"] ["self", "name", "post", "sights", "cost"] (defScope s_Sensor___init__) := ⟨rfl, rfl, rfl, by decide +kernel, rfl, by decide +kernel, by decide +kernel⟩
def spInitS (CS CL : Addr) : Sp := fun vs H Q _ => ∃ (H0 : Hp) (p dx d : Addr) (r : Ins), vs = [.ref p, .str r.nm, .int r.po, .ref d, .int r.co] ∧ Ex H0 H ∧ H0 p = none ∧ H p = some (.ins CS dx []) ∧ r.lk = false ∧ r.Ok ∧ H0 d = some (.dK r.tab) ∧
  ∀ H' d', Ex H0 H' → InsAtD CS CL H' (.ref p) r d' → H0 d' = none → Q .non H'
theorem ok_initS {CS CL : Addr} (G : Gz mg) (T : ICl K mg CS CL) (D : FunD K "__init__" "Sensor.__init__" (defArgs s_Sensor___init__) (defBody s_Sensor___init__) (defScope s_Sensor___init__) [] [] f fd)
    (c_check_name : Callee P w K mg base CXn 3 "check_name" 1 spCkName0) (c_check_post : Callee P w K mg base CXn 4 "check_post" 1 spCkPost0) (c_is_table_of_sights : Callee P w K mg base CXn 2 "is_table_of_sights" 1 spIsTable0) (c_check_cost : Callee P w K mg base CXn 2 "check_cost" 1 spCkCost0) :
    FnOk P w K mg base CXn 5 f fd ["self", "name", "post", "sights", "cost"] (spInitS CS CL) := by
  refine D.ok sc_Sensor___init__ (fun vs H Q E h => ?_) (fun cdv A outer s H vs Q E hr h => ⟨_, PSs.nox (pss_cons (ps_expr (pe_cl (E := En) c_check_name (hr.mono (by decide)) rfl passN (pa_cons (pv 1) pa_nil))) (pss_cons (ps_expr (pe_cl (E := En) c_check_post (hr.mono (by decide)) rfl passN (pa_cons (pv 2) pa_nil))) (pss_cons (ps_if (pt_not (pt_val (pe_cl (E := En) c_is_table_of_sights (hr.mono (by decide)) rfl passN (pa_cons (pv 3) pa_nil)))) (pss_one ps_never) pss_nil) (pss_cons (ps_expr (pe_cl (E := En) c_check_cost (hr.mono (by decide)) rfl passN (pa_cons (pv 4) pa_nil))) (pss_cons (ps_fld (pv 0) (pv 1) rfl) (pss_cons (ps_fld (pv 0) (pv 2) rfl) (pss_cons (ps_fld (pv 0) (pe_dc (own := [("word", 5)]) rfl sc_Sensor___init__.nd (pi_list (pe_callB (cr_sortK rfl) rfl G.g_sorted (by rfl) (pa_cons (pv 3) pa_nil))) (BlkOk.mk (N := ["self", "name", "post", "sights", "cost", "word"]) (sc := defScope s_Sensor___init__) rfl (by decide +kernel) (by decide +kernel) (by decide +kernel) (by decide +kernel)) (fun _ _ _ _ _ => (pg_name (i := 5) sc_Sensor___init__.nd rfl (Or.inl rfl))) (fun _ _ _ _ _ => pts_nil) (fun _ _ _ _ _ => (pv 5)) (fun _ _ _ _ _ => (pe_dget (room1 hr) (pv 3) (pv 5) (fun _ _ => rfl)))) rfl) (pss_one (ps_fld (pv 0) (pv 4) rfl))))))))), ?_⟩)
  · obtain ⟨_, _, _, _, _, rfl, _⟩ := h
    rfl
  · obtain ⟨H0, p, dx, d, r, rfl, e0, p0, hp, lk, ok, hd, k⟩ := h
    refine ⟨_, rfl, r.nm, rfl, ok.nm, fun H1 e1 => ?_⟩
    refine ⟨_, rfl, r.po, rfl, ok.isPo, fun H2 e2 => ?_⟩
    refine ⟨_, rfl, d, r.tab, rfl, (e0.trans (e1.trans e2)) _ _ hd, ok.tabS lk, fun H3 e3 => ⟨true, rfl, iteF ?_⟩⟩
    refine ⟨_, rfl, r.co, rfl, ok.co.1, ok.co.2, fun H4 e4 => ?_⟩
    have E4 : Ex H0 H4 := e0.trans (e1.trans (e2.trans (e3.trans e4)))
    have P4 := (e1.trans (e2.trans (e3.trans e4))) _ _ hp
    clear e1 e2 e3 e4 hp e0
    refine ⟨_, rfl, _, rfl, p, CS, dx, [], rfl, P4, T.clS, T.s1, (by decide), ?_⟩
    have E5 := E4.mut (o := .ins CS dx (putF "_name" (.str r.nm) [])) p0
    refine ⟨_, rfl, _, rfl, p, CS, dx, _, rfl, upd_same, T.clS, T.s2, (Nat.lt_of_le_of_lt (putF_le _) (by show 1 < 1000; decide)), ?_⟩
    generalize hf2e : putF "_post" (.int r.po) (putF "_name" (.str r.nm) []) = f2
    have l2 : f2.length ≤ 2 := by
      rw [← hf2e]
      have h1 := putF_le (f := "_post") (y := .int r.po) (putF "_name" (.str r.nm) [])
      have h2 := putF_le (f := "_name") (y := .str r.nm) []
      simp at h2
      omega
    have E6 := E5.mut (o := .ins CS dx f2) p0
    have P6 : upd (upd H4 p (.ins CS dx (putF "_name" (.str r.nm) []))) p (.ins CS dx f2) p = some (.ins CS dx f2) := upd_same
    generalize upd (upd H4 p (.ins CS dx (putF "_name" (.str r.nm) []))) p (.ins CS dx f2) = H6 at E6 P6
    clear E4 E5 P4
    have h64 : r.ws.length < 64 := by have := ok.le; omega
    refine ⟨_, rfl, d, r.tab, r.ws, rfl, .inl (E6 _ _ hd), ok.keys lk, h64, fun L hL => ?_⟩
    have e7 : Ex H6 (upd H6 L (.lst ((sortS r.ws).map V.str))) := Ex.new hL
    have hL7 : upd H6 L (.lst ((sortS r.ws).map V.str)) L = some (.lst ((sortS r.ws).map V.str)) := upd_same
    generalize upd H6 L (.lst ((sortS r.ws).map V.str)) = H7 at e7 hL7
    have E7 := E6.trans e7
    have P7 := e7 _ _ P6
    refine ⟨L, rfl, ⟨_, sq_of hL7⟩, fun N hN => ?_⟩
    refine dc_ev (u := strOf) (v := valAt r.tab) (st_l (K := K) (sq_of hL7)) (by rw [List.length_map, sortS_len]; omega) ?_ (fun x => rfl) hN (fun x hx H8 e8 Q q => ?_) (fun x hx H8 e8 Q q => ?_) (fun H8 e8 hN8 => ?_)
    · rw [List.map_map, show (strOf ∘ V.str) = (fun x : Str => x) from rfl, List.map_id']
      exact (sortS_perm _).nodup_iff.mpr ok.nd
    · obtain ⟨z, _, rfl⟩ := List.mem_map.mp hx
      exact ⟨_, rfl, q H8 (Ex.refl _)⟩
    · obtain ⟨z, hz, rfl⟩ := List.mem_map.mp hx
      obtain ⟨vz, hvz⟩ := val_some.mpr (show (Sum.inr z : Key) ∈ r.tab.map (·.1) by rw [ok.keys lk]; exact List.mem_map_of_mem (sortS_mem.mp hz))
      have q1 := q H8 (Ex.refl _)
      rw [show valAt r.tab (.str z) = vz by show (valV r.tab (.inr z)).getD .non = vz; rw [hvz]; rfl] at q1
      exact ⟨_, rfl, _, rfl, d, vz, rfl, .inl ⟨r.tab, .inr z, .inl ((E7.trans e8) _ _ hd), rfl, hvz.symm⟩, q1⟩
    have P8 := e8 _ _ P7
    have E8 := E7.trans e8
    have nNp : N ≠ p := fun z => by rw [z, P7] at hN; cases hN
    refine ⟨_, rfl, p, CS, dx, _, rfl, P8, T.clS, T.s3, (by omega), ?_⟩
    have E9 := E8.mut (o := .ins CS dx (putF "_sights" (.ref N) f2)) p0
    refine ⟨_, rfl, _, rfl, p, CS, dx, _, rfl, upd_same, T.clS, T.s4, (by have := putF_le (f := "_sights") (y := .ref N) f2; omega), ?_⟩
    refine k _ N (E9.mut p0) ⟨p, dx, rfl, .inr ⟨lk, by rw [upd_same, ← hf2e]; rfl, _, by rw [upd_ne nNp, upd_ne nNp]; exact hN8, by rw [List.length_map, List.length_map, sortS_len]; exact ok.le, fun x => ?_⟩⟩ (fresh_back E7 hN)
    rw [List.map_map]
    rw [show ((fun x => ((.inr (strOf x) : Key), valAt r.tab x)) ∘ V.str) = fun y : Str => ((.inr y : Key), valAt r.tab (.str y)) from rfl, valV_fn (fun y => valAt r.tab (.str y))]
    by_cases m : x ∈ r.ws
    · rw [if_pos (sortS_mem.mpr m)]
      obtain ⟨vz, hvz⟩ := val_some.mpr (show (Sum.inr x : Key) ∈ r.tab.map (·.1) by rw [ok.keys lk]; exact List.mem_map_of_mem m)
      show some ((valV r.tab (.inr x)).getD .non) = _
      rw [hvz]
      rfl
    · rw [if_neg (fun q => m (sortS_mem.mp q))]
      cases e : valV r.tab (.inr x : Key) with
      | none => rfl
      | some v =>
        have := val_some.mp ⟨v, e⟩
        rw [ok.keys lk] at this
        obtain ⟨y, hy, e2⟩ := List.mem_map.mp this
        exact absurd (Sum.inr.inj e2 ▸ hy) m
abbrev s_Lock___init__ : Stmt := inClass (top 22) 0
theorem sc_Lock___init__ : FnScope ["self", "name", "post", "words", "cost"] ["self", "name", "post", "words", "cost"] (defScope s_Lock___init__) := ⟨rfl, rfl, rfl, by decide +kernel, rfl, by decide +kernel, by decide +kernel⟩
def spInitL (CS CL : Addr) : Sp := fun vs H Q _ => ∃ (H0 : Hp) (p dx d : Addr) (r : Ins), vs = [.ref p, .str r.nm, .int r.po, .ref d, .int r.co] ∧ Ex H0 H ∧ H0 p = none ∧ H p = some (.ins CL dx []) ∧ r.lk = true ∧ r.Ok ∧ H0 d = some (.lst (r.ws.map V.str)) ∧
  ∀ H' d', Ex H0 H' → InsAtD CS CL H' (.ref p) r d' → H0 d' = none → Q .non H'
theorem ok_initL {CS CL : Addr} (G : Gz mg) (T : ICl K mg CS CL) (D : FunD K "__init__" "Lock.__init__" (defArgs s_Lock___init__) (defBody s_Lock___init__) (defScope s_Lock___init__) [] [] f fd)
    (c_check_name : Callee P w K mg base CXn 3 "check_name" 1 spCkName0) (c_check_post : Callee P w K mg base CXn 4 "check_post" 1 spCkPost0) (c_is_row_of_words : Callee P w K mg base CXn 3 "is_row_of_words" 1 spIsRowW0) (c_check_cost : Callee P w K mg base CXn 2 "check_cost" 1 spCkCost0) :
    FnOk P w K mg base CXn 5 f fd ["self", "name", "post", "words", "cost"] (spInitL CS CL) := by
  refine D.ok sc_Lock___init__ (fun vs H Q E h => ?_) (fun cdv A outer s H vs Q E hr h => ⟨_, PSs.nox (pss_cons (ps_expr (pe_cl (E := En) c_check_name (hr.mono (by decide)) rfl passN (pa_cons (pv 1) pa_nil))) (pss_cons (ps_expr (pe_cl (E := En) c_check_post (hr.mono (by decide)) rfl passN (pa_cons (pv 2) pa_nil))) (pss_cons (ps_if (pt_not (pt_val (pe_cl (E := En) c_is_row_of_words (hr.mono (by decide)) rfl passN (pa_cons (pv 3) pa_nil)))) (pss_one ps_never) pss_nil) (pss_cons (ps_expr (pe_cl (E := En) c_check_cost (hr.mono (by decide)) rfl passN (pa_cons (pv 4) pa_nil))) (pss_cons (ps_fld (pv 0) (pv 1) rfl) (pss_cons (ps_fld (pv 0) (pv 2) rfl) (pss_cons (ps_fld (pv 0) (pe_callB (cr_sortL rfl) rfl G.g_sorted (by rfl) (pa_cons (pv 3) pa_nil)) rfl) (pss_one (ps_fld (pv 0) (pv 4) rfl))))))))), ?_⟩)
  · obtain ⟨_, _, _, _, _, rfl, _⟩ := h
    rfl
  · obtain ⟨H0, p, dx, d, r, rfl, e0, p0, hp, lk, ok, hd, k⟩ := h
    refine ⟨_, rfl, r.nm, rfl, ok.nm, fun H1 e1 => ?_⟩
    refine ⟨_, rfl, r.po, rfl, ok.isPo, fun H2 e2 => ?_⟩
    refine ⟨_, rfl, d, r.ws, rfl, (e0.trans (e1.trans e2)) _ _ hd, ok.row, fun H3 e3 => ⟨true, rfl, iteF ?_⟩⟩
    refine ⟨_, rfl, r.co, rfl, ok.co.1, ok.co.2, fun H4 e4 => ?_⟩
    have E4 : Ex H0 H4 := e0.trans (e1.trans (e2.trans (e3.trans e4)))
    have P4 := (e1.trans (e2.trans (e3.trans e4))) _ _ hp
    clear e1 e2 e3 e4 hp e0
    refine ⟨_, rfl, _, rfl, p, CL, dx, [], rfl, P4, T.clL, T.l1, (by decide), ?_⟩
    have E5 := E4.mut (o := .ins CL dx (putF "_name" (.str r.nm) [])) p0
    refine ⟨_, rfl, _, rfl, p, CL, dx, _, rfl, upd_same, T.clL, T.l2, (Nat.lt_of_le_of_lt (putF_le _) (by show 1 < 1000; decide)), ?_⟩
    generalize hf2e : putF "_post" (.int r.po) (putF "_name" (.str r.nm) []) = f2
    have l2 : f2.length ≤ 2 := by
      rw [← hf2e]
      have h1 := putF_le (f := "_post") (y := .int r.po) (putF "_name" (.str r.nm) [])
      have h2 := putF_le (f := "_name") (y := .str r.nm) []
      simp at h2
      omega
    have E6 := E5.mut (o := .ins CL dx f2) p0
    have P6 : upd (upd H4 p (.ins CL dx (putF "_name" (.str r.nm) []))) p (.ins CL dx f2) p = some (.ins CL dx f2) := upd_same
    generalize upd (upd H4 p (.ins CL dx (putF "_name" (.str r.nm) []))) p (.ins CL dx f2) = H6 at E6 P6
    clear E4 E5 P4
    have h64 : r.ws.length < 64 := by have := ok.le; omega
    refine ⟨_, rfl, d, r.ws, rfl, sq_of (E6 _ _ hd), h64, fun L hL => ?_⟩
    have e7 : Ex H6 (upd H6 L (.lst ((sortS r.ws).map V.str))) := Ex.new hL
    have hL7 : upd H6 L (.lst ((sortS r.ws).map V.str)) L = some (.lst ((sortS r.ws).map V.str)) := upd_same
    have nLp : L ≠ p := fun z => by rw [z, P6] at hL; cases hL
    generalize upd H6 L (.lst ((sortS r.ws).map V.str)) = H7 at e7 hL7
    have E7 := E6.trans e7
    have P7 := e7 _ _ P6
    refine ⟨_, rfl, p, CL, dx, _, rfl, P7, T.clL, T.l3, (by omega), ?_⟩
    have E9 := E7.mut (o := .ins CL dx (putF "_words" (.ref L) f2)) p0
    refine ⟨_, rfl, _, rfl, p, CL, dx, _, rfl, upd_same, T.clL, T.l4, (by have := putF_le (f := "_words") (y := .ref L) f2; omega), ?_⟩
    exact k _ L (E9.mut p0) ⟨p, dx, rfl, .inl ⟨lk, by rw [upd_same, ← hf2e]; rfl, by rw [upd_ne nLp, upd_ne nLp]; exact hL7⟩⟩ (fresh_back E6 hL)
end
end WK

set_option Elab.async false
set_option linter.all false
set_option maxRecDepth 100000
set_option maxHeartbeats 4000000
namespace WK
open PySem PySem.Spec PyProof.Rows L2 WW Evl
section
variable {P : Program} {w : World} {K : PySem.W.Frag} {mg : Str → Option Value} {base : Heap} {f : Addr} {fd : FuncData}
abbrev s_Sensor_name : Stmt := inClass (top 21) 2
theorem sc_Sensor_name : FnScope ["self"] ["self"] (defScope s_Sensor_name) := ⟨rfl, rfl, rfl, by decide +kernel, rfl, by decide +kernel, by decide +kernel⟩
theorem ok_nameS {CS : Addr} (cl : Cls K CS) (n : NoAttr K CS "_name") (D : FunD K "name" "Sensor.name" (defArgs s_Sensor_name) (defBody s_Sensor_name) (defScope s_Sensor_name) [] [] f fd) : FnOk P w K mg base CXn 1 f fd ["self"] (getSp CS "_name") := by
  refine D.ok sc_Sensor_name (fun vs H Q E h => ?_) (fun cdv A outer s H vs Q E hr h => ⟨_, PSs.nox (pss_one (ps_ret (pe_fld (pv 0) rfl))), ?_⟩)
  · obtain ⟨_, _, _, _, rfl, _⟩ := h
    rfl
  · obtain ⟨a, dx, fs, v, rfl, ha, hl, k⟩ := h
    exact ⟨_, rfl, a, CS, dx, fs, v, rfl, ha, cl, n, hl, k⟩
abbrev s_Lock_name : Stmt := inClass (top 22) 2
theorem sc_Lock_name : FnScope ["self"] ["self"] (defScope s_Lock_name) := ⟨rfl, rfl, rfl, by decide +kernel, rfl, by decide +kernel, by decide +kernel⟩
theorem ok_nameL {CL : Addr} (cl : Cls K CL) (n : NoAttr K CL "_name") (D : FunD K "name" "Lock.name" (defArgs s_Lock_name) (defBody s_Lock_name) (defScope s_Lock_name) [] [] f fd) : FnOk P w K mg base CXn 1 f fd ["self"] (getSp CL "_name") := by
  refine D.ok sc_Lock_name (fun vs H Q E h => ?_) (fun cdv A outer s H vs Q E hr h => ⟨_, PSs.nox (pss_one (ps_ret (pe_fld (pv 0) rfl))), ?_⟩)
  · obtain ⟨_, _, _, _, rfl, _⟩ := h
    rfl
  · obtain ⟨a, dx, fs, v, rfl, ha, hl, k⟩ := h
    exact ⟨_, rfl, a, CL, dx, fs, v, rfl, ha, cl, n, hl, k⟩
abbrev s_Sensor_post : Stmt := inClass (top 21) 3
theorem sc_Sensor_post : FnScope ["self"] ["self"] (defScope s_Sensor_post) := ⟨rfl, rfl, rfl, by decide +kernel, rfl, by decide +kernel, by decide +kernel⟩
theorem ok_postS {CS : Addr} (cl : Cls K CS) (n : NoAttr K CS "_post") (D : FunD K "post" "Sensor.post" (defArgs s_Sensor_post) (defBody s_Sensor_post) (defScope s_Sensor_post) [] [] f fd) : FnOk P w K mg base CXn 1 f fd ["self"] (getSp CS "_post") := by
  refine D.ok sc_Sensor_post (fun vs H Q E h => ?_) (fun cdv A outer s H vs Q E hr h => ⟨_, PSs.nox (pss_one (ps_ret (pe_fld (pv 0) rfl))), ?_⟩)
  · obtain ⟨_, _, _, _, rfl, _⟩ := h
    rfl
  · obtain ⟨a, dx, fs, v, rfl, ha, hl, k⟩ := h
    exact ⟨_, rfl, a, CS, dx, fs, v, rfl, ha, cl, n, hl, k⟩
abbrev s_Lock_post : Stmt := inClass (top 22) 3
theorem sc_Lock_post : FnScope ["self"] ["self"] (defScope s_Lock_post) := ⟨rfl, rfl, rfl, by decide +kernel, rfl, by decide +kernel, by decide +kernel⟩
theorem ok_postL {CL : Addr} (cl : Cls K CL) (n : NoAttr K CL "_post") (D : FunD K "post" "Lock.post" (defArgs s_Lock_post) (defBody s_Lock_post) (defScope s_Lock_post) [] [] f fd) : FnOk P w K mg base CXn 1 f fd ["self"] (getSp CL "_post") := by
  refine D.ok sc_Lock_post (fun vs H Q E h => ?_) (fun cdv A outer s H vs Q E hr h => ⟨_, PSs.nox (pss_one (ps_ret (pe_fld (pv 0) rfl))), ?_⟩)
  · obtain ⟨_, _, _, _, rfl, _⟩ := h
    rfl
  · obtain ⟨a, dx, fs, v, rfl, ha, hl, k⟩ := h
    exact ⟨_, rfl, a, CL, dx, fs, v, rfl, ha, cl, n, hl, k⟩
abbrev s_Sensor_sights : Stmt := inClass (top 21) 4
theorem sc_Sensor_sights : FnScope ["self"] ["self"] (defScope s_Sensor_sights) := ⟨rfl, rfl, rfl, by decide +kernel, rfl, by decide +kernel, by decide +kernel⟩
def spSights (CS CL : Addr) : Sp := fun vs H Q _ => ∃ v r, vs = [v] ∧ InsAt CS CL H v r ∧ r.lk = false ∧ ∀ (D : Addr) kvs H', Ex H H' → H' D = some (.dK kvs) → kvs.length ≤ 10 → (∀ x : Str, valV kvs (.inr x) = valV r.tab (.inr x)) → Q (.ref D) H'
theorem ok_sights {CS CL : Addr} (G : Gz mg) (T : ICl K mg CS CL) (D : FunD K "sights" "Sensor.sights" (defArgs s_Sensor_sights) (defBody s_Sensor_sights) (defScope s_Sensor_sights) [] [] f fd) : FnOk P w K mg base CXn 1 f fd ["self"] (spSights CS CL) := by
  refine D.ok sc_Sensor_sights (fun vs H Q E h => ?_) (fun cdv A outer s H vs Q E hr h => ⟨_, PSs.nox (pss_one (ps_ret (pe_callTy call_dictD rfl G.g_dict (by rfl) (pa_cons (pe_fld (pv 0) rfl) pa_nil)))), ?_⟩)
  · obtain ⟨_, _, rfl, _⟩ := h
    rfl
  · obtain ⟨v, r, rfl, ⟨a, dx, d, rfl, ⟨z, _⟩ | ⟨_, h1, kvs, h2, h3, h4⟩⟩, lk, k⟩ := h
    · rw [lk] at z
      cases z
    · exact ⟨_, rfl, a, CS, dx, _, _, rfl, h1, T.clS, T.s3, sf3, d, kvs, rfl, .inl h2, fun p hp => k p kvs _ (Ex.new hp) upd_same h3 h4⟩
abbrev s_Lock_words : Stmt := inClass (top 22) 4
theorem sc_Lock_words : FnScope ["self"] ["self"] (defScope s_Lock_words) := ⟨rfl, rfl, rfl, by decide +kernel, rfl, by decide +kernel, by decide +kernel⟩
def spWordsL (CS CL : Addr) : Sp := fun vs H Q _ => ∃ v r, vs = [v] ∧ InsAt CS CL H v r ∧ r.lk = true ∧ ∀ (D : Addr) H', Ex H H' → H' D = some (.lst ((sortS r.ws).map V.str)) → Q (.ref D) H'
theorem ok_wordsL {CS CL : Addr} (G : Gz mg) (T : ICl K mg CS CL) (D : FunD K "words" "Lock.words" (defArgs s_Lock_words) (defBody s_Lock_words) (defScope s_Lock_words) [] [] f fd) : FnOk P w K mg base CXn 1 f fd ["self"] (spWordsL CS CL) := by
  refine D.ok sc_Lock_words (fun vs H Q E h => ?_) (fun cdv A outer s H vs Q E hr h => ⟨_, PSs.nox (pss_one (ps_ret (pe_callTy (listOfK (K := K) rfl) rfl G.g_list (by rfl) (pa_cons (pe_fld (pv 0) rfl) pa_nil)))), ?_⟩)
  · obtain ⟨_, _, rfl, _⟩ := h
    rfl
  · obtain ⟨v, r, rfl, ⟨a, dx, d, rfl, ⟨_, h1, h2⟩ | ⟨z, _⟩⟩, lk, k⟩ := h
    · exact ⟨_, rfl, a, CL, dx, _, _, rfl, h1, T.clL, T.l3, lf3, d, _, rfl, .inl (sq_of h2), fun p hp => k p _ (Ex.new hp) upd_same⟩
    · rw [lk] at z
      cases z
/-- the properties that both kinds have -/
structure IPr (P : Program) (w : World) (K : PySem.W.Frag) (mg : Str → Option Value) (base : Heap) (CS CL : Addr) : Prop where
  nameS : ∃ p g fd, PropOf K CS "name" p g ∧ FnOk P w K mg base CXn 1 g fd ["self"] (getSp CS "_name") ∧ Binds K fd ["self"] []
  nameL : ∃ p g fd, PropOf K CL "name" p g ∧ FnOk P w K mg base CXn 1 g fd ["self"] (getSp CL "_name") ∧ Binds K fd ["self"] []
  postS : ∃ p g fd, PropOf K CS "post" p g ∧ FnOk P w K mg base CXn 1 g fd ["self"] (getSp CS "_post") ∧ Binds K fd ["self"] []
  postL : ∃ p g fd, PropOf K CL "post" p g ∧ FnOk P w K mg base CXn 1 g fd ["self"] (getSp CL "_post") ∧ Binds K fd ["self"] []
  sights : ∃ p g fd, PropOf K CS "sights" p g ∧ FnOk P w K mg base CXn 1 g fd ["self"] (spSights CS CL) ∧ Binds K fd ["self"] []
  words : ∃ p g fd, PropOf K CL "words" p g ∧ FnOk P w K mg base CXn 1 g fd ["self"] (spWordsL CS CL) ∧ Binds K fd ["self"] []
theorem name_or {CS CL : Addr} {H : Hp} {v : V} {r : Ins} {Q : VK} {σ : L2.St} {i : Nat} (hv : σ[i]? = some (some v)) (h : InsAt CS CL H v r) (q : Q (.str r.nm) H) :
    tProp CS (getSp CS "_name") [] En (tVar i) σ H Q ∨ tProp CL (getSp CL "_name") [] En (tVar i) σ H Q := by
  obtain ⟨a, dx, d, rfl, ⟨_, h1, _⟩ | ⟨_, h1, _⟩⟩ := h
  · exact .inr ⟨_, hv, a, dx, _, rfl, h1, a, dx, _, _, rfl, h1, lf1, q⟩
  · exact .inl ⟨_, hv, a, dx, _, rfl, h1, a, dx, _, _, rfl, h1, sf1, q⟩
theorem post_or {CS CL : Addr} {H : Hp} {v : V} {r : Ins} {Q : VK} {σ : L2.St} {i : Nat} (hv : σ[i]? = some (some v)) (h : InsAt CS CL H v r) (q : Q (.int r.po) H) :
    tProp CS (getSp CS "_post") [] En (tVar i) σ H Q ∨ tProp CL (getSp CL "_post") [] En (tVar i) σ H Q := by
  obtain ⟨a, dx, d, rfl, ⟨_, h1, _⟩ | ⟨_, h1, _⟩⟩ := h
  · exact .inr ⟨_, hv, a, dx, _, rfl, h1, a, dx, _, _, rfl, h1, lf2, q⟩
  · exact .inl ⟨_, hv, a, dx, _, rfl, h1, a, dx, _, _, rfl, h1, sf2, q⟩
abbrev s_is_instrument : Stmt := top 28
theorem sc_is_instrument : FnScope ["thing"] ["thing"] (defScope s_is_instrument) := ⟨rfl, rfl, rfl, by decide +kernel, rfl, by decide +kernel, by decide +kernel⟩
def spIsIns (CS CL : Addr) : Sp := fun vs H Q _ => ∃ v r, vs = [v] ∧ InsAt CS CL H v r ∧ Q (.bl true) H
theorem ok_is_ins {C_Sensor C_Lock : Addr} (G : Gz mg) (T : ICl K mg C_Sensor C_Lock) (D : Df K mg "is_instrument" s_is_instrument f fd ["thing"]) : Callee P w K mg base CXn 1 "is_instrument" 1 (spIsIns C_Sensor C_Lock) := by
  have g_Sensor := T.atS
  have g_Lock := T.atL
  refine D.callee (D.fn.ok sc_is_instrument (fun vs H Q E h => ?_) (fun cdv A outer s H vs Q E hr h => ⟨_, PSs.nox (pss_one (ps_ret (L2.pe_or (pe_callB (isiK (K := K) rfl) rfl G.g_isinstance (by rfl) (pa_cons (pv 0) (pa_cons (pe_glob (v := .ref C_Sensor) rfl g_Sensor rfl) pa_nil))) (pe_one (pe_callB (isiK (K := K) rfl) rfl G.g_isinstance (by rfl) (pa_cons (pv 0) (pa_cons (pe_glob (v := .ref C_Lock) rfl g_Lock rfl) pa_nil))))))), ?_⟩))
  · obtain ⟨_, _, rfl, _⟩ := h
    rfl
  · obtain ⟨v, r, rfl, ⟨a, dx, d, rfl, ⟨_, h1, _⟩ | ⟨_, h1, _⟩⟩, k⟩ := h
    · refine ⟨_, rfl, .ref a, .ref C_Sensor, .ref C_Lock, .ref C_Sensor, false, rfl, .own _, .base (T.isaL _ _ _ _ h1), T.kLS, false, rfl, ?_⟩
      exact ⟨_, rfl, .ref a, .ref C_Lock, .ref C_Lock, .ref C_Lock, true, rfl, .own _, .base (T.isaL _ _ _ _ h1), T.kLL, k⟩
    · exact ⟨_, rfl, .ref a, .ref C_Sensor, .ref C_Sensor, .ref C_Sensor, true, rfl, .own _, .base (T.isaS _ _ _ _ h1), T.kSS, true, rfl, k⟩
end
end WK

set_option Elab.async false
set_option linter.all false
set_option maxRecDepth 100000
set_option maxHeartbeats 4000000
namespace WK
open PySem PySem.Spec PyProof.Rows L2 WW Evl
/-- the instruments of a box, as they were drawn -/
structure Rows (rs : List Ins) : Prop where
  ok : ∀ r ∈ rs, r.Ok
  nd : (rs.map (·.nm)).Nodup
  least : 1 ≤ rs.length
  most : rs.length ≤ 6
/-- the name of an instrument -/
def nmOf (H : Hp) : V → Str
  | .ref a => (match H a with
    | some (.ins _ _ fs) => strOf ((fs.lookup ("_name" : Str)).getD .non)
    | _ => Str.empty)
  | _ => Str.empty
theorem nmOf_at {CS CL : Addr} {H : Hp} {v : V} {r : Ins} (h : InsAt CS CL H v r) : nmOf H v = r.nm := by
  obtain ⟨a, dx, d, rfl, ⟨_, h1, _⟩ | ⟨_, h1, _⟩⟩ := h
  · show (match H a with
    | some (.ins _ _ fs) => strOf ((fs.lookup ("_name" : Str)).getD .non)
    | _ => Str.empty) = r.nm
    rw [h1]
    show strOf (((lf r.nm r.po d r.co).lookup ("_name" : Str)).getD .non) = r.nm
    rw [lf1]
    rfl
  · show (match H a with
    | some (.ins _ _ fs) => strOf ((fs.lookup ("_name" : Str)).getD .non)
    | _ => Str.empty) = r.nm
    rw [h1]
    show strOf (((sf r.nm r.po d r.co).lookup ("_name" : Str)).getD .non) = r.nm
    rw [sf1]
    rfl
theorem nmOf_map {CS CL : Addr} {H : Hp} : ∀ {vs : List V} {rs : List Ins}, Paired (InsAt CS CL H) vs rs → vs.map (nmOf H) = rs.map (·.nm)
  | _, _, .nil => rfl
  | _, _, .cons g r => by rw [List.map_cons, List.map_cons, nmOf_at g, nmOf_map r]
theorem tab_at {CS CL : Addr} {H : Hp} : ∀ {vs : List V} {rs : List Ins}, Paired (InsAt CS CL H) vs rs → (rs.map (·.nm)).Nodup → ∀ r ∈ rs, ∃ v, valV (vs.map fun x => ((.inr (nmOf H x) : Key), x)) (.inr r.nm) = some v ∧ InsAt CS CL H v r
  | _, _, .nil, _, r, hr => by cases hr
  | x :: vs, q :: rs, .cons g t, nd, r, hr => by
    rw [List.map_cons, List.nodup_cons] at nd
    rw [List.map_cons]
    rcases List.mem_cons.mp hr with rfl | hr
    · exact ⟨x, by rw [valV_pos (by rw [nmOf_at g])], g⟩
    · have ne : q.nm ≠ r.nm := fun z => nd.1 (z ▸ List.mem_map_of_mem hr)
      rw [valV_neg (by rw [nmOf_at g]; exact fun z => ne (Sum.inr.inj z))]
      exact tab_at t nd.2 r hr
/-- what stands of a box -/
def BoxAt (CB CS CL : Addr) (H : Hp) (b : Addr) (rs : List Ins) : Prop := ∃ dx t kvs, H b = some (.ins CB dx (putF "_table" (.ref t) [])) ∧ H t = some (.dK kvs) ∧ kvs.map (·.1) = (rs.map (·.nm)).map Sum.inr ∧ ∀ r ∈ rs, ∃ v, valV kvs (.inr r.nm) = some v ∧ InsAt CS CL H v r
theorem BoxAt.ex {CB CS CL : Addr} {H H' : Hp} {b : Addr} {rs : List Ins} (e : Ex H H') (h : BoxAt CB CS CL H b rs) : BoxAt CB CS CL H' b rs := by
  obtain ⟨dx, t, kvs, h1, h2, h3, h4⟩ := h
  exact ⟨dx, t, kvs, e _ _ h1, e _ _ h2, h3, fun r hr => let ⟨v, a, b⟩ := h4 r hr; ⟨v, a, b.ex e⟩⟩
theorem tb1 {t : Addr} : (putF "_table" (.ref t) [] : List (Str × V)).lookup ("_table" : Str) = some (.ref t) := by rw [lookup_putF, if_pos rfl]
structure BCl (K : PySem.W.Frag) (mg : Str → Option Value) (CB : Addr) : Prop where
  cl : Cls K CB
  at_ : mg "Box" = some (.ref CB)
  n1 : NoAttr K CB "_table"
section
variable {P : Program} {w : World} {K : PySem.W.Frag} {mg : Str → Option Value} {base : Heap} {f : Addr} {fd : FuncData}
abbrev s_check_instruments : Stmt := top 37
theorem sc_check_instruments : FnScope ["instruments", "names", "at", "thing"] ["instruments"] (defScope s_check_instruments) := ⟨rfl, rfl, rfl, by decide +kernel, rfl, by decide +kernel, by decide +kernel⟩
def spCkIns (CS CL : Addr) : Sp := fun vs H Q _ => ∃ (a : Addr) (xs : List V) (rs : List Ins), vs = [.ref a] ∧ H a = some (.lst xs) ∧ Paired (InsAt CS CL H) xs rs ∧ Rows rs ∧ ∀ H', Ex H H' → Q .non H'
theorem ok_ck_ins {C_Sensor C_Lock : Addr} (G : Gz mg) (gc : ∃ t, mg "MOST_INSTRUMENTS" = some (.int 6 t)) (T : ICl K mg C_Sensor C_Lock) (I : IPr P w K mg base C_Sensor C_Lock) (D : Df K mg "check_instruments" s_check_instruments f fd ["instruments"])
    (c_is_row_of : Callee P w K mg base CXn 2 "is_row_of" 3 spIsRowOfG) (c_is_instrument : Callee P w K mg base CXn 1 "is_instrument" 1 (spIsIns C_Sensor C_Lock)) : Callee P w K mg base CXn 3 "check_instruments" 1 (spCkIns C_Sensor C_Lock) := by
  obtain ⟨tc, g_MOST_INSTRUMENTS⟩ := gc
  have r_MOST_INSTRUMENTS : RelV (.int 6) (.int 6 tc) := ⟨_, rfl⟩
  have cls_Sensor := T.clS
  have cls_Lock := T.clL
  obtain ⟨p1, f1, fd1, p_name, F_name, b_name⟩ := I.nameS
  obtain ⟨p2, f2, fd2, p_nameL, F_nameL, b_nameL⟩ := I.nameL
  refine D.callee (D.fn.ok sc_check_instruments (fun vs H Q E h => ?_) (fun cdv A outer s H vs Q E hr h => ⟨_, PSs.nox (pss_cons (ps_if (pt_not (pt_val (pe_cl (E := En) c_is_row_of (hr.mono (by decide)) rfl passN (pa_cons (pv 0) (pa_cons pe_int (pa_cons (pe_glob rfl g_MOST_INSTRUMENTS r_MOST_INSTRUMENTS) pa_nil)))))) (pss_one ps_never) pss_nil) (pss_cons (ps_set (i := 1) sc_check_instruments.nd rfl (Or.inl rfl) (pe_lst pa_nil)) (pss_one (ps_for PassesOwn.never rfl (pi_enum rfl G.g_enumerate (pa_cons (pv 0) pa_nil)) (pg_tup rfl (pgs_cons (pg_name (i := 2) sc_check_instruments.nd rfl (Or.inl rfl)) (pgs_cons (pg_name (i := 3) sc_check_instruments.nd rfl (Or.inl rfl)) pgs_nil))) (pss_cons (ps_if (PW.pt (pw_or (pt_not (pt_val (pe_cl (E := En) c_is_instrument (hr.mono (by decide)) rfl passN (pa_cons (pv 3) pa_nil)))) (pw_or1 (pt_cmpR (inK (K := K) rfl) (WW.pe_or (pe_prop (E := En) (pv 3) cls_Sensor p_name F_name (hr.mono (by decide)) b_name .nil passN rfl) (pe_prop (E := En) (pv 3) cls_Lock p_nameL F_nameL (hr.mono (by decide)) b_nameL .nil passN rfl)) (pv 1) (by rfl))))) (pss_one ps_never) pss_nil) (pss_one (ps_expr (pe_bm PySem.F.plainAttrs_list PySem.F.slot_list_append PySem.F.type_list_append mt_append (pv 1) (pa_cons (WW.pe_or (pe_prop (E := En) (pv 3) cls_Sensor p_name F_name (hr.mono (by decide)) b_name .nil passN rfl) (pe_prop (E := En) (pv 3) cls_Lock p_nameL F_nameL (hr.mono (by decide)) b_nameL .nil passN rfl)) pa_nil))))))))), ?_⟩))
  · obtain ⟨_, _, _, rfl, _⟩ := h
    rfl
  · obtain ⟨a, xs, rs, rfl, ha, hp, R, k⟩ := h
    have xl := Paired.length hp
    have hl := R.least
    have hm := R.most
    have hrow : rowB H (.ref a) 1 6 = true := by
      unfold rowB
      rw [rlen_at ha]
      show (decide ((1 : Int) ≤ (xs.length : Int)) && decide ((xs.length : Int) ≤ 6)) = true
      rw [decide_eq_true (show (1 : Int) ≤ (xs.length : Int) by omega), decide_eq_true (show (xs.length : Int) ≤ (6 : Int) by omega)]
      rfl
    refine ⟨_, rfl, .ref a, 1, 6, rfl, .lst ha, fun H1 e1 => ?_⟩
    rw [hrow]
    refine ⟨true, rfl, iteF ?_⟩
    refine ⟨Nat.zero_le _, fun l nl => ?_⟩
    have e2 : Ex H (upd H1 l (.lst [])) := e1.trans (Ex.new nl)
    have l0 : H l = none := fresh_back e1 nl
    have hl2 : upd H1 l (.lst []) l = some (.lst []) := upd_same
    generalize upd H1 l (.lst []) = H2 at e2 hl2
    have S := en_l (K := K) (H := H) (a := a) (xs := xs) (sq_of ha)
    refine ⟨_, rfl, a, _, rfl, sq_of (e2 _ _ ha), ?_⟩
    refine for_go (n := xs.length) (fun i σ' H' => ∃ v2 v3, σ' = [some (.ref a), some (.ref l), v2, v3] ∧ Ex H H' ∧ H' l = some (.lst (((rs.map (·.nm)).take i).map V.str)))
      ⟨none, none, rfl, e2, hl2⟩ (fun i σ' H' hi ⟨_, _, _, e, _⟩ => S.go i H' e hi) (fun σ' H' ⟨_, _, _, e, _⟩ => S.stop H' e) ?_ (fun σ' H' ⟨_, _, _, e, _⟩ => k H' e)
    rintro i σ' H' v H'' hi ⟨v2, v3, rfl, e, hl'⟩ y
    obtain ⟨T5, x, rfl, hT, rfl, hxi⟩ := S.yld i H' v H'' e hi y
    have e3 : Ex H (upd H' T5 (.tup [.int (i : Nat), x])) := e.trans (Ex.new hT)
    have hl3 := Ex.new (o := .tup [.int (i : Nat), x]) hT _ _ hl'
    refine ⟨T5, _, rfl, st_of upd_same, rfl, _, _, rfl, _, _, rfl, rfl, ?_⟩
    generalize upd H' T5 (.tup [.int (i : Nat), x]) = H3 at e3 hl3
    obtain ⟨r, hr0, hx⟩ := prd_at hp hxi
    have hx3 := hx.ex e3
    have hn : (rs.map (·.nm))[i]? = some r.nm := by rw [List.getElem?_map, hr0]; rfl
    refine ⟨_, rfl, x, r, rfl, hx3, true, rfl, iteF ?_⟩
    refine name_or rfl hx3 ?_
    refine ⟨_, rfl, l, _, rfl, .inl (sq_of hl3), rfl, List.all_eq_true.mpr (fun y hy => by obtain ⟨z, _, rfl⟩ := List.mem_map.mp hy; rfl), ?_⟩
    have nin : r.nm ∉ (rs.map (·.nm)).take i := fun z => by
      have q := R.nd.sublist (List.take_sublist (i + 1) _)
      rw [List.take_add_one, hn, List.nodup_append] at q
      exact q.2.2 r.nm z r.nm (by simp) rfl
    have ei : (inV (.str r.nm) (((rs.map (·.nm)).take i).map V.str)) = false := by rw [inV_str]; exact decide_eq_false nin
    refine ⟨false, (by show V.bl (inV (.str r.nm) (((rs.map (·.nm)).take i).map V.str)) = _; rw [ei]), iteF ?_⟩
    have lt6 : ((rs.map (·.nm)).take i).length ≤ 6 := by rw [List.length_take, List.length_map]; omega
    refine ⟨_, rfl, .inl ⟨rfl, _, sq_of hl3⟩, ?_⟩
    refine name_or rfl hx3 ?_
    refine ⟨l, _, .str r.nm, rfl, rfl, hl3, by rw [List.length_map]; exact sz_lt (by omega), _, _, rfl, e3.mut l0, ?_⟩
    rw [upd_same, List.take_add_one, hn, List.map_append]
    rfl
abbrev s_Box___init__ : Stmt := inClass (top 36) 0
theorem sc_Box___init__ : FnScope ["self", "instruments", "instrument"] ["self", "instruments"] (defScope s_Box___init__) := ⟨rfl, rfl, rfl, by decide +kernel, rfl, by decide +kernel, by decide +kernel⟩
def spInitB (CB CS CL : Addr) : Sp := fun vs H Q _ => ∃ (H0 : Hp) (p dx a : Addr) (xs : List V) (rs : List Ins), vs = [.ref p, .ref a] ∧ Ex H0 H ∧ H0 p = none ∧ H p = some (.ins CB dx []) ∧ H0 a = some (.lst xs) ∧ Paired (InsAt CS CL H0) xs rs ∧ Rows rs ∧
  ∀ H', Ex H0 H' → BoxAt CB CS CL H' p rs → Q .non H'
theorem ok_initB {C_Box C_Sensor C_Lock : Addr} (T : ICl K mg C_Sensor C_Lock) (B : BCl K mg C_Box) (I : IPr P w K mg base C_Sensor C_Lock) (D : FunD K "__init__" "Box.__init__" (defArgs s_Box___init__) (defBody s_Box___init__) (defScope s_Box___init__) [] [] f fd)
    (c_check_instruments : Callee P w K mg base CXn 3 "check_instruments" 1 (spCkIns C_Sensor C_Lock)) : FnOk P w K mg base CXn 4 f fd ["self", "instruments"] (spInitB C_Box C_Sensor C_Lock) := by
  have cls_Sensor := T.clS
  have cls_Lock := T.clL
  obtain ⟨p1, f1, fd1, p_name, F_name, b_name⟩ := I.nameS
  obtain ⟨p2, f2, fd2, p_nameL, F_nameL, b_nameL⟩ := I.nameL
  refine D.ok sc_Box___init__ (fun vs H Q E h => ?_) (fun cdv A outer s H vs Q E hr h => ⟨_, PSs.nox (pss_cons (ps_expr (pe_cl (E := En) c_check_instruments (hr.mono (by decide)) rfl passN (pa_cons (pv 1) pa_nil))) (pss_one (ps_fld (pv 0) (pe_dc (own := [("instrument", 2)]) rfl sc_Box___init__.nd (pi_list (pv 1)) (BlkOk.mk (N := ["self", "instruments", "instrument"]) (sc := defScope s_Box___init__) rfl (by decide +kernel) (by decide +kernel) (by decide +kernel) (by decide +kernel)) (fun _ _ _ _ _ => (pg_name (i := 2) sc_Box___init__.nd rfl (Or.inl rfl))) (fun _ _ _ _ _ => pts_nil) (fun _ _ _ _ _ => (WW.pe_or (pe_prop (E := En) (pv 2) cls_Sensor p_name F_name (hr.mono (by decide)) b_name .nil passN rfl) (pe_prop (E := En) (pv 2) cls_Lock p_nameL F_nameL (hr.mono (by decide)) b_nameL .nil passN rfl))) (fun _ _ _ _ _ => (pv 2))) rfl))), ?_⟩)
  · obtain ⟨_, _, _, _, _, _, rfl, _⟩ := h
    rfl
  · obtain ⟨H0, p, dx, a, xs, rs, rfl, e0, p0, hp, ha, hx, R, k⟩ := h
    have xl := Paired.length hx
    have hm := R.most
    refine ⟨_, rfl, a, xs, rs, rfl, e0 _ _ ha, Paired.mapP hx fun _ _ z => z.ex e0, R, fun H1 e1 => ?_⟩
    have E1 := e0.trans e1
    have P1 := e1 _ _ hp
    refine ⟨_, rfl, a, rfl, ⟨_, sq_of (E1 _ _ ha)⟩, fun N hN => ?_⟩
    refine dc_ev (tk := fun σ H Q => tProp C_Sensor (getSp C_Sensor "_name") [] En (tVar 2) σ H Q ∨ tProp C_Lock (getSp C_Lock "_name") [] En (tVar 2) σ H Q) (u := nmOf H0) (v := fun x => x) (st_l (K := K) (sq_of (E1 _ _ ha))) (by omega) (by rw [nmOf_map hx]; exact R.nd) (fun x => rfl) hN (fun x hx2 H8 e8 Q q => ?_) (fun x _ H8 e8 Q q => ⟨_, rfl, q H8 (Ex.refl _)⟩) (fun H8 e8 hN8 => ?_)
    · obtain ⟨i, hi⟩ := List.getElem?_of_mem hx2
      obtain ⟨r, hr0, g⟩ := prd_at hx hi
      rw [nmOf_at g] at q
      exact name_or rfl (g.ex (E1.trans e8)) (q H8 (Ex.refl _))
    have P8 := e8 _ _ P1
    have E8 := E1.trans e8
    have nNp : N ≠ p := fun z => by rw [z, P1] at hN; cases hN
    refine ⟨_, rfl, p, C_Box, dx, _, rfl, P8, B.cl, B.n1, (by decide), ?_⟩
    have E9 := E8.mut (o := .ins C_Box dx (putF "_table" (.ref N) [])) p0
    refine k _ E9 ⟨dx, N, _, upd_same, by rw [upd_ne nNp]; exact hN8, ?_, fun r hr0 => ?_⟩
    · rw [← nmOf_map hx, List.map_map, List.map_map]
      rfl
    · obtain ⟨v, hv, g⟩ := tab_at hx R.nd r hr0
      exact ⟨v, hv, g.ex E9⟩
abbrev s_Box_names : Stmt := inClass (top 36) 7
theorem sc_Box_names : FnScope ["self"] ["self"] (defScope s_Box_names) := ⟨rfl, rfl, rfl, by decide +kernel, rfl, by decide +kernel, by decide +kernel⟩
def spNamesB (CB CS CL : Addr) : Sp := fun vs H Q _ => ∃ (b : Addr) (rs : List Ins), vs = [.ref b] ∧ BoxAt CB CS CL H b rs ∧ Rows rs ∧ ∀ (L : Addr) H', Ex H H' → H' L = some (.lst ((sortS (rs.map (·.nm))).map V.str)) → Q (.ref L) H'
theorem ok_namesB {C_Box C_Sensor C_Lock : Addr} (G : Gz mg) (B : BCl K mg C_Box) (D : FunD K "names" "Box.names" (defArgs s_Box_names) (defBody s_Box_names) (defScope s_Box_names) [] [] f fd) : FnOk P w K mg base CXn 1 f fd ["self"] (spNamesB C_Box C_Sensor C_Lock) := by
  refine D.ok sc_Box_names (fun vs H Q E h => ?_) (fun cdv A outer s H vs Q E hr h => ⟨_, PSs.nox (pss_one (ps_ret (pe_callB (cr_sortK rfl) rfl G.g_sorted (by rfl) (pa_cons (pe_fld (pv 0) rfl) pa_nil)))), ?_⟩)
  · obtain ⟨_, _, rfl, _⟩ := h
    rfl
  · obtain ⟨b, rs, rfl, ⟨dx, t, kvs, h1, h2, h3, h4⟩, R, k⟩ := h
    have hm := R.most
    exact ⟨_, rfl, b, C_Box, dx, _, _, rfl, h1, B.cl, B.n1, tb1, t, kvs, rs.map (·.nm), rfl, .inl h2, h3, by rw [List.length_map]; omega, fun p hp => k p _ (Ex.new hp) upd_same⟩
abbrev s_Box___getitem__ : Stmt := inClass (top 36) 3
theorem sc_Box___getitem__ : FnScope ["self", "name"] ["self", "name"] (defScope s_Box___getitem__) := ⟨rfl, rfl, rfl, by decide +kernel, rfl, by decide +kernel, by decide +kernel⟩
def spItemB (CB : Addr) : Sp := fun vs H Q _ => ∃ (b : Addr) (n : Str) (dx t : Addr) (kvs : List (Key × V)) (v : V), vs = [.ref b, .str n] ∧ H b = some (.ins CB dx (putF "_table" (.ref t) [])) ∧ H t = some (.dK kvs) ∧ IsNm n ∧ valV kvs (.inr n) = some v ∧ ∀ H', Ex H H' → Q v H'
theorem ok_itemB {C_Box : Addr} (B : BCl K mg C_Box) (D : FunD K "__getitem__" "Box.__getitem__" (defArgs s_Box___getitem__) (defBody s_Box___getitem__) (defScope s_Box___getitem__) [] [] f fd) (c_is_name : Callee P w K mg base CXn 1 "is_name" 1 spIsNameG) : FnOk P w K mg base CXn 2 f fd ["self", "name"] (spItemB C_Box) := by
  refine D.ok sc_Box___getitem__ (fun vs H Q E h => ?_) (fun cdv A outer s H vs Q E hr h => ⟨_, PSs.nox (pss_cons (ps_if (PW.pt (pw_or (pt_not (pt_val (pe_cl (E := En) c_is_name (hr.mono (by decide)) rfl passN (pa_cons (pv 1) pa_nil)))) (pw_or1 (pt_cmp (pc_dnotin (room1 hr) (pv 1) (pe_fld (pv 0) rfl)))))) (pss_one ps_never) pss_nil) (pss_one (ps_ret (pe_dget (room1 hr) (pe_fld (pv 0) rfl) (pv 1) (fun _ _ => rfl))))), ?_⟩)
  · obtain ⟨_, _, _, _, _, _, rfl, _⟩ := h
    rfl
  · obtain ⟨b, n, dx, t, kvs, v, rfl, h1, h2, nm, hv, k⟩ := h
    refine ⟨_, rfl, .str n, rfl, .str n, nmz nm, fun H1 e1 => ?_⟩
    rw [nmB_of nm]
    refine ⟨true, rfl, iteF ?_⟩
    refine ⟨_, rfl, _, rfl, b, C_Box, dx, _, _, rfl, e1 _ _ h1, B.cl, B.n1, tb1, t, some v, rfl, .inl ⟨kvs, .inr n, .inl (e1 _ _ h2), rfl, hv.symm⟩, false, rfl, iteF ?_⟩
    exact ⟨_, rfl, b, C_Box, dx, _, _, rfl, e1 _ _ h1, B.cl, B.n1, tb1, _, rfl, t, v, rfl, .inl ⟨kvs, .inr n, .inl (e1 _ _ h2), rfl, hv.symm⟩, k H1 e1⟩
end
end WK

set_option Elab.async false
set_option linter.all false
set_option maxRecDepth 100000
set_option maxHeartbeats 4000000
/-! d.copy() -/
namespace WW
open PySem PySem.Spec PyProof.Rows L2
def rDCopy : V → List V → Hp → VK → Prop := fun x vs H Q => ∃ (a : Addr) (kvs : List (Key × V)), x = .ref a ∧ vs = [] ∧ H a = some (.dK kvs) ∧ ∀ p, H p = none → Q (.ref p) (upd H p (.dK kvs))
theorem pairs_byValue {P : Program} {w : World} {s : Shared} {fs : Array DictEntry} : ∀ {es : List DictEntry} {vs : List (Key × Value)}, Pairs (mixKind P w) es vs → ∀ e ∈ es, KeyApart s fs e
  | _, _, .nil, e, he => by cases he
  | _, _, .cons h1 _ r, e, he => by
    rcases List.mem_cons.mp he with rfl | he
    · exact .inl ((mixKind P w).byValue _ _ h1)
    · exact pairs_byValue r e he
theorem mtd_copy {X : Cx} : MtR X "dict.copy" rDCopy := by
  intro pins s σ H x vs v us Q I rx rv h
  obtain ⟨a, kvs, rfl, rfl, ha, q⟩ := h
  obtain rfl : v = Value.ref a := rx
  obtain rfl := rv.zero
  obtain ⟨z, ns, ws, rel, o, es, ep, ho, hex, hd, kf, pr, nd⟩ := dk_of I.hok ha
  have hl : es.size = kvs.length := by rw [← Array.length_toList, pr.length, rel.length]
  refine call_copy_raw ns ⟨o, ho, hex, hd⟩ (by omega) (pairs_byValue pr) fun h' raw keep => ?_
  obtain ⟨o2, h2, x2, d2⟩ := raw
  refine ⟨.ref _, upd H s.heap.objs.size (.dK kvs), I.laid (a := s.heap.objs.size) (o := .dK kvs) (t' := s.toks) keep (Nat.le_refl _) (dk_new z (beq_eq_false_iff_ne.mpr (Ne.symm (Nat.ne_of_lt I.big))) rel ⟨o2, es, 0, h2, x2, d2, kf, pr, nd⟩), rfl, q _ (I.hok.fresh (Nat.le_refl _))⟩
/-- d.copy(), told at K -/
theorem pe_copyK {X : Cx} {K : PySem.W.Frag} {o : Expr} {to : TE} {apos cpos : Pos} (h : X.K = K) (ho : PE X o to) (base : attributeBase o "copy" X.env (eval o X.env) = eval o X.env := by rfl) (line : (apos.endLine == cpos.line) = true := by rfl) :
    PE X (.Call (.Attribute o "copy" apos) [] [] cpos) (tBM0 K "dict" rDCopy to) := by
  subst h
  exact pe_bm0 PySem.F.plainAttrs_dict PySem.F.slot_dict_copy PySem.F.type_dict_copy mtd_copy ho base line
end WW

set_option Elab.async false
set_option linter.all false
set_option maxRecDepth 100000
set_option maxHeartbeats 4000000
/-! sorted of a list or a tuple of texts. -/
namespace WW
open PySem PySem.Spec PyProof.Rows L2 Evl
theorem prd_str {K : PySem.W.Frag} {H : Hp} : ∀ zs : List Str, Paired (fun v b => (fun (v : V) (b : Str) => v = .str b) v b ∧ DpE K H PyData.str v b) (zs.map V.str) zs
  | [] => .nil
  | z :: zs => .cons ⟨rfl, .str z⟩ (prd_str zs)
theorem of_prd_str : ∀ {ys : List V} {zs : List Str}, Paired (fun (v : V) (b : Str) => v = .str b) ys zs → ys = zs.map V.str
  | _, _, .nil => rfl
  | _, _, .cons g r => by rw [g, of_prd_str r]; rfl
/-- sorted(a row of texts) -/
theorem sortX_go {K : PySem.W.Frag} {H : Hp} {a : Addr} {zs : List Str} {Q : VK} (hx : SqX H a (zs.map V.str)) (k : ∀ p, H p = none → Q (.ref p) (upd H p (.lst ((sortS zs).map V.str)))) : rOr3 (rSortD K PyData.str) (rSortDT K PyData.str) [.ref a] H Q := by
  have fin : ∀ (ys : List V) (p : Addr), Paired (fun (v : V) (b : Str) => v = .str b) ys (zs.mergeSort (PySem.W.dataLe false PyData.str)) → H p = none → Q (.ref p) (upd H p (.lst ys)) := fun ys p hy hn => by
    rw [le_str_eq] at hy
    rw [of_prd_str hy]
    exact k p hn
  have al : ∀ b b' : Str, PySem.W.alike (PyData.str b) (PyData.str b') = true := fun b b' => by simp [PySem.W.alike]
  have so : PySem.W.Sortable (zs.map PyData.str) := PySem.W.Sortable.others fun b => ⟨by simp, by simp⟩
  rcases hx with hx | hx
  · exact .inl ⟨a, _, zs, fun (v : V) (b : Str) => v = .str b, rfl, sq_of hx, prd_str zs, al, so, fun b => by show 0 ≤ 32; omega, fin⟩
  · exact .inr ⟨a, _, zs, fun (v : V) (b : Str) => v = .str b, rfl, st_of hx, prd_str zs, al, so, fun b => by show 0 ≤ 32; omega, fin⟩
end WW

set_option Elab.async false
set_option linter.all false
set_option maxRecDepth 100000
set_option maxHeartbeats 4000000
/-! {e for x in .. for y in ..}: whatever the set holds. -/
namespace WW
open PySem PySem.Spec PyProof.Rows L2
section
variable {P : Program} {w : World} {A : Around} {R : Result → Shared → Prop} {s : Shared} {ea xa sa xb sb : Expr} {fa fb : List Expr} {sco : Scope} {ps : Pos} {walk made : Value} {fr : Env}
/-- the two clauses -/
abbrev Two (ea xa sa xb sb : Expr) (fa fb : List Expr) (sco : Scope) (ps : Pos) : Expr := .SetComp ea [⟨xa, sa, fa, 0⟩, ⟨xb, sb, fb, 0⟩] sco ps
theorem two_outer : compTurn (Two ea xa sa xb sb fa fb sco ps) 0 walk made fr = (do
      standAt sa.pos
      match ← pyNext walk with
      | none => pure (.done .next)
      | some item =>
        letOwnedTupleGo xa walk item
        assign xa fr item
        let mut yes := true
        for q in fa do
          if yes then yes ← isTrue q fr (eval q fr)
        if yes then
          let src ← eval sb fr
          standAt sb.pos
          let src ← foldedSetIterable sb fr src
          let _ ← runOwn (.compStart (Two ea xa sa xb sb fa fb sco ps) 1 (← holding [src] (pyIter src)) made fr) fr
        again (.compLoop (Two ea xa sa xb sb fa fb sco ps) 0 walk made fr)) := by rfl
theorem two_inner : compTurn (Two ea xa sa xb sb fa fb sco ps) 1 walk made fr = (do
      standAt sb.pos
      match ← pyNext walk with
      | none => pure (.done .next)
      | some item =>
        letOwnedTupleGo xb walk item
        assign xb fr item
        let mut yes := true
        for q in fb do
          if yes then yes ← isTrue q fr (eval q fr)
        if yes then
          (do let z ← eval ea fr; standAt ea.pos; let _ ← call (.builtin "set.add") [made, z])
        again (.compLoop (Two ea xa sa xb sb fa fb sco ps) 1 walk made fr)) := by rfl
/-- what is wanted of an exception, with the frame's note -/
abbrev Nb (P : Program) (w : World) (A : Around) (fr : Env) (R : Result → Shared → Prop) : Value → Shared → Prop := notedBy (model P w) A fr fun z t => R (.error z) t
/-- the tests of a clause -/
abbrev tests (fs : List Expr) (fr : Env) : Sem Bool := forIn fs true fun c r => if r = true then do let ok ← isTrue c fr (eval c fr); pure (ForInStep.yield ok) else pure (ForInStep.yield r)
theorem two_outer_loop (plain : ∀ z, foldedSetIterable sb fr z = pure z) (St : Nat → Shared → Prop)
    (turn : ∀ k s0, St k s0 → wpAny (model P w) A (pyNext walk) (fun r s1 => match r with
      | none => R (.ok .next) s1
      | some item => wpAny (model P w) A (letOwnedTupleGo xa walk item) (fun _ s2 => wpAny (model P w) A (assign xa fr item) (fun _ s3 => wpAny (model P w) A (tests fa fr) (fun yes s4 =>
            if yes = true then wpAny (model P w) A (eval sb fr) (fun src s5 => wpAny (model P w) A (pyIter src) (fun j s6 =>
              codeAny (model P w) A (.compStart (Two ea xa sa xb sb fa fb sco ps) 1 j made fr) (fun z t => match z with
                | .ok _ => ∃ k', k' < k ∧ St k' t
                | .error _ => False) s6) (Nb P w A fr R) s5) (Nb P w A fr R) s4
            else ∃ k', k' < k ∧ St k' s4) (Nb P w A fr R) s3) (Nb P w A fr R) s2) (Nb P w A fr R) s1) (Nb P w A fr R) s0)
    (k : Nat) (st : St k s) : codeAny (model P w) A (.compLoop (Two ea xa sa xb sb fa fb sco ps) 0 walk made fr) R s := by
  refine codeAny_loop rfl St (fun k s0 st0 => ?_) k st
  show wpAny _ A ((compTurn (Two ea xa sa xb sb fa fb sco ps) 0 walk made fr).onRaise (fun z => do noteFrame z fr; theTreesLotGoes z)) _ _ s0
  refine wpAny_noted ?_
  rw [two_outer]
  refine wpAny_bind (wpAny_standAt (wpAny_bind (wpAny_mono (turn k s0 st0) (fun r s1 g1 => ?_) fun _ _ z => z)))
  cases r with
  | none => exact wpAny_pure g1
  | some item =>
    refine wpAny_bind (wpAny_mono g1 (fun _ s2 g2 => wpAny_bind (wpAny_mono g2 (fun _ s3 g3 => wpAny_bind (wpAny_mono g3 (fun yes s4 g4 => ?_) fun _ _ z => z)) fun _ _ z => z)) fun _ _ z => z)
    cases yes with
    | false => exact wpAny_pure ⟨rfl, g4⟩
    | true =>
      refine wpAny_bind (wpAny_mono g4 (fun src s5 g5 => wpAny_bind (wpAny_standAt (wpAny_bind (wpAny_of_eq (plain src) (wpAny_bind (wpAny_holding (wpAny_mono g5 (fun j s6 g6 => ?_) fun _ _ z => z))))))) fun _ _ z => z)
      refine wpAny_bind (wpAny_runOwn ?_)
      rw [Around.mark_none]
      refine codeAny_mono g6 fun r t hr => ?_
      match r, hr with
      | .ok _, hr => first | exact wpAny_pure ⟨rfl, hr⟩ | exact wpAny_bind (wpAny_pure (wpAny_pure ⟨rfl, hr⟩))
      | .error _, hr => exact hr.elim
theorem two_inner_loop (St : Nat → Shared → Prop)
    (turn : ∀ k s0, St k s0 → wpAny (model P w) A (pyNext walk) (fun r s1 => match r with
      | none => R (.ok .next) s1
      | some item => wpAny (model P w) A (letOwnedTupleGo xb walk item) (fun _ s2 => wpAny (model P w) A (assign xb fr item) (fun _ s3 => wpAny (model P w) A (tests fb fr) (fun yes s4 =>
            if yes = true then wpAny (model P w) A (eval ea fr) (fun z s5 => wpAny (model P w) A (call (.builtin "set.add") [made, z]) (fun _ s6 => ∃ k', k' < k ∧ St k' s6) (Nb P w A fr R) s5) (Nb P w A fr R) s4
            else ∃ k', k' < k ∧ St k' s4) (Nb P w A fr R) s3) (Nb P w A fr R) s2) (Nb P w A fr R) s1) (Nb P w A fr R) s0)
    (k : Nat) (st : St k s) : codeAny (model P w) A (.compLoop (Two ea xa sa xb sb fa fb sco ps) 1 walk made fr) R s := by
  refine codeAny_loop rfl St (fun k s0 st0 => ?_) k st
  show wpAny _ A ((compTurn (Two ea xa sa xb sb fa fb sco ps) 1 walk made fr).onRaise (fun z => do noteFrame z fr; theTreesLotGoes z)) _ _ s0
  refine wpAny_noted ?_
  rw [two_inner]
  refine wpAny_bind (wpAny_standAt (wpAny_bind (wpAny_mono (turn k s0 st0) (fun r s1 g1 => ?_) fun _ _ z => z)))
  cases r with
  | none => exact wpAny_pure g1
  | some item =>
    refine wpAny_bind (wpAny_mono g1 (fun _ s2 g2 => wpAny_bind (wpAny_mono g2 (fun _ s3 g3 => wpAny_bind (wpAny_mono g3 (fun yes s4 g4 => ?_) fun _ _ z => z)) fun _ _ z => z)) fun _ _ z => z)
    cases yes with
    | false => exact wpAny_pure ⟨rfl, g4⟩
    | true => exact wpAny_bind (wpAny_bind (wpAny_mono g4 (fun z s5 g5 => wpAny_bind (wpAny_standAt (wpAny_bind (wpAny_mono g5 (fun _ s6 g6 => wpAny_pure (wpAny_pure ⟨rfl, g6⟩)) fun _ _ z => z)))) fun _ _ z => z))
theorem two_start (h0 : codeAny (model P w) A (.compLoop (Two ea xa sa xb sb fa fb sco ps) 1 walk made fr) R s)
    (h : wpAny (model P w) A (pyIter walk) (fun j t => codeAny (model P w) A (.compLoop (Two ea xa sa xb sb fa fb sco ps) 1 j made fr) R t) (Nb P w A fr R) s) :
    codeAny (model P w) A (.compStart (Two ea xa sa xb sb fa fb sco ps) 1 walk made fr) R s := by
  refine codeAny_of_tree ?_
  show wpAny _ _ ((compStart (Two ea xa sa xb sb fa fb sco ps) 1 walk made fr).onRaise (fun z => do noteFrame z fr; standAt theWindowsPlace)) _ _ s
  refine wpAny_notedAt ?_
  unfold compStart
  show wpAny _ _ (ask >>= _) _ _ s
  refine wpAny_bind (wpAny_askSetting (wpAny_ite ?_))
  split
  · first
      | exact wpAny_bind (wpAny_pure (wpAny_pure ⟨rfl, h0⟩))
      | exact wpAny_pure ⟨rfl, h0⟩
  · first
      | exact wpAny_bind (wpAny_rule (wpAny_bind (wpAny_standAt (wpAny_bind (wpAny_mono h (fun j t g => wpAny_pure ⟨rfl, g⟩) fun _ _ z => z)))))
      | (refine wpAny_bind (wpAny_rule ?_); show wpAny _ _ (standAt sb.pos >>= _) _ _ s; exact wpAny_bind (wpAny_standAt (wpAny_bind (wpAny_mono h (fun j t g => wpAny_pure ⟨rfl, g⟩) fun _ _ z => z))))
end
/-- {elt for tg in .. if .. for tg' in .. if ..} -/
def tSet2 (new : Addr → HO) (add : AddT) (wi : TI) (g : TG) (tt : TT) (wi' : TI) (g' : TG) (tt' : TT) (te : TE) (vs us : List Nat) : TE := fun σ H Q => wi σ H fun J H1 => ∀ D, H1 D = none →
  ∃ W : Nat → Nat → Hp → Prop, (∃ m, W 0 m (upd H1 D (new D))) ∧ ∀ i m H2, W i m H2 → (J.stop i H2 ∧ Q (.ref D) H2) ∨
    (J.go i H2 ∧ ∃ Nx : Hp → Prop, (∀ H', Nx H' → ∃ m', m' < m ∧ W (i + 1) m' H') ∧ ∀ x H', J.yld i H2 x H' → g x (wipe σ vs) H' fun σ3 H3 => wipe σ3 vs = wipe σ vs ∧
      tt σ3 H3 fun b H4 => if b = true then wi' σ3 H4 fun J' H5 => ∃ W' : Nat → Nat → Hp → Prop, (∃ m, W' 0 m H5) ∧ ∀ j k H6, W' j k H6 → (J'.stop j H6 ∧ Nx H6) ∨
        (J'.go j H6 ∧ ∃ Ny : Hp → Prop, (∀ H', Ny H' → ∃ k', k' < k ∧ W' (j + 1) k' H') ∧ ∀ y H', J'.yld j H6 y H' → g' y (wipe σ3 us) H' fun σ7 H7 => wipe σ7 us = wipe σ3 us ∧
          tt' σ7 H7 fun b H8 => if b = true then te σ7 H8 fun z H9 => add z D H9 Ny else Ny H8)
      else Nx H4)
section
variable {X : Cx}
theorem set2_core {new : Addr → HO} {add : AddT} {pins : List (Addr × Obj)} {s : Shared} {σ : L2.St} {H : Hp} {Q : VK} {elt tg iter tg' iter' : Expr} {ifs ifs' : List Expr} {scope : Scope} {own : List (PySem.Str × Nat)} {us : List Nat} {pos pos' : Pos} {wi wi' : TI} {g g' : TG} {tt tt' : TT} {te : TE}
    {use : Option (Value → Sem Unit)} {Qf : Value → Shared → Prop} (M : SetMk X.prog X.w new add) (calm : X.calm = true) (nd : X.N.Nodup) (I : Inv X pins σ H s) (walk : PI X tg iter wi) (blk : BlkOk X.N X.env.scope scope own) (part : ∀ i ∈ us, i ∈ own.map (·.2))
    (hg : ∀ (s : Shared) (H : Hp) (C : Addr) (cl : List (PySem.Str × Addr)) (fp : List Addr), PG (X.blk s H scope (compEnvC scope cl C X.env) fp) tg g)
    (ht : ∀ (s : Shared) (H : Hp) (C : Addr) (cl : List (PySem.Str × Addr)) (fp : List Addr), PTs (X.blk s H scope (compEnvC scope cl C X.env) fp) ifs tt)
    (hw : ∀ (s : Shared) (H : Hp) (C : Addr) (cl : List (PySem.Str × Addr)) (fp : List Addr), PI (X.blk s H scope (compEnvC scope cl C X.env) fp) tg' iter' wi')
    (hg' : ∀ (s : Shared) (H : Hp) (C : Addr) (cl : List (PySem.Str × Addr)) (fp : List Addr), PG (X.blk s H scope (compEnvC scope cl C X.env) fp) tg' g')
    (ht' : ∀ (s : Shared) (H : Hp) (C : Addr) (cl : List (PySem.Str × Addr)) (fp : List Addr), PTs (X.blk s H scope (compEnvC scope cl C X.env) fp) ifs' tt')
    (he : ∀ (s : Shared) (H : Hp) (C : Addr) (cl : List (PySem.Str × Addr)) (fp : List Addr), PE (X.blk s H scope (compEnvC scope cl C X.env) fp) elt te)
    (plain : ∀ x, foldedSetIterable iter X.env x = pure x) (plain' : ∀ fr x, foldedSetIterable iter' fr x = pure x) (h : tSet2 new add wi g tt wi' g' tt' te (own.map (·.2)) us σ H Q)
    (back : ∀ D C s' m H', Inv X pins σ H' s' → Q (.ref D) H' → s'.heap.Ns C m → FpOk X pins H' C → compPost (model X.prog X.w) X.A X.xe use Qf (.ref D) C (.ok .next) s') :
    wpAny (model X.prog X.w) X.A (comprehension (Two elt tg iter tg' iter' ifs ifs' scope pos) scope X.env pos' (newSet (.type "set")) false (eval iter X.env) use) Qf X.xe s := by
  have cellsThere : ∀ y ∈ scope.names, y.2 = .free → ∃ c, X.env.cells.lookup y.1 = some c := fun y my fy =>
    (blk.free y my fy).elim (fun k => I.ok.has _ (.inl k)) fun k => I.ok.has _ (.inr k)
  refine wpAny_comprehension_free (use := use) rfl plain (closure_ok cellsThere) blk.kind (fun y my ey => by rw [blk.uniq y my, ey]) (thn (walk.run pins s σ H _ I h) fun v1 s1 h1 => thn h1 fun v2 s2 h2 => ?_)
  obtain ⟨it, fp, tn, J, H2, rfl, I2, T, start2, free2, rest⟩ := h2
  refine PpSet.newSet_ok (newEnv_comp ?_)
  have fresh2 : H2 s2.heap.objs.size = none := I2.hok.fresh (Nat.le_refl _)
  obtain ⟨W, ⟨m0, w0⟩, turn⟩ := rest s2.heap.objs.size fresh2
  -- the state with the empty set
  have I3 : Inv X pins σ (upd H2 s2.heap.objs.size (new s2.heap.objs.size)) { s2 with heap := s2.heap.push { cls := .type "set", dict := none, data := .set #[] 0 (.fresh 0 0 (!X.w.params.followText "set-order")) } } :=
    I2.laid (t' := s2.toks) (fun _ _ e => Heap.get?_push_of_some _ e) (Nat.le_refl _) (M.laid _ _)
  have below : ∀ b ∈ fp, b < s2.heap.objs.size := fun b hb => let ⟨_, e, _⟩ := T.obj _ _ start2 b hb; Heap.lt_size e
  generalize hD : s2.heap.objs.size = D at w0 turn fresh2 I3 below ⊢
  generalize hs3 : ({ s2 with heap := s2.heap.push { cls := .type "set", dict := none, data := .set #[] 0 (.fresh 0 0 (!X.w.params.followText "set-order")) } } : Shared) = s3 at I3
  have grown : s3.heap = s2.heap.push { cls := .type "set", dict := none, data := .set #[] 0 (.fresh 0 0 (!X.w.params.followText "set-order")) } := by rw [← hs3]
  generalize hH3 : upd H2 D (new D) = H3 at I3 w0
  have free3 : ∀ b ∈ fp, FpOk X pins H3 b ∧ b < s3.heap.objs.size := fun b hb => by
    have lt := below b hb
    refine ⟨⟨?_, (free2 b hb).2⟩, by rw [grown, Heap.size_push, hD]; exact Nat.lt_succ_of_lt lt⟩
    rw [← hH3, upd_ne (Nat.ne_of_lt lt)]
    exact (free2 b hb).1
  have start3 : tn 0 s3.heap := T.keep _ _ _ start2 fun b _ o e => by rw [grown]; exact Heap.get?_push_of_some _ e
  have I4 := block_start I3 blk nd free3
  have ruleG := hg s3 H3 s3.heap.objs.size (cellsFrom (s3.heap.objs.size + 1) scope.names (cloFrom X.env.cells scope.names [])) fp
  have ruleT := ht s3 H3 s3.heap.objs.size (cellsFrom (s3.heap.objs.size + 1) scope.names (cloFrom X.env.cells scope.names [])) fp
  have ruleW' := hw s3 H3 s3.heap.objs.size (cellsFrom (s3.heap.objs.size + 1) scope.names (cloFrom X.env.cells scope.names [])) fp
  have ruleG' := hg' s3 H3 s3.heap.objs.size (cellsFrom (s3.heap.objs.size + 1) scope.names (cloFrom X.env.cells scope.names [])) fp
  have ruleT' := ht' s3 H3 s3.heap.objs.size (cellsFrom (s3.heap.objs.size + 1) scope.names (cloFrom X.env.cells scope.names [])) fp
  have ruleE := he s3 H3 s3.heap.objs.size (cellsFrom (s3.heap.objs.size + 1) scope.names (cloFrom X.env.cells scope.names [])) fp
  show codeAny _ _ (.compStart (Two elt tg iter tg' iter' ifs ifs' scope pos) 0 (.ref it) (.ref D) (compEnvC scope (cellsFrom (s3.heap.objs.size + 1) scope.names (cloFrom X.env.cells scope.names [])) s3.heap.objs.size X.env))
    (compPost (model X.prog X.w) X.A X.xe use Qf (.ref D) s3.heap.objs.size) { s3 with heap := pushCells (s3.heap.push { cls := .type "dict", data := .dict #[] }) scope.names }
  generalize hce : compEnvC scope (cellsFrom (s3.heap.objs.size + 1) scope.names (cloFrom X.env.cells scope.names [])) s3.heap.objs.size X.env = ce at I4 ruleG ruleT ruleW' ruleG' ruleT' ruleE ⊢
  have frame : ce.locals = s3.heap.objs.size := by rw [← hce] <;> rfl
  generalize hs4 : ({ s3 with heap := pushCells (s3.heap.push { cls := .type "dict", data := .dict #[] }) scope.names } : Shared) = s4 at I4 ⊢
  have start4 : tn 0 s4.heap := T.keep _ _ _ start3 fun b _ o e => by rw [← hs4]; exact pushCells_keeps _ _ _ _ (Heap.get?_push_of_some _ e)
  have quiet : ∀ {σ' : L2.St} {H' : Hp} {s' : Shared}, Inv (X.blk s3 H3 scope ce fp) [] σ' H' s' → (∀ b ∈ fp, H' b = none) → ∀ b ∈ fp, FpOk (X.blk s3 H3 scope ce fp) [] H' b := fun {σ' H' s'} I' n b hb =>
    ⟨n b hb, (I'.ok.exf b hb).1, I'.ok.exfs b hb, .inl hb, (I'.ok.exf b hb).2, fun p hp => absurd (show p ∈ ([] : List (Addr × Obj)) ++ [] from hp) (by simp)⟩
  have loop : codeAny (model X.prog X.w) X.A (.compLoop (Two elt tg iter tg' iter' ifs ifs' scope pos) 0 (.ref it) (.ref D) ce) (compPost (model X.prog X.w) X.A X.xe use Qf (.ref D) s3.heap.objs.size) s4 := by
    refine two_outer_loop (plain' ce) (fun n s' => ∃ i H', Inv (X.blk s3 H3 scope ce fp) [] (wipe σ (own.map (·.2))) H' s' ∧ tn i s'.heap ∧ (∀ b ∈ fp, H' b = none) ∧ W i n H') ?_ m0 ⟨0, H3, I4, start4, fun b hb => (free3 b hb).1.1, w0⟩
    rintro n s5 ⟨i, H5, I5, at5, none5, w5⟩
    rcases turn i n H5 w5 with ⟨stop, fin⟩ | ⟨go, Nx, hNx, step⟩
    · refine thnF (T.done (X.blk s3 H3 scope ce fp) rfl rfl rfl calm i [] s5 _ H5 (fun _ _ => False) I5 (quiet I5 none5) at5 stop) fun r s6 ⟨er, I6⟩ => ?_
      subst er
      have I7 : Inv X pins σ H5 s6 := I3.call' (ch := fp) I6.os I6.base I6.hok I6.bare fun b hb => ⟨(free3 b hb).1.2.2.2.1, (free3 b hb).1.2.1, (free3 b hb).1.2.2.2.2.1, (free3 b hb).1.2.2.2.2.2⟩
      have nC : H5 s3.heap.objs.size = none := frame ▸ (I6.free : H5 ce.locals = none)
      obtain ⟨m, hn, _⟩ := I6.loc
      have hn' : s6.heap.Ns s3.heap.objs.size m := frame ▸ (hn : s6.heap.Ns ce.locals m)
      exact back D s3.heap.objs.size s6 m H5 I7 fin hn' (I3.fpOk (Nat.le_refl _) nC)
    · refine thnF (T.item (X.blk s3 H3 scope ce fp) rfl rfl rfl calm i [] s5 _ H5 (fun _ _ => False) I5 (quiet I5 none5) at5 go) fun r s6 ⟨u, er, h6⟩ => ?_
      subst er
      refine thnF h6 fun _ s7 ⟨x, H7, I7, r7, y7, at7, none7⟩ => ?_
      refine thnF (ruleG.run _ s7 _ H7 x u _ (I7.pinned (quiet I7 none7) (T.obj _ _ at7)) r7 (step x H7 y7)) fun _ s8 ⟨σ8, H8, I8, wiped, q8⟩ => ?_
      refine thnF (ruleT.run _ s8 σ8 H8 _ I8 q8) fun b s9 ⟨H9, I9, q9⟩ => ?_
      have next : ∀ {σ9 : L2.St} {s' : Shared} {H' : Hp}, Inv (X.blk s3 H3 scope ce fp) ([] ++ pinsAt fp s7.heap) σ9 H' s' → (wipe σ (own.map (·.2))).length = σ9.length → (∀ (j : Nat) v, (wipe σ (own.map (·.2)))[j]? = some (some v) → σ9[j]? = some (some v)) → Nx H' →
          ∃ m, m < n ∧ ∃ i H', Inv (X.blk s3 H3 scope ce fp) [] (wipe σ (own.map (·.2))) H' s' ∧ tn i s'.heap ∧ (∀ b ∈ fp, H' b = none) ∧ W i m H' := fun {σ9 s' H'} I' len kept nx => by
        obtain ⟨m', less, w'⟩ := hNx H' nx
        have pinned : ∀ b ∈ fp, ∀ o, s7.heap.get? b = some o → s'.heap.get? b = some o ∧ H' b = none := fun b hb o e =>
          let z := I'.pin (b, o) (List.mem_append_right _ (List.mem_append_right _ (mem_pinsAt hb e)))
          ⟨z.1, z.2.1⟩
        refine ⟨m', less, i + 1, H', (I'.unpinned (pins := [])).weak len kept, T.keep _ _ _ at7 fun b hb o e => (pinned b hb o e).1, fun b hb => ?_, w'⟩
        obtain ⟨o, e, _⟩ := T.obj _ _ at7 b hb
        exact (pinned b hb o e).2
      have len8 : (wipe σ (own.map (·.2))).length = σ8.length := by rw [← wiped, wipe_length]
      have kept8 : ∀ (j : Nat) v, (wipe σ (own.map (·.2)))[j]? = some (some v) → σ8[j]? = some (some v) := fun j v e => (wipe_some (wiped.symm ▸ e)).1
      have kept9 : ∀ (j : Nat) v, (wipe σ (own.map (·.2)))[j]? = some (some v) → (wipe σ8 us)[j]? = some (some v) := fun j v e => by
        obtain ⟨e1, e2⟩ := wipe_some (wiped.symm ▸ e)
        exact (wipe_out fun z => e2 (part j z)).trans e1
      cases b with
      | false =>
        rw [if_neg Bool.false_ne_true] at q9 ⊢
        exact next I9 len8 kept8 q9
      | true =>
        rw [if_pos rfl] at q9 ⊢
        refine thnF (ruleW'.run _ s9 σ8 H9 _ I9 q9) fun xv s10 hx => thnF hx fun jv s11 h11 => ?_
        obtain ⟨jt, gp, tn', J', H11, rfl, I11, T', start11, free11, W', ⟨m1, w1⟩, turn'⟩ := h11
        have quiet' : ∀ {H' : Hp}, (∀ b ∈ gp, H' b = none) → ∀ b ∈ gp, FpOk (X.blk s3 H3 scope ce fp) ([] ++ pinsAt fp s7.heap) H' b := fun hn b hb => ⟨hn b hb, (free11 b hb).2⟩
        have inner : codeAny (model X.prog X.w) X.A (.compLoop (Two elt tg iter tg' iter' ifs ifs' scope pos) 1 (.ref jt) (.ref D) ce) (fun r s' => match r with
              | .ok _ => ∃ m, m < n ∧ ∃ i H', Inv (X.blk s3 H3 scope ce fp) [] (wipe σ (own.map (·.2))) H' s' ∧ tn i s'.heap ∧ (∀ b ∈ fp, H' b = none) ∧ W i m H'
              | .error _ => False) s11 := by
          refine two_inner_loop (fun k s' => ∃ j H', Inv (X.blk s3 H3 scope ce fp) ([] ++ pinsAt fp s7.heap) (wipe σ8 us) H' s' ∧ tn' j s'.heap ∧ (∀ b ∈ gp, H' b = none) ∧ W' j k H') ?_ m1 ⟨0, H11, I11.weak (wipe_length _ _) (fun j v e => (wipe_some e).1), start11, fun b hb => (free11 b hb).1, w1⟩
          rintro k s12 ⟨j, H12, I12, at12, none12, w12⟩
          rcases turn' j k H12 w12 with ⟨stop1, nx1⟩ | ⟨go1, Ny, hNy, step1⟩
          · refine thnF (T'.done (X.blk s3 H3 scope ce fp) rfl rfl rfl calm j _ s12 (wipe σ8 us) H12 (fun _ _ => False) I12 (quiet' none12) at12 stop1) fun r s13 ⟨er, I13⟩ => ?_
            subst er
            exact next I13 (len8.trans (wipe_length σ8 us).symm) kept9 nx1
          · refine thnF (T'.item (X.blk s3 H3 scope ce fp) rfl rfl rfl calm j _ s12 (wipe σ8 us) H12 (fun _ _ => False) I12 (quiet' none12) at12 go1) fun r s13 ⟨u1, er, h13⟩ => ?_
            subst er
            refine thnF h13 fun _ s14 ⟨x1, H14, I14, r14, y14, at14, none14⟩ => ?_
            refine thnF (ruleG'.run _ s14 (wipe σ8 us) H14 x1 u1 _ (I14.pinned (quiet' none14) (T'.obj _ _ at14)) r14 (step1 x1 H14 y14)) fun _ s15 ⟨σ15, H15, I15, wiped15, q15⟩ => ?_
            refine thnF (ruleT'.run _ s15 σ15 H15 _ I15 q15) fun b1 s16 ⟨H16, I16, q16⟩ => ?_
            have next1 : ∀ {s' : Shared} {H' : Hp}, Inv (X.blk s3 H3 scope ce fp) (([] ++ pinsAt fp s7.heap) ++ pinsAt gp s14.heap) σ15 H' s' → Ny H' → ∃ m, m < k ∧ ∃ j H', Inv (X.blk s3 H3 scope ce fp) ([] ++ pinsAt fp s7.heap) (wipe σ8 us) H' s' ∧ tn' j s'.heap ∧ (∀ b ∈ gp, H' b = none) ∧ W' j m H' := fun {s' H'} I' nx => by
              obtain ⟨m', less, w'⟩ := hNy H' nx
              have pinned : ∀ b ∈ gp, ∀ o, s14.heap.get? b = some o → s'.heap.get? b = some o ∧ H' b = none := fun b hb o e =>
                let z := I'.pin (b, o) (List.mem_append_right _ (List.mem_append_right _ (mem_pinsAt hb e)))
                ⟨z.1, z.2.1⟩
              refine ⟨m', less, j + 1, H', I'.unpinned.weak (by rw [← wiped15, wipe_length]) (fun j v e => (wipe_some (wiped15.symm ▸ e)).1), T'.keep _ _ _ at14 fun b hb o e => (pinned b hb o e).1, fun b hb => ?_, w'⟩
              obtain ⟨o, e, _⟩ := T'.obj _ _ at14 b hb
              exact (pinned b hb o e).2
            cases b1 with
            | false =>
              rw [if_neg Bool.false_ne_true] at q16 ⊢
              exact next1 I16 q16
            | true =>
              rw [if_pos rfl] at q16 ⊢
              refine thnF (ruleE.run _ s16 σ15 H16 _ I16 q16) fun z s17 ⟨yv, H17, I17, r17, put⟩ => ?_
              exact M.put (X.blk s3 H3 scope ce fp) rfl rfl _ σ15 H17 s17 D yv z Ny _ _ I17 r17 put fun s18 H18 I18 nx => next1 I18 nx
        exact two_start inner (T'.self X.A 0 _ _ _ start11 inner)
  exact PpSet.codeAny_compStart_set loop (T.self X.A 0 _ _ _ start4 loop)
theorem pe_set2 {new : Addr → HO} {add : AddT} {elt tg iter tg' iter' : Expr} {ifs ifs' : List Expr} {scope : Scope} {own : List (PySem.Str × Nat)} {us : List Nat} {pos : Pos} {wi wi' : TI} {g g' : TG} {tt tt' : TT} {te : TE} (M : SetMk X.prog X.w new add) (calm : X.calm = true) (nd : X.N.Nodup) (walk : PI X tg iter wi) (blk : BlkOk X.N X.env.scope scope own) (part : ∀ i ∈ us, i ∈ own.map (·.2))
    (hg : ∀ (s : Shared) (H : Hp) (C : Addr) (cl : List (PySem.Str × Addr)) (fp : List Addr), PG (X.blk s H scope (compEnvC scope cl C X.env) fp) tg g)
    (ht : ∀ (s : Shared) (H : Hp) (C : Addr) (cl : List (PySem.Str × Addr)) (fp : List Addr), PTs (X.blk s H scope (compEnvC scope cl C X.env) fp) ifs tt)
    (hw : ∀ (s : Shared) (H : Hp) (C : Addr) (cl : List (PySem.Str × Addr)) (fp : List Addr), PI (X.blk s H scope (compEnvC scope cl C X.env) fp) tg' iter' wi')
    (hg' : ∀ (s : Shared) (H : Hp) (C : Addr) (cl : List (PySem.Str × Addr)) (fp : List Addr), PG (X.blk s H scope (compEnvC scope cl C X.env) fp) tg' g')
    (ht' : ∀ (s : Shared) (H : Hp) (C : Addr) (cl : List (PySem.Str × Addr)) (fp : List Addr), PTs (X.blk s H scope (compEnvC scope cl C X.env) fp) ifs' tt')
    (he : ∀ (s : Shared) (H : Hp) (C : Addr) (cl : List (PySem.Str × Addr)) (fp : List Addr), PE (X.blk s H scope (compEnvC scope cl C X.env) fp) elt te)
    (plain : ∀ x, foldedSetIterable iter X.env x = pure x := by intro _; rfl) (plain' : ∀ fr x, foldedSetIterable iter' fr x = pure x := by intro _ _; rfl) :
    PE X (.SetComp elt [⟨tg, iter, ifs, 0⟩, ⟨tg', iter', ifs', 0⟩] scope pos) (tSet2 new add wi g tt wi' g' tt' te (own.map (·.2)) us) := by
  refine ⟨fun pins s σ H Q I h => ?_⟩
  rw [PpSet.eval_SetComp]
  refine set2_core M calm nd I walk blk part hg ht hw hg' ht' he plain plain' h fun D C s' m H' I' q hn free => ⟨m, hn, fun h'' sb => ?_⟩
  obtain ⟨f0, f1, f2, f3, f4, f5⟩ := free
  exact ⟨.ref D, H', I'.turned (t' := s'.toks) (fun b o hb e => (sb.2 b hb).trans e) f0 f1 f3 f4 f5, rfl, q⟩
end
end WW

set_option Elab.async false
set_option linter.all false
set_option maxRecDepth 100000
set_option maxHeartbeats 4000000
namespace WK
open PySem PySem.Spec PyProof.Rows L2 WW Evl
/-- the instrument of a name -/
def getI (rs : List Ins) (n : Str) : Ins := (rs.find? fun r => decide (r.nm = n)).getD ⟨true, n, 0, [], [], 0⟩
theorem getI_of {rs : List Ins} (nd : (rs.map (·.nm)).Nodup) {r : Ins} (h : r ∈ rs) : getI rs r.nm = r := by
  unfold getI
  induction rs with
  | nil => cases h
  | cons q t ih =>
    rw [List.map_cons, List.nodup_cons] at nd
    rw [List.find?_cons]
    rcases List.mem_cons.mp h with rfl | h
    · simp
    · have ne : ¬ (q.nm = r.nm) := fun z => nd.1 (z ▸ List.mem_map_of_mem h)
      rw [decide_eq_false ne]
      exact ih nd.2 h
/-- a chosen set -/
structure Cs (rs : List Ins) (cs : List Str) : Prop where
  nd : cs.Nodup
  sub : ∀ n ∈ cs, n ∈ rs.map (·.nm)
theorem Cs.get {rs : List Ins} {cs : List Str} (R : Rows rs) (c : Cs rs cs) {n : Str} (h : n ∈ cs) : getI rs n ∈ rs ∧ (getI rs n).nm = n := by
  obtain ⟨r, hr, rfl⟩ := List.mem_map.mp (c.sub n h)
  rw [getI_of R.nd hr]
  exact ⟨hr, rfl⟩
theorem Cs.len {rs : List Ins} {cs : List Str} (R : Rows rs) (c : Cs rs cs) : cs.length ≤ 6 := by
  have h := pigeon cs (rs.map (·.nm)) c.nd c.sub
  rw [List.length_map] at h
  have := R.most
  omega
/-- the instruments of a set, in the order of their names -/
def inOrder (rs : List Ins) (cs : List Str) : List Ins := (sortS cs).map (getI rs)
def selP (rs : List Ins) (cs : List Str) (po : Int) : List Ins := (inOrder rs cs).filter fun r => decide (V.int r.po = V.int po)
/-- the methods of a box that others want -/
structure BOps (P : Program) (w : World) (K : PySem.W.Frag) (mg : Str → Option Value) (base : Heap) (CB CS CL : Addr) : Prop where
  names : ∃ g fd, Meth K CB "names" g ∧ FnOk P w K mg base CXn 1 g fd ["self"] (spNamesB CB CS CL) ∧ Binds K fd ["self"] []
  item : ∃ f fd, OwnIx K CB f ∧ FnOk P w K mg base CXn 2 f fd ["self", "name"] (spItemB CB) ∧ Binds K fd ["self", "name"] []
theorem tbN {t : Addr} {m : Str} (h : ¬ (m = "_table")) : (putF "_table" (.ref t) [] : List (Str × V)).lookup m = none := by rw [lookup_putF, if_neg h]; rfl
theorem m_names : ¬ (("names" : Str) = "_table") := by decide +kernel
section
variable {P : Program} {w : World} {K : PySem.W.Frag} {mg : Str → Option Value} {base : Heap} {f : Addr} {fd : FuncData}
abbrev s_check_chosen : Stmt := top 30
theorem sc_check_chosen : FnScope ["box", "chosen", "names", "at", "item"] ["box", "chosen"] (defScope s_check_chosen) := ⟨rfl, rfl, rfl, by decide +kernel, rfl, by decide +kernel, by decide +kernel⟩
def spCkCh (CB CS CL : Addr) : Sp := fun vs H Q _ => ∃ (b c : Addr) (rs : List Ins) (cs : List Str), vs = [.ref b, .ref c] ∧ BoxAt CB CS CL H b rs ∧ Rows rs ∧ SqX H c (cs.map V.str) ∧ Cs rs cs ∧ ∀ H', Ex H H' → Q .non H'
theorem ok_ck_ch {C_Box C_Sensor C_Lock : Addr} (G : Gz mg) (B : BCl K mg C_Box) (O : BOps P w K mg base C_Box C_Sensor C_Lock) (D : Df K mg "check_chosen" s_check_chosen f fd ["box", "chosen"]) (c_is_row : Callee P w K mg base CXn 1 "is_row" 1 spIsRowG) (c_is_name : Callee P w K mg base CXn 1 "is_name" 1 spIsNameG) : Callee P w K mg base CXn 2 "check_chosen" 2 (spCkCh C_Box C_Sensor C_Lock) := by
  have cls_Box := B.cl
  obtain ⟨g1, fd1, m_names, F_names, b_names⟩ := O.names
  refine D.callee (D.fn.ok sc_check_chosen (fun vs H Q E h => ?_) (fun cdv A outer s H vs Q E hr h => ⟨_, PSs.nox (pss_cons (ps_if (pt_not (pt_val (pe_cl (E := En) c_is_row (hr.mono (by decide)) rfl passN (pa_cons (pv 1) pa_nil)))) (pss_one ps_never) pss_nil) (pss_cons (ps_set (i := 2) sc_check_chosen.nd rfl (Or.inl rfl) (pe_meth0 (E := En) (pv 0) cls_Box m_names F_names (hr.mono (by decide)) b_names .nil passN)) (pss_one (ps_for PassesOwn.never rfl (pi_or (pi_enum rfl G.g_enumerate (pa_cons (pv 1) pa_nil)) (pi_enumT rfl G.g_enumerate (pa_cons (pv 1) pa_nil))) (pg_tup rfl (pgs_cons (pg_name (i := 3) sc_check_chosen.nd rfl (Or.inl rfl)) (pgs_cons (pg_name (i := 4) sc_check_chosen.nd rfl (Or.inl rfl)) pgs_nil))) (pss_one (ps_if (PW.pt (pw_or (pt_not (pt_val (pe_cl (E := En) c_is_name (hr.mono (by decide)) rfl passN (pa_cons (pv 4) pa_nil)))) (pw_or (pt_cmpR (notInK (K := K) rfl) (pv 4) (pv 2) (by rfl)) (pw_or1 (pt_cmpR (inK (K := K) rfl) (pv 4) (pe_slice (sl_list.or sl_tupA) (pv 1) po_none (po_some (pv 3))) (by rfl)))))) (pss_one ps_never) pss_nil)))))), ?_⟩))
  · obtain ⟨_, _, _, _, rfl, _⟩ := h
    rfl
  · obtain ⟨b, c, rs, cs, rfl, hb, R, hc, C, k⟩ := h
    have c6 := C.len R
    have hrow : (isL H (.ref c) || isT H (.ref c)) = true := by
      rcases hc with hc | hc
      · rw [show isL H (.ref c) = true from isL_at hc]; rfl
      · rw [show isL H (.ref c) = false from isL_at hc, show isT H (.ref c) = true from isT_at hc]; rfl
    have hpl : Pl H (.ref c) := hc.elim .lst .tup
    refine ⟨_, rfl, .ref c, rfl, hpl, fun H1 e1 => ⟨true, by rw [hrow], iteF ?_⟩⟩
    have hb1 := hb.ex e1
    obtain ⟨dx, t, kvs, bb1, _⟩ := id hb1
    refine ⟨_, rfl, b, dx, _, rfl, bb1, tbN WK.m_names, b, rs, rfl, hb1, R, fun L H2 e2 hL => ?_⟩
    have e12 := e1.trans e2
    refine ienum_go rfl (hc.ex e12) fun J S => ?_
    refine for_go (n := (cs.map V.str).length) (fun i σ' H' => ∃ v3 v4, σ' = [some (.ref b), some (.ref c), some (.ref L), v3, v4] ∧ Ex H2 H')
      ⟨none, none, rfl, Ex.refl _⟩ (fun i σ' H' hi ⟨_, _, _, e⟩ => S.go i H' e hi) (fun σ' H' ⟨_, _, _, e⟩ => S.stop H' e) ?_ (fun σ' H' ⟨_, _, _, e⟩ => k H' (e12.trans e))
    rintro i σ' H' v H'' hi ⟨v3, v4, rfl, e⟩ y
    obtain ⟨T5, x, rfl, hT, rfl, hxi⟩ := S.yld i H' v H'' e hi y
    have e3 : Ex H2 (upd H' T5 (.tup [.int (i : Nat), x])) := e.trans (Ex.new hT)
    refine ⟨T5, _, rfl, st_of upd_same, rfl, _, _, rfl, _, _, rfl, rfl, ?_⟩
    generalize upd H' T5 (.tup [.int (i : Nat), x]) = H3 at e3
    rw [List.getElem?_map] at hxi
    obtain ⟨n, hn, rfl⟩ := Option.map_eq_some_iff.mp hxi
    have nin := List.mem_of_getElem? hn
    have nm : IsNm n := by
      obtain ⟨r, hr0, rfl⟩ := List.mem_map.mp (C.sub n nin)
      exact (R.ok r hr0).nm
    refine ⟨_, rfl, .str n, rfl, .str n, nmz nm, fun H4 e4 => ?_⟩
    rw [nmB_of nm]
    refine ⟨true, rfl, iteF ?_⟩
    have e24 := e3.trans e4
    have fl : ∀ zs : List Str, (zs.map V.str).all flatV = true := fun zs => List.all_eq_true.mpr fun y hy => by obtain ⟨z, _, rfl⟩ := List.mem_map.mp hy; rfl
    have ei : (!inV (.str n) ((sortS (rs.map (·.nm))).map V.str)) = false := by
      rw [inV_str, decide_eq_true (sortS_mem.mpr (C.sub n nin))]
      rfl
    refine ⟨_, rfl, _, rfl, L, _, rfl, .inl (sq_of (e24 _ _ hL)), rfl, fl _, false, (by show V.bl (!inV (.str n) ((sortS (rs.map (·.nm))).map V.str)) = _; rw [ei]), iteF ?_⟩
    refine ⟨_, rfl, _, rfl, _, rfl, _, rfl, slx_take (hc.ex (e12.trans e24)) (by rw [List.length_map] at hi ⊢; omega) fun q H5 e5 hq => ?_⟩
    have ej : inV (.str n) ((cs.take i).map V.str) = false := by
      rw [inV_str]
      exact decide_eq_false fun z => by
        have q := C.nd.sublist (List.take_sublist (i + 1) _)
        rw [List.take_add_one, hn, List.nodup_append] at q
        exact q.2.2 n z n (by simp) rfl
    rw [← List.map_take] at hq
    refine ⟨q, _, rfl, hq.imp sq_of st_of, rfl, fl _, false, (by show V.bl (inV (.str n) ((cs.take i).map V.str)) = _; rw [ej]), iteF ?_⟩
    exact ⟨_, _, rfl, e24.trans e5⟩
abbrev s_instruments_at : Stmt := top 33
theorem sc_instruments_at : FnScope ["box", "chosen", "post", "instruments", "name", "one"] ["box", "chosen", "post"] (defScope s_instruments_at) := ⟨rfl, rfl, rfl, by decide +kernel, rfl, by decide +kernel, by decide +kernel⟩
/-- the post of an instrument -/
def poOf (H : Hp) : V → V
  | .ref a => (match H a with
    | some (.ins _ _ fs) => (fs.lookup ("_post" : Str)).getD .non
    | _ => .non)
  | _ => .non
theorem poOf_at {CS CL : Addr} {H : Hp} {v : V} {r : Ins} (h : InsAt CS CL H v r) : poOf H v = .int r.po := by
  obtain ⟨a, dx, d, rfl, ⟨_, h1, _⟩ | ⟨_, h1, _⟩⟩ := h
  · show (match H a with
    | some (.ins _ _ fs) => (fs.lookup ("_post" : Str)).getD .non
    | _ => .non) = _
    rw [h1]
    show ((lf r.nm r.po d r.co).lookup ("_post" : Str)).getD .non = _
    rw [lf2]
    rfl
  · show (match H a with
    | some (.ins _ _ fs) => (fs.lookup ("_post" : Str)).getD .non
    | _ => .non) = _
    rw [h1]
    show ((sf r.nm r.po d r.co).lookup ("_post" : Str)).getD .non = _
    rw [sf2]
    rfl
theorem prd_filter {α β : Type} {F : α → β → Prop} {f : α → Bool} {g : β → Bool} (h : ∀ a b, F a b → f a = g b) : ∀ {xs : List α} {ys : List β}, Paired F xs ys → Paired F (xs.filter f) (ys.filter g)
  | _, _, .nil => .nil
  | _, _, .cons (a := a) (b := b) q r => by
    rw [List.filter_cons, List.filter_cons, h _ _ q]
    cases g b with
    | true => exact .cons q (prd_filter h r)
    | false => exact prd_filter h r
theorem prd_map2 {α β γ : Type} {F : β → γ → Prop} {f : α → β} {g : α → γ} : ∀ {l : List α}, (∀ a ∈ l, F (f a) (g a)) → Paired F (l.map f) (l.map g)
  | [], _ => .nil
  | a :: l, h => .cons (h a List.mem_cons_self) (prd_map2 fun b hb => h b (List.mem_cons_of_mem _ hb))
def spInsAt (CB CS CL : Addr) : Sp := fun vs H Q _ => ∃ (b c : Addr) (po : Int) (rs : List Ins) (cs : List Str), vs = [.ref b, .ref c, .int po] ∧ BoxAt CB CS CL H b rs ∧ Rows rs ∧ SqX H c (cs.map V.str) ∧ Cs rs cs ∧
  ∀ (L : Addr) xs H', Ex H H' → H' L = some (.lst xs) → Paired (InsAt CS CL H') xs (selP rs cs po) → Q (.ref L) H'
theorem ok_ins_at {C_Box C_Sensor C_Lock : Addr} (G : Gz mg) (T : ICl K mg C_Sensor C_Lock) (I : IPr P w K mg base C_Sensor C_Lock) (O : BOps P w K mg base C_Box C_Sensor C_Lock) (D : Df K mg "instruments_at" s_instruments_at f fd ["box", "chosen", "post"]) : Callee P w K mg base CXn 4 "instruments_at" 3 (spInsAt C_Box C_Sensor C_Lock) := by
  have cls_Sensor := T.clS
  have cls_Lock := T.clL
  obtain ⟨p1, f1, fd1, p_post, F_post, b_post⟩ := I.postS
  obtain ⟨p2, f2, fd2, p_postL, F_postL, b_postL⟩ := I.postL
  obtain ⟨g1, fd3, O_Box, F_getitem, b_getitem⟩ := O.item
  refine D.callee (D.fn.ok sc_instruments_at (fun vs H Q E h => ?_) (fun cdv A outer s H vs Q E hr h => ⟨_, PSs.nox (pss_cons (ps_setLc (i := 3) (y := "instruments") (own := [("name", 4)]) rfl sc_instruments_at.nd rfl rfl rfl (pi_list (pe_callB (cr_or (cr_sortD PyData.str hr.units) (cr_sortDT PyData.str rfl hr.units)) rfl G.g_sorted (by rfl) (pa_cons (pv 1) pa_nil))) (BlkOk.mk (N := ["box", "chosen", "post", "instruments", "name", "one"]) (sc := defScope s_instruments_at) rfl (by decide +kernel) (by decide +kernel) (by decide +kernel) (by decide +kernel)) (fun _ _ _ _ _ => (pg_name (i := 4) sc_instruments_at.nd rfl (Or.inl rfl))) (fun _ _ _ _ _ => pts_nil) (fun _ _ _ _ _ => (pe_ownIx (E := En) O_Box F_getitem (hr.mono (by decide)) b_getitem passN (pv 0) (pv 4) (fun _ _ => rfl)))) (pss_one (ps_ret (pe_lc (own := [("one", 5)]) rfl sc_instruments_at.nd (pi_list (pv 3)) (BlkOk.mk (N := ["box", "chosen", "post", "instruments", "name", "one"]) (sc := defScope s_instruments_at) rfl (by decide +kernel) (by decide +kernel) (by decide +kernel) (by decide +kernel)) (fun _ _ _ _ _ => (pg_name (i := 5) sc_instruments_at.nd rfl (Or.inl rfl))) (fun _ _ _ _ _ => (pts_one (pt_cmpR op_eq (WW.pe_or (pe_prop (E := En) (pv 5) cls_Sensor p_post F_post (hr.mono (by decide)) b_post .nil passN rfl) (pe_prop (E := En) (pv 5) cls_Lock p_postL F_postL (hr.mono (by decide)) b_postL .nil passN rfl)) (pv 2) (nomark _)))) (fun _ _ _ _ _ => (pv 5)))))), ?_⟩))
  · obtain ⟨_, _, _, _, _, rfl, _⟩ := h
    rfl
  · obtain ⟨b, c, po, rs, cs, rfl, ⟨dx, t, kvs, h1, h2, h3, h4⟩, R, hc, C, k⟩ := h
    have c6 := C.len R
    refine ⟨_, rfl, ?_⟩
    dsimp only [tNil]
    refine sortX_go (K := K) hc fun L hL => ?_
    have e1 : Ex H (upd H L (.lst ((sortS cs).map V.str))) := Ex.new hL
    have hL1 : upd H L (.lst ((sortS cs).map V.str)) L = some (.lst ((sortS cs).map V.str)) := upd_same
    generalize upd H L (.lst ((sortS cs).map V.str)) = H1 at e1 hL1
    refine ⟨L, rfl, ⟨_, sq_of hL1⟩, fun N hN => ?_⟩
    refine lc_ev (f := fun _ => true) (v := valAt kvs) (st_l (K := K) (sq_of hL1)) (by rw [List.length_map, sortS_len]; omega) (fun x => rfl) hN (fun x _ H2 e Q q => q H2 (Ex.refl _)) (fun x hx _ H2 e Q q => ?_) (fun H2 e2 hN2 => ?_)
    · obtain ⟨n, hn, rfl⟩ := List.mem_map.mp hx
      obtain ⟨mr, en⟩ := C.get R (sortS_mem.mp hn)
      obtain ⟨v, hv, g⟩ := h4 _ mr
      rw [en] at hv
      have q1 := fun H3 e3 => q H3 e3
      rw [show valAt kvs (.str n) = v by show (valV kvs (.inr n)).getD .non = v; rw [hv]; rfl] at q1
      exact ⟨_, rfl, _, rfl, b, dx, _, rfl, (e1.trans e) _ _ h1, b, n, dx, t, kvs, v, rfl, (e1.trans e) _ _ h1, (e1.trans e) _ _ h2, en ▸ (R.ok _ mr).nm, hv, q1⟩
    rw [List.filter_eq_self.mpr (fun _ _ => rfl)] at hN2
    have E2 := e1.trans e2
    have pr : Paired (InsAt C_Sensor C_Lock H2) (((sortS cs).map V.str).map (valAt kvs)) (inOrder rs cs) := by
      rw [List.map_map]
      refine prd_map2 fun n hn => ?_
      obtain ⟨mr, en⟩ := C.get R (sortS_mem.mp hn)
      obtain ⟨v, hv, g⟩ := h4 _ mr
      rw [en] at hv
      show InsAt C_Sensor C_Lock H2 ((valV kvs (.inr n)).getD .non) _
      rw [hv]
      exact g.ex E2
    generalize hys : ((sortS cs).map V.str).map (valAt kvs) = ys at hN2 pr
    have yl : ys.length ≤ 6 := by rw [← hys, List.length_map, List.length_map, sortS_len]; exact c6
    refine ⟨_, rfl, N, rfl, ⟨_, sq_of hN2⟩, fun N2 nN2 => ?_⟩
    refine lc_ev (f := fun x => decide (poOf H2 x = V.int po)) (v := fun x => x) (st_l (K := K) (sq_of hN2)) (by omega) (fun x => rfl) nN2 (fun x hx H3 e Q q => ?_) (fun x _ _ H3 e Q q => ⟨_, rfl, q H3 (Ex.refl _)⟩) (fun H3 e3 hN3 => ?_)
    · obtain ⟨i, hi⟩ := List.getElem?_of_mem hx
      obtain ⟨r, hr0, g⟩ := prd_at pr hi
      have q1 := q H3 (Ex.refl _)
      rw [show poOf H2 x = .int r.po from poOf_at g] at q1
      exact post_or rfl (g.ex e) ⟨_, rfl, rfl, _, rfl, q1⟩
    rw [List.map_id'] at hN3
    refine k N2 _ H3 (E2.trans e3) hN3 (Paired.mapP (prd_filter (fun a r g => ?_) pr) fun _ _ z => z.ex e3)
    rw [poOf_at g]
end
end WK

set_option Elab.async false
set_option linter.all false
set_option maxRecDepth 100000
set_option maxHeartbeats 4000000
namespace WK
open PySem PySem.Spec PyProof.Rows L2 WW Evl
/-- an instance of the class at C -/
def ofC (C : Addr) (H : Hp) : V → Bool
  | .ref a => (match H a with
    | some (.ins D _ _) => decide (D = C)
    | _ => false)
  | _ => false
theorem ofC_at {C D : Addr} {H : Hp} {a dx : Addr} {fs : List (Str × V)} (h : H a = some (.ins D dx fs)) : ofC C H (.ref a) = decide (D = C) := by
  show (match H a with
    | some (.ins D _ _) => decide (D = C)
    | _ => false) = _
  rw [h]
theorem ICl.ne {K : PySem.W.Frag} {mg : Str → Option Value} {CS CL : Addr} (T : ICl K mg CS CL) : CS ≠ CL := fun z => by
  have h1 := T.kSS
  have h2 := T.kSL
  rw [← z, h1] at h2
  cases h2
theorem InsAt.ofS {K : PySem.W.Frag} {mg : Str → Option Value} {CS CL : Addr} (T : ICl K mg CS CL) {H : Hp} {v : V} {r : Ins} (h : InsAt CS CL H v r) : ofC CS H v = !r.lk := by
  obtain ⟨a, dx, d, rfl, ⟨z, h1, _⟩ | ⟨z, h1, _⟩⟩ := h
  · rw [ofC_at h1, z, decide_eq_false T.ne.symm]; rfl
  · rw [ofC_at h1, z, decide_eq_true rfl]; rfl
theorem InsAt.ofL {K : PySem.W.Frag} {mg : Str → Option Value} {CS CL : Addr} (T : ICl K mg CS CL) {H : Hp} {v : V} {r : Ins} (h : InsAt CS CL H v r) : ofC CL H v = r.lk := by
  obtain ⟨a, dx, d, rfl, ⟨z, h1, _⟩ | ⟨z, h1, _⟩⟩ := h
  · rw [ofC_at h1, z, decide_eq_true rfl]
  · rw [ofC_at h1, z, decide_eq_false T.ne]
/-- nothing but None -/
def allNon (zs : List V) : Bool := zs.all fun x => decide (x = .non)
/-- what an instrument shows for the word -/
def look (w : Str) (r : Ins) : V := (valV r.tab (.inr w)).getD .non
/-- the sight that the values zs make -/
def SeenAt (H : Hp) (v : V) (zs : List V) : Prop := (allNon zs = true ∧ v = .non) ∨ (allNon zs = false ∧ ∃ a, v = .ref a ∧ H a = some (.tup zs))
theorem SeenAt.ex {H H' : Hp} {v : V} {zs : List V} (e : Ex H H') (h : SeenAt H v zs) : SeenAt H' v zs := h.imp id fun ⟨a, b, c, d⟩ => ⟨a, b, c, e _ _ d⟩
def sens (rs : List Ins) (cs : List Str) (po : Int) : List Ins := (selP rs cs po).filter fun r => !r.lk
def lcks (rs : List Ins) (cs : List Str) (po : Int) : List Ins := (selP rs cs po).filter fun r => r.lk
theorem selP_len {rs : List Ins} {cs : List Str} {po : Int} (R : Rows rs) (C : Cs rs cs) : (selP rs cs po).length ≤ 6 := by
  refine Nat.le_trans (List.length_filter_le _ _) ?_
  unfold inOrder
  rw [List.length_map, sortS_len]
  exact C.len R
theorem sens_len {rs : List Ins} {cs : List Str} {po : Int} (R : Rows rs) (C : Cs rs cs) : (sens rs cs po).length ≤ 6 := Nat.le_trans (List.length_filter_le _ _) (selP_len R C)
theorem lcks_len {rs : List Ins} {cs : List Str} {po : Int} (R : Rows rs) (C : Cs rs cs) : (lcks rs cs po).length ≤ 6 := Nat.le_trans (List.length_filter_le _ _) (selP_len R C)
section
variable {P : Program} {w : World} {K : PySem.W.Frag} {mg : Str → Option Value} {base : Heap} {f : Addr} {fd : FuncData}
abbrev s_sensors_at : Stmt := top 31
theorem sc_sensors_at : FnScope ["box", "chosen", "post", "one"] ["box", "chosen", "post"] (defScope s_sensors_at) := ⟨rfl, rfl, rfl, by decide +kernel, rfl, by decide +kernel, by decide +kernel⟩
def spSensAt (CB CS CL : Addr) : Sp := fun vs H Q _ => ∃ (b c : Addr) (po : Int) (rs : List Ins) (cs : List Str), vs = [.ref b, .ref c, .int po] ∧ BoxAt CB CS CL H b rs ∧ Rows rs ∧ SqX H c (cs.map V.str) ∧ Cs rs cs ∧
  ∀ (L : Addr) xs H', Ex H H' → H' L = some (.lst xs) → Paired (InsAt CS CL H') xs (sens rs cs po) → Q (.ref L) H'
theorem ok_sens_at {C_Box C_Sensor C_Lock : Addr} (G : Gz mg) (T : ICl K mg C_Sensor C_Lock) (D : Df K mg "sensors_at" s_sensors_at f fd ["box", "chosen", "post"]) (c_instruments_at : Callee P w K mg base CXn 4 "instruments_at" 3 (spInsAt C_Box C_Sensor C_Lock)) : Callee P w K mg base CXn 5 "sensors_at" 3 (spSensAt C_Box C_Sensor C_Lock) := by
  have g_Sensor := T.atS
  refine D.callee (D.fn.ok sc_sensors_at (fun vs H Q E h => ?_) (fun cdv A outer s H vs Q E hr h => ⟨_, PSs.nox (pss_one (ps_ret (pe_lc (own := [("one", 3)]) rfl sc_sensors_at.nd (pi_list (pe_cl (E := En) c_instruments_at (hr.mono (by decide)) rfl passN (pa_cons (pv 0) (pa_cons (pv 1) (pa_cons (pv 2) pa_nil))))) (BlkOk.mk (N := ["box", "chosen", "post", "one"]) (sc := defScope s_sensors_at) rfl (by decide +kernel) (by decide +kernel) (by decide +kernel) (by decide +kernel)) (fun _ _ _ _ _ => (pg_name (i := 3) sc_sensors_at.nd rfl (Or.inl rfl))) (fun _ _ _ _ _ => (pts_one (pt_val (pe_callB (isiK (K := K) rfl) rfl G.g_isinstance (by rfl) (pa_cons (pv 3) (pa_cons (pe_glob (v := .ref C_Sensor) rfl g_Sensor rfl) pa_nil)))))) (fun _ _ _ _ _ => (pv 3))))), ?_⟩))
  · obtain ⟨_, _, _, _, _, rfl, _⟩ := h
    rfl
  · obtain ⟨b, c, po, rs, cs, rfl, hb, R, hc, C, k⟩ := h
    refine ⟨_, rfl, _, rfl, _, rfl, b, c, po, rs, cs, rfl, hb, R, hc, C, fun L xs H1 e1 hL pr => ⟨L, rfl, ⟨_, sq_of hL⟩, fun N nN => ?_⟩⟩
    have xl := Paired.length pr
    have x6 := selP_len (po := po) R C
    refine lc_ev (f := ofC C_Sensor H1) (v := fun x => x) (st_l (K := K) (sq_of hL)) (by omega) (fun x => rfl) nN (fun x hx H3 e Q q => ?_) (fun x _ _ H3 e Q q => ⟨_, rfl, q H3 (Ex.refl _)⟩) (fun H3 e3 hN3 => ?_)
    · obtain ⟨i, hi⟩ := List.getElem?_of_mem hx
      obtain ⟨r, hr0, g⟩ := prd_at pr hi
      have q1 := q H3 (Ex.refl _)
      rw [g.ofS T] at q1
      obtain ⟨a, dx, d, rfl, ⟨z, h1, _⟩ | ⟨z, h1, _⟩⟩ := g.ex e
      · rw [z] at q1
        exact ⟨_, rfl, .ref a, .ref C_Sensor, .ref C_Lock, .ref C_Sensor, false, rfl, .own _, .base (T.isaL _ _ _ _ h1), T.kLS, _, rfl, q1⟩
      · rw [z] at q1
        exact ⟨_, rfl, .ref a, .ref C_Sensor, .ref C_Sensor, .ref C_Sensor, true, rfl, .own _, .base (T.isaS _ _ _ _ h1), T.kSS, _, rfl, q1⟩
    rw [List.map_id'] at hN3
    exact k N _ H3 (e1.trans e3) hN3 (Paired.mapP (prd_filter (fun a r g => g.ofS T) pr) fun _ _ z => z.ex e3)
abbrev s_locks_at : Stmt := top 32
theorem sc_locks_at : FnScope ["box", "chosen", "post", "one"] ["box", "chosen", "post"] (defScope s_locks_at) := ⟨rfl, rfl, rfl, by decide +kernel, rfl, by decide +kernel, by decide +kernel⟩
def spLckAt (CB CS CL : Addr) : Sp := fun vs H Q _ => ∃ (b c : Addr) (po : Int) (rs : List Ins) (cs : List Str), vs = [.ref b, .ref c, .int po] ∧ BoxAt CB CS CL H b rs ∧ Rows rs ∧ SqX H c (cs.map V.str) ∧ Cs rs cs ∧
  ∀ (L : Addr) xs H', Ex H H' → H' L = some (.lst xs) → Paired (InsAt CS CL H') xs (lcks rs cs po) → Q (.ref L) H'
theorem ok_lck_at {C_Box C_Sensor C_Lock : Addr} (G : Gz mg) (T : ICl K mg C_Sensor C_Lock) (D : Df K mg "locks_at" s_locks_at f fd ["box", "chosen", "post"]) (c_instruments_at : Callee P w K mg base CXn 4 "instruments_at" 3 (spInsAt C_Box C_Sensor C_Lock)) : Callee P w K mg base CXn 5 "locks_at" 3 (spLckAt C_Box C_Sensor C_Lock) := by
  have g_Lock := T.atL
  refine D.callee (D.fn.ok sc_locks_at (fun vs H Q E h => ?_) (fun cdv A outer s H vs Q E hr h => ⟨_, PSs.nox (pss_one (ps_ret (pe_lc (own := [("one", 3)]) rfl sc_locks_at.nd (pi_list (pe_cl (E := En) c_instruments_at (hr.mono (by decide)) rfl passN (pa_cons (pv 0) (pa_cons (pv 1) (pa_cons (pv 2) pa_nil))))) (BlkOk.mk (N := ["box", "chosen", "post", "one"]) (sc := defScope s_locks_at) rfl (by decide +kernel) (by decide +kernel) (by decide +kernel) (by decide +kernel)) (fun _ _ _ _ _ => (pg_name (i := 3) sc_locks_at.nd rfl (Or.inl rfl))) (fun _ _ _ _ _ => (pts_one (pt_val (pe_callB (isiK (K := K) rfl) rfl G.g_isinstance (by rfl) (pa_cons (pv 3) (pa_cons (pe_glob (v := .ref C_Lock) rfl g_Lock rfl) pa_nil)))))) (fun _ _ _ _ _ => (pv 3))))), ?_⟩))
  · obtain ⟨_, _, _, _, _, rfl, _⟩ := h
    rfl
  · obtain ⟨b, c, po, rs, cs, rfl, hb, R, hc, C, k⟩ := h
    refine ⟨_, rfl, _, rfl, _, rfl, b, c, po, rs, cs, rfl, hb, R, hc, C, fun L xs H1 e1 hL pr => ⟨L, rfl, ⟨_, sq_of hL⟩, fun N nN => ?_⟩⟩
    have xl := Paired.length pr
    have x6 := selP_len (po := po) R C
    have kSL := T.kSL
    refine lc_ev (f := ofC C_Lock H1) (v := fun x => x) (st_l (K := K) (sq_of hL)) (by omega) (fun x => rfl) nN (fun x hx H3 e Q q => ?_) (fun x _ _ H3 e Q q => ⟨_, rfl, q H3 (Ex.refl _)⟩) (fun H3 e3 hN3 => ?_)
    · obtain ⟨i, hi⟩ := List.getElem?_of_mem hx
      obtain ⟨r, hr0, g⟩ := prd_at pr hi
      have q1 := q H3 (Ex.refl _)
      rw [g.ofL T] at q1
      obtain ⟨a, dx, d, rfl, ⟨z, h1, _⟩ | ⟨z, h1, _⟩⟩ := g.ex e
      · rw [z] at q1
        exact ⟨_, rfl, .ref a, .ref C_Lock, .ref C_Lock, .ref C_Lock, true, rfl, .own _, .base (T.isaL _ _ _ _ h1), T.kLL, _, rfl, q1⟩
      · rw [z] at q1
        exact ⟨_, rfl, .ref a, .ref C_Lock, .ref C_Sensor, .ref C_Lock, false, rfl, .own _, .base (T.isaS _ _ _ _ h1), T.kSL, _, rfl, q1⟩
    rw [List.map_id'] at hN3
    exact k N _ H3 (e1.trans e3) hN3 (Paired.mapP (prd_filter (fun a r g => g.ofL T) pr) fun _ _ z => z.ex e3)
abbrev s_sight_by : Stmt := top 38
theorem sc_sight_by : FnScope ["sensors", "word", "shown", "sensor", "sight"] ["sensors", "word"] (defScope s_sight_by) := ⟨rfl, rfl, rfl, by decide +kernel, rfl, by decide +kernel, by decide +kernel⟩
def spSightBy (CS CL : Addr) : Sp := fun vs H Q _ => ∃ (L : Addr) (z : Str) (xs : List V) (is : List Ins), vs = [.ref L, .str z] ∧ H L = some (.lst xs) ∧ Paired (InsAt CS CL H) xs is ∧ (∀ r ∈ is, r.lk = false) ∧ is.length ≤ 6 ∧ ∀ v H', Ex H H' → SeenAt H' v (is.map (look z)) → Q v H'
theorem ok_sight_by {C_Sensor C_Lock : Addr} (G : Gz mg) (T : ICl K mg C_Sensor C_Lock) (I : IPr P w K mg base C_Sensor C_Lock) (D : Df K mg "sight_by" s_sight_by f fd ["sensors", "word"]) : Callee P w K mg base CXn 3 "sight_by" 2 (spSightBy C_Sensor C_Lock) := by
  have cls_Sensor := T.clS
  obtain ⟨p1, f1, fd1, p_sights, F_sights, b_sights⟩ := I.sights
  refine D.callee (D.fn.ok sc_sight_by (fun vs H Q E h => ?_) (fun cdv A outer s H vs Q E hr h => ⟨_, PSs.nox (pss_cons (ps_set (i := 2) sc_sight_by.nd rfl (Or.inl rfl) (pe_callTy (tupOfK (K := K) rfl) rfl G.g_tuple (by rfl) (pa_cons (pe_lc (own := [("sensor", 3)]) rfl sc_sight_by.nd (pi_list (pv 0)) (BlkOk.mk (N := ["sensors", "word", "shown", "sensor", "sight"]) (sc := defScope s_sight_by) rfl (by decide +kernel) (by decide +kernel) (by decide +kernel) (by decide +kernel)) (fun _ _ _ _ _ => (pg_name (i := 3) sc_sight_by.nd rfl (Or.inl rfl))) (fun _ _ _ _ _ => pts_nil) (fun _ _ _ _ _ => (pe_dget1 (room1 hr) (pe_prop (E := En) (pv 3) cls_Sensor p_sights F_sights (hr.mono (by decide)) b_sights .nil passN rfl) (pv 1) ⟨rfl, rfl, rfl, rfl⟩))) pa_nil))) (pss_one (ps_ret (pe_ifExp (pt_val (pe_callB (cr_all rfl) rfl G.g_all (by rfl) (pa_cons (pe_lc (own := [("sight", 4)]) rfl sc_sight_by.nd (pi_tup (pv 2)) (BlkOk.mk (N := ["sensors", "word", "shown", "sensor", "sight"]) (sc := defScope s_sight_by) rfl (by decide +kernel) (by decide +kernel) (by decide +kernel) (by decide +kernel)) (fun _ _ _ _ _ => (pg_name (i := 4) sc_sight_by.nd rfl (Or.inl rfl))) (fun _ _ _ _ _ => pts_nil) (fun _ _ _ _ _ => (pe_cmpR op_isN (pv 4) pe_non (nomark _)))) pa_nil))) pe_non (pv 2))))), ?_⟩))
  · obtain ⟨_, _, _, _, rfl, _⟩ := h
    rfl
  · obtain ⟨L, z, xs, is, rfl, hL, pr, lks, l6, k⟩ := h
    have xl := Paired.length pr
    refine ⟨_, rfl, L, rfl, ⟨_, sq_of hL⟩, fun N hN => ?_⟩
    have S := st_l (K := K) (sq_of hL)
    refine lc_walk (n := xs.length) (fun i => ((is[i]?).map (look z)).getD .non) (by omega) (fun i H' e hi => S.go i H' e hi) (fun H' e => S.stop H' e) hN (fun i H' x H'' e hi y N M q => ?_) (fun H1 e1 hN1 => ?_)
    · obtain ⟨rfl, hx⟩ := S.yld i H' x H'' e hi y
      obtain ⟨r, hr0, g⟩ := prd_at pr hx
      have lk := lks r (List.mem_of_getElem? hr0)
      have g2 := g.ex e
      obtain ⟨a, dx, d, rfl, ⟨zz, _⟩ | ⟨_, h1, _⟩⟩ := id g2
      · rw [lk] at zz
        cases zz
      rw [hr0] at q
      refine ⟨rfl, _, rfl, a, dx, _, rfl, h1, .ref a, r, rfl, g2, lk, fun D kvs H4 e4 hD hl hv => ⟨D, rfl, .inl ⟨kvs, .inl hD⟩, _, rfl, valV kvs (.inr z), .inl ⟨kvs, .inr z, .inl hD, rfl, rfl⟩, ?_⟩⟩
      rw [hv z]
      exact q H4 e4
    have el : (List.range xs.length).map (fun i => ((is[i]?).map (look z)).getD .non) = is.map (look z) := by
      refine List.ext_getElem? fun i => ?_
      rw [List.getElem?_map, List.getElem?_map]
      by_cases hi : i < xs.length
      · have hj : i < is.length := by omega
        rw [List.getElem?_range hi, List.getElem?_eq_getElem hj]
        show some (((is[i]?).map (look z)).getD .non) = some (look z is[i])
        rw [List.getElem?_eq_getElem hj]
        rfl
      · rw [List.getElem?_eq_none (by rw [List.length_range]; omega), List.getElem?_eq_none (by omega)]
        rfl
    rw [el] at hN1
    dsimp only [tNil]
    refine tupof_go (K := K) (.inl hN1) fun tp H2 e2 htp => ?_
    have e12 := e1.trans e2
    generalize hzs : is.map (look z) = zs at hN1 htp k
    have zl : zs.length ≤ 6 := by rw [← hzs, List.length_map]; exact l6
    refine ⟨_, rfl, tp, rfl, ⟨_, st_of htp⟩, fun N2 nN2 => ?_⟩
    refine lc_ev (f := fun _ => true) (v := fun x => .bl (decide (x = .non))) (st_t (K := K) (st_of htp)) (by omega) (fun x => rfl) nN2 (fun x _ H3 e Q q => q H3 (Ex.refl _)) (fun x hx _ H3 e Q q => ⟨_, rfl, rfl, q H3 (Ex.refl _)⟩) (fun H3 e3 hN3 => ?_)
    rw [List.filter_eq_self.mpr (fun _ _ => rfl)] at hN3
    refine ⟨N2, zs.map fun x => decide (x = .non), rfl, sq_of (by rw [hN3, List.map_map]; rfl), ?_⟩
    have eal : (zs.map fun x => decide (x = .non)).all id = allNon zs := by unfold allNon; rw [List.all_map]; rfl
    rw [eal]
    have E3 := e12.trans e3
    refine ⟨_, rfl, ?_⟩
    cases ha : allNon zs with
    | true => exact k .non H3 E3 (.inl ⟨ha, rfl⟩)
    | false => exact ⟨_, rfl, k (.ref tp) H3 E3 (.inr ⟨ha, tp, rfl, e3 _ _ htp⟩)⟩
end
end WK

set_option Elab.async false
set_option linter.all false
set_option maxRecDepth 100000
set_option maxHeartbeats 4000000
namespace WK
open PySem PySem.Spec PyProof.Rows L2 WW Evl
/-- a list, told at K -/
theorem pi_listK {X : Cx} {K : PySem.W.Frag} {tg e : Expr} {ta : TE} (h : X.K = K) (ha : PE X e ta) : PI X tg e (iList K ta) := by
  subst h
  exact pi_list ha
theorem added_iff {ks ks' : List Str} {c k : Str} (h : Added ks c ks') : k ∈ ks' ↔ k ∈ ks ∨ k = c := by
  rcases h with ⟨m, rfl⟩ | ⟨n, p⟩
  · exact ⟨.inl, fun z => z.elim id fun z => z ▸ m⟩
  · rw [p.mem_iff, List.mem_cons]
    exact ⟨fun z => z.elim .inr .inl, fun z => z.elim .inr .inl⟩
theorem added_nd {ks ks' : List Str} {c : Str} (nd : ks.Nodup) (h : Added ks c ks') : ks'.Nodup := by
  rcases h with ⟨_, rfl⟩ | ⟨n, p⟩
  · exact nd
  · exact p.nodup_iff.mpr (List.nodup_cons.mpr ⟨n, nd⟩)
section
variable {P : Program} {w : World} {K : PySem.W.Frag} {J : It} {H : Hp} {xs : List V} {D : Addr} {σ : L2.St} {vs us : List Nat} {j l : Nat} {wi' : TI} {te : TE} {Q : Hp → Prop}
/-- {y for x in xs for y in its texts} -/
theorem set2_ev (ws : V → List Str) (U : List Str) (hU : ∀ x ∈ xs, ∀ z ∈ ws x, z ∈ U) (hz : U.length < 1000) (S : Steady J H xs) (hD : H D = none)
    (hw : ∀ x, wipe ((wipe σ vs).set j (some x)) vs = wipe σ vs) (hw' : ∀ x y, wipe ((wipe ((wipe σ vs).set j (some x)) us).set l (some y)) us = wipe ((wipe σ vs).set j (some x)) us)
    (hin : ∀ x ∈ xs, ∀ H1, Ex H H1 → ∀ R : It → Hp → Prop, (∀ a H2, Ex H1 H2 → H2 a = some (.lst ((ws x).map V.str)) → R (Itl K a) H2) → wi' ((wipe σ vs).set j (some x)) H1 R)
    (he : ∀ x y H1, Ev te ((wipe ((wipe σ vs).set j (some x)) us).set l (some y)) H1 y)
    (q : ∀ H' ks, Ex H H' → ks.Nodup → (∀ k, k ∈ ks ↔ ∃ x ∈ xs, k ∈ ws x) → H' D = some (SSO P w D ks) → Q H') :
    ∃ W : Nat → Nat → Hp → Prop, (∃ m, W 0 m (upd H D (SSO P w D []))) ∧ ∀ i m H2, W i m H2 → (J.stop i H2 ∧ Q H2) ∨
    (J.go i H2 ∧ ∃ Nx : Hp → Prop, (∀ H', Nx H' → ∃ m', m' < m ∧ W (i + 1) m' H') ∧ ∀ x H', J.yld i H2 x H' → gName j x (wipe σ vs) H' fun σ3 H3 => wipe σ3 vs = wipe σ vs ∧
      tYes σ3 H3 fun b H4 => if b = true then wi' σ3 H4 fun J' H5 => ∃ W' : Nat → Nat → Hp → Prop, (∃ m, W' 0 m H5) ∧ ∀ j' k H6, W' j' k H6 → (J'.stop j' H6 ∧ Nx H6) ∨
        (J'.go j' H6 ∧ ∃ Ny : Hp → Prop, (∀ H', Ny H' → ∃ k', k' < k ∧ W' (j' + 1) k' H') ∧ ∀ y H', J'.yld j' H6 y H' → gName l y (wipe σ3 us) H' fun σ7 H7 => wipe σ7 us = wipe σ3 us ∧
          tYes σ7 H7 fun b H8 => if b = true then te σ7 H8 fun z H9 => addS P w z D H9 Ny else Ny H8)
      else Nx H4) := by
  refine ⟨fun i m H' => m = xs.length - i ∧ i ≤ xs.length ∧ Ex H H' ∧ ∃ ks, ks.Nodup ∧ (∀ k, k ∈ ks ↔ ∃ x ∈ xs.take i, k ∈ ws x) ∧ H' D = some (SSO P w D ks), ⟨xs.length, by simp, Nat.zero_le _, Ex.new hD, [], List.nodup_nil, by simp, upd_same⟩, ?_⟩
  rintro i m H2 ⟨rfl, hi, e, ks, nd, hm, hd⟩
  by_cases hlt : i < xs.length
  · refine .inr ⟨S.go i H2 e hlt, fun H' => Ex H H' ∧ ∃ ks, ks.Nodup ∧ (∀ k, k ∈ ks ↔ ∃ x ∈ xs.take (i + 1), k ∈ ws x) ∧ H' D = some (SSO P w D ks), fun H' ⟨e1, k1⟩ => ⟨xs.length - (i + 1), by omega, rfl, hlt, e1, k1⟩, fun x H'' y => ?_⟩
    obtain ⟨e1, hx⟩ := S.yld i H2 x H'' e hlt y
    subst e1
    have mx : x ∈ xs := List.mem_of_getElem? hx
    refine ⟨hw x, ?_⟩
    unfold tYes
    show wi' _ _ _
    refine hin x mx _ e _ fun a H5 e5 ha => ?_
    have ex5 := e.trans e5
    have hd5 := e5 _ _ hd
    have naD : a ≠ D := fun z => by rw [z, hd5] at ha; cases ha
    refine ⟨fun j' k H6 => k = (ws x).length - j' ∧ j' ≤ (ws x).length ∧ Ex H H6 ∧ H6 a = some (.lst ((ws x).map V.str)) ∧ ∃ ks, ks.Nodup ∧ (∀ k, k ∈ ks ↔ (∃ x ∈ xs.take i, k ∈ ws x) ∨ k ∈ (ws x).take j') ∧ H6 D = some (SSO P w D ks), ⟨_, rfl, Nat.zero_le _, ex5, ha, ks, nd, fun k => by rw [hm k]; simp, hd5⟩, ?_⟩
    rintro j' k H6 ⟨rfl, hj, e6, ha6, ls, nl, hl, hd6⟩
    by_cases hjt : j' < (ws x).length
    · refine .inr ⟨⟨_, .str (ws x)[j'], sq_of ha6, by rw [List.getElem?_map, List.getElem?_eq_getElem hjt]; rfl⟩, fun H' => Ex H H' ∧ H' a = some (.lst ((ws x).map V.str)) ∧ ∃ ks, ks.Nodup ∧ (∀ k, k ∈ ks ↔ (∃ x ∈ xs.take i, k ∈ ws x) ∨ k ∈ (ws x).take (j' + 1)) ∧ H' D = some (SSO P w D ks), fun H' ⟨e1, a1, k1⟩ => ⟨(ws x).length - (j' + 1), by omega, rfl, hjt, e1, a1, k1⟩, fun y H7 yy => ?_⟩
      obtain ⟨e7, hy⟩ := yy
      subst e7
      have hy2 := hy _ (sq_of ha6)
      rw [List.getElem?_map, List.getElem?_eq_getElem hjt] at hy2
      cases hy2
      refine ⟨hw' x _, ?_⟩
      show te _ _ _
      refine he x _ _ _ (Ex.refl _) _ fun H9 e9 => ?_
      have subU : ∀ k ∈ ls, k ∈ U := fun k hk => by
        rcases (hl k).mp hk with ⟨x', mx', hk'⟩ | hk'
        · exact hU x' (List.mem_of_mem_take mx') k hk'
        · exact hU x mx k (List.mem_of_mem_take hk')
      have ll := pigeon ls U nl subU
      refine ⟨_, ls, rfl, e9 _ _ hd6, ?_, fun ls' ad => ⟨(e6.trans e9).mut hD, by rw [upd_ne naD]; exact e9 _ _ ha6, ls', added_nd nl ad, fun k => ?_, upd_same⟩⟩
      · have : (1002 : Nat) ≤ scanBound := by decide
        omega
      · rw [added_iff ad, hl k, List.take_add_one, List.getElem?_eq_getElem hjt, List.mem_append, or_assoc]
        simp
    · have ej : j' = (ws x).length := by omega
      subst ej
      refine .inl ⟨⟨_, sq_of ha6, by rw [List.length_map]; exact Nat.le_refl _⟩, e6, ls, nl, fun k => ?_, hd6⟩
      rw [hl k, List.take_length, List.take_add_one, hx]
      constructor
      · rintro (⟨x', mx', hk⟩ | hk)
        · exact ⟨x', List.mem_append_left _ mx', hk⟩
        · exact ⟨x, List.mem_append_right _ (by simp), hk⟩
      · rintro ⟨x', mx', hk⟩
        rcases List.mem_append.mp mx' with mx' | mx'
        · exact .inl ⟨x', mx', hk⟩
        · simp at mx'
          exact .inr (mx' ▸ hk)
  · have e1 : i = xs.length := by omega
    subst e1
    rw [List.take_length] at hm
    exact .inl ⟨S.stop H2 e, q H2 ks e nd hm hd⟩
end
section
variable {P : Program} {w : World} {K : PySem.W.Frag} {mg : Str → Option Value} {base : Heap} {f : Addr} {fd : FuncData}
theorem sens_lk {rs : List Ins} {cs : List Str} {po : Int} : ∀ r ∈ sens rs cs po, r.lk = false := fun r hr => by
  have := (List.mem_filter.mp hr).2
  simpa using this
theorem lcks_lk {rs : List Ins} {cs : List Str} {po : Int} : ∀ r ∈ lcks rs cs po, r.lk = true := fun r hr => (List.mem_filter.mp hr).2
theorem sel_mem {rs : List Ins} {cs : List Str} {po : Int} (R : Rows rs) (C : Cs rs cs) : ∀ r ∈ selP rs cs po, r ∈ rs := fun r hr => by
  have h1 := (List.mem_filter.mp hr).1
  obtain ⟨n, hn, rfl⟩ := List.mem_map.mp h1
  exact (C.get R (sortS_mem.mp hn)).1
abbrev s_Box_sight : Stmt := inClass (top 36) 9
theorem sc_Box_sight : FnScope ["self", "chosen", "post", "word"] ["self", "chosen", "post", "word"] (defScope s_Box_sight) := ⟨rfl, rfl, rfl, by decide +kernel, rfl, by decide +kernel, by decide +kernel⟩
def spSightG (CB CS CL CP CN : Addr) : Sp := fun vs H Q E => ∃ (b c : Addr) (vp vw : V) (rs : List Ins) (cs : List Str), vs = [.ref b, .ref c, vp, vw] ∧ BoxAt CB CS CL H b rs ∧ Rows rs ∧ SqX H c (cs.map V.str) ∧ Cs rs cs ∧ Pl H vp ∧ Pl H vw ∧ (∀ z, vw = .str z → z.length ≤ 1000) ∧
  (inB 2 vp = false → ∀ H' d, Ex H H' → H' d = none → E (.ref CP) (some d) (upd H' d (.xd [("value", vp)]))) ∧
  (inB 2 vp = true → nmB vw = false → ∀ H' d, Ex H H' → H' d = none → E (.ref CN) (some d) (upd H' d (.xd [("value", vw)]))) ∧
  (inB 2 vp = true → nmB vw = true → ∃ (po : Int) (z : Str), vp = .int po ∧ vw = .str z ∧ ∀ v H', Ex H H' → SeenAt H' v ((sens rs cs po).map (look z)) → Q v H')
theorem okg_sight {C_Box C_Sensor C_Lock CP CN : Addr} (D : FunD K "sight" "Box.sight" (defArgs s_Box_sight) (defBody s_Box_sight) (defScope s_Box_sight) [] [] f fd) (c_check_chosen : Callee P w K mg base CXn 2 "check_chosen" 2 (spCkCh C_Box C_Sensor C_Lock)) (c_check_post : Callee P w K mg base (L2.CX P w) 4 "check_post" 1 (spCkPostG CP))
    (c_check_name : Callee P w K mg base (L2.CX P w) 3 "check_name" 1 (spCkNameG CN)) (c_sensors_at : Callee P w K mg base CXn 5 "sensors_at" 3 (spSensAt C_Box C_Sensor C_Lock)) (c_sight_by : Callee P w K mg base CXn 3 "sight_by" 2 (spSightBy C_Sensor C_Lock)) :
    FnOk P w K mg base (L2.CX P w) 6 f fd ["self", "chosen", "post", "word"] (spSightG C_Box C_Sensor C_Lock CP CN) := by
  refine D.ok sc_Box_sight (fun vs H Q E h => ?_) (fun cdv A outer s H vs Q E hr h => ⟨_, (pss_cons (ps_expr (pe_cl (E := En) c_check_chosen (hr.mono (by decide)) rfl passN (pa_cons (pv 0) (pa_cons (pv 1) pa_nil)))) (pss_cons (ps_expr (pe_clS c_check_post (hr.mono (by decide)) rfl (fun σ => passAt (takes_of rfl rfl rfl rfl) σ) (pa_cons (pv 2) pa_nil))) (pss_cons (ps_expr (pe_clS c_check_name (hr.mono (by decide)) rfl (fun σ => passAt (takes_of rfl rfl rfl rfl) σ) (pa_cons (pv 3) pa_nil))) (pss_one (ps_ret (pe_cl (E := En) c_sight_by (hr.mono (by decide)) rfl passN (pa_cons (pe_cl (E := En) c_sensors_at (hr.mono (by decide)) rfl passN (pa_cons (pv 0) (pa_cons (pv 1) (pa_cons (pv 2) pa_nil)))) (pa_cons (pv 3) pa_nil)))))))), ?_⟩)
  · obtain ⟨_, _, _, _, _, _, rfl, _⟩ := h
    rfl
  · obtain ⟨b, c, vp, vw, rs, cs, rfl, hb, R, hc, C, pp, pw, hz, bad1, bad2, good⟩ := h
    refine ⟨_, rfl, _, rfl, b, c, rs, cs, rfl, hb, R, hc, C, fun H1 e1 => ?_⟩
    refine ⟨_, rfl, vp, rfl, pp.ex e1, fun z H2 d e2 hd => bad1 z H2 d (e1.trans e2) hd, fun zp H2 e2 => ?_⟩
    have e12 := e1.trans e2
    refine ⟨_, rfl, vw, rfl, pw.ex e12, hz, fun z H3 d e3 hd => bad2 zp z H3 d (e12.trans e3) hd, fun zw H3 e3 => ?_⟩
    have E3 := e12.trans e3
    obtain ⟨po, z, rfl, rfl, k⟩ := good zp zw
    refine ⟨_, rfl, _, rfl, _, rfl, b, c, po, rs, cs, rfl, hb.ex E3, R, hc.ex E3, C, fun L xs H4 e4 hL pr => ?_⟩
    exact ⟨_, rfl, L, z, xs, sens rs cs po, rfl, hL, pr, sens_lk, sens_len R C, fun v H5 e5 hv => k v H5 (E3.trans (e4.trans e5)) hv⟩
abbrev s_Box_holds : Stmt := inClass (top 36) 10
theorem sc_Box_holds : FnScope ["self", "chosen", "post", "lock", "word"] ["self", "chosen", "post"] (defScope s_Box_holds) := ⟨rfl, rfl, rfl, by decide +kernel, rfl, by decide +kernel, by decide +kernel⟩
def spHoldsG (CB CS CL CP : Addr) : Sp := fun vs H Q E => ∃ (b c : Addr) (vp : V) (rs : List Ins) (cs : List Str), vs = [.ref b, .ref c, vp] ∧ BoxAt CB CS CL H b rs ∧ Rows rs ∧ SqX H c (cs.map V.str) ∧ Cs rs cs ∧ Pl H vp ∧
  (inB 2 vp = false → ∀ H' d, Ex H H' → H' d = none → E (.ref CP) (some d) (upd H' d (.xd [("value", vp)]))) ∧
  (inB 2 vp = true → ∃ (po : Int), vp = .int po ∧ ∀ L ks H', Ex H H' → H L = none → ks.Nodup → (∀ k, k ∈ ks ↔ ∃ r ∈ lcks rs cs po, k ∈ r.ws) → H' L = some (.lst ((sortS ks).map V.str)) → Q (.ref L) H')
/-- the words of a lock -/
def wsOf (H : Hp) : V → List Str
  | .ref a => (match H a with
    | some (.ins _ _ fs) => (match fs.lookup ("_words" : Str) with
      | some (.ref d) => (match H d with
        | some (.lst xs) => xs.map strOf
        | _ => [])
      | _ => [])
    | _ => [])
  | _ => []
theorem wsOf_at {CS CL : Addr} {H : Hp} {v : V} {r : Ins} (h : InsAt CS CL H v r) (lk : r.lk = true) : wsOf H v = sortS r.ws := by
  obtain ⟨a, dx, d, rfl, ⟨_, h1, h2⟩ | ⟨z, _⟩⟩ := h
  · show (match H a with
    | some (.ins _ _ fs) => (match fs.lookup ("_words" : Str) with
      | some (.ref d) => (match H d with
        | some (.lst xs) => xs.map strOf
        | _ => [])
      | _ => [])
    | _ => []) = _
    rw [h1]
    show (match (lf r.nm r.po d r.co).lookup ("_words" : Str) with
      | some (.ref d) => (match H d with
        | some (.lst xs) => xs.map strOf
        | _ => [])
      | _ => []) = _
    rw [lf3]
    show (match H d with
        | some (.lst xs) => xs.map strOf
        | _ => []) = _
    rw [h2]
    show ((sortS r.ws).map V.str).map strOf = _
    rw [List.map_map, show (strOf ∘ V.str) = (fun x : Str => x) from rfl, List.map_id']
  · rw [lk] at z
    cases z
theorem okg_holds {C_Box C_Sensor C_Lock CP : Addr} (G : Gz mg) (T : ICl K mg C_Sensor C_Lock) (I : IPr P w K mg base C_Sensor C_Lock) (D : FunD K "holds" "Box.holds" (defArgs s_Box_holds) (defBody s_Box_holds) (defScope s_Box_holds) [] [] f fd) (c_check_chosen : Callee P w K mg base CXn 2 "check_chosen" 2 (spCkCh C_Box C_Sensor C_Lock)) (c_check_post : Callee P w K mg base (L2.CX P w) 4 "check_post" 1 (spCkPostG CP))
    (c_locks_at : Callee P w K mg base CXn 5 "locks_at" 3 (spLckAt C_Box C_Sensor C_Lock)) : FnOk P w K mg base (L2.CX P w) 6 f fd ["self", "chosen", "post"] (spHoldsG C_Box C_Sensor C_Lock CP) := by
  have cls_Lock := T.clL
  obtain ⟨p1, f1, fd1, p_words, F_words, b_words⟩ := I.words
  refine D.ok sc_Box_holds (fun vs H Q E h => ?_) (fun cdv A outer s H vs Q E hr h => ⟨_, (pss_cons (ps_expr (pe_cl (E := En) c_check_chosen (hr.mono (by decide)) rfl passN (pa_cons (pv 0) (pa_cons (pv 1) pa_nil)))) (pss_cons (ps_expr (pe_clS c_check_post (hr.mono (by decide)) rfl (fun σ => passAt (takes_of rfl rfl rfl rfl) σ) (pa_cons (pv 2) pa_nil))) (pss_one (ps_ret (pe_callB (cr_sortSS rfl hr.units) rfl G.g_sorted (by rfl) (pa_cons (pe_set2 (own := [("lock", 3), ("word", 4)]) (us := [4]) (mkS _ _) rfl sc_Box_holds.nd (pi_list (pe_cl (E := En) c_locks_at (hr.mono (by decide)) rfl passN (pa_cons (pv 0) (pa_cons (pv 1) (pa_cons (pv 2) pa_nil))))) (BlkOk.mk (N := ["self", "chosen", "post", "lock", "word"]) (sc := defScope s_Box_holds) rfl (by decide +kernel) (by decide +kernel) (by decide +kernel) (by decide +kernel)) (by decide) (fun _ _ _ _ _ => (pg_name (i := 3) sc_Box_holds.nd rfl (Or.inl rfl))) (fun _ _ _ _ _ => pts_nil) (fun _ _ _ _ _ => (pi_listK (K := K) rfl (pe_prop (E := En) (pv 3) cls_Lock p_words F_words (hr.mono (by decide)) b_words .nil passN rfl))) (fun _ _ _ _ _ => (pg_name (i := 4) sc_Box_holds.nd rfl (Or.inl rfl))) (fun _ _ _ _ _ => pts_nil) (fun _ _ _ _ _ => (pv 4))) pa_nil)))))), ?_⟩)
  · obtain ⟨_, _, _, _, _, rfl, _⟩ := h
    rfl
  · obtain ⟨b, c, vp, rs, cs, rfl, hb, R, hc, C, pp, bad1, good⟩ := h
    refine ⟨_, rfl, _, rfl, b, c, rs, cs, rfl, hb, R, hc, C, fun H1 e1 => ?_⟩
    refine ⟨_, rfl, vp, rfl, pp.ex e1, fun z H2 d e2 hd => bad1 z H2 d (e1.trans e2) hd, fun zp H2 e2 => ?_⟩
    have e12 := e1.trans e2
    obtain ⟨po, rfl, k⟩ := good zp
    refine ⟨_, rfl, _, rfl, _, rfl, b, c, po, rs, cs, rfl, hb.ex e12, R, hc.ex e12, C, fun L xs H4 e4 hL pr => ⟨L, rfl, ⟨_, sq_of hL⟩, fun N nN => ?_⟩⟩
    have E4 := e12.trans e4
    have xl := Paired.length pr
    have x6 := lcks_len (po := po) R C
    have U6 : (rs.flatMap fun r => r.ws).length < 1000 := by
      have : ∀ l : List Ins, (∀ r ∈ l, r.Ok) → (l.flatMap fun r => r.ws).length ≤ 10 * l.length := fun l => by
        induction l with
        | nil => intro _; exact Nat.le_refl _
        | cons r t ih =>
          intro h
          rw [List.flatMap_cons, List.length_append, List.length_cons]
          have := ih fun q hq => h q (List.mem_cons_of_mem _ hq)
          have := (h r List.mem_cons_self).le
          omega
      have := this rs R.ok
      have := R.most
      omega
    have lkx : ∀ x ∈ xs, ∃ r, r ∈ lcks rs cs po ∧ InsAt C_Sensor C_Lock H4 x r := fun x hx => by
      obtain ⟨i, hi⟩ := List.getElem?_of_mem hx
      obtain ⟨r, hr0, g⟩ := prd_at pr hi
      exact ⟨r, List.mem_of_getElem? hr0, g⟩
    refine set2_ev (K := K) (wsOf H4) (rs.flatMap fun r => r.ws) (fun x hx z hz => ?_) U6 (st_l (K := K) (sq_of hL)) nN (fun x => rfl) (fun x y => rfl) (fun x hx H5 e5 R' kR => ?_) (fun x y H5 H6 e6 Q q => ⟨_, rfl, q H6 (Ex.refl _)⟩) (fun H5 ks e5 nd hm hd => ?_)
    · obtain ⟨r, mr, g⟩ := lkx x hx
      rw [wsOf_at g (lcks_lk r mr)] at hz
      exact List.mem_flatMap.mpr ⟨r, sel_mem R C r (List.mem_filter.mp mr).1, sortS_mem.mp hz⟩
    · obtain ⟨r, mr, g⟩ := lkx x hx
      have lk := lcks_lk r mr
      rw [wsOf_at g lk] at kR
      have g5 := g.ex e5
      obtain ⟨a, dx, d, rfl, ⟨_, h1, _⟩ | ⟨z, _⟩⟩ := id g5
      · exact ⟨_, rfl, a, dx, _, rfl, h1, .ref a, r, rfl, g5, lk, fun D' H6 e6 hD' => ⟨D', rfl, ⟨_, sq_of hD'⟩, kR D' H6 e6 hD'⟩⟩
      · rw [lk] at z
        cases z
    refine ⟨N, ks, rfl, hd, fun Y nY => ?_⟩
    refine k Y ks _ (E4.trans (e5.trans (Ex.new nY))) (fresh_back (E4.trans e5) nY) nd (fun z => ?_) upd_same
    rw [hm z]
    constructor
    · rintro ⟨x, hx, hz⟩
      obtain ⟨r, mr, g⟩ := lkx x hx
      rw [wsOf_at g (lcks_lk r mr)] at hz
      exact ⟨r, mr, sortS_mem.mp hz⟩
    · rintro ⟨r, mr, hz⟩
      obtain ⟨i, hi⟩ := List.getElem?_of_mem mr
      have li : i < xs.length := by have := (List.getElem?_eq_some_iff.mp hi).1; omega
      obtain ⟨r2, hr2, g2⟩ := prd_at pr (List.getElem?_eq_getElem li)
      rw [hi] at hr2
      cases hr2
      exact ⟨_, List.getElem_mem li, by rw [wsOf_at g2 (lcks_lk r mr)]; exact sortS_mem.mpr hz⟩
end
end WK

set_option Elab.async false
set_option linter.all false
set_option maxRecDepth 100000
set_option maxHeartbeats 4000000
namespace WK
open PySem PySem.Spec PyProof.Rows L2 WW Evl
/-- None or a name -/
def Sgn (v : V) : Prop := v = .non ∨ ∃ y : Str, v = .str y ∧ IsNm y
def encV : V → PyData | .str s => .str s | _ => .none
def encZ (zs : List V) : PyData := if allNon zs then .none else .tuple (zs.map encV)
theorem look_sgn {rs : List Ins} (R : Rows rs) {r : Ins} (h : r ∈ rs) (lk : r.lk = false) (z : Str) : Sgn (look z r) := by
  unfold look
  cases e : valV r.tab (.inr z : Key) with
  | none => exact .inl rfl
  | some v =>
    have hm : ∃ q ∈ r.tab, q.2 = v := by
      generalize r.tab = kvs at e
      induction kvs with
      | nil => cases e
      | cons a t ih =>
        by_cases zz : a.1 = (Sum.inr z : Key)
        · rw [valV_pos zz] at e
          exact ⟨a, List.mem_cons_self, by cases e; rfl⟩
        · rw [valV_neg zz] at e
          obtain ⟨q, hq, e2⟩ := ih e
          exact ⟨q, List.mem_cons_of_mem _ hq, e2⟩
    obtain ⟨q, hq, rfl⟩ := hm
    obtain ⟨x, y, rfl, _, hy⟩ := ((R.ok r h).tabS lk).each q hq
    exact .inr ⟨y, rfl, hy⟩
theorem sens_sgn {rs : List Ins} {cs : List Str} {po : Int} (R : Rows rs) (C : Cs rs cs) (z : Str) : ∀ x ∈ (sens rs cs po).map (look z), Sgn x := fun x hx => by
  obtain ⟨r, hr, rfl⟩ := List.mem_map.mp hx
  exact look_sgn R (sel_mem R C r (List.mem_filter.mp hr).1) (sens_lk r hr) z
section
variable {K : PySem.W.Frag} {H : Hp}
theorem sgn_dp {v : V} (h : Sgn v) : Dp K H v (encV v) := by
  rcases h with rfl | ⟨y, rfl, _⟩
  · exact .non
  · exact .str y
theorem sgn_dps : ∀ {zs : List V}, (∀ x ∈ zs, Sgn x) → DpAll K H zs (zs.map encV)
  | [], _ => .nil
  | z :: zs, h => .cons (sgn_dp (h z List.mem_cons_self)) (sgn_dps fun x hx => h x (List.mem_cons_of_mem _ hx))
theorem seen_dp {v : V} {zs : List V} (h : SeenAt H v zs) (g : ∀ x ∈ zs, Sgn x) : Dp K H v (encZ zs) := by
  unfold encZ
  rcases h with ⟨a, rfl⟩ | ⟨a, p, rfl, hp⟩
  · rw [a]; exact .non
  · rw [a]; exact .tup (st_of hp) (sgn_dps g)
theorem sgn_lay : ∀ {zs : List V}, (∀ x ∈ zs, Sgn x) → PyData.canLayAll0 (zs.map encV) = true
  | [], _ => by simp [PyData.canLayAll0]
  | z :: zs, h => by
    have h2 := sgn_lay fun x hx => h x (List.mem_cons_of_mem z hx)
    have h1 : PyData.canLay0 (encV z) = true := by
      rcases h z List.mem_cons_self with rfl | ⟨y, rfl, hy⟩
      · simp [encV, PyData.canLay0]
      · simpa [encV, PyData.canLay0] using ok_of_nm hy
    simp only [List.map_cons, PyData.canLayAll0]
    rw [h1, h2]
    rfl
theorem sgn_depth : ∀ {zs : List V}, (∀ x ∈ zs, Sgn x) → PyData.depthAll (zs.map encV) ≤ 1
  | [], _ => by simp [PyData.depthAll]
  | z :: zs, h => by
    have h2 := sgn_depth fun x hx => h x (List.mem_cons_of_mem z hx)
    have h1 : PyData.depth (encV z) ≤ 1 := by
      rcases h z List.mem_cons_self with rfl | ⟨y, rfl, hy⟩ <;> simp [encV, PyData.depth]
    simp only [List.map_cons, PyData.depthAll]
    omega
theorem encZ_lay {zs : List V} (g : ∀ x ∈ zs, Sgn x) : PyData.canLay0 (encZ zs) = true := by
  unfold encZ
  split
  · simp [PyData.canLay0]
  · simpa [PyData.canLay0] using sgn_lay g
theorem encZ_depth {zs : List V} (g : ∀ x ∈ zs, Sgn x) : PyData.depth (encZ zs) ≤ 3 := by
  unfold encZ
  split
  · simp [PyData.depth]
  · have := sgn_depth g
    simp only [PyData.depth]
    omega
theorem pair_shaped {y z : List V} (gy : ∀ x ∈ y, Sgn x) (gz : ∀ x ∈ z, Sgn x) : SeqAt.shaped (.tuple [encZ y, encZ z]) = true := by
  show (PyData.canLay0 (.tuple [encZ y, encZ z]) && decide (PyData.depth (.tuple [encZ y, encZ z]) ≤ 64)) = true
  have h1 := encZ_depth gy
  have h2 := encZ_depth gz
  rw [Bool.and_eq_true]
  refine ⟨?_, decide_eq_true ?_⟩
  · simp [PyData.canLay0, PyData.canLayAll0, encZ_lay gy, encZ_lay gz]
  · simp only [PyData.depth, PyData.depthAll]
    omega
theorem pair_eqv (y z : List V) : PyData.eqv (.tuple [encZ y, encZ z]) (.tuple [.none, .none]) = (allNon y && allNon z) := by
  unfold encZ
  cases allNon y <;> cases allNon z <;> simp [PyData.eqv, PyData.eqvAll]
/-- both == (None, None) -/
theorem pair_go {T T2 : Addr} {v u : V} {y z : List V} {Q : VK} (hT : H T = some (.tup [v, u])) (hT2 : H T2 = some (.tup [.non, .non])) (hv : SeenAt H v y) (hu : SeenAt H u z) (gy : ∀ x ∈ y, Sgn x) (gz : ∀ x ∈ z, Sgn x) (q : Q (.bl (allNon y && allNon z)) H) : rEqD K (.ref T) (.ref T2) H Q := by
  refine ⟨_, _, .tup (st_of hT) (.cons (seen_dp hv gy) (.cons (seen_dp hu gz) .nil)), .tup (st_of hT2) (.cons .non (.cons .non .nil)), pair_shaped gy gz, by decide +kernel, ?_⟩
  rw [pair_eqv]
  exact q
end
/-- what both posts see -/
def JointAt (H : Hp) (v : V) (y z : List V) : Prop := ((allNon y && allNon z) = true ∧ v = .non) ∨ ((allNon y && allNon z) = false ∧ ∃ a p q, v = .ref a ∧ H a = some (.tup [p, q]) ∧ SeenAt H p y ∧ SeenAt H q z)
theorem m_sight : ¬ (("sight" : Str) = "_table") := by decide +kernel
theorem m_joint : ¬ (("joint" : Str) = "_table") := by decide +kernel
theorem m_holds : ¬ (("holds" : Str) = "_table") := by decide +kernel
section
variable {P : Program} {w : World} {K : PySem.W.Frag} {mg : Str → Option Value} {base : Heap} {f : Addr} {fd : FuncData}
abbrev s_Box_joint : Stmt := inClass (top 36) 11
theorem sc_Box_joint : FnScope ["self", "chosen", "word", "both"] ["self", "chosen", "word"] (defScope s_Box_joint) := ⟨rfl, rfl, rfl, by decide +kernel, rfl, by decide +kernel, by decide +kernel⟩
def spJointG (CB CS CL CN : Addr) : Sp := fun vs H Q E => ∃ (b c : Addr) (vw : V) (rs : List Ins) (cs : List Str), vs = [.ref b, .ref c, vw] ∧ BoxAt CB CS CL H b rs ∧ Rows rs ∧ SqX H c (cs.map V.str) ∧ Cs rs cs ∧ Pl H vw ∧ (∀ z, vw = .str z → z.length ≤ 1000) ∧
  (nmB vw = false → ∀ H' d, Ex H H' → H' d = none → E (.ref CN) (some d) (upd H' d (.xd [("value", vw)]))) ∧
  (nmB vw = true → ∃ (z : Str), vw = .str z ∧ ∀ v H', Ex H H' → JointAt H' v ((sens rs cs 0).map (look z)) ((sens rs cs 1).map (look z)) → Q v H')
theorem okg_joint {C_Box C_Sensor C_Lock CP CN fS : Addr} {fdS : FuncData} (B : BCl K mg C_Box) (m_sight : Meth K C_Box "sight" fS) (F_sight : FnOk P w K mg base (L2.CX P w) 6 fS fdS ["self", "chosen", "post", "word"] (spSightG C_Box C_Sensor C_Lock CP CN)) (b_sight : Binds K fdS ["self", "chosen", "post", "word"] [])
    (D : FunD K "joint" "Box.joint" (defArgs s_Box_joint) (defBody s_Box_joint) (defScope s_Box_joint) [] [] f fd) : FnOk P w K mg base (L2.CX P w) 7 f fd ["self", "chosen", "word"] (spJointG C_Box C_Sensor C_Lock CN) := by
  have cls_Box := B.cl
  refine D.ok sc_Box_joint (fun vs H Q E h => ?_) (fun cdv A outer s H vs Q E hr h => ⟨_, (pss_cons (ps_set (i := 3) sc_Box_joint.nd rfl (Or.inl rfl) (pe_tup (pa_cons (pe_methS (pv 0) cls_Box m_sight F_sight (hr.mono (by decide)) b_sight (fun σ => passAt (takes_of rfl rfl rfl rfl) σ) (pa_cons (pv 1) (pa_cons pe_int (pa_cons (pv 2) pa_nil)))) (pa_cons (pe_methS (pv 0) cls_Box m_sight F_sight (hr.mono (by decide)) b_sight (fun σ => passAt (takes_of rfl rfl rfl rfl) σ) (pa_cons (pv 1) (pa_cons pe_int (pa_cons (pv 2) pa_nil)))) pa_nil)))) (pss_one (ps_ret (pe_ifExp (pt_cmpR (op_eqD hr.units) (pv 3) (pe_tup (pa_cons pe_non (pa_cons pe_non pa_nil))) (nomark _)) pe_non (pv 3))))), ?_⟩)
  · obtain ⟨_, _, _, _, _, rfl, _⟩ := h
    rfl
  · obtain ⟨b, c, vw, rs, cs, rfl, hb, R, hc, C, pw, hz, bad, good⟩ := h
    obtain ⟨dx, t, kvs, bb1, _⟩ := id hb
    refine ⟨_, rfl, b, dx, _, rfl, bb1, tbN WK.m_sight, _, rfl, _, rfl, b, c, .int 0, vw, rs, cs, rfl, hb, R, hc, C, .int 0, pw, hz, (fun z => absurd z (by decide)), fun _ z => bad z, fun _ zw => ?_⟩
    obtain ⟨z, rfl, k⟩ := good zw
    refine ⟨0, z, rfl, rfl, fun v1 H1 e1 s1 => ?_⟩
    have hb1 := hb.ex e1
    obtain ⟨dx1, t1, kvs1, bb2, _⟩ := id hb1
    refine ⟨_, rfl, b, dx1, _, rfl, bb2, tbN WK.m_sight, _, rfl, _, rfl, b, c, .int 1, .str z, rs, cs, rfl, hb1, R, hc.ex e1, C, .int 1, .str z, hz, (fun z => absurd z (by decide)), (fun _ n => absurd (zw.symm.trans n) (by decide)), fun _ _ => ⟨1, z, rfl, rfl, fun v2 H2 e2 s2 => ?_⟩⟩
    have s1' := s1.ex e2
    refine ⟨(by show 2 ≤ sizeLine; decide), fun T hT => ?_⟩
    have e3 : Ex H2 (upd H2 T (.tup [v1, v2])) := Ex.new hT
    have hT3 : upd H2 T (.tup [v1, v2]) T = some (.tup [v1, v2]) := upd_same
    generalize upd H2 T (.tup [v1, v2]) = H3 at e3 hT3
    refine ⟨_, rfl, (by show 2 ≤ sizeLine; decide), fun T2 hT2 => ?_⟩
    have e4 : Ex H3 (upd H3 T2 (.tup [.non, .non])) := Ex.new hT2
    have E4 := e1.trans (e2.trans (e3.trans e4))
    refine pair_go (e4 _ _ hT3) upd_same ((s1'.ex e3).ex e4) ((s2.ex e3).ex e4) (sens_sgn R C z) (sens_sgn R C z) ⟨_, rfl, ?_⟩
    cases ha : (allNon ((sens rs cs 0).map (look z)) && allNon ((sens rs cs 1).map (look z))) with
    | true => exact k .non _ E4 (.inl ⟨ha, rfl⟩)
    | false => exact ⟨_, rfl, k (.ref T) _ E4 (.inr ⟨ha, T, v1, v2, rfl, e4 _ _ hT3, (s1'.ex e3).ex e4, (s2.ex e3).ex e4⟩)⟩
end
end WK

set_option Elab.async false
set_option linter.all false
set_option maxRecDepth 100000
set_option maxHeartbeats 4000000
namespace WK
open PySem PySem.Spec PyProof.Rows L2 WW Evl
/-- a class that is made -/
structure MkC (P : Program) (w : World) (K : PySem.W.Frag) (mg : Str → Option Value) (base : Heap) (x : Str) (C : Addr) (k : Nat) (ps : List Str) (sp : Sp) : Prop where
  ex : ∃ f fd, Mk K C f ∧ FnOk P w K mg base CXn k f fd ps sp ∧ Binds K fd ps [] ∧ mg x = some (.ref C)
theorem InsAtD.ex {CS CL : Addr} {H H' : Hp} {v : V} {r : Ins} {d : Addr} (e : Ex H H') (h : InsAtD CS CL H v r d) : InsAtD CS CL H' v r d := by
  obtain ⟨a, dx, rfl, ⟨h0, h1, h2⟩ | ⟨h0, h1, kvs, h2, h3, h4⟩⟩ := h
  · exact ⟨a, dx, rfl, .inl ⟨h0, e _ _ h1, e _ _ h2⟩⟩
  · exact ⟨a, dx, rfl, .inr ⟨h0, e _ _ h1, kvs, e _ _ h2, h3, h4⟩⟩
theorem InsAtD.put {CS CL : Addr} {H : Hp} {v : V} {r : Ins} {d N : Addr} {zs : List V} {o : HO} (hN : H N = some (.lst zs)) (n : d ≠ N) (h : InsAtD CS CL H v r d) : InsAtD CS CL (upd H N o) v r d := by
  obtain ⟨a, dx, rfl, ⟨h0, h1, h2⟩ | ⟨h0, h1, kvs, h2, h3, h4⟩⟩ := h
  · exact ⟨a, dx, rfl, .inl ⟨h0, by rw [upd_ne (fun z => by rw [z, hN] at h1; cases h1)]; exact h1, by rw [upd_ne n]; exact h2⟩⟩
  · exact ⟨a, dx, rfl, .inr ⟨h0, by rw [upd_ne (fun z => by rw [z, hN] at h1; cases h1)]; exact h1, kvs, by rw [upd_ne n]; exact h2, h3, h4⟩⟩
theorem lock_ne : ("sensor" : Str) ≠ "lock" := by decide +kernel
section
variable {P : Program} {w : World} {K : PySem.W.Frag} {mg : Str → Option Value} {base : Heap} {f : Addr} {fd : FuncData}
abbrev s__law_kit : Stmt := top 54
theorem sc__law_kit : FnScope ["_law_rows", "_law_row"] ["_law_rows"] (defScope s__law_kit) := ⟨rfl, rfl, rfl, by decide +kernel, rfl, by decide +kernel, by decide +kernel⟩
def spKit (CB CS CL : Addr) : Sp := fun vs H Q _ => ∃ (p rl : Addr) (xs : List V) (rs : List Ins), vs = [.ref rl] ∧ H rl = some (.lst xs) ∧ Paired (InsT p H) xs rs ∧ Rows rs ∧ ∀ b H', Ex H H' → BoxAt CB CS CL H' b rs → Q (.ref b) H'
theorem ok_kit {C_Box C_Sensor C_Lock : Addr} (G : Gz mg) (mS : MkC P w K mg base "Sensor" C_Sensor 5 ["self", "name", "post", "sights", "cost"] (spInitS C_Sensor C_Lock)) (mL : MkC P w K mg base "Lock" C_Lock 5 ["self", "name", "post", "words", "cost"] (spInitL C_Sensor C_Lock))
    (mB : MkC P w K mg base "Box" C_Box 4 ["self", "instruments"] (spInitB C_Box C_Sensor C_Lock)) (D : Df K mg "_law_kit" s__law_kit f fd ["_law_rows"]) : Callee P w K mg base CXn 7 "_law_kit" 1 (spKit C_Box C_Sensor C_Lock) := by
  obtain ⟨f1, fd1, M_Sensor, F_Sensor, b_Sensor, g_Sensor⟩ := mS.ex
  obtain ⟨f2, fd2, M_Lock, F_Lock, b_Lock, g_Lock⟩ := mL.ex
  obtain ⟨f3, fd3, M_Box, F_Box, b_Box, g_Box⟩ := mB.ex
  refine D.callee (D.fn.ok sc__law_kit (fun vs H Q E h => ?_) (fun cdv A outer s H vs Q E hr h => ⟨_, PSs.nox (pss_one (ps_ret (pe_make (E := En) M_Box F_Box (hr.mono (by decide)) rfl g_Box b_Box .nil passN (pa_cons (pe_lc (own := [("_law_row", 1)]) rfl sc__law_kit.nd (pi_list (pv 0)) (BlkOk.mk (N := ["_law_rows", "_law_row"]) (sc := defScope s__law_kit) rfl (by decide +kernel) (by decide +kernel) (by decide +kernel) (by decide +kernel)) (fun _ _ _ _ _ => (pg_name (i := 1) sc__law_kit.nd rfl (Or.inl rfl))) (fun _ _ _ _ _ => pts_nil) (fun _ _ _ _ _ => (pe_ifExp (pt_cmpR op_eq (pe_ix (ixK (K := K) rfl) (pv 1) pe_int (fun _ _ => rfl)) pe_str (nomark _)) (pe_make (E := En) M_Lock F_Lock (hr.mono (by decide)) rfl g_Lock b_Lock .nil passN (pa_cons (pe_ix (ixK (K := K) rfl) (pv 1) pe_int (fun _ _ => rfl)) (pa_cons (pe_ix (ixK (K := K) rfl) (pv 1) pe_int (fun _ _ => rfl)) (pa_cons (pe_callTy (listOfK (K := K) rfl) rfl G.g_list (by rfl) (pa_cons (pe_ix (ixK (K := K) rfl) (pv 1) pe_int (fun _ _ => rfl)) pa_nil)) (pa_cons (pe_ix (ixK (K := K) rfl) (pv 1) pe_int (fun _ _ => rfl)) pa_nil))))) (pe_make (E := En) M_Sensor F_Sensor (hr.mono (by decide)) rfl g_Sensor b_Sensor .nil passN (pa_cons (pe_ix (ixK (K := K) rfl) (pv 1) pe_int (fun _ _ => rfl)) (pa_cons (pe_ix (ixK (K := K) rfl) (pv 1) pe_int (fun _ _ => rfl)) (pa_cons (pe_copyK (K := K) rfl (pe_ix (ixK (K := K) rfl) (pv 1) pe_int (fun _ _ => rfl))) (pa_cons (pe_ix (ixK (K := K) rfl) (pv 1) pe_int (fun _ _ => rfl)) pa_nil)))))))) pa_nil)))), ?_⟩))
  · obtain ⟨_, _, _, _, rfl, _⟩ := h
    rfl
  · obtain ⟨p, rl, xs, rs, rfl, hrl, pr, R, k⟩ := h
    have xl := Paired.length pr
    have x6 := R.most
    refine ⟨_, rfl, rl, rfl, ⟨_, sq_of hrl⟩, fun N hN => ?_⟩
    refine lc_list (fun j H' => ∃ ys, Ex H H' ∧ H' N = some (.lst ys) ∧ Paired (fun v r => ∃ d, d ≠ N ∧ InsAtD C_Sensor C_Lock H' v r d) ys (rs.take j)) ⟨[], Ex.new hN, upd_same, .nil⟩ (fun j H' _ ⟨_, e, _⟩ => sq_of (e _ _ hrl)) ?_ ?_
    · rintro j x H' hx ⟨ys, e, hN', py⟩
      obtain ⟨r, hr0, a, d, rfl, _, ha, hd⟩ := prd_at pr hx
      have j6 : j < 6 := by have := (List.getElem?_eq_some_iff.mp hr0).1; omega
      have ok := R.ok r (List.mem_of_getElem? hr0)
      have ha0 := e _ _ ha
      have hd0 := e _ _ hd
      have yl : ys.length ≤ 6 := by rw [Paired.length py, List.length_take]; omega
      -- what is put in at the end
      have fin : ∀ (o d' : Addr) (H1 H2 : Hp), Ex H' H1 → Ex H1 H2 → InsAtD C_Sensor C_Lock H2 (.ref o) r d' → H1 d' = none → ∃ acc, H2 N = some (.lst acc) ∧ acc.length < sizeLine ∧ ∃ ys, Ex H (upd H2 N (.lst (acc ++ [.ref o]))) ∧ (upd H2 N (.lst (acc ++ [.ref o]))) N = some (.lst ys) ∧ Paired (fun v r => ∃ d, d ≠ N ∧ InsAtD C_Sensor C_Lock (upd H2 N (.lst (acc ++ [.ref o]))) v r d) ys (rs.take (j + 1)) := fun o d' H1 H2 e1 e2 g fr => by
        have e12 := e1.trans e2
        have hN2 := e12 _ _ hN'
        have nd : d' ≠ N := fun z => by rw [z, e1 _ _ hN'] at fr; cases fr
        refine ⟨ys, hN2, sz_lt (by omega), ys ++ [.ref o], (e.trans e12).mut hN, upd_same, ?_⟩
        rw [List.take_add_one, hr0]
        exact prd_snoc (Paired.mapP py fun _ _ ⟨d, n, z⟩ => ⟨d, n, InsAtD.put hN2 n (z.ex e12)⟩) ⟨d', nd, InsAtD.put hN2 nd g⟩
      refine ⟨rfl, ?_⟩
      refine ⟨_, rfl, .inr (.inl ⟨a, _, 0, _, rfl, rfl, st_of ha0, (by rfl), rfl, _, rfl, ?_⟩)⟩
      cases lk : r.lk with
      | true =>
        have ek : r.kind = "lock" := by unfold Ins.kind; rw [lk]; rfl
        have et : r.thing = .lst (r.ws.map V.str) := by unfold Ins.thing; rw [lk]; rfl
        rw [et] at hd0
        rw [ek, decide_eq_true rfl]
        refine ⟨_, rfl, .inr (.inl ⟨a, _, 1, _, rfl, rfl, st_of ha0, (by rfl), _, rfl, .inr (.inl ⟨a, _, 2, _, rfl, rfl, st_of ha0, (by rfl), ?_⟩)⟩)⟩
        refine ⟨_, rfl, .inr (.inl ⟨a, _, 3, _, rfl, rfl, st_of ha0, (by rfl), d, _, rfl, .inl (sq_of hd0), fun l hl => ?_⟩)⟩
        have e1 : Ex H' (upd H' l (.lst (r.ws.map V.str))) := Ex.new hl
        have hl1 : upd H' l (.lst (r.ws.map V.str)) l = some (.lst (r.ws.map V.str)) := upd_same
        generalize upd H' l (.lst (r.ws.map V.str)) = H1 at e1 hl1
        refine ⟨_, rfl, .inr (.inl ⟨a, _, 4, _, rfl, rfl, st_of (e1 _ _ ha0), (by rfl), fun o m ho hm hne => ?_⟩)⟩
        exact ⟨H1, o, m, l, r, rfl, (Ex.new hm).trans (Ex.new (by rw [upd_ne hne.symm]; exact ho)), ho, upd_same, lk, ok, hl1, fun H2 d' e2 g fr => ⟨rfl, fin o d' H1 H2 e1 e2 g fr⟩⟩
      | false =>
        have ek : r.kind = "sensor" := by unfold Ins.kind; rw [lk]; rfl
        have et : r.thing = .dK r.tab := by unfold Ins.thing; rw [lk]; rfl
        rw [et] at hd0
        rw [ek, decide_eq_false (fun z => lock_ne (V.str.inj z))]
        refine ⟨_, rfl, .inr (.inl ⟨a, _, 1, _, rfl, rfl, st_of ha0, (by rfl), _, rfl, .inr (.inl ⟨a, _, 2, _, rfl, rfl, st_of ha0, (by rfl), ?_⟩)⟩)⟩
        refine ⟨_, rfl, .inr (.inl ⟨a, _, 3, .ref d, rfl, rfl, st_of ha0, (by rfl), (show tyV K "dict" (.ref d) H' from .inr (.inr (.inl ⟨rfl, .inl ⟨_, hd0⟩⟩))), d, _, rfl, rfl, hd0, fun l hl => ?_⟩)⟩
        have e1 : Ex H' (upd H' l (.dK r.tab)) := Ex.new hl
        have hl1 : upd H' l (.dK r.tab) l = some (.dK r.tab) := upd_same
        generalize upd H' l (.dK r.tab) = H1 at e1 hl1
        refine ⟨_, rfl, .inr (.inl ⟨a, _, 4, _, rfl, rfl, st_of (e1 _ _ ha0), (by rfl), fun o m ho hm hne => ?_⟩)⟩
        exact ⟨H1, o, m, l, r, rfl, (Ex.new hm).trans (Ex.new (by rw [upd_ne hne.symm]; exact ho)), ho, upd_same, lk, ok, hl1, fun H2 d' e2 g fr => ⟨rfl, fin o d' H1 H2 e1 e2 g fr⟩⟩
    · rintro H1 ⟨ys, e, hN1, py⟩
      have et : rs.take xs.length = rs := by rw [xl]; exact List.take_length
      rw [et] at py
      intro o m ho hm hne
      exact ⟨H1, o, m, N, ys, rs, rfl, (Ex.new hm).trans (Ex.new (by rw [upd_ne hne.symm]; exact ho)), ho, upd_same, hN1, Paired.mapP py fun _ _ ⟨_, _, z⟩ => z.at, R, fun H2 e2 hb => ⟨rfl, k o H2 (e.trans e2) hb⟩⟩
abbrev s__law_chosen : Stmt := top 55
theorem sc__law_chosen : FnScope ["_law_pool_here", "_law_rows", "_law_names_here", "_law_row", "_law_turn"] ["_law_pool_here", "_law_rows"] (defScope s__law_chosen) := ⟨rfl, rfl, rfl, by decide +kernel, rfl, by decide +kernel, by decide +kernel⟩
def spChosen : Sp := fun vs H Q _ => ∃ (p rl : Addr) (xs : List V) (rs : List Ins), vs = [.ref p, .ref rl] ∧ Pool H p ∧ rl ≠ p ∧ H rl = some (.lst xs) ∧ Paired (InsT p H) xs rs ∧ Rows rs ∧
  ∀ (L : Addr) cs H', Kp p H H' → Pool H' p → L ≠ p → H' L = some (.lst (cs.map V.str)) → Cs rs cs → Q (.ref L) H'
theorem sl_take {K : PySem.W.Frag} {H : Hp} {a : Addr} {xs : List V} {n : Nat} {Q : VK} (h : H a = some (.lst xs)) (k : ∀ l, H l = none → Q (.ref l) (upd H l (.lst (xs.take n)))) : rSlL K (.ref a) none (some (n : Int)) H Q :=
  ⟨a, xs, rfl, sq_of h, fun l hl => by rw [cut_take]; exact k l hl⟩
theorem ok_chosen (G : Gz mg) (D : Df K mg "_law_chosen" s__law_chosen f fd ["_law_pool_here", "_law_rows"]) (c__law_draw : Callee P w K mg base CXn 1 "_law_draw" 2 spDraw) : Callee P w K mg base CXn 2 "_law_chosen" 2 spChosen := by
  refine D.callee (D.fn.ok sc__law_chosen (fun vs H Q E h => ?_) (fun cdv A outer s H vs Q E hr h => ⟨_, PSs.nox (pss_cons (ps_setLc (i := 2) (y := "_law_names_here") (own := [("_law_row", 3)]) rfl sc__law_chosen.nd rfl rfl rfl (pi_list (pv 1)) (BlkOk.mk (N := ["_law_pool_here", "_law_rows", "_law_names_here", "_law_row", "_law_turn"]) (sc := defScope s__law_chosen) rfl (by decide +kernel) (by decide +kernel) (by decide +kernel) (by decide +kernel)) (fun _ _ _ _ _ => (pg_name (i := 3) sc__law_chosen.nd rfl (Or.inl rfl))) (fun _ _ _ _ _ => (pts_one (pt_cmpR op_gt (pe_cl (E := En) c__law_draw (hr.mono (by decide)) rfl passN (pa_cons (pv 0) (pa_cons pe_int pa_nil))) pe_int (nomark _)))) (fun _ _ _ _ _ => (pe_ix (ixK (K := K) rfl) (pv 3) pe_int (fun _ _ => rfl)))) (pss_cons (ps_set (i := 4) sc__law_chosen.nd rfl (Or.inl rfl) (pe_cl (E := En) c__law_draw (hr.mono (by decide)) rfl passN (pa_cons (pv 0) (pa_cons (pe_op op_add (pe_callB (lenK (K := K) rfl) rfl G.g_len PySem.boot_len (pa_cons (pv 2) pa_nil)) pe_int) pa_nil)))) (pss_one (ps_ret (pe_op op_cat (pe_slice sl_list (pv 2) (po_some (pv 4)) po_none) (pe_slice sl_list (pv 2) po_none (po_some (pv 4)))))))), ?_⟩))
  · obtain ⟨_, _, _, _, rfl, _⟩ := h
    rfl
  · obtain ⟨p, rl, xs, rs, rfl, hP, nrp, hrl, pr, R, k⟩ := h
    have xl := Paired.length pr
    have x6 := R.most
    have kR : ∀ {H' : Hp}, Kp p H H' → H' rl = some (.lst xs) := fun K' => K'.k _ _ nrp hrl
    refine ⟨_, rfl, rl, rfl, ⟨_, sq_of hrl⟩, fun N hN => ?_⟩
    obtain ⟨E0, nNp⟩ := Fil.new (o := .lst []) hP hN
    refine lc_list (fun j H2 => ∃ os : List Str, H2 N = some (.lst (os.map V.str)) ∧ Fil p N H H2 ∧ os.Sublist ((rs.map (·.nm)).take j)) ⟨[], upd_same, E0, List.nil_sublist _⟩ (fun j H2 _ ⟨os, _, E, _⟩ => sq_of (kR E.kp)) ?_ ?_
    · rintro j y H2 hy ⟨os, hos, E, sub⟩
      obtain ⟨r, hr0, a, d, rfl, _, ha, hd⟩ := prd_at pr hy
      have hu : (rs.map (·.nm))[j]? = some r.nm := by rw [List.getElem?_map, hr0]; rfl
      have et : (rs.map (·.nm)).take (j + 1) = (rs.map (·.nm)).take j ++ [r.nm] := by rw [List.take_add_one, hu]; rfl
      have ol : os.length ≤ 6 := Nat.le_trans sub.length_le (by rw [List.length_take, List.length_map]; omega)
      refine ⟨rfl, _, rfl, p, 3, rfl, E.pool, by decide, by decide, fun q Hf q0 q1 Kf Pf => ⟨q, 0, rfl, rfl, _, rfl, ?_⟩⟩
      obtain ⟨E2, h2⟩ := E.draw nNp hos Kf Pf
      refine ite2 (fun _ => ?_) (fun _ => ⟨os, h2, E2, by rw [et]; exact sub.trans (List.sublist_append_left _ _)⟩)
      exact ⟨_, rfl, .inr (.inl ⟨a, _, 1, _, rfl, rfl, st_of ((E2.kp.tu hP) _ _ ha), (by rfl), _, h2, by rw [List.length_map]; exact sz_lt (by omega), os ++ [r.nm], by rw [upd_same, List.map_append]; rfl, E2.put nNp hN, by rw [et]; exact List.Sublist.append sub (List.Sublist.refl _)⟩)⟩
    · rintro Hf ⟨os, hos, E, sub⟩
      have sub' : os.Sublist (rs.map (·.nm)) := sub.trans (List.take_sublist _ _)
      have ol : os.length ≤ 6 := Nat.le_trans sub'.length_le (by rw [List.length_map]; omega)
      refine ⟨_, rfl, _, rfl, .ref N, os.length, rfl, .inl ⟨_, sq_of hos, by rw [List.length_map]⟩, _, _, rfl, rfl, p, _, rfl, E.pool, by omega, by omega, fun tu Ha t0 t1 Ka Pa => ?_⟩
      obtain ⟨E2, h2⟩ := E.draw nNp hos Ka Pa
      obtain ⟨n, rfl⟩ := Int.eq_ofNat_of_zero_le t0
      refine ⟨_, rfl, _, rfl, _, rfl, ⟨N, _, rfl, sq_of h2, fun l1 hl1 => ?_⟩⟩
      rw [cut_drop]
      have e1' : Ex Ha (upd Ha l1 (.lst ((os.map V.str).drop n))) := Ex.new hl1
      have hL1 : upd Ha l1 (.lst ((os.map V.str).drop n)) l1 = some (.lst ((os.map V.str).drop n)) := upd_same
      generalize upd Ha l1 (.lst ((os.map V.str).drop n)) = Hc at e1' hL1
      refine ⟨_, rfl, _, rfl, _, rfl, sl_take (e1' _ _ h2) fun l2 hl2 => ?_⟩
      have e2' : Ex Hc (upd Hc l2 (.lst ((os.map V.str).take n))) := Ex.new hl2
      have hL2 : upd Hc l2 (.lst ((os.map V.str).take n)) l2 = some (.lst ((os.map V.str).take n)) := upd_same
      generalize upd Hc l2 (.lst ((os.map V.str).take n)) = Hd at e2' hL2
      refine ⟨l1, l2, _, _, rfl, rfl, e2' _ _ hL1, hL2, sz_of (by rw [List.length_take, List.length_drop, List.length_map]; omega), fun ol' hol => ?_⟩
      have E4 := (E2.ex nNp h2 (e1'.trans e2')).1
      have nop : ol' ≠ p := fun z => E4.pool.here (z ▸ hol)
      refine k ol' (os.drop n ++ os.take n) _ (E4.kp.trans (Kp.ex (Ex.new hol) E4.pool)) (E4.pool.ex (Ex.new hol)) nop (by rw [upd_same, List.map_append, List.map_drop, List.map_take]) ⟨?_, fun z hz => ?_⟩
      · have nd := R.nd.sublist sub'
        rw [← List.take_append_drop n os] at nd
        exact (List.perm_append_comm.nodup_iff).mp nd
      · refine sub'.subset ?_
        rcases List.mem_append.mp hz with h | h
        · exact List.mem_of_mem_drop h
        · exact List.mem_of_mem_take h
end
end WK

set_option Elab.async false
set_option linter.all false
set_option maxRecDepth 100000
set_option maxHeartbeats 4000000
namespace WK
open PySem PySem.Spec PyProof.Rows L2 WW Evl
/-- the name in a row -/
def nmT (H : Hp) : V → Str
  | .ref a => (match H a with
    | some (.tup (_ :: .str n :: _)) => n
    | _ => Str.empty)
  | _ => Str.empty
theorem nmT_at {p : Addr} {H : Hp} {v : V} {r : Ins} (h : InsT p H v r) : nmT H v = r.nm := by
  obtain ⟨a, b, rfl, _, h1, _⟩ := h
  show (match H a with
    | some (.tup (_ :: .str n :: _)) => n
    | _ => Str.empty) = _
  rw [h1]
/-- a sensor of the set at the post; a lock -/
def isSel (lk : Bool) (cs : List Str) (po : Int) (r : Ins) : Bool := decide (r.lk = lk) && (decide (V.int r.po = V.int po) && decide (r.nm ∈ cs))
theorem nm_sorted {rs : List Ins} {cs : List Str} {po : Int} {lk : Bool} (R : Rows rs) (C : Cs rs cs) : ((selP rs cs po).filter fun r => decide (r.lk = lk)) = (sortS ((rs.filter (isSel lk cs po)).map (·.nm))).map (getI rs) := by
  unfold selP inOrder
  rw [List.filter_filter, List.filter_map]
  congr 1
  refine List.Perm.eq_of_pairwise (fun a b _ _ => leS_anti a b) ((sortS_sorted cs).sublist List.filter_sublist) (sortS_sorted _) ?_
  refine List.Perm.trans ?_ (sortS_perm _).symm
  have nd1 : ((sortS cs).filter ((fun a => decide (a.lk = lk) && decide (V.int a.po = V.int po)) ∘ getI rs)).Nodup := ((sortS_perm cs).nodup_iff.mpr C.nd).sublist List.filter_sublist
  have nd2 : ((rs.filter (isSel lk cs po)).map (·.nm)).Nodup := R.nd.sublist (List.filter_sublist.map _)
  refine (List.perm_ext_iff_of_nodup nd1 nd2).mpr fun n => ?_
  rw [List.mem_filter, List.mem_map]
  constructor
  · rintro ⟨h1, h2⟩
    have hc := sortS_mem.mp h1
    obtain ⟨mr, en⟩ := C.get R hc
    have h3 : (decide ((getI rs n).lk = lk) && decide (V.int (getI rs n).po = V.int po)) = true := h2
    rw [Bool.and_eq_true] at h3
    refine ⟨getI rs n, List.mem_filter.mpr ⟨mr, ?_⟩, en⟩
    unfold isSel
    rw [h3.1, h3.2, en, decide_eq_true hc]
    rfl
  · rintro ⟨r, hr, rfl⟩
    obtain ⟨mr, hs⟩ := List.mem_filter.mp hr
    unfold isSel at hs
    rw [Bool.and_eq_true, Bool.and_eq_true] at hs
    refine ⟨sortS_mem.mpr (of_decide_eq_true hs.2.2), ?_⟩
    show (decide ((getI rs r.nm).lk = lk) && decide (V.int (getI rs r.nm).po = V.int po)) = true
    rw [getI_of R.nd mr, hs.1, hs.2.1]
    rfl
theorem sens_sorted {rs : List Ins} {cs : List Str} {po : Int} (R : Rows rs) (C : Cs rs cs) : sens rs cs po = (sortS ((rs.filter (isSel false cs po)).map (·.nm))).map (getI rs) := by
  rw [← nm_sorted R C]
  unfold sens
  congr 1
  funext r
  cases r.lk <;> rfl
theorem filt_map {α β : Type} {F : α → β → Prop} {f : α → Bool} {g : β → Bool} {u : α → V} {v : β → V} (h : ∀ a b, F a b → f a = g b) (h2 : ∀ a b, F a b → u a = v b) : ∀ {xs : List α} {ys : List β}, Paired F xs ys → (xs.filter f).map u = (ys.filter g).map v
  | _, _, .nil => rfl
  | _, _, .cons (a := a) (b := b) q r => by
    have ih := filt_map h h2 r
    rw [List.filter_cons, List.filter_cons, h _ _ q]
    cases g b with
    | true => simp only [if_true, List.map_cons]; rw [h2 _ _ q, ih]
    | false => simpa using ih
theorem sens_ne : ("lock" : Str) ≠ "sensor" := fun z => lock_ne z.symm
theorem kind_sensor (r : Ins) : decide (V.str r.kind = V.str "sensor") = decide (r.lk = false) := by
  unfold Ins.kind
  cases r.lk with
  | true => rw [if_pos rfl]; rw [decide_eq_false (fun z => sens_ne (V.str.inj z))]; rfl
  | false => rw [if_neg (by decide)]; rw [decide_eq_true rfl]; rfl
theorem kind_lock (r : Ins) : decide (V.str r.kind = V.str "lock") = decide (r.lk = true) := by
  unfold Ins.kind
  cases r.lk with
  | true => rw [if_pos rfl, decide_eq_true rfl]; rfl
  | false => rw [if_neg (by decide), decide_eq_false (fun z => lock_ne (V.str.inj z))]; rfl
theorem fl_strs (zs : List Str) : (zs.map V.str).all flatV = true := List.all_eq_true.mpr fun y hy => by obtain ⟨z, _, rfl⟩ := List.mem_map.mp hy; rfl
theorem allNon_len (zs : List V) : decide (V.int (((zs.filter fun x => !decide (x = .non)).map fun x => x).length : Nat) = V.int 0) = allNon zs := by
  unfold allNon
  rw [List.length_map, Bool.eq_iff_iff, decide_eq_true_iff, List.all_eq_true]
  constructor
  · intro h x hx
    have h0 : (zs.filter fun x => !decide (x = .non)).length = 0 := by
      have := V.int.inj h
      omega
    have := List.eq_nil_of_length_eq_zero h0
    by_cases z : x = .non
    · exact decide_eq_true z
    · have mm : x ∈ zs.filter fun x => !decide (x = .non) := List.mem_filter.mpr ⟨hx, by rw [decide_eq_false z]; rfl⟩
      rw [this] at mm
      cases mm
  · intro h
    have : (zs.filter fun x => !decide (x = .non)) = [] := List.filter_eq_nil_iff.mpr fun x hx => by rw [h x hx]; decide
    rw [this]
    rfl
section
variable {P : Program} {w : World} {K : PySem.W.Frag} {mg : Str → Option Value} {base : Heap} {f : Addr} {fd : FuncData}
abbrev s__law_sight : Stmt := top 56
theorem sc__law_sight : FnScope ["_law_rows", "_law_chosen_here", "_law_post", "_law_word", "_law_names_here", "_law_row", "_law_signs", "_law_name_here", "_law_sign"] ["_law_rows", "_law_chosen_here", "_law_post", "_law_word"] (defScope s__law_sight) := ⟨rfl, rfl, rfl, by decide +kernel, rfl, by decide +kernel, by decide +kernel⟩
def spLSight : Sp := fun vs H Q _ => ∃ (p rl c : Addr) (po : Int) (z : Str) (xs : List V) (rs : List Ins) (cs : List Str), vs = [.ref rl, .ref c, .int po, .str z] ∧ H rl = some (.lst xs) ∧ Paired (InsT p H) xs rs ∧ Rows rs ∧ H c = some (.lst (cs.map V.str)) ∧ Cs rs cs ∧
  ∀ v H', Ex H H' → SeenAt H' v ((sens rs cs po).map (look z)) → Q v H'
theorem ok_lsight (G : Gz mg) (D : Df K mg "_law_sight" s__law_sight f fd ["_law_rows", "_law_chosen_here", "_law_post", "_law_word"]) : Callee P w K mg base CXn 1 "_law_sight" 4 spLSight := by
  refine D.callee (D.fn.ok sc__law_sight (fun vs H Q E h => ?_) (fun cdv A outer s H vs Q E hr h => ⟨_, PSs.nox (pss_cons (ps_set (i := 4) sc__law_sight.nd rfl (Or.inl rfl) (pe_callB (cr_sortL rfl) rfl G.g_sorted (by rfl) (pa_cons (pe_lc (own := [("_law_row", 5)]) rfl sc__law_sight.nd (pi_list (pv 0)) (BlkOk.mk (N := ["_law_rows", "_law_chosen_here", "_law_post", "_law_word", "_law_names_here", "_law_row", "_law_signs", "_law_name_here", "_law_sign"]) (sc := defScope s__law_sight) rfl (by decide +kernel) (by decide +kernel) (by decide +kernel) (by decide +kernel)) (fun _ _ _ _ _ => (pg_name (i := 5) sc__law_sight.nd rfl (Or.inl rfl))) (fun _ _ _ _ _ => (pts_one (PW.pt (pw_and (pt_cmpR op_eq (pe_ix (ixK (K := K) rfl) (pv 5) pe_int (fun _ _ => rfl)) pe_str (nomark _)) (pw_and (pt_cmpR op_eq (pe_ix (ixK (K := K) rfl) (pv 5) pe_int (fun _ _ => rfl)) (pv 2) (nomark _)) (pw_and1 (pt_cmpR (inK (K := K) rfl) (pe_ix (ixK (K := K) rfl) (pv 5) pe_int (fun _ _ => rfl)) (pv 1) (by rfl)))))))) (fun _ _ _ _ _ => (pe_ix (ixK (K := K) rfl) (pv 5) pe_int (fun _ _ => rfl)))) pa_nil))) (pss_cons (ps_set (i := 6) sc__law_sight.nd rfl (Or.inl rfl) (pe_lst pa_nil)) (pss_cons (ps_for PassesOwn.never rfl (pi_list (pv 4)) (pg_name (i := 7) sc__law_sight.nd rfl (Or.inr rfl)) (pss_one (ps_expr (pe_bm PySem.F.plainAttrs_list PySem.F.slot_list_append PySem.F.type_list_append mt_append (pv 6) (pa_cons (pe_ix (ixK (K := K) rfl) (pe_lc (own := [("_law_row", 5)]) rfl sc__law_sight.nd (pi_list (pv 0)) (BlkOk.mk (N := ["_law_rows", "_law_chosen_here", "_law_post", "_law_word", "_law_names_here", "_law_row", "_law_signs", "_law_name_here", "_law_sign"]) (sc := defScope s__law_sight) rfl (by decide +kernel) (by decide +kernel) (by decide +kernel) (by decide +kernel)) (fun _ _ _ _ _ => (pg_name (i := 5) sc__law_sight.nd rfl (Or.inl rfl))) (fun _ _ _ _ _ => (pts_one (pt_cmpR op_eq (pe_ix (ixK (K := K) rfl) (pv 5) pe_int (fun _ _ => rfl)) (pv 7) (nomark _)))) (fun _ _ _ _ _ => (pe_dget1 (room1 hr) (pe_ix (ixK (K := K) rfl) (pv 5) pe_int (fun _ _ => rfl)) (pv 3) ⟨rfl, rfl, rfl, rfl⟩))) pe_int (fun _ _ => rfl)) pa_nil))))) (pss_cons (ps_if (pt_cmpR op_eq (pe_callB (lenK (K := K) rfl) rfl G.g_len PySem.boot_len (pa_cons (pe_lc (own := [("_law_sign", 8)]) rfl sc__law_sight.nd (pi_list (pv 6)) (BlkOk.mk (N := ["_law_rows", "_law_chosen_here", "_law_post", "_law_word", "_law_names_here", "_law_row", "_law_signs", "_law_name_here", "_law_sign"]) (sc := defScope s__law_sight) rfl (by decide +kernel) (by decide +kernel) (by decide +kernel) (by decide +kernel)) (fun _ _ _ _ _ => (pg_name (i := 8) sc__law_sight.nd rfl (Or.inl rfl))) (fun _ _ _ _ _ => (pts_one (pt_cmpR op_notN (pv 8) pe_non (nomark _)))) (fun _ _ _ _ _ => (pv 8))) pa_nil)) pe_int (nomark _)) (pss_one (ps_ret pe_non)) pss_nil) (pss_one (ps_ret (pe_callTy (tupOfK (K := K) rfl) rfl G.g_tuple (by rfl) (pa_cons (pv 6) pa_nil)))))))), ?_⟩))
  · obtain ⟨_, _, _, _, _, _, _, _, rfl, _⟩ := h
    rfl
  · obtain ⟨p, rl, c, po, z, xs, rs, cs, rfl, hrl, pr, R, hc, C, k⟩ := h
    have xl := Paired.length pr
    have x6 := R.most
    refine ⟨_, rfl, rl, rfl, ⟨_, sq_of hrl⟩, fun N hN => ?_⟩
    refine lc_ev (f := fun x => isSel false cs po (getI rs (nmT H x))) (v := fun x => .str (nmT H x)) (st_l (K := K) (sq_of hrl)) (by omega) (fun x => rfl) hN (fun x hx H1 e Q q => ?_) (fun x hx _ H1 e Q q => ?_) (fun H1 e1 hN1 => ?_)
    · obtain ⟨i, hi⟩ := List.getElem?_of_mem hx
      obtain ⟨r, hr0, g⟩ := prd_at pr hi
      have q1 := q H1 (Ex.refl _)
      rw [nmT_at g, getI_of R.nd (List.mem_of_getElem? hr0)] at q1
      obtain ⟨a, d, rfl, _, ha, hd⟩ := g
      have ha' := st_of (K := K) (e _ _ ha)
      unfold isSel at q1
      refine ⟨_, rfl, .inr (.inl ⟨a, _, 0, _, rfl, rfl, ha', (by rfl), rfl, _, rfl, ?_⟩)⟩
      rw [kind_sensor]
      cases h1 : decide (r.lk = false) with
      | false =>
        rw [h1] at q1
        exact iteF q1
      | true =>
        rw [h1] at q1
        refine iteT ⟨_, rfl, .inr (.inl ⟨a, _, 2, _, rfl, rfl, ha', (by rfl), _, rfl, rfl, _, rfl, ?_⟩)⟩
        cases h2 : decide (V.int r.po = V.int po) with
        | false =>
          rw [h2] at q1
          exact iteF q1
        | true =>
          rw [h2] at q1
          refine iteT ⟨_, rfl, .inr (.inl ⟨a, _, 1, _, rfl, rfl, ha', (by rfl), _, rfl, c, _, rfl, .inl (sq_of (e _ _ hc)), rfl, fl_strs cs, decide (r.nm ∈ cs), (by show V.bl (inV (.str r.nm) (cs.map V.str)) = _; rw [inV_str]), ?_⟩)⟩
          exact q1
    · obtain ⟨i, hi⟩ := List.getElem?_of_mem hx
      obtain ⟨r, hr0, g⟩ := prd_at pr hi
      have q1 := q H1 (Ex.refl _)
      rw [nmT_at g] at q1
      obtain ⟨a, d, rfl, _, ha, hd⟩ := g
      exact ⟨_, rfl, .inr (.inl ⟨a, _, 1, _, rfl, rfl, st_of (e _ _ ha), (by rfl), q1⟩)⟩
    have en : (xs.filter fun x => isSel false cs po (getI rs (nmT H x))).map (fun x => V.str (nmT H x)) = (rs.filter (isSel false cs po)).map fun r => V.str r.nm := by
      have : ∀ {xs : List V} {ts : List Ins}, Paired (InsT p H) xs ts → (∀ r ∈ ts, r ∈ rs) → (xs.filter fun x => isSel false cs po (getI rs (nmT H x))).map (fun x => V.str (nmT H x)) = (ts.filter (isSel false cs po)).map fun r => V.str r.nm := fun {xs ts} h => by
        induction h with
        | nil => intro _; rfl
        | @cons a b l m g t ih =>
          intro hm
          have e1 : getI rs (nmT H a) = b := by rw [nmT_at g]; exact getI_of R.nd (hm b List.mem_cons_self)
          have ih' := ih fun r hr => hm r (List.mem_cons_of_mem _ hr)
          rw [List.filter_cons, List.filter_cons, e1]
          cases isSel false cs po b with
          | true => simp only [if_true, List.map_cons]; rw [ih', nmT_at g]
          | false => simpa using ih'
      exact this pr fun r hr => hr
    rw [en, show ((rs.filter (isSel false cs po)).map fun r => V.str r.nm) = ((rs.filter (isSel false cs po)).map (·.nm)).map V.str by rw [List.map_map]; rfl] at hN1
    generalize hns : (rs.filter (isSel false cs po)).map (·.nm) = ns at hN1
    have nl : ns.length ≤ 6 := by rw [← hns, List.length_map]; exact Nat.le_trans (List.length_filter_le _ _) x6
    refine ⟨N, ns, rfl, sq_of hN1, by omega, fun L hL => ?_⟩
    have e2 : Ex H (upd H1 L (.lst ((sortS ns).map V.str))) := e1.trans (Ex.new hL)
    have hL2 : upd H1 L (.lst ((sortS ns).map V.str)) L = some (.lst ((sortS ns).map V.str)) := upd_same
    generalize upd H1 L (.lst ((sortS ns).map V.str)) = H2 at e2 hL2
    clear hL e1 hN1 en hN
    refine ⟨Nat.zero_le _, fun sg nsg => ?_⟩
    have sg0 : H sg = none := fresh_back e2 nsg
    have nLs : L ≠ sg := fun q => by rw [q, nsg] at hL2; cases hL2
    refine ⟨_, rfl, L, rfl, ⟨_, sq_of (Ex.new nsg _ _ hL2)⟩, for_list (fun i σ' H' => ∃ v5 v7 v8, σ' = [some (.ref rl), some (.ref c), some (.int po), some (.str z), some (.ref L), v5, some (.ref sg), v7, v8] ∧ Ex H H' ∧ H' L = some (.lst ((sortS ns).map V.str)) ∧ H' sg = some (.lst (((sortS ns).take i).map fun n => look z (getI rs n))))
      ⟨none, none, none, rfl, e2.trans (Ex.new nsg), Ex.new nsg _ _ hL2, upd_same⟩ (fun i σ' H' _ ⟨_, _, _, _, _, h, _⟩ => sq_of h) ?_ ?_⟩
    · rintro i x σ' H' hx ⟨v5, v7, v8, rfl, e, hL', hs'⟩
      rw [List.getElem?_map] at hx
      obtain ⟨n, hn, rfl⟩ := Option.map_eq_some_iff.mp hx
      have mn := sortS_mem.mp (List.mem_of_getElem? hn)
      rw [← hns] at mn
      obtain ⟨r, hr0, rfl⟩ := List.mem_map.mp mn
      obtain ⟨mr, hsel⟩ := List.mem_filter.mp hr0
      have lk : r.lk = false := by
        unfold isSel at hsel
        rw [Bool.and_eq_true] at hsel
        exact of_decide_eq_true hsel.1
      refine ⟨_, rfl, .inl ⟨rfl, _, sq_of hs'⟩, ?_⟩
      refine ⟨_, rfl, rl, rfl, ⟨_, sq_of (e _ _ hrl)⟩, fun N2 nN2 => ?_⟩
      refine lc_ev (f := fun x => decide (V.str (nmT H x) = V.str r.nm)) (v := fun _ => look z r) (st_l (K := K) (sq_of (e _ _ hrl))) (by omega) (fun x => rfl) nN2 (fun x hx H3 e3 Q q => ?_) (fun x hx hf H3 e3 Q q => ?_) (fun H3 e3 hN3 => ?_)
      · obtain ⟨j, hj⟩ := List.getElem?_of_mem hx
        obtain ⟨r2, hr2, g⟩ := prd_at pr hj
        have q1 := q H3 (Ex.refl _)
        rw [nmT_at g] at q1
        obtain ⟨a, d, rfl, _, ha, hd⟩ := g
        exact ⟨_, rfl, .inr (.inl ⟨a, _, 1, _, rfl, rfl, st_of ((e.trans e3) _ _ ha), (by rfl), _, rfl, rfl, _, rfl, q1⟩)⟩
      · obtain ⟨j, hj⟩ := List.getElem?_of_mem hx
        obtain ⟨r2, hr2, g⟩ := prd_at pr hj
        rw [nmT_at g] at hf
        have er : r2 = r := by
          have h1 := getI_of R.nd (List.mem_of_getElem? hr2)
          rw [V.str.inj (of_decide_eq_true hf), getI_of R.nd mr] at h1
          exact h1.symm
        subst er
        obtain ⟨a, d, rfl, _, ha, hd⟩ := g
        have et : r2.thing = .dK r2.tab := by unfold Ins.thing; rw [lk]; rfl
        rw [et] at hd
        have hd3 := (e.trans e3) _ _ hd
        exact ⟨_, rfl, .inr (.inl ⟨a, _, 3, .ref d, rfl, rfl, st_of ((e.trans e3) _ _ ha), (by rfl), d, rfl, .inl ⟨r2.tab, .inl hd3⟩, _, rfl, valV r2.tab (.inr z), .inl ⟨r2.tab, .inr z, .inl hd3, rfl, rfl⟩, q H3 (Ex.refl _)⟩)⟩
      have first : ((xs.filter fun x => decide (V.str (nmT H x) = V.str r.nm)).map fun _ => look z r)[0]? = some (look z r) := by
        obtain ⟨j, hj⟩ := List.getElem?_of_mem mr
        have lj : j < xs.length := by have := (List.getElem?_eq_some_iff.mp hj).1; omega
        obtain ⟨r2, hr2, g⟩ := prd_at pr (List.getElem?_eq_getElem lj)
        rw [hj] at hr2
        cases hr2
        have mm : xs[j] ∈ xs.filter fun x => decide (V.str (nmT H x) = V.str r.nm) := List.mem_filter.mpr ⟨List.getElem_mem lj, by rw [nmT_at g]; exact decide_eq_true rfl⟩
        rw [List.getElem?_map]
        cases hl : xs.filter fun x => decide (V.str (nmT H x) = V.str r.nm) with
        | nil => rw [hl] at mm; cases mm
        | cons _ _ => rfl
      refine .inl ⟨N2, _, 0, look z r, rfl, rfl, sq_of hN3, at_of (j := 0) (by omega) first, ?_⟩
      have hs3 := e3 _ _ hs'
      have tl : (((sortS ns).take i).map fun n => look z (getI rs n)).length ≤ 6 := by rw [List.length_map, List.length_take, sortS_len]; omega
      refine ⟨sg, _, look z r, rfl, rfl, hs3, sz_lt (by omega), _, _, _, rfl, (e.trans e3).mut sg0, by rw [upd_ne nLs]; exact e3 _ _ hL', ?_⟩
      rw [upd_same, List.take_add_one, hn, List.map_append]
      show some (HO.lst (_ ++ [look z r])) = some (.lst (_ ++ [look z (getI rs r.nm)]))
      rw [getI_of R.nd mr]
    · rintro σ' H' ⟨v5, v7, v8, rfl, e, hL', hs'⟩
      have et : (sortS ns).take ((sortS ns).map V.str).length = sortS ns := by rw [List.length_map]; exact List.take_length
      rw [et] at hs'
      have ez : (sortS ns).map (fun n => look z (getI rs n)) = (sens rs cs po).map (look z) := by
        rw [sens_sorted R C, hns, List.map_map]
        rfl
      rw [ez] at hs'
      generalize hzs : (sens rs cs po).map (look z) = zs at hs' k
      have zl : zs.length ≤ 6 := by rw [← hzs, List.length_map]; exact sens_len R C
      refine ⟨_, rfl, sg, rfl, ⟨_, sq_of hs'⟩, fun N2 nN2 => ?_⟩
      refine lc_ev (f := fun x => !decide (x = .non)) (v := fun x => x) (st_l (K := K) (sq_of hs')) (by omega) (fun x => rfl) nN2 (fun x hx H3 e3 Q q => ⟨_, rfl, rfl, _, rfl, q H3 (Ex.refl _)⟩) (fun x hx _ H3 e3 Q q => ⟨_, rfl, q H3 (Ex.refl _)⟩) (fun H3 e3 hN3 => ?_)
      refine ⟨.ref N2, _, rfl, .inl ⟨_, sq_of hN3, rfl⟩, rfl, _, rfl, ?_⟩
      rw [allNon_len]
      have E3 := e.trans e3
      cases ha : allNon zs with
      | true => exact iteT (k .non H3 E3 (.inl ⟨ha, rfl⟩))
      | false =>
        refine iteF ⟨_, rfl, ?_⟩
        dsimp only [tNil]
        exact tupof_go (K := K) (.inl (e3 _ _ hs')) fun tp H4 e4 htp => k (.ref tp) H4 (E3.trans e4) (.inr ⟨ha, tp, rfl, htp⟩)
end
end WK

set_option Elab.async false
set_option linter.all false
set_option maxRecDepth 100000
set_option maxHeartbeats 4000000
namespace WK
open PySem PySem.Spec PyProof.Rows L2 WW Evl
theorem lcks_iff {rs : List Ins} {cs : List Str} {po : Int} (R : Rows rs) (C : Cs rs cs) (r : Ins) : r ∈ lcks rs cs po ↔ r ∈ rs ∧ isSel true cs po r = true := by
  have e : lcks rs cs po = (sortS ((rs.filter (isSel true cs po)).map (·.nm))).map (getI rs) := by
    rw [← nm_sorted R C]
    unfold lcks
    congr 1
    funext r
    cases r.lk <;> rfl
  rw [e, List.mem_map]
  constructor
  · rintro ⟨n, hn, rfl⟩
    obtain ⟨q, hq, rfl⟩ := List.mem_map.mp (sortS_mem.mp hn)
    obtain ⟨mq, hs⟩ := List.mem_filter.mp hq
    rw [getI_of R.nd mq]
    exact ⟨mq, hs⟩
  · rintro ⟨m, hs⟩
    exact ⟨r.nm, sortS_mem.mpr (List.mem_map_of_mem (List.mem_filter.mpr ⟨m, hs⟩)), getI_of R.nd m⟩
section
variable {P : Program} {w : World} {K : PySem.W.Frag} {mg : Str → Option Value} {base : Heap} {f : Addr} {fd : FuncData}
abbrev s__law_reads : Stmt := top 57
theorem sc__law_reads : FnScope ["_law_rows", "_law_chosen_here", "_law_reader", "_law_word", "_law_pair"] ["_law_rows", "_law_chosen_here", "_law_reader", "_law_word"] (defScope s__law_reads) := ⟨rfl, rfl, rfl, by decide +kernel, rfl, by decide +kernel, by decide +kernel⟩
def spReads : Sp := fun vs H Q _ => ∃ (p rl c : Addr) (z : Str) (xs : List V) (rs : List Ins) (cs : List Str), vs = [.ref rl, .ref c, .str "both", .str z] ∧ H rl = some (.lst xs) ∧ Paired (InsT p H) xs rs ∧ Rows rs ∧ H c = some (.lst (cs.map V.str)) ∧ Cs rs cs ∧
  ∀ v H', Ex H H' → JointAt H' v ((sens rs cs 0).map (look z)) ((sens rs cs 1).map (look z)) → Q v H'
theorem ok_reads (D : Df K mg "_law_reads" s__law_reads f fd ["_law_rows", "_law_chosen_here", "_law_reader", "_law_word"]) (c__law_sight : Callee P w K mg base CXn 1 "_law_sight" 4 spLSight) : Callee P w K mg base CXn 2 "_law_reads" 4 spReads := by
  refine D.callee (D.fn.ok sc__law_reads (fun vs H Q E h => ?_) (fun cdv A outer s H vs Q E hr h => ⟨_, PSs.nox (pss_cons (ps_if (pt_cmpR op_ne (pv 2) pe_str (nomark _)) (pss_one (ps_ret (pe_cl (E := En) c__law_sight (hr.mono (by decide)) rfl passN (pa_cons (pv 0) (pa_cons (pv 1) (pa_cons (pv 2) (pa_cons (pv 3) pa_nil))))))) pss_nil) (pss_cons (ps_set (i := 4) sc__law_reads.nd rfl (Or.inl rfl) (pe_tup (pa_cons (pe_cl (E := En) c__law_sight (hr.mono (by decide)) rfl passN (pa_cons (pv 0) (pa_cons (pv 1) (pa_cons pe_int (pa_cons (pv 3) pa_nil))))) (pa_cons (pe_cl (E := En) c__law_sight (hr.mono (by decide)) rfl passN (pa_cons (pv 0) (pa_cons (pv 1) (pa_cons pe_int (pa_cons (pv 3) pa_nil))))) pa_nil)))) (pss_cons (ps_if (pt_cmpR (op_eqD hr.units) (pv 4) (pe_tup (pa_cons pe_non (pa_cons pe_non pa_nil))) (nomark _)) (pss_one (ps_ret pe_non)) pss_nil) (pss_one (ps_ret (pv 4)))))), ?_⟩))
  · obtain ⟨_, _, _, _, _, _, _, rfl, _⟩ := h
    rfl
  · obtain ⟨p, rl, c, z, xs, rs, cs, rfl, hrl, pr, R, hc, C, k⟩ := h
    refine ⟨_, rfl, rfl, _, rfl, iteF ?_⟩
    refine ⟨_, rfl, _, rfl, _, rfl, p, rl, c, 0, z, xs, rs, cs, rfl, hrl, pr, R, hc, C, fun v1 H1 e1 s1 => ?_⟩
    refine ⟨_, rfl, _, rfl, _, rfl, p, rl, c, 1, z, xs, rs, cs, rfl, e1 _ _ hrl, Paired.mapP pr (fun _ _ g => g.ex e1), R, e1 _ _ hc, C, fun v2 H2 e2 s2 => ?_⟩
    have s1' := s1.ex e2
    refine ⟨(by show 2 ≤ sizeLine; decide), fun T hT => ?_⟩
    have e3 : Ex H2 (upd H2 T (.tup [v1, v2])) := Ex.new hT
    have hT3 : upd H2 T (.tup [v1, v2]) T = some (.tup [v1, v2]) := upd_same
    generalize upd H2 T (.tup [v1, v2]) = H3 at e3 hT3
    refine ⟨_, rfl, (by show 2 ≤ sizeLine; decide), fun T2 hT2 => ?_⟩
    have e4 : Ex H3 (upd H3 T2 (.tup [.non, .non])) := Ex.new hT2
    have E4 := e1.trans (e2.trans (e3.trans e4))
    refine pair_go (e4 _ _ hT3) upd_same ((s1'.ex e3).ex e4) ((s2.ex e3).ex e4) (sens_sgn R C z) (sens_sgn R C z) ⟨_, rfl, ?_⟩
    cases ha : (allNon ((sens rs cs 0).map (look z)) && allNon ((sens rs cs 1).map (look z))) with
    | true => exact iteT (k .non _ E4 (.inl ⟨ha, rfl⟩))
    | false => exact iteF ⟨_, rfl, k (.ref T) _ E4 (.inr ⟨ha, T, v1, v2, rfl, e4 _ _ hT3, (s1'.ex e3).ex e4, (s2.ex e3).ex e4⟩)⟩
abbrev s__law_stops : Stmt := top 58
theorem sc__law_stops : FnScope ["_law_rows", "_law_chosen_here", "_law_post", "_law_words_here", "_law_row"] ["_law_rows", "_law_chosen_here", "_law_post"] (defScope s__law_stops) := ⟨rfl, rfl, rfl, by decide +kernel, rfl, by decide +kernel, by decide +kernel⟩
def spStops : Sp := fun vs H Q _ => ∃ (p rl c : Addr) (po : Int) (xs : List V) (rs : List Ins) (cs : List Str), vs = [.ref rl, .ref c, .int po] ∧ H rl = some (.lst xs) ∧ Paired (InsT p H) xs rs ∧ Rows rs ∧ H c = some (.lst (cs.map V.str)) ∧ Cs rs cs ∧
  ∀ L ks H', Ex H H' → ks.Nodup → (∀ k, k ∈ ks ↔ ∃ r ∈ lcks rs cs po, k ∈ r.ws) → H' L = some (.lst ((sortS ks).map V.str)) → Q (.ref L) H'
theorem ok_stops (G : Gz mg) (D : Df K mg "_law_stops" s__law_stops f fd ["_law_rows", "_law_chosen_here", "_law_post"]) : Callee P w K mg base CXn 1 "_law_stops" 3 spStops := by
  refine D.callee (D.fn.ok sc__law_stops (fun vs H Q E h => ?_) (fun cdv A outer s H vs Q E hr h => ⟨_, PSs.nox (pss_cons (ps_set (i := 3) sc__law_stops.nd rfl (Or.inl rfl) (pe_lst pa_nil)) (pss_cons (ps_for PassesOwn.never rfl (pi_list (pv 0)) (pg_name (i := 4) sc__law_stops.nd rfl (Or.inl rfl)) (pss_one (ps_if (PW.pt (pw_and (pt_cmpR op_eq (pe_ix (ixK (K := K) rfl) (pv 4) pe_int (fun _ _ => rfl)) pe_str (nomark _)) (pw_and (pt_cmpR op_eq (pe_ix (ixK (K := K) rfl) (pv 4) pe_int (fun _ _ => rfl)) (pv 2) (nomark _)) (pw_and1 (pt_cmpR (inK (K := K) rfl) (pe_ix (ixK (K := K) rfl) (pv 4) pe_int (fun _ _ => rfl)) (pv 1) (by rfl)))))) (pss_one (ps_set (i := 3) sc__law_stops.nd rfl (Or.inl rfl) (pe_op op_cat (pv 3) (pe_callTy (listOfK (K := K) rfl) rfl G.g_list (by rfl) (pa_cons (pe_ix (ixK (K := K) rfl) (pv 4) pe_int (fun _ _ => rfl)) pa_nil))))) pss_nil))) (pss_one (ps_ret (pe_callB (cr_sortSS rfl hr.units) rfl G.g_sorted (by rfl) (pa_cons (pe_callTy (cr_setOfS rfl) rfl G.g_set (by rfl) (pa_cons (pv 3) pa_nil)) pa_nil)))))), ?_⟩))
  · obtain ⟨_, _, _, _, _, _, _, rfl, _⟩ := h
    rfl
  · obtain ⟨p, rl, c, po, xs, rs, cs, rfl, hrl, pr, R, hc, C, k⟩ := h
    have xl := Paired.length pr
    have x6 := R.most
    refine ⟨Nat.zero_le _, fun l0 hl0 => ?_⟩
    have e0 : Ex H (upd H l0 (.lst [])) := Ex.new hl0
    refine ⟨_, rfl, rl, rfl, ⟨_, sq_of (e0 _ _ hrl)⟩, for_list (fun i σ' H' => ∃ W v4 us, σ' = [some (.ref rl), some (.ref c), some (.int po), some (.ref W), v4] ∧ Ex H H' ∧ H' W = some (.lst (us.map V.str)) ∧ us = ((rs.take i).filter (isSel true cs po)).flatMap (·.ws) ∧ us.length ≤ 10 * i)
      ⟨l0, none, [], rfl, e0, upd_same, rfl, Nat.zero_le _⟩ (fun i σ' H' _ ⟨_, _, _, _, e, _⟩ => sq_of (e _ _ hrl)) ?_ ?_⟩
    · rintro i x σ' H' hx ⟨W, v4, us, rfl, e, hW, eu, ul⟩
      obtain ⟨r, hr0, g⟩ := prd_at pr hx
      obtain ⟨a, d, rfl, _, ha, hd⟩ := g
      have ha' := st_of (K := K) (e _ _ ha)
      have ok := R.ok r (List.mem_of_getElem? hr0)
      have i6 : i < 6 := by have := (List.getElem?_eq_some_iff.mp hr0).1; omega
      have stay : isSel true cs po r = false → ∃ W' v4' us', [some (V.ref rl), some (.ref c), some (.int po), some (.ref W), some (.ref a)] = [some (.ref rl), some (.ref c), some (.int po), some (.ref W'), v4'] ∧ Ex H H' ∧ H' W' = some (.lst (us'.map V.str)) ∧ us' = ((rs.take (i + 1)).filter (isSel true cs po)).flatMap (·.ws) ∧ us'.length ≤ 10 * (i + 1) := fun z =>
        ⟨W, _, us, rfl, e, hW, by rw [List.take_add_one, hr0, List.filter_append, eu]; simp [z], by omega⟩
      refine ⟨_, rfl, .inr (.inl ⟨a, _, 0, _, rfl, rfl, ha', (by rfl), rfl, _, rfl, ?_⟩)⟩
      rw [kind_lock]
      cases h1 : decide (r.lk = true) with
      | false => exact iteF (iteF (stay (by unfold isSel; rw [h1]; rfl)))
      | true =>
        refine iteT ⟨_, rfl, .inr (.inl ⟨a, _, 2, _, rfl, rfl, ha', (by rfl), _, rfl, rfl, _, rfl, ?_⟩)⟩
        cases h2 : decide (V.int r.po = V.int po) with
        | false => exact iteF (iteF (stay (by unfold isSel; rw [h1, h2]; rfl)))
        | true =>
          refine iteT ⟨_, rfl, .inr (.inl ⟨a, _, 1, _, rfl, rfl, ha', (by rfl), _, rfl, c, _, rfl, .inl (sq_of (e _ _ hc)), rfl, fl_strs cs, decide (r.nm ∈ cs), (by show V.bl (inV (.str r.nm) (cs.map V.str)) = _; rw [inV_str]), ?_⟩)⟩
          cases h3 : decide (r.nm ∈ cs) with
          | false => exact iteF (stay (by unfold isSel; rw [h1, h2, h3]; rfl))
          | true =>
            have lk := of_decide_eq_true h1
            have et : r.thing = .lst (r.ws.map V.str) := by unfold Ins.thing; rw [lk]; rfl
            rw [et] at hd
            refine iteT ⟨_, rfl, _, rfl, .inr (.inl ⟨a, _, 3, _, rfl, rfl, ha', (by rfl), d, _, rfl, .inl (sq_of (e _ _ hd)), fun l1 hl1 => ?_⟩)⟩
            have e1 : Ex H' (upd H' l1 (.lst (r.ws.map V.str))) := Ex.new hl1
            have hl1' : upd H' l1 (.lst (r.ws.map V.str)) l1 = some (.lst (r.ws.map V.str)) := upd_same
            generalize upd H' l1 (.lst (r.ws.map V.str)) = H1 at e1 hl1'
            have wl := ok.le
            refine ⟨W, l1, _, _, rfl, rfl, e1 _ _ hW, hl1', sz_of (by rw [List.length_map, List.length_map]; omega), fun W2 nW2 => ?_⟩
            refine ⟨W2, _, us ++ r.ws, rfl, e.trans (e1.trans (Ex.new nW2)), by rw [upd_same, List.map_append], ?_, by rw [List.length_append]; omega⟩
            rw [List.take_add_one, hr0, List.filter_append, eu, List.flatMap_append]
            have hs : isSel true cs po r = true := by unfold isSel; rw [h1, h2, h3]; rfl
            simp [hs]
    · rintro σ' H' ⟨W, v4, us, rfl, e, hW, eu, ul⟩
      have et : rs.take xs.length = rs := by rw [xl]; exact List.take_length
      rw [et] at eu
      have sb : us.length + 1 < scanBound := by
        have : (1002 : Nat) ≤ scanBound := by decide
        omega
      refine ⟨_, rfl, ?_⟩
      dsimp only [tNil]
      refine words_go (K := K) (P := P) (w := w) hW sb fun L ks H2 e2 _ nd hm hL => k L ks H2 (e.trans e2) nd (fun z => ?_) hL
      rw [hm z, eu, List.mem_flatMap]
      constructor
      · rintro ⟨r, hr0, hz⟩
        obtain ⟨m, hs⟩ := List.mem_filter.mp hr0
        exact ⟨r, (lcks_iff R C r).mpr ⟨m, hs⟩, hz⟩
      · rintro ⟨r, hr0, hz⟩
        obtain ⟨m, hs⟩ := (lcks_iff R C r).mp hr0
        exact ⟨r, List.mem_filter.mpr ⟨m, hs⟩, hz⟩
end
end WK

set_option Elab.async false
set_option linter.all false
set_option maxRecDepth 100000
set_option maxHeartbeats 4000000
namespace WK
open PySem PySem.Spec PyProof.Rows L2 WW Evl
/-- None, a truth value, a number, a text -/
def Lf : V → Prop | .non => True | .bl _ => True | .int _ => True | .str _ => True | _ => False
/-- alike, n levels deep -/
def Alk : Nat → Hp → V → V → Prop
  | 0, _, v, u => v = u ∧ Lf v
  | n + 1, H, v, u => (v = u ∧ Lf v) ∨ ∃ a b xs ys, v = .ref a ∧ u = .ref b ∧ ((H a = some (.lst xs) ∧ H b = some (.lst ys)) ∨ (H a = some (.tup xs) ∧ H b = some (.tup ys))) ∧ xs.length ≤ 1000 ∧ Paired (Alk n H) xs ys
theorem Alk.ex {H H' : Hp} (e : Ex H H') : ∀ {n : Nat} {v u : V}, Alk n H v u → Alk n H' v u
  | 0, _, _, h => h
  | n + 1, _, _, h => h.imp id fun ⟨a, b, xs, ys, e1, e2, h, l, p⟩ => ⟨a, b, xs, ys, e1, e2, h.imp (fun z => ⟨e _ _ z.1, e _ _ z.2⟩) (fun z => ⟨e _ _ z.1, e _ _ z.2⟩), l, Paired.mapP p fun _ _ q => Alk.ex e q⟩
theorem Alk.leaf {H : Hp} {v : V} (h : Lf v) : ∀ n, Alk n H v v
  | 0 => ⟨rfl, h⟩
  | _ + 1 => .inl ⟨rfl, h⟩
theorem Lf.pl {H : Hp} {v : V} (h : Lf v) : Pl H v := by
  cases v <;> first | exact .non | exact .bl _ | exact .int _ | exact .str _ | exact h.elim
theorem Lf.flat {H : Hp} {v : V} (h : Lf v) : isL H v = false ∧ isT H v = false := by
  cases v <;> first | exact ⟨rfl, rfl⟩ | exact h.elim
theorem Lf.scal {v : V} (h : Lf v) : scal v v = true := by
  cases v <;> first | rfl | exact h.elim
theorem scal_bl (a b : Bool) : scal (.bl a) (.bl b) = true := rfl
theorem prd_get {α β : Type} {F : α → β → Prop} {xs : List α} {ys : List β} (h : Paired F xs ys) {i : Nat} (hi : i < xs.length) : ∃ x y, xs[i]? = some x ∧ ys[i]? = some y ∧ F x y := by
  obtain ⟨y, hy, g⟩ := prd_at h (List.getElem?_eq_getElem hi)
  exact ⟨_, y, List.getElem?_eq_getElem hi, hy, g⟩
def spA : Nat → Sp
  | 0 => fun _ _ _ _ => False
  | n + 1 => fun vs H Q _ => ∃ v u, vs = [v, u] ∧ Alk n H v u ∧ ∀ H', Ex H H' → Q (.bl true) H'
section
variable {P : Program} {w : World} {K : PySem.W.Frag} {mg : Str → Option Value} {base : Heap} {f : Addr} {fd : FuncData}
abbrev s__law_alike : Stmt := top 59
theorem sc__law_alike : FnScope ["_law_one", "_law_other", "_law_at"] ["_law_one", "_law_other"] (defScope s__law_alike) := ⟨rfl, rfl, rfl, by decide +kernel, rfl, by decide +kernel, by decide +kernel⟩
theorem ok_alike0 (D : Df K mg "_law_alike" s__law_alike f fd ["_law_one", "_law_other"]) : Callee P w K mg base CXn 0 "_law_alike" 2 (spA 0) := by
  refine D.callee ⟨fun _ _ _ _ h => h.elim, fun _ _ _ _ _ _ _ _ _ _ _ _ _ h => h.elim⟩
theorem ok_alike (G : Gz mg) (D : Df K mg "_law_alike" s__law_alike f fd ["_law_one", "_law_other"]) (n : Nat) (c__law_alike : Callee P w K mg base CXn n "_law_alike" 2 (spA n)) : Callee P w K mg base CXn (n + 1) "_law_alike" 2 (spA (n + 1)) := by
  refine D.callee (D.fn.ok sc__law_alike (fun vs H Q E h => ?_) (fun cdv A outer s H vs Q E hr h => ⟨_, PSs.nox (pss_cons (ps_if (pt_cmpR op_ne (pe_callB (isiK (K := K) rfl) rfl G.g_isinstance (by rfl) (pa_cons (pv 0) (pa_cons (pe_bltn (v := .ty "bool") rfl G.g_bool (by rfl) rfl) pa_nil))) (pe_callB (isiK (K := K) rfl) rfl G.g_isinstance (by rfl) (pa_cons (pv 1) (pa_cons (pe_bltn (v := .ty "bool") rfl G.g_bool (by rfl) rfl) pa_nil))) (nomark _)) (pss_one (ps_ret pe_bl)) pss_nil) (pss_cons (ps_if (pt_val (pe_callB call_isiT rfl G.g_isinstance (by rfl) (pa_cons (pv 1) (pa_cons (pe_tup (pa_cons (pe_bltn (v := .ty "list") rfl G.g_list (by rfl) rfl) (pa_cons (pe_bltn (v := .ty "tuple") rfl G.g_tuple (by rfl) rfl) pa_nil))) pa_nil)))) (pss_cons (ps_if (PW.pt (pw_or (pt_cmpR op_ne (pe_callB (isiK (K := K) rfl) rfl G.g_isinstance (by rfl) (pa_cons (pv 0) (pa_cons (pe_bltn (v := .ty "list") rfl G.g_list (by rfl) rfl) pa_nil))) (pe_callB (isiK (K := K) rfl) rfl G.g_isinstance (by rfl) (pa_cons (pv 1) (pa_cons (pe_bltn (v := .ty "list") rfl G.g_list (by rfl) rfl) pa_nil))) (nomark _)) (pw_or1 (pt_cmpR op_ne (pe_callB (isiK (K := K) rfl) rfl G.g_isinstance (by rfl) (pa_cons (pv 0) (pa_cons (pe_bltn (v := .ty "tuple") rfl G.g_tuple (by rfl) rfl) pa_nil))) (pe_callB (isiK (K := K) rfl) rfl G.g_isinstance (by rfl) (pa_cons (pv 1) (pa_cons (pe_bltn (v := .ty "tuple") rfl G.g_tuple (by rfl) rfl) pa_nil))) (nomark _))))) (pss_one (ps_ret pe_bl)) pss_nil) (pss_cons (ps_if (pt_cmpR op_ne (pe_callB (lenK (K := K) rfl) rfl G.g_len PySem.boot_len (pa_cons (pv 0) pa_nil)) (pe_callB (lenK (K := K) rfl) rfl G.g_len PySem.boot_len (pa_cons (pv 1) pa_nil)) (nomark _)) (pss_one (ps_ret pe_bl)) pss_nil) (pss_one (ps_ret (pe_cmpR op_eq (pe_callB (lenK (K := K) rfl) rfl G.g_len PySem.boot_len (pa_cons (pe_lc (own := [("_law_at", 2)]) rfl sc__law_alike.nd (pi_range1 rfl G.g_range (pa_cons (pe_callB (lenK (K := K) rfl) rfl G.g_len PySem.boot_len (pa_cons (pv 1) pa_nil)) pa_nil)) (BlkOk.mk (N := ["_law_one", "_law_other", "_law_at"]) (sc := defScope s__law_alike) rfl (by decide +kernel) (by decide +kernel) (by decide +kernel) (by decide +kernel)) (fun _ _ _ _ _ => (pg_name (i := 2) sc__law_alike.nd rfl (Or.inl rfl))) (fun _ _ _ _ _ => (pts_one (pt_not (pt_val (pe_cl (E := En) c__law_alike (hr.mono (Nat.le_refl _)) rfl passN (pa_cons (pe_ix (ixK (K := K) rfl) (pv 0) (pv 2) (fun _ _ => rfl)) (pa_cons (pe_ix (ixK (K := K) rfl) (pv 1) (pv 2) (fun _ _ => rfl)) pa_nil))))))) (fun _ _ _ _ _ => (pv 2))) pa_nil)) pe_int (nomark _)))))) pss_nil) (pss_one (ps_ret (pe_cmpR op_eq (pv 0) (pv 1) (nomark _)))))), ?_⟩))
  · obtain ⟨_, _, rfl, _⟩ := h
    rfl
  · obtain ⟨v, u, rfl, hal, k⟩ := h
    -- what both are
    have kinds : Pl H v ∧ Pl H u ∧ isB v = isB u ∧ isL H v = isL H u ∧ isT H v = isT H u := by
      have leaf : ∀ {v u : V}, v = u ∧ Lf v → Pl H v ∧ Pl H u ∧ isB v = isB u ∧ isL H v = isL H u ∧ isT H v = isT H u := fun {v u} h => by
        obtain ⟨rfl, lf⟩ := h
        exact ⟨lf.pl, lf.pl, rfl, rfl, rfl⟩
      cases n with
      | zero => exact leaf hal
      | succ m =>
        rcases hal with h | ⟨a, b, xs, ys, rfl, rfl, ⟨ha, hb⟩ | ⟨ha, hb⟩, _⟩
        · exact leaf h
        · exact ⟨.lst ha, .lst hb, rfl, (isL_at ha).trans (isL_at hb).symm, (isT_at ha).trans (isT_at hb).symm⟩
        · exact ⟨.tup ha, .tup hb, rfl, (isL_at ha).trans (isL_at hb).symm, (isT_at ha).trans (isT_at hb).symm⟩
    obtain ⟨pv', pu', kb, kl, kt⟩ := kinds
    obtain ⟨t, g⟩ := pv'.kin (K := K)
    obtain ⟨t2, g2⟩ := pu'.kin (K := K)
    have nb : ∀ x : Bool, (!decide (V.bl x = V.bl x)) = false := fun x => by rw [decide_eq_true rfl]; rfl
    refine ⟨_, rfl, v, .ty "bool", t, .type "bool", isB v, rfl, .ty _, g.ty, g.bool, ?_⟩
    refine ⟨_, rfl, u, .ty "bool", t2, .type "bool", isB u, rfl, .ty _, g2.ty, g2.bool, rfl, false, (by rw [kb, nb]), iteF ?_⟩
    refine ⟨_, rfl, (by decide), fun p hp => ?_⟩
    have e1 : Ex H (upd H p (.tup [.ty "list", .ty "tuple"])) := Ex.new hp
    obtain ⟨t3, g3⟩ := (pu'.ex e1).kin (K := K)
    have same : isL (upd H p (.tup [.ty "list", .ty "tuple"])) u = isL H u ∧ isT (upd H p (.tup [.ty "list", .ty "tuple"])) u = isT H u := by
      cases pu' with
      | lst h => exact ⟨(isL_at (e1 _ _ h)).trans (isL_at h).symm, (isT_at (e1 _ _ h)).trans (isT_at h).symm⟩
      | tup h => exact ⟨(isL_at (e1 _ _ h)).trans (isL_at h).symm, (isT_at (e1 _ _ h)).trans (isT_at h).symm⟩
      | dct h => exact ⟨(isL_at (e1 _ _ h)).trans (isL_at h).symm, (isT_at (e1 _ _ h)).trans (isT_at h).symm⟩
      | _ => exact ⟨rfl, rfl⟩
    refine ⟨u, p, _, t3, [.type "list", .type "tuple"], isL H u || isT H u, rfl, upd_same, .cons (.ty _) (.cons (.ty _) .nil), g3.ty, ?_, _, rfl, ?_⟩
    · rw [← same.1, ← same.2]
      exact kitAny_cons g3.list (fun z => by rw [z]; exact kitAny_cons g3.tuple (fun z2 => by rw [z2]; rfl) (fun z2 => by rw [z2]; rfl)) (fun z => by rw [z]; rfl)
    have leafEnd : v = u ∧ Lf v → _ := fun h => h
    cases n with
    | zero =>
      obtain ⟨rfl, lf⟩ := hal
      rw [lf.flat.1, lf.flat.2]
      refine iteF ?_
      refine ⟨_, rfl, _, rfl, lf.scal, ?_⟩
      have q := k _ e1
      rw [← decide_eq_true (p := v = v) rfl] at q
      exact q
    | succ m =>
      rcases hal with ⟨rfl, lf⟩ | ⟨a, b, xs, ys, rfl, rfl, hab, x1, pr⟩
      · rw [lf.flat.1, lf.flat.2]
        refine iteF ?_
        refine ⟨_, rfl, _, rfl, lf.scal, ?_⟩
        have q := k _ e1
        rw [← decide_eq_true (p := v = v) rfl] at q
        exact q
      have xl := Paired.length pr
      have row : (isL H (.ref b) || isT H (.ref b)) = true := by
        rcases hab with ⟨_, hb⟩ | ⟨_, hb⟩
        · rw [show isL H (.ref b) = true from isL_at hb]; rfl
        · rw [show isL H (.ref b) = false from isL_at hb, show isT H (.ref b) = true from isT_at hb]; rfl
      rw [row]
      refine iteT ?_
      obtain ⟨tv, gv⟩ := (pv'.ex e1).kin (K := K)
      have samev : isL (upd H p (.tup [.ty "list", .ty "tuple"])) (.ref a) = isL (upd H p (.tup [.ty "list", .ty "tuple"])) (.ref b) ∧ isT (upd H p (.tup [.ty "list", .ty "tuple"])) (.ref a) = isT (upd H p (.tup [.ty "list", .ty "tuple"])) (.ref b) := by
        rcases hab with ⟨ha, hb⟩ | ⟨ha, hb⟩
        · exact ⟨(isL_at (e1 _ _ ha)).trans (isL_at (e1 _ _ hb)).symm, (isT_at (e1 _ _ ha)).trans (isT_at (e1 _ _ hb)).symm⟩
        · exact ⟨(isL_at (e1 _ _ ha)).trans (isL_at (e1 _ _ hb)).symm, (isT_at (e1 _ _ ha)).trans (isT_at (e1 _ _ hb)).symm⟩
      generalize hH1 : upd H p (.tup [.ty "list", .ty "tuple"]) = H1 at e1 gv g3 samev
      refine ⟨_, rfl, .ref a, .ty "list", tv, .type "list", isL H1 (.ref a), rfl, .ty _, gv.ty, gv.list, ?_⟩
      refine ⟨_, rfl, .ref b, .ty "list", t3, .type "list", isL H1 (.ref b), rfl, .ty _, g3.ty, g3.list, rfl, false, (by rw [samev.1, nb]), iteF ?_⟩
      refine ⟨_, rfl, .ref a, .ty "tuple", tv, .type "tuple", isT H1 (.ref a), rfl, .ty _, gv.ty, gv.tuple, ?_⟩
      refine ⟨_, rfl, .ref b, .ty "tuple", t3, .type "tuple", isT H1 (.ref b), rfl, .ty _, g3.ty, g3.tuple, rfl, false, (by rw [samev.2, nb]), iteF ?_⟩
      have la : ∀ {H' : Hp}, Ex H H' → LenV K (.ref a) H' xs.length := fun e => hab.elim (fun z => .inl ⟨xs, sq_of (e _ _ z.1), rfl⟩) (fun z => .inr ⟨xs, st_of (e _ _ z.1), rfl⟩)
      have lb : ∀ {H' : Hp}, Ex H H' → LenV K (.ref b) H' ys.length := fun e => hab.elim (fun z => .inl ⟨ys, sq_of (e _ _ z.2), rfl⟩) (fun z => .inr ⟨ys, st_of (e _ _ z.2), rfl⟩)
      refine ⟨_, rfl, .ref a, xs.length, rfl, la e1, _, rfl, .ref b, ys.length, rfl, lb e1, rfl, false, (by rw [xl, decide_eq_true rfl]; rfl), iteF ?_⟩
      refine ⟨_, rfl, .ref b, ys.length, rfl, lb e1, _, rfl, by omega, by omega, fun N hN => ?_⟩
      refine lc_ev (f := fun _ => false) (v := fun x => x) st_r (by rw [List.length_map, List.length_range]; omega) (fun x => rfl) hN (fun x hx H2 e2 Q q => ?_) (fun x hx _ H2 e2 Q q => ⟨_, rfl, q H2 (Ex.refl _)⟩) (fun H2 e2 hN2 => ?_)
      · obtain ⟨i, hi, rfl⟩ := List.mem_map.mp hx
        have hi2 : i < xs.length := by have := List.mem_range.mp hi; omega
        obtain ⟨x, y, hx', hy', g⟩ := prd_get pr hi2
        have E2 := e1.trans e2
        have atA : ∀ {R : VK}, R x H2 → rIx K (.ref a) (.int (0 + (i : Int))) H2 R := fun {R} q => hab.elim (fun z => .inl ⟨a, xs, _, x, rfl, rfl, sq_of (E2 _ _ z.1), at_of (j := i) (by omega) hx', q⟩) (fun z => .inr (.inl ⟨a, xs, _, x, rfl, rfl, st_of (E2 _ _ z.1), at_of (j := i) (by omega) hx', q⟩))
        have atB : ∀ {R : VK}, R y H2 → rIx K (.ref b) (.int (0 + (i : Int))) H2 R := fun {R} q => hab.elim (fun z => .inl ⟨b, ys, _, y, rfl, rfl, sq_of (E2 _ _ z.2), at_of (j := i) (by omega) hy', q⟩) (fun z => .inr (.inl ⟨b, ys, _, y, rfl, rfl, st_of (E2 _ _ z.2), at_of (j := i) (by omega) hy', q⟩))
        refine ⟨_, rfl, _, rfl, atA ⟨_, rfl, _, rfl, atB ?_⟩⟩
        exact ⟨x, y, rfl, g.ex E2, fun H3 e3 => ⟨true, rfl, q H3 e3⟩⟩
      have e0 : ((((List.range (ys.length : Int).toNat).map fun (i : Nat) => V.int (0 + (i : Int))).filter fun _ => false).map fun x => x) = [] := by
        rw [List.filter_eq_nil_iff.mpr (fun _ _ => by decide)]
        rfl
      rw [e0] at hN2
      refine ⟨.ref N, 0, rfl, .inl ⟨_, sq_of hN2, rfl⟩, rfl, ?_⟩
      have q := k _ (e1.trans e2)
      rw [← decide_eq_true (p := V.int ((0 : Nat) : Int) = V.int 0) rfl] at q
      exact q
end
end WK

set_option Elab.async false
set_option linter.all false
set_option maxRecDepth 100000
set_option maxHeartbeats 4000000
/-! isinstance of a caught exception that has a dict of its own. -/
namespace WW
open PySem PySem.Spec PyProof.Rows L2
/-- isinstance(e, c), e the exception that the suite holds at a, of the class cls, with the dict d -/
def rIsED (K : PySem.W.Frag) (a : Addr) (cls : Value) (d : Option Addr) : List V → Hp → VK → Prop := fun xs H Q => ∃ (D dd : Addr) (fs : List (Str × V)), cls = .ref D ∧ d = some dd ∧ H dd = some (.xd fs) ∧ ExcC K D ∧ rIsE K D a xs H Q
theorem call_isED {X : Cx} {a : Addr} {cls : Value} {d : Option Addr} {oe : Obj} {pn : List (Addr × Obj)} (hz : Zc cls d oe) (hf : ∃ vs, oe.data = .fields vs) : CallR (X.suite a ((a, oe) :: pn)) (.builtin "isinstance") (rIsED X.K a cls d) := by
  intro pins s σ H xs us Q I r h
  obtain ⟨D, dd, fs, rfl, rfl, hx, C, c, cv, b, rfl, hcv, e, q⟩ := h
  match us, r with
  | [_, t], .cons rx (.cons rt .nil) =>
    cases rx
    have ec := hcv _ rt
    subst ec
    obtain ⟨hget, _⟩ := I.pin (a, oe) (List.mem_append_left _ List.mem_cons_self)
    obtain ⟨vs, hv⟩ := hf
    obtain ⟨mA, hns, _⟩ := (show ObjOk X.prog X.w H s.heap dd (.xd fs) from I.hok dd _ hx)
    obtain ⟨od, ho, _⟩ := lookIn_ns hns
    have J : PySem.W.InstAt s.heap a oe D (some od) := ⟨hget, hz.1, by unfold PySem.W.notCls; rw [hv] <;> rfl, by rw [hz.2]; exact ho⟩
    have cl : (PySem.W.clsIn X.K D).isSome = true := by
      obtain ⟨cd, hc, _⟩ := PySem.W.any_some C.hd
      rw [hc]
      rfl
    exact PySem.W.kia_one (PySem.W.kitx_exc cl C.hg C.hk C.hs C.ha C.hn C.ht C.hm) I.kIn J e (fun z => nomatch z) fun tk => ⟨.bl b, H, I.kept (t' := tk) fun _ _ z => z, rfl, q⟩
end WW

set_option Elab.async false
set_option linter.all false
set_option maxRecDepth 100000
set_option maxHeartbeats 4000000
namespace WK
open PySem PySem.Spec PyProof.Rows L2 WW Evl
/-- the classes of the errors -/
structure Er (K : PySem.W.Frag) (mg : Str → Option Value) (CP CN CW : Addr) : Prop where
  gP : mg "BadPost" = some (.ref CP)
  gN : mg "BadName" = some (.ref CN)
  gW : mg "WorksError" = some (.ref CW)
  xP : XfC K CP
  xN : XfC K CN
  nP : PySem.W.findIn K (.ref CP) "value" = some none
  nN : PySem.W.findIn K (.ref CN) "value" = some none
  eP : ExcC K CP
  eN : ExcC K CN
  mPP : PySem.W.exmOne K (.ref CP) (.ref CP) = some true
  mNP : PySem.W.exmOne K (.ref CN) (.ref CP) = some false
  mNN : PySem.W.exmOne K (.ref CN) (.ref CN) = some true
  kPW : PySem.W.kitOne K (.ref CP) (.ref CW) = some true
  kNW : PySem.W.kitOne K (.ref CN) (.ref CW) = some true
/-- a method of a box -/
structure BM (P : Program) (w : World) (K : PySem.W.Frag) (mg : Str → Option Value) (base : Heap) (CB : Addr) (CX : CXT) (m : Str) (k : Nat) (ps : List Str) (sp : Sp) : Prop where
  ex : ∃ g fd, Meth K CB m g ∧ FnOk P w K mg base CX k g fd ps sp ∧ Binds K fd ps []
section
variable {P : Program} {w : World} {K : PySem.W.Frag} {mg : Str → Option Value} {base : Heap} {f : Addr} {fd : FuncData}
abbrev s__law_refused : Stmt := top 60
theorem sc__law_refused : FnScope ["_law_box", "_law_which", "_law_chosen_here", "_law_post", "_law_word", "e"] ["_law_box", "_law_which", "_law_chosen_here", "_law_post", "_law_word"] (defScope s__law_refused) := ⟨rfl, rfl, rfl, by decide +kernel, rfl, by decide +kernel, by decide +kernel⟩
def spRefused (CB CS CL : Addr) : Sp := fun vs H Q _ => ∃ (b c : Addr) (wh : Int) (vp vw x : V) (kd : Str) (rs : List Ins) (cs : List Str), vs = [.ref b, .int wh, .ref c, vp, vw] ∧ BoxAt CB CS CL H b rs ∧ Rows rs ∧ SqX H c (cs.map V.str) ∧ Cs rs cs ∧ Pl H vp ∧ Pl H vw ∧ (∀ z, vw = .str z → z.length ≤ 1000) ∧
  ((wh = 0 ∧ inB 2 vp = false ∧ kd = "post" ∧ x = vp) ∨ (wh = 0 ∧ inB 2 vp = true ∧ nmB vw = false ∧ kd = "name" ∧ x = vw) ∨ (wh = 1 ∧ nmB vw = false ∧ kd = "name" ∧ x = vw) ∨ (wh = 2 ∧ inB 2 vp = false ∧ kd = "post" ∧ x = vp)) ∧
  ∀ H' T, Ex H H' → H' T = some (.tup [.str kd, x, .bl true]) → Q (.ref T) H'
theorem ok_refused {C_Box C_Sensor C_Lock C_BadPost C_BadName C_WorksError : Addr} (G : Gz mg) (B : BCl K mg C_Box) (R : Er K mg C_BadPost C_BadName C_WorksError) (mS : BM P w K mg base C_Box (L2.CX P w) "sight" 6 ["self", "chosen", "post", "word"] (spSightG C_Box C_Sensor C_Lock C_BadPost C_BadName))
    (mJ : BM P w K mg base C_Box (L2.CX P w) "joint" 7 ["self", "chosen", "word"] (spJointG C_Box C_Sensor C_Lock C_BadName)) (mH : BM P w K mg base C_Box (L2.CX P w) "holds" 6 ["self", "chosen", "post"] (spHoldsG C_Box C_Sensor C_Lock C_BadPost))
    (D : Df K mg "_law_refused" s__law_refused f fd ["_law_box", "_law_which", "_law_chosen_here", "_law_post", "_law_word"]) : Callee P w K mg base CXn 9 "_law_refused" 5 (spRefused C_Box C_Sensor C_Lock) := by
  have cls_Box := B.cl
  obtain ⟨g1, fd1, m_sight, F_sight, b_sight⟩ := mS.ex
  obtain ⟨g2, fd2, m_joint, F_joint, b_joint⟩ := mJ.ex
  obtain ⟨g3, fd3, m_holds, F_holds, b_holds⟩ := mH.ex
  have g_BadPost := R.gP
  have g_BadName := R.gN
  have g_WorksError := R.gW
  have xf_BadPost := R.xP
  have xf_BadName := R.xN
  have no_BadPost := R.nP
  have no_BadName := R.nN
  refine D.callee (D.fn.ok sc__law_refused (fun vs H Q E h => ?_) (fun cdv A outer s H vs Q E hr h => ⟨_, (pss_cons (ps_try_asM (tb := _) rfl rfl sc__law_refused.nd takes0 (fun W pn xe tk po => (pss_cons (ps_if (pt_cmpR op_eq (pv 1) pe_int (nomark _)) (pss_one (ps_expr (pe_methS (pv 0) cls_Box m_sight F_sight (hr.mono (by decide)) b_sight (fun σ => passAt tk σ) (pa_cons (pv 2) (pa_cons (pv 3) (pa_cons (pv 4) pa_nil)))))) pss_nil) (pss_cons (ps_if (pt_cmpR op_eq (pv 1) pe_int (nomark _)) (pss_one (ps_expr (pe_methS (pv 0) cls_Box m_joint F_joint (hr.mono (by decide)) b_joint (fun σ => passAt tk σ) (pa_cons (pv 2) (pa_cons (pv 4) pa_nil))))) pss_nil) (pss_one (ps_if (pt_cmpR op_eq (pv 1) pe_int (nomark _)) (pss_one (ps_expr (pe_methS (pv 0) cls_Box m_holds F_holds (hr.mono (by decide)) b_holds (fun σ => passAt tk σ) (pa_cons (pv 2) (pa_cons (pv 3) pa_nil))))) pss_nil))))) (HdsAs.clause (c := .ref C_BadPost) ⟨rfl, by decide, .inl g_BadPost⟩ (i := 5) rfl rfl (fun a oe cls d pn hz hf => (pss_one (ps_ret (pe_tup (pa_cons pe_str (pa_cons (pe_xf xf_BadPost no_BadPost hz hf (pv 5)) (pa_cons (pe_callB (call_isED hz hf) rfl G.g_isinstance (by rfl) (pa_cons (pv 5) (pa_cons (pe_glob (v := .ref C_WorksError) rfl g_WorksError rfl) pa_nil))) pa_nil))))))) (HdsAs.clause (c := .ref C_BadName) ⟨rfl, by decide, .inl g_BadName⟩ (i := 5) rfl rfl (fun a oe cls d pn hz hf => (pss_one (ps_ret (pe_tup (pa_cons pe_str (pa_cons (pe_xf xf_BadName no_BadName hz hf (pv 5)) (pa_cons (pe_callB (call_isED hz hf) rfl G.g_isinstance (by rfl) (pa_cons (pv 5) (pa_cons (pe_glob (v := .ref C_WorksError) rfl g_WorksError rfl) pa_nil))) pa_nil))))))) HdsAs.done))) (pss_one (ps_ret (pe_tup (pa_cons pe_str (pa_cons pe_non (pa_cons pe_bl pa_nil))))))), ?_⟩))
  · obtain ⟨_, _, _, _, _, _, _, _, _, rfl, _⟩ := h
    rfl
  · obtain ⟨b, c, wh, vp, vw, x, kd, rs, cs, rfl, hb, RR, hc, C, pp, pw, hz, cases4, k⟩ := h
    obtain ⟨dx, t, kvs, bb1, _⟩ := id hb
    rcases cases4 with ⟨rfl, zp, rfl, rfl⟩ | ⟨rfl, zp, zw, rfl, rfl⟩ | ⟨rfl, zw, rfl, rfl⟩ | ⟨rfl, zp, rfl, rfl⟩
    · refine ⟨_, rfl, rfl, _, rfl, iteT ?_⟩
      refine ⟨_, rfl, b, dx, _, rfl, bb1, tbN WK.m_sight, _, rfl, _, rfl, _, rfl, b, c, x, vw, rs, cs, rfl, hb, RR, hc, C, pp, pw, hz, fun _ H1 d e1 hd => ?_, (fun n => absurd (zp.symm.trans n) (by decide)), (fun n => absurd (zp.symm.trans n) (by decide))⟩
      refine ⟨true, R.mPP, fun _ a ha => ?_, fun z => nomatch z⟩
      refine ⟨.ref a, rfl, rfl, rfl, d, _, x, rfl, upd_same, rfl, ?_⟩
      refine ⟨_, rfl, C_BadPost, d, _, rfl, rfl, upd_same, R.eP, .ref C_WorksError, .ref C_WorksError, true, rfl, fun u r => r, R.kPW, ?_⟩
      refine ⟨(by show 3 ≤ sizeLine; decide), fun T hT => ?_⟩
      exact k _ T (e1.trans ((Ex.new hd).trans (Ex.new hT))) upd_same
    · refine ⟨_, rfl, rfl, _, rfl, iteT ?_⟩
      refine ⟨_, rfl, b, dx, _, rfl, bb1, tbN WK.m_sight, _, rfl, _, rfl, _, rfl, b, c, vp, x, rs, cs, rfl, hb, RR, hc, C, pp, pw, hz, (fun n => absurd (zp.symm.trans n) (by decide)), fun _ _ H1 d e1 hd => ?_, (fun _ n => absurd (zw.symm.trans n) (by decide))⟩
      refine ⟨false, R.mNP, (fun z => nomatch z), fun _ => ⟨true, R.mNN, fun _ a ha => ?_, fun z => nomatch z⟩⟩
      refine ⟨.ref a, rfl, rfl, rfl, d, _, x, rfl, upd_same, rfl, ?_⟩
      refine ⟨_, rfl, C_BadName, d, _, rfl, rfl, upd_same, R.eN, .ref C_WorksError, .ref C_WorksError, true, rfl, fun u r => r, R.kNW, ?_⟩
      refine ⟨(by show 3 ≤ sizeLine; decide), fun T hT => ?_⟩
      exact k _ T (e1.trans ((Ex.new hd).trans (Ex.new hT))) upd_same
    · refine ⟨_, rfl, rfl, _, rfl, iteF ⟨_, rfl, rfl, _, rfl, iteT ?_⟩⟩
      refine ⟨_, rfl, b, dx, _, rfl, bb1, tbN WK.m_joint, _, rfl, _, rfl, b, c, x, rs, cs, rfl, hb, RR, hc, C, pw, hz, fun _ H1 d e1 hd => ?_, (fun n => absurd (zw.symm.trans n) (by decide))⟩
      refine ⟨false, R.mNP, (fun z => nomatch z), fun _ => ⟨true, R.mNN, fun _ a ha => ?_, fun z => nomatch z⟩⟩
      refine ⟨.ref a, rfl, rfl, rfl, d, _, x, rfl, upd_same, rfl, ?_⟩
      refine ⟨_, rfl, C_BadName, d, _, rfl, rfl, upd_same, R.eN, .ref C_WorksError, .ref C_WorksError, true, rfl, fun u r => r, R.kNW, ?_⟩
      refine ⟨(by show 3 ≤ sizeLine; decide), fun T hT => ?_⟩
      exact k _ T (e1.trans ((Ex.new hd).trans (Ex.new hT))) upd_same
    · refine ⟨_, rfl, rfl, _, rfl, iteF ⟨_, rfl, rfl, _, rfl, iteF ⟨_, rfl, rfl, _, rfl, iteT ?_⟩⟩⟩
      refine ⟨_, rfl, b, dx, _, rfl, bb1, tbN WK.m_holds, _, rfl, _, rfl, b, c, x, rs, cs, rfl, hb, RR, hc, C, pp, fun _ H1 d e1 hd => ?_, (fun n => absurd (zp.symm.trans n) (by decide))⟩
      refine ⟨true, R.mPP, fun _ a ha => ?_, fun z => nomatch z⟩
      refine ⟨.ref a, rfl, rfl, rfl, d, _, x, rfl, upd_same, rfl, ?_⟩
      refine ⟨_, rfl, C_BadPost, d, _, rfl, rfl, upd_same, R.eP, .ref C_WorksError, .ref C_WorksError, true, rfl, fun u r => r, R.kPW, ?_⟩
      refine ⟨(by show 3 ≤ sizeLine; decide), fun T hT => ?_⟩
      exact k _ T (e1.trans ((Ex.new hd).trans (Ex.new hT))) upd_same
end
/-! ### what is asked rightly -/
def spSight0 (CB CS CL : Addr) : Sp := fun vs H Q _ => ∃ (b c : Addr) (po : Int) (z : Str) (rs : List Ins) (cs : List Str), vs = [.ref b, .ref c, .int po, .str z] ∧ BoxAt CB CS CL H b rs ∧ Rows rs ∧ SqX H c (cs.map V.str) ∧ Cs rs cs ∧ IsPo po ∧ IsNm z ∧ ∀ v H', Ex H H' → SeenAt H' v ((sens rs cs po).map (look z)) → Q v H'
theorem sight0 {CB CS CL CP CN : Addr} (vs : List V) (H : Hp) (Q : VK) (E : XK) (h : spSight0 CB CS CL vs H Q E) : spSightG CB CS CL CP CN vs H Q E := by
  obtain ⟨b, c, po, z, rs, cs, rfl, hb, R, hc, C, ip, iz, k⟩ := h
  exact ⟨b, c, _, _, rs, cs, rfl, hb, R, hc, C, .int po, .str z, nmz iz, (fun n => absurd ((inB_of ip).symm.trans n) (by decide)), (fun _ n => absurd ((nmB_of iz).symm.trans n) (by decide)), fun _ _ => ⟨po, z, rfl, rfl, k⟩⟩
def spJoint0 (CB CS CL : Addr) : Sp := fun vs H Q _ => ∃ (b c : Addr) (z : Str) (rs : List Ins) (cs : List Str), vs = [.ref b, .ref c, .str z] ∧ BoxAt CB CS CL H b rs ∧ Rows rs ∧ SqX H c (cs.map V.str) ∧ Cs rs cs ∧ IsNm z ∧ ∀ v H', Ex H H' → JointAt H' v ((sens rs cs 0).map (look z)) ((sens rs cs 1).map (look z)) → Q v H'
theorem joint0 {CB CS CL CN : Addr} (vs : List V) (H : Hp) (Q : VK) (E : XK) (h : spJoint0 CB CS CL vs H Q E) : spJointG CB CS CL CN vs H Q E := by
  obtain ⟨b, c, z, rs, cs, rfl, hb, R, hc, C, iz, k⟩ := h
  exact ⟨b, c, _, rs, cs, rfl, hb, R, hc, C, .str z, nmz iz, (fun n => absurd ((nmB_of iz).symm.trans n) (by decide)), fun _ => ⟨z, rfl, k⟩⟩
def spHolds0 (CB CS CL : Addr) : Sp := fun vs H Q _ => ∃ (b c : Addr) (po : Int) (rs : List Ins) (cs : List Str), vs = [.ref b, .ref c, .int po] ∧ BoxAt CB CS CL H b rs ∧ Rows rs ∧ SqX H c (cs.map V.str) ∧ Cs rs cs ∧ IsPo po ∧
  ∀ L ks H', Ex H H' → H L = none → ks.Nodup → (∀ k, k ∈ ks ↔ ∃ r ∈ lcks rs cs po, k ∈ r.ws) → H' L = some (.lst ((sortS ks).map V.str)) → Q (.ref L) H'
theorem holds0 {CB CS CL CP : Addr} (vs : List V) (H : Hp) (Q : VK) (E : XK) (h : spHolds0 CB CS CL vs H Q E) : spHoldsG CB CS CL CP vs H Q E := by
  obtain ⟨b, c, po, rs, cs, rfl, hb, R, hc, C, ip, k⟩ := h
  exact ⟨b, c, _, rs, cs, rfl, hb, R, hc, C, .int po, (fun n => absurd ((inB_of ip).symm.trans n) (by decide)), fun _ => ⟨po, rfl, k⟩⟩
/-! ### alike -/
theorem sgn_lf {v : V} (h : Sgn v) : Lf v := by
  rcases h with rfl | ⟨y, rfl, _⟩ <;> trivial
theorem prd_self {H : Hp} {n : Nat} : ∀ {zs : List V}, (∀ x ∈ zs, Lf x) → Paired (Alk n H) zs zs
  | [], _ => .nil
  | z :: zs, h => .cons (Alk.leaf (h z List.mem_cons_self) n) (prd_self fun x hx => h x (List.mem_cons_of_mem _ hx))
theorem seen_alk {H : Hp} {n : Nat} {v u : V} {zs : List V} (hv : SeenAt H v zs) (hu : SeenAt H u zs) (g : ∀ x ∈ zs, Sgn x) (l : zs.length ≤ 1000) : Alk (n + 1) H v u := by
  rcases hv with ⟨a, rfl⟩ | ⟨a, p, rfl, hp⟩
  · rcases hu with ⟨_, rfl⟩ | ⟨b, _⟩
    · exact .inl ⟨rfl, trivial⟩
    · rw [a] at b; cases b
  · rcases hu with ⟨b, _⟩ | ⟨_, q, rfl, hq⟩
    · rw [a] at b; cases b
    · exact .inr ⟨p, q, zs, zs, rfl, rfl, .inr ⟨hp, hq⟩, l, prd_self fun x hx => sgn_lf (g x hx)⟩
theorem joint_alk {H : Hp} {v u : V} {y z : List V} (hv : JointAt H v y z) (hu : JointAt H u y z) (gy : ∀ x ∈ y, Sgn x) (gz : ∀ x ∈ z, Sgn x) (ly : y.length ≤ 1000) (lz : z.length ≤ 1000) : Alk 2 H v u := by
  rcases hv with ⟨a, rfl⟩ | ⟨a, p, p1, p2, rfl, hp, s1, s2⟩
  · rcases hu with ⟨_, rfl⟩ | ⟨b, _⟩
    · exact .inl ⟨rfl, trivial⟩
    · rw [a] at b; cases b
  · rcases hu with ⟨b, _⟩ | ⟨_, q, q1, q2, rfl, hq, t1, t2⟩
    · rw [a] at b; cases b
    · exact .inr ⟨p, q, _, _, rfl, rfl, .inr ⟨hp, hq⟩, by show 2 ≤ 1000; decide, .cons (seen_alk s1 t1 gy ly) (.cons (seen_alk s2 t2 gz lz) .nil)⟩
theorem lst_alk {H : Hp} {a b : Addr} {zs : List Str} (ha : H a = some (.lst (zs.map V.str))) (hb : H b = some (.lst (zs.map V.str))) (l : zs.length ≤ 1000) : Alk 2 H (.ref a) (.ref b) :=
  .inr ⟨a, b, _, _, rfl, rfl, .inl ⟨ha, hb⟩, by rw [List.length_map]; exact l, prd_self fun x hx => by obtain ⟨z, _, rfl⟩ := List.mem_map.mp hx; trivial⟩
theorem nd_perm {ks ls : List Str} {F : Str → Prop} (n1 : ks.Nodup) (n2 : ls.Nodup) (h1 : ∀ k, k ∈ ks ↔ F k) (h2 : ∀ k, k ∈ ls ↔ F k) : sortS ks = sortS ls := sortS_congr ((List.perm_ext_iff_of_nodup n1 n2).mpr fun k => (h1 k).trans (h2 k).symm)
end WK

set_option Elab.async false
set_option linter.all false
set_option maxRecDepth 100000
set_option maxHeartbeats 4000000
namespace WK
open PySem PySem.Spec PyProof.Rows L2 WW Evl
theorem BoxAt.kp {CB CS CL p : Addr} {H H' : Hp} {b : Addr} {rs : List Ins} (hP : Pool H p) (K : Kp p H H') (R : Rows rs) (h : BoxAt CB CS CL H b rs) : BoxAt CB CS CL H' b rs := by
  obtain ⟨g, s, n, k, gs, ss, hp, _⟩ := hP
  obtain ⟨dx, t, kvs, h1, h2, h3, h4⟩ := h
  refine ⟨dx, t, kvs, K.k _ _ (fun z => by rw [z, hp] at h1; cases h1) h1, K.k _ _ (fun z => by rw [z, hp] at h2; cases h2) h2, h3, fun r hr => ?_⟩
  obtain ⟨v, hv, a, dx', d, rfl, ⟨z, i1, i2⟩ | ⟨z, i1, kvs', i2, i3, i4⟩⟩ := h4 r hr
  · refine ⟨_, hv, a, dx', d, rfl, .inl ⟨z, K.k _ _ (fun z => by rw [z, hp] at i1; cases i1) i1, K.k _ _ (fun z => ?_) i2⟩⟩
    rw [z, hp] at i2
    have ne := (R.ok r hr).ne
    cases hs : sortS r.ws with
    | nil =>
      have := sortS_len r.ws
      rw [hs] at this
      exact ne (List.eq_nil_of_length_eq_zero this.symm)
    | cons x y =>
      rw [hs] at i2
      cases i2
  · exact ⟨_, hv, a, dx', d, rfl, .inr ⟨z, K.k _ _ (fun z => by rw [z, hp] at i1; cases i1) i1, kvs', K.k _ _ (fun z => by rw [z, hp] at i2; cases i2) i2, i3, i4⟩⟩
section
variable {P : Program} {w : World} {K : PySem.W.Frag} {mg : Str → Option Value} {base : Heap} {f : Addr} {fd : FuncData}
abbrev s__law_told : Stmt := top 61
theorem sc__law_told : FnScope ["_law_box", "_law_rows", "_law_chosen_here", "_law_words_here", "_law_word", "_law_post", "_law_said"] ["_law_box", "_law_rows", "_law_chosen_here", "_law_words_here"] (defScope s__law_told) := ⟨rfl, rfl, rfl, by decide +kernel, rfl, by decide +kernel, by decide +kernel⟩
def spTold (CB CS CL : Addr) : Sp := fun vs H Q _ => ∃ (p b rl c wl : Addr) (xs : List V) (rs : List Ins) (cs us : List Str), vs = [.ref b, .ref rl, .ref c, .ref wl] ∧ BoxAt CB CS CL H b rs ∧ H rl = some (.lst xs) ∧ Paired (InsT p H) xs rs ∧ Rows rs ∧ H c = some (.lst (cs.map V.str)) ∧ Cs rs cs ∧ H wl = some (.lst (us.map V.str)) ∧ (∀ u ∈ us, IsNm u) ∧ ∀ H', Ex H H' → Q (.bl true) H'
theorem ok_ltold {C_Box C_Sensor C_Lock : Addr} (G : Gz mg) (B : BCl K mg C_Box) (mS : BM P w K mg base C_Box CXn "sight" 6 ["self", "chosen", "post", "word"] (spSight0 C_Box C_Sensor C_Lock)) (mJ : BM P w K mg base C_Box CXn "joint" 7 ["self", "chosen", "word"] (spJoint0 C_Box C_Sensor C_Lock)) (mH : BM P w K mg base C_Box CXn "holds" 6 ["self", "chosen", "post"] (spHolds0 C_Box C_Sensor C_Lock))
    (D : Df K mg "_law_told" s__law_told f fd ["_law_box", "_law_rows", "_law_chosen_here", "_law_words_here"]) (c__law_alike : Callee P w K mg base CXn 3 "_law_alike" 2 (spA 3)) (c__law_sight : Callee P w K mg base CXn 1 "_law_sight" 4 spLSight) (c__law_reads : Callee P w K mg base CXn 2 "_law_reads" 4 spReads) (c__law_stops : Callee P w K mg base CXn 1 "_law_stops" 3 spStops) :
    Callee P w K mg base CXn 8 "_law_told" 4 (spTold C_Box C_Sensor C_Lock) := by
  have cls_Box := B.cl
  obtain ⟨g1, fd1, m_sight, F_sight, b_sight⟩ := mS.ex
  obtain ⟨g2, fd2, m_joint, F_joint, b_joint⟩ := mJ.ex
  obtain ⟨g3, fd3, m_holds, F_holds, b_holds⟩ := mH.ex
  refine D.callee (D.fn.ok sc__law_told (fun vs H Q E h => ?_) (fun cdv A outer s H vs Q E hr h => ⟨_, PSs.nox (pss_cons (ps_for PassesOwn.never rfl (pi_list (pv 3)) (pg_name (i := 4) sc__law_told.nd rfl (Or.inl rfl)) (pss_cons (ps_for PassesOwn.never rfl (pi_range1 rfl G.g_range (pa_cons pe_int pa_nil)) (pg_name (i := 5) sc__law_told.nd rfl (Or.inl rfl)) (pss_one (ps_if (pt_not (pt_val (pe_cl (E := En) c__law_alike (hr.mono (by decide)) rfl passN (pa_cons (pe_meth (E := En) (pv 0) cls_Box m_sight F_sight (hr.mono (by decide)) b_sight .nil passN (pa_cons (pv 2) (pa_cons (pv 5) (pa_cons (pv 4) pa_nil)))) (pa_cons (pe_cl (E := En) c__law_sight (hr.mono (by decide)) rfl passN (pa_cons (pv 1) (pa_cons (pv 2) (pa_cons (pv 5) (pa_cons (pv 4) pa_nil))))) pa_nil))))) (pss_one (ps_ret pe_bl)) pss_nil))) (pss_one (ps_if (pt_not (pt_val (pe_cl (E := En) c__law_alike (hr.mono (by decide)) rfl passN (pa_cons (pe_meth (E := En) (pv 0) cls_Box m_joint F_joint (hr.mono (by decide)) b_joint .nil passN (pa_cons (pv 2) (pa_cons (pv 4) pa_nil))) (pa_cons (pe_cl (E := En) c__law_reads (hr.mono (by decide)) rfl passN (pa_cons (pv 1) (pa_cons (pv 2) (pa_cons pe_str (pa_cons (pv 4) pa_nil))))) pa_nil))))) (pss_one (ps_ret pe_bl)) pss_nil)))) (pss_cons (ps_for PassesOwn.never rfl (pi_range1 rfl G.g_range (pa_cons pe_int pa_nil)) (pg_name (i := 5) sc__law_told.nd rfl (Or.inl rfl)) (pss_cons (ps_set (i := 6) sc__law_told.nd rfl (Or.inl rfl) (pe_meth (E := En) (pv 0) cls_Box m_holds F_holds (hr.mono (by decide)) b_holds .nil passN (pa_cons (pv 2) (pa_cons (pv 5) pa_nil)))) (pss_cons (ps_if (pt_not (pt_val (pe_cl (E := En) c__law_alike (hr.mono (by decide)) rfl passN (pa_cons (pv 6) (pa_cons (pe_cl (E := En) c__law_stops (hr.mono (by decide)) rfl passN (pa_cons (pv 1) (pa_cons (pv 2) (pa_cons (pv 5) pa_nil)))) pa_nil))))) (pss_one (ps_ret pe_bl)) pss_nil) (pss_cons (ps_expr (pe_bm PySem.F.plainAttrs_list PySem.F.slot_list_append PySem.F.type_list_append mt_append (pv 6) (pa_cons pe_str pa_nil))) (pss_one (ps_if (pt_not (pt_val (pe_cl (E := En) c__law_alike (hr.mono (by decide)) rfl passN (pa_cons (pe_meth (E := En) (pv 0) cls_Box m_holds F_holds (hr.mono (by decide)) b_holds .nil passN (pa_cons (pe_callTy (tupOfK (K := K) rfl) rfl G.g_tuple (by rfl) (pa_cons (pv 2) pa_nil)) (pa_cons (pv 5) pa_nil))) (pa_cons (pe_cl (E := En) c__law_stops (hr.mono (by decide)) rfl passN (pa_cons (pv 1) (pa_cons (pv 2) (pa_cons (pv 5) pa_nil)))) pa_nil))))) (pss_one (ps_ret pe_bl)) pss_nil)))))) (pss_one (ps_ret pe_bl)))), ?_⟩))
  · obtain ⟨_, _, _, _, _, _, _, _, _, rfl, _⟩ := h
    rfl
  · obtain ⟨p, b, rl, c, wl, xs, rs, cs, us, rfl, hb, hrl, pr, R, hc, C, hwl, unm, k⟩ := h
    have boxI : ∀ {H' : Hp}, Ex H H' → ∃ dx t, H' b = some (.ins C_Box dx (putF "_table" (.ref t) [])) := fun e => by
      obtain ⟨dx, t, kvs, h1, _⟩ := hb
      exact ⟨dx, t, e _ _ h1⟩
    have prE : ∀ {H' : Hp}, Ex H H' → Paired (InsT p H') xs rs := fun e => Paired.mapP pr fun _ _ g => g.ex e
    have ll : ∀ po z, ((sens rs cs po).map (look z)).length ≤ 1000 := fun po z => by rw [List.length_map]; exact Nat.le_trans (sens_len R C) (by decide)
    refine ⟨_, rfl, wl, rfl, ⟨_, sq_of hwl⟩, for_list (fun i σ' H' => ∃ v4 v5, σ' = [some (.ref b), some (.ref rl), some (.ref c), some (.ref wl), v4, v5, none] ∧ Ex H H') ⟨none, none, rfl, Ex.refl _⟩ (fun i σ' H' _ ⟨_, _, _, e⟩ => sq_of (e _ _ hwl)) ?_ ?_⟩
    · rintro i x σ' H' hx ⟨v4, v5, rfl, e⟩
      rw [List.getElem?_map] at hx
      obtain ⟨u, hu, rfl⟩ := Option.map_eq_some_iff.mp hx
      have iu := unm u (List.mem_of_getElem? hu)
      refine ⟨2, rfl, by decide, by decide, for_range (fun j σ2 H2 => ∃ v5, σ2 = [some (.ref b), some (.ref rl), some (.ref c), some (.ref wl), some (.str u), v5, none] ∧ Ex H H2) ⟨v5, rfl, e⟩ ?_ ?_⟩
      · rintro j σ2 H2 hj ⟨v5', rfl, e2⟩
        have ip : IsPo (0 + (j : Int)) := by
          have : j < 2 := hj
          show (0 + (j : Int)) = 0 ∨ (0 + (j : Int)) = 1
          omega
        obtain ⟨dx, t, hbx⟩ := boxI e2
        refine ⟨_, rfl, b, dx, _, rfl, hbx, tbN WK.m_sight, _, rfl, _, rfl, _, rfl, b, c, _, u, rs, cs, rfl, hb.ex e2, R, .inl (e2 _ _ hc), C, ip, iu, fun v1 H3 e3 s1 => ?_⟩
        have E3 := e2.trans e3
        refine ⟨_, rfl, _, rfl, _, rfl, _, rfl, p, rl, c, _, u, xs, rs, cs, rfl, E3 _ _ hrl, prE E3, R, E3 _ _ hc, C, fun v2 H4 e4 s2 => ?_⟩
        refine ⟨v1, v2, rfl, seen_alk (s1.ex e4) s2 (sens_sgn R C u) (ll _ u), fun H5 e5 => ⟨true, rfl, iteF ⟨_, rfl, E3.trans (e4.trans e5)⟩⟩⟩
      · rintro σ2 H2 ⟨v5', rfl, e2⟩
        obtain ⟨dx, t, hbx⟩ := boxI e2
        refine ⟨_, rfl, b, dx, _, rfl, hbx, tbN WK.m_joint, _, rfl, _, rfl, b, c, u, rs, cs, rfl, hb.ex e2, R, .inl (e2 _ _ hc), C, iu, fun v1 H3 e3 s1 => ?_⟩
        have E3 := e2.trans e3
        refine ⟨_, rfl, _, rfl, _, rfl, p, rl, c, u, xs, rs, cs, rfl, E3 _ _ hrl, prE E3, R, E3 _ _ hc, C, fun v2 H4 e4 s2 => ?_⟩
        have s1' : JointAt H4 v1 ((sens rs cs 0).map (look u)) ((sens rs cs 1).map (look u)) := s1.imp id fun ⟨a, q, q1, q2, h1, h2, h3, h4⟩ => ⟨a, q, q1, q2, h1, e4 _ _ h2, h3.ex e4, h4.ex e4⟩
        exact ⟨v1, v2, rfl, joint_alk s1' s2 (sens_sgn R C u) (sens_sgn R C u) (ll 0 u) (ll 1 u), fun H5 e5 => ⟨true, rfl, iteF ⟨_, _, rfl, E3.trans (e4.trans e5)⟩⟩⟩
    · rintro σ' H' ⟨v4, v5, rfl, e⟩
      refine ⟨2, rfl, by decide, by decide, for_range (fun j σ2 H2 => ∃ v5 v6, σ2 = [some (.ref b), some (.ref rl), some (.ref c), some (.ref wl), v4, v5, v6] ∧ Ex H H2) ⟨v5, none, rfl, e⟩ ?_ ?_⟩
      · rintro j σ2 H2 hj ⟨v5', v6', rfl, e2⟩
        have ip : IsPo (0 + (j : Int)) := by
          have : j < 2 := hj
          show (0 + (j : Int)) = 0 ∨ (0 + (j : Int)) = 1
          omega
        have kl : ∀ {ks : List Str}, ks.Nodup → (∀ k, k ∈ ks ↔ ∃ r ∈ lcks rs cs (0 + (j : Int)), k ∈ r.ws) → (sortS ks).length ≤ 999 := fun {ks} nd h => by
          rw [sortS_len]
          have h1 := pigeon ks (rs.flatMap fun r => r.ws) nd fun x hx => by
            obtain ⟨r, hr0, hx'⟩ := (h x).mp hx
            exact List.mem_flatMap.mpr ⟨r, ((lcks_iff R C r).mp hr0).1, hx'⟩
          have : ∀ l : List Ins, (∀ r ∈ l, r.Ok) → (l.flatMap fun r => r.ws).length ≤ 10 * l.length := fun l => by
            induction l with
            | nil => intro _; exact Nat.le_refl _
            | cons r t ih =>
              intro h
              rw [List.flatMap_cons, List.length_append, List.length_cons]
              have := ih fun q hq => h q (List.mem_cons_of_mem _ hq)
              have := (h r List.mem_cons_self).le
              omega
          have := this rs R.ok
          have := R.most
          omega
        obtain ⟨dx, t, hbx⟩ := boxI e2
        refine ⟨_, rfl, b, dx, _, rfl, hbx, tbN WK.m_holds, _, rfl, _, rfl, b, c, _, rs, cs, rfl, hb.ex e2, R, .inl (e2 _ _ hc), C, ip, fun L ks H3 e3 L0 nd hm hL => ?_⟩
        have E3 := e2.trans e3
        have L0' : H L = none := fresh_back e2 L0
        refine ⟨_, rfl, _, rfl, _, rfl, _, rfl, p, rl, c, _, xs, rs, cs, rfl, E3 _ _ hrl, prE E3, R, E3 _ _ hc, C, fun L2 ks2 H4 e4 nd2 hm2 hL2 => ?_⟩
        have es := nd_perm nd nd2 hm hm2
        rw [← es] at hL2
        refine ⟨.ref L, .ref L2, rfl, lst_alk (e4 _ _ hL) hL2 (by have := kl nd hm; omega), fun H5 e5 => ⟨true, rfl, iteF ?_⟩⟩
        have E5 := E3.trans (e4.trans e5)
        have hL5 := (e4.trans e5) _ _ hL
        refine ⟨_, rfl, .inl ⟨rfl, _, sq_of hL5⟩, L, _, .str "a", rfl, rfl, hL5, by rw [List.length_map]; exact sz_lt (by have := kl nd hm; omega), ?_⟩
        have E6 : Ex H (upd H5 L (.lst ((sortS ks).map V.str ++ [.str "a"]))) := E5.mut L0'
        generalize upd H5 L (.lst ((sortS ks).map V.str ++ [.str "a"])) = H6 at E6
        obtain ⟨dx6, t6, hbx6⟩ := boxI E6
        refine ⟨_, rfl, b, dx6, _, rfl, hbx6, tbN WK.m_holds, _, rfl, c, _, rfl, .inl ⟨sq_of (E6 _ _ hc), fun tc htc => ?_⟩⟩
        have E7 : Ex H (upd H6 tc (.tup (cs.map V.str))) := E6.trans (Ex.new htc)
        have htc7 : upd H6 tc (.tup (cs.map V.str)) tc = some (.tup (cs.map V.str)) := upd_same
        generalize upd H6 tc (.tup (cs.map V.str)) = H7 at E7 htc7
        refine ⟨_, rfl, b, tc, _, rs, cs, rfl, hb.ex E7, R, .inr htc7, C, ip, fun L8 ks8 H8 e8 _ nd8 hm8 hL8 => ?_⟩
        have E8 := E7.trans e8
        refine ⟨_, rfl, _, rfl, _, rfl, p, rl, c, _, xs, rs, cs, rfl, E8 _ _ hrl, prE E8, R, E8 _ _ hc, C, fun L9 ks9 H9 e9 nd9 hm9 hL9 => ?_⟩
        have es9 := nd_perm nd8 nd9 hm8 hm9
        rw [← es9] at hL9
        exact ⟨.ref L8, .ref L9, rfl, lst_alk (e9 _ _ hL8) hL9 (by have := kl nd8 hm8; omega), fun HA eA => ⟨true, rfl, iteF ⟨_, _, rfl, E8.trans (e9.trans eA)⟩⟩⟩
      · rintro σ2 H2 ⟨v5', v6', rfl, e2⟩
        exact k H2 e2
end
end WK

set_option Elab.async false
set_option linter.all false
set_option maxRecDepth 100000
set_option maxHeartbeats 4000000
namespace WK
open PySem PySem.Spec PyProof.Rows L2 WW Evl
/-- a drawn thing that is no post or no word: flat, or a row of flat ones -/
def Odd (H : Hp) (x : V) : Prop := Lf x ∨ ∃ a zs, x = .ref a ∧ (H a = some (.tup zs) ∨ H a = some (.lst zs)) ∧ zs.length ≤ 10 ∧ ∀ z ∈ zs, Lf z
theorem Odd.ex {H H' : Hp} {x : V} (e : Ex H H') (h : Odd H x) : Odd H' x := h.imp id fun ⟨a, zs, e1, h, l, g⟩ => ⟨a, zs, e1, h.imp (e _ _) (e _ _), l, g⟩
theorem Odd.pl {H : Hp} {x : V} (h : Odd H x) : Pl H x := by
  rcases h with h | ⟨a, zs, rfl, h | h, _⟩
  · exact h.pl
  · exact .tup h
  · exact .lst h
theorem Odd.alk {H : Hp} {x : V} (h : Odd H x) : Alk 1 H x x := by
  rcases h with h | ⟨a, zs, rfl, h, l, g⟩
  · exact Alk.leaf h 1
  · exact .inr ⟨a, a, zs, zs, rfl, rfl, h.elim (fun z => .inr ⟨z, z⟩) (fun z => .inl ⟨z, z⟩), by omega, prd_self g⟩
/-- what the last four ask -/
theorem ans_alk {H : Hp} {T T2 : Addr} {k : Str} {x : V} (hT : H T = some (.tup [.str k, x, .bl true])) (hT2 : H T2 = some (.tup [.str k, x, .bl true])) (ox : Odd H x) : Alk 2 H (.ref T) (.ref T2) :=
  .inr ⟨T, T2, _, _, rfl, rfl, .inr ⟨hT, hT2⟩, by show 3 ≤ 1000; decide, .cons (Alk.leaf (v := .str k) trivial 1) (.cons ox.alk (.cons (Alk.leaf (v := .bl true) trivial 1) .nil))⟩
section
variable {P : Program} {w : World} {K : PySem.W.Frag} {mg : Str → Option Value} {base : Heap} {f : Addr} {fd : FuncData}
abbrev s_law : Stmt := top 62
theorem sc_law : FnScope ["_law_script", "_law_pool_here", "_law_plan_here", "_law_rows", "_law_box", "_law_chosen_here", "_law_words_here", "_law_row", "_law_post", "_law_word"] ["_law_script"] (defScope s_law) := ⟨rfl, rfl, rfl, by decide +kernel, rfl, by decide +kernel, by decide +kernel⟩
def spLaw (K : PySem.W.Frag) : Sp := fun vs H Q _ => ∃ (a : Addr) (ns : List Int), vs = [.ref a] ∧ SqL K H a (ns.map V.int) ∧ ∀ H', Q (.bl true) H'
theorem okl_law {C_Box C_Sensor C_Lock : Addr} (G : Gz mg) (D : Df K mg "law" s_law f fd ["_law_script"]) (c__law_pool : Callee P w K mg base CXn 1 "_law_pool" 1 (spPool K)) (c__law_draw : Callee P w K mg base CXn 1 "_law_draw" 2 spDraw) (c__law_pick : Callee P w K mg base CXn 2 "_law_pick" 2 spPick) (c__law_name : Callee P w K mg base CXn 2 "_law_name" 2 spName)
    (c__law_plan : Callee P w K mg base CXn 5 "_law_plan" 2 spPlan) (c__law_words : Callee P w K mg base CXn 1 "_law_words" 1 spWordsP) (c__law_instruments : Callee P w K mg base CXn 4 "_law_instruments" 3 spInstr) (c__law_kit : Callee P w K mg base CXn 7 "_law_kit" 1 (spKit C_Box C_Sensor C_Lock)) (c__law_chosen : Callee P w K mg base CXn 2 "_law_chosen" 2 spChosen)
    (c__law_told : Callee P w K mg base CXn 8 "_law_told" 4 (spTold C_Box C_Sensor C_Lock)) (c__law_refused : Callee P w K mg base CXn 9 "_law_refused" 5 (spRefused C_Box C_Sensor C_Lock)) (c__law_alike : Callee P w K mg base CXn 3 "_law_alike" 2 (spA 3)) : FnOk P w K mg base CXn 10 f fd ["_law_script"] (spLaw K) := by
  refine D.fn.ok sc_law (fun vs H Q E h => ?_) (fun cdv A outer s H vs Q E hr h => ⟨_, PSs.nox (pss_cons (ps_set (i := 1) sc_law.nd rfl (Or.inl rfl) (pe_cl (E := En) c__law_pool (hr.mono (by decide)) rfl passN (pa_cons (pv 0) pa_nil))) (pss_cons (ps_set (i := 2) sc_law.nd rfl (Or.inl rfl) (pe_cl (E := En) c__law_plan (hr.mono (by decide)) rfl passN (pa_cons (pv 1) (pa_cons (pe_cl (E := En) c__law_draw (hr.mono (by decide)) rfl passN (pa_cons (pv 1) (pa_cons pe_int pa_nil))) pa_nil)))) (pss_cons (ps_set (i := 3) sc_law.nd rfl (Or.inl rfl) (pe_cl (E := En) c__law_instruments (hr.mono (by decide)) rfl passN (pa_cons (pv 1) (pa_cons (pv 2) (pa_cons pe_int pa_nil))))) (pss_cons (ps_set (i := 4) sc_law.nd rfl (Or.inl rfl) (pe_cl (E := En) c__law_kit (hr.mono (by decide)) rfl passN (pa_cons (pv 3) pa_nil))) (pss_cons (ps_set (i := 5) sc_law.nd rfl (Or.inl rfl) (pe_cl (E := En) c__law_chosen (hr.mono (by decide)) rfl passN (pa_cons (pv 1) (pa_cons (pv 3) pa_nil)))) (pss_cons (ps_set (i := 6) sc_law.nd rfl (Or.inl rfl) (pe_op op_cat (pe_cl (E := En) c__law_words (hr.mono (by decide)) rfl passN (pa_cons (pe_ix (ixK (K := K) rfl) (pv 2) pe_int (fun _ _ => rfl)) pa_nil)) (pe_lst (pa_cons (pe_cl (E := En) c__law_name (hr.mono (by decide)) rfl passN (pa_cons (pv 1) (pa_cons (pe_lst pa_nil) pa_nil))) pa_nil)))) (pss_cons (ps_for PassesOwn.never rfl (pi_list (pv 3)) (pg_name (i := 7) sc_law.nd rfl (Or.inl rfl)) (pss_one (ps_set (i := 6) sc_law.nd rfl (Or.inl rfl) (pe_op op_cat (pv 6) (pe_callTy (cr_or (listOfK (K := K) rfl) (call_listD rfl)) rfl G.g_list (by rfl) (pa_cons (pe_ix (ixK (K := K) rfl) (pv 7) pe_int (fun _ _ => rfl)) pa_nil)))))) (pss_cons (ps_if (PW.pt (pw_or (pt_not (pt_val (pe_cl (E := En) c__law_told (hr.mono (by decide)) rfl passN (pa_cons (pv 4) (pa_cons (pv 3) (pa_cons (pv 5) (pa_cons (pv 6) pa_nil))))))) (pw_or1 (pt_not (pt_val (pe_cl (E := En) c__law_told (hr.mono (by decide)) rfl passN (pa_cons (pv 4) (pa_cons (pv 3) (pa_cons (pe_lst pa_nil) (pa_cons (pv 6) pa_nil)))))))))) (pss_one (ps_ret pe_bl)) pss_nil) (pss_cons (ps_if (pt_not (pt_val (pe_cl (E := En) c__law_told (hr.mono (by decide)) rfl passN (pa_cons (pv 4) (pa_cons (pv 3) (pa_cons (pe_lc (own := [("_law_row", 7)]) rfl sc_law.nd (pi_list (pv 3)) (BlkOk.mk (N := ["_law_script", "_law_pool_here", "_law_plan_here", "_law_rows", "_law_box", "_law_chosen_here", "_law_words_here", "_law_row", "_law_post", "_law_word"]) (sc := defScope s_law) rfl (by decide +kernel) (by decide +kernel) (by decide +kernel) (by decide +kernel)) (fun _ _ _ _ _ => (pg_name (i := 7) sc_law.nd rfl (Or.inl rfl))) (fun _ _ _ _ _ => pts_nil) (fun _ _ _ _ _ => (pe_ix (ixK (K := K) rfl) (pv 7) pe_int (fun _ _ => rfl)))) (pa_cons (pv 6) pa_nil))))))) (pss_one (ps_ret pe_bl)) pss_nil) (pss_cons (ps_set (i := 8) sc_law.nd rfl (Or.inl rfl) (pe_cl (E := En) c__law_pick (hr.mono (by decide)) rfl passN (pa_cons (pv 1) (pa_cons (pe_lst (pa_cons pe_int (pa_cons (pe_un un_neg pe_int) (pa_cons pe_bl (pa_cons pe_bl (pa_cons pe_non (pa_cons pe_str (pa_cons pe_str (pa_cons (pe_tup (pa_cons pe_int pa_nil)) (pa_cons (pe_op op_pow pe_int pe_int) pa_nil)))))))))) pa_nil)))) (pss_cons (ps_set (i := 9) sc_law.nd rfl (Or.inl rfl) (pe_cl (E := En) c__law_pick (hr.mono (by decide)) rfl passN (pa_cons (pv 1) (pa_cons (pe_lst (pa_cons pe_non (pa_cons pe_int (pa_cons pe_str (pa_cons pe_str (pa_cons pe_str (pa_cons (pe_tup (pa_cons pe_str pa_nil)) (pa_cons (pe_lst pa_nil) (pa_cons pe_bl pa_nil))))))))) pa_nil)))) (pss_cons (ps_if (pt_not (pt_val (pe_cl (E := En) c__law_alike (hr.mono (by decide)) rfl passN (pa_cons (pe_cl (E := En) c__law_refused (hr.mono (by decide)) rfl passN (pa_cons (pv 4) (pa_cons pe_int (pa_cons (pv 5) (pa_cons (pv 8) (pa_cons (pv 9) pa_nil)))))) (pa_cons (pe_tup (pa_cons pe_str (pa_cons (pv 8) (pa_cons pe_bl pa_nil)))) pa_nil))))) (pss_one (ps_ret pe_bl)) pss_nil) (pss_cons (ps_if (pt_not (pt_val (pe_cl (E := En) c__law_alike (hr.mono (by decide)) rfl passN (pa_cons (pe_cl (E := En) c__law_refused (hr.mono (by decide)) rfl passN (pa_cons (pv 4) (pa_cons pe_int (pa_cons (pv 5) (pa_cons pe_int (pa_cons (pv 9) pa_nil)))))) (pa_cons (pe_tup (pa_cons pe_str (pa_cons (pv 9) (pa_cons pe_bl pa_nil)))) pa_nil))))) (pss_one (ps_ret pe_bl)) pss_nil) (pss_cons (ps_if (pt_not (pt_val (pe_cl (E := En) c__law_alike (hr.mono (by decide)) rfl passN (pa_cons (pe_cl (E := En) c__law_refused (hr.mono (by decide)) rfl passN (pa_cons (pv 4) (pa_cons pe_int (pa_cons (pv 5) (pa_cons (pv 8) (pa_cons (pv 9) pa_nil)))))) (pa_cons (pe_tup (pa_cons pe_str (pa_cons (pv 9) (pa_cons pe_bl pa_nil)))) pa_nil))))) (pss_one (ps_ret pe_bl)) pss_nil) (pss_one (ps_ret (pe_cl (E := En) c__law_alike (hr.mono (by decide)) rfl passN (pa_cons (pe_cl (E := En) c__law_refused (hr.mono (by decide)) rfl passN (pa_cons (pv 4) (pa_cons pe_int (pa_cons (pv 5) (pa_cons (pv 8) (pa_cons (pv 9) pa_nil)))))) (pa_cons (pe_tup (pa_cons pe_str (pa_cons (pv 8) (pa_cons pe_bl pa_nil)))) pa_nil))))))))))))))))))), ?_⟩)
  · obtain ⟨_, _, rfl, _⟩ := h
    rfl
  · obtain ⟨a, ns, rfl, hs, k⟩ := h
    refine ⟨_, rfl, a, ns, rfl, hs, fun p H1 e1 hp P1 => ?_⟩
    refine ⟨_, rfl, _, rfl, p, 3, rfl, P1, by decide, by decide, fun sz H2 s0 s1 K2 P2 => ⟨p, sz, rfl, P2, s0, by omega, fun T hd a1 a2 a3 a4 hs zs H3 K3 P3 hT hds hne h3 dr z5 znm znd => ?_⟩⟩
    refine ⟨_, rfl, _, rfl, p, T, 6, hd, a1, a2, a3, a4, hs, zs, rfl, P3, by decide, by decide, hT, hds, hne, h3, dr, z5, znm, fun rl xs rs H4 K4 P4 nrp hrl pr ok nd l1 l6 => ?_⟩
    have R : Rows rs := ⟨ok, nd, l1, l6⟩
    refine ⟨_, rfl, p, rl, xs, rs, rfl, hrl, pr, R, fun b H5 e5 hb => ?_⟩
    have P5 := P4.ex e5
    have pr5 : Paired (InsT p H5) xs rs := Paired.mapP pr fun _ _ g => g.ex e5
    refine ⟨_, rfl, _, rfl, p, rl, xs, rs, rfl, P5, nrp, e5 _ _ hrl, pr5, R, fun c cs H6 K6 P6 ncp hc C => ?_⟩
    have K46 : Kp p H4 H6 := (Kp.ex e5 P4).trans K6
    have hb6 := BoxAt.kp P5 K6 R hb
    have hT6 := (K46.tu P4) _ _ ((K4.tu P3) _ _ hT)
    have hds6 : HdsAt H6 hd hs := (hds.tu (K4.tu P3)).tu (K46.tu P4)
    have hrl6 := K46.k _ _ nrp hrl
    have pr6 : Paired (InsT p H6) xs rs := Paired.mapP pr5 fun _ _ g => g.kp P5 K6
    have h20 : ∀ h ∈ hs, h.2.length ≤ 20 := fun h m => (dr h m).row.most
    clear hb K46 pr5 hrl pr
    refine ⟨_, rfl, .inr (.inl ⟨T, _, 0, _, rfl, rfl, st_of hT6, (by rfl), hd, hs, rfl, hds6, h3, h20, fun W ks H7 e7 hnW nd7 hm hW => ?_⟩)⟩
    have P7 := P6.ex e7
    have nWp : W ≠ p := fun z => P6.here (z ▸ hnW)
    have ksz : ∀ x ∈ ks, x ∈ zs := fun x hx => wds_sub dr x ((hm x).mp hx)
    have kl5 : ks.length ≤ 5 := Nat.le_trans (pigeon ks zs nd7 ksz) z5
    refine ⟨_, rfl, Nat.zero_le _, fun l0 hl0 => ?_⟩
    have P7' := P7.ex (Ex.new (o := .lst []) hl0)
    have nl0 : l0 ≠ p := fun z => P7.here (z ▸ hl0)
    refine ⟨p, l0, [], rfl, P7', nl0, upd_same, by decide, fun z H8 zn _ K8 P8 => ⟨(by show 1 ≤ sizeLine; decide), fun l1' nl1 => ?_⟩⟩
    have K78 : Kp p H7 H8 := (Kp.ex (Ex.new hl0) P7).trans K8
    have K68 : Kp p H6 H8 := (Kp.ex e7 P6).trans K78
    have hW8 := K78.k _ _ nWp hW
    have e9 : Ex H8 (upd H8 l1' (.lst [.str z])) := Ex.new nl1
    have hl9 : upd H8 l1' (.lst [.str z]) l1' = some (.lst [.str z]) := upd_same
    generalize upd H8 l1' (.lst [.str z]) = H9 at e9 hl9
    refine ⟨W, l1', _, _, rfl, rfl, e9 _ _ hW8, hl9, sz_of (by rw [List.length_map, sortS_len]; show _ + 1 ≤ 100000; omega), fun wl0 nwl => ?_⟩
    have e10 : Ex H9 (upd H9 wl0 (.lst ((sortS ks).map V.str ++ [.str z]))) := Ex.new nwl
    have hwl0 : upd H9 wl0 (.lst ((sortS ks).map V.str ++ [.str z])) wl0 = some (.lst ((sortS ks).map V.str ++ [.str z])) := upd_same
    generalize upd H9 wl0 (.lst ((sortS ks).map V.str ++ [.str z])) = HX at e10 hwl0
    have e8X : Ex H8 HX := e9.trans e10
    have PX := P8.ex e8X
    have K6X : Kp p H6 HX := K68.trans (Kp.ex e8X P8)
    have hbX := BoxAt.kp P6 K6X R hb6
    have hrlX := K6X.k _ _ nrp hrl6
    have prX : Paired (InsT p HX) xs rs := Paired.mapP pr6 fun _ _ g => g.kp P6 K6X
    have hcX := K6X.k _ _ ncp hc
    obtain ⟨us0, hus0, u6, unm0⟩ : ∃ us : List Str, (sortS ks).map V.str ++ [.str z] = us.map V.str ∧ us.length ≤ 6 ∧ ∀ u ∈ us, IsNm u := by
      refine ⟨sortS ks ++ [z], by rw [List.map_append]; rfl, by rw [List.length_append, sortS_len]; show _ + 1 ≤ 6; omega, fun x hx => ?_⟩
      rcases List.mem_append.mp hx with hx | hx
      · exact znm x (ksz x (sortS_mem.mp hx))
      · rw [List.mem_singleton.mp hx]; exact zn
    rw [hus0] at hwl0
    clear hus0 hl9 hW8 e8X e9 e10 hW hb6 hds6 hT6 hrl6 pr6 K68 K78 P7' P7 hT hds
    have xl := Paired.length prX
    -- all words
    refine ⟨_, rfl, rl, rfl, ⟨_, sq_of hrlX⟩, for_list (fun i σ' H' => ∃ (wl : Addr) (v7 : Option V) (us : List Str), σ' = [some (.ref a), some (.ref p), some (.ref T), some (.ref rl), some (.ref b), some (.ref c), some (.ref wl), v7, none, none] ∧ Ex HX H' ∧ H' wl = some (.lst (us.map V.str)) ∧ us.length ≤ 6 + 10 * i ∧ ∀ u ∈ us, IsNm u) ⟨wl0, none, us0, rfl, Ex.refl _, hwl0, by omega, unm0⟩ (fun i σ' H' _ ⟨_, _, _, _, e, _⟩ => sq_of (e _ _ hrlX)) ?_ ?_⟩
    · rintro i x σ' H' hx ⟨wl, v7, us, rfl, e, hw, ul, unm⟩
      obtain ⟨r, hr0, ra, rd, rfl, _, ha, hd'⟩ := prd_at prX hx
      have i6 : i < 6 := by have := (List.getElem?_eq_some_iff.mp hr0).1; omega
      have okr := R.ok r (List.mem_of_getElem? hr0)
      have wl6 := okr.le
      have fin : ∀ H2, Ex H' H2 → ∀ q, H2 q = none → ∃ (wl' : Addr) (v7' : Option V) (us' : List Str), [some (V.ref a), some (.ref p), some (.ref T), some (.ref rl), some (.ref b), some (.ref c), some (.ref q), some (.ref ra), none, none] = [some (.ref a), some (.ref p), some (.ref T), some (.ref rl), some (.ref b), some (.ref c), some (.ref wl'), v7', none, none] ∧ Ex HX (upd H2 q (.lst (us.map V.str ++ r.ws.map V.str))) ∧ (upd H2 q (.lst (us.map V.str ++ r.ws.map V.str))) wl' = some (.lst (us'.map V.str)) ∧ us'.length ≤ 6 + 10 * (i + 1) ∧ ∀ u ∈ us', IsNm u := fun H2 e2 q hq => by
        refine ⟨q, _, us ++ r.ws, rfl, e.trans (e2.trans (Ex.new hq)), by rw [upd_same, List.map_append], by rw [List.length_append]; omega, fun u hu => ?_⟩
        rcases List.mem_append.mp hu with hu | hu
        · exact unm u hu
        · exact okr.ws u hu
      refine ⟨_, rfl, _, rfl, .inr (.inl ⟨ra, _, 3, .ref rd, rfl, rfl, st_of (e _ _ ha), (by rfl), ?_⟩)⟩
      cases lk : r.lk with
      | true =>
        have et : r.thing = .lst (r.ws.map V.str) := by unfold Ins.thing; rw [lk]; rfl
        rw [et] at hd'
        exact .inl ⟨rd, _, rfl, .inl (sq_of (e _ _ hd')), fun l hl => ⟨wl, l, _, _, rfl, rfl, Ex.new hl _ _ hw, upd_same, sz_of (by rw [List.length_map, List.length_map]; omega), fun q hq => fin _ (Ex.new hl) q hq⟩⟩
      | false =>
        have et : r.thing = .dK r.tab := by unfold Ins.thing; rw [lk]; rfl
        rw [et] at hd'
        have ek := okr.keys lk
        have em : (r.tab.map fun kv => kV kv.1) = r.ws.map V.str := by
          rw [show (r.tab.map fun kv => kV kv.1) = (r.tab.map (·.1)).map kV by rw [List.map_map]; rfl, ek, List.map_map]
          rfl
        refine .inr ⟨rd, r.tab, rfl, .inl (e _ _ hd'), fun l hl => ?_⟩
        rw [em]
        exact ⟨wl, l, _, _, rfl, rfl, Ex.new hl _ _ hw, upd_same, sz_of (by rw [List.length_map, List.length_map]; omega), fun q hq => fin _ (Ex.new hl) q hq⟩
    rintro σ' H' ⟨wl, v7, us, rfl, e, hw, ul, unm⟩
    have prE : ∀ {H2 : Hp}, Ex HX H2 → Paired (InsT p H2) xs rs := fun e => Paired.mapP prX fun _ _ g => g.ex e
    have C0 : Cs rs [] := ⟨List.nodup_nil, fun _ z => nomatch z⟩
    have CA : Cs rs (rs.map (·.nm)) := ⟨R.nd, fun _ z => z⟩
    -- the three tellings
    refine ⟨_, rfl, _, rfl, _, rfl, _, rfl, p, b, rl, c, wl, xs, rs, cs, us, rfl, hbX.ex e, e _ _ hrlX, prE e, R, e _ _ hcX, C, hw, unm, fun HA eA => ⟨true, rfl, iteF ?_⟩⟩
    refine ⟨_, rfl, _, rfl, Nat.zero_le _, fun cl ncl => ?_⟩
    have EA : Ex HX (upd HA cl (.lst [])) := e.trans (eA.trans (Ex.new ncl))
    have hwA := (eA.trans (Ex.new (o := .lst []) ncl)) _ _ hw
    have hclA : upd HA cl (.lst []) cl = some (.lst (([] : List Str).map V.str)) := upd_same
    generalize upd HA cl (.lst []) = HA2 at EA hwA hclA
    refine ⟨_, rfl, p, b, rl, cl, wl, xs, rs, [], us, rfl, hbX.ex EA, EA _ _ hrlX, prE EA, R, hclA, C0, hwA, unm, fun HB eB => ⟨true, rfl, iteF ?_⟩⟩
    have EB := EA.trans eB
    have hwB := eB _ _ hwA
    refine ⟨_, rfl, _, rfl, _, rfl, rl, rfl, ⟨_, sq_of (EB _ _ hrlX)⟩, fun N nN => ?_⟩
    refine lc_ev (f := fun _ => true) (v := fun x => .str (nmT HX x)) (st_l (K := K) (sq_of (EB _ _ hrlX))) (by omega) (fun x => rfl) nN (fun x _ H1 e Q q => q H1 (Ex.refl _)) (fun x hx _ H1 e1 Q q => ?_) (fun HC eC hN => ?_)
    · obtain ⟨j, hj⟩ := List.getElem?_of_mem hx
      obtain ⟨r, hr0, g⟩ := prd_at prX hj
      have q1 := q H1 (Ex.refl _)
      rw [nmT_at g] at q1
      obtain ⟨a', d', rfl, _, ha, _⟩ := g
      exact ⟨_, rfl, .inr (.inl ⟨a', _, 1, _, rfl, rfl, st_of ((EB.trans e1) _ _ ha), (by rfl), q1⟩)⟩
    have EC := EB.trans eC
    have en : ∀ {xs : List V} {ts : List Ins}, Paired (InsT p HX) xs ts → xs.map (fun x => V.str (nmT HX x)) = (ts.map (·.nm)).map V.str := fun {xs ts} h => by
      induction h with
      | nil => rfl
      | cons g t ih => rw [List.map_cons, List.map_cons, List.map_cons, ih, nmT_at g]
    rw [List.filter_eq_self.mpr (fun _ _ => rfl), en prX] at hN
    refine ⟨_, rfl, p, b, rl, N, wl, xs, rs, _, us, rfl, hbX.ex EC, EC _ _ hrlX, prE EC, R, hN, CA, eC _ _ hwB, unm, fun HD eD => ⟨true, rfl, iteF ?_⟩⟩
    have ED := EC.trans eD
    have PD := PX.ex ED
    have hbD := hbX.ex ED
    have hcD := ED _ _ hcX
    clear hwB hwA hN hclA EC EB EA eA eB eC eD hw prE
    -- no post
    refine ⟨_, rfl, _, rfl, (by show 1 ≤ sizeLine; decide), fun T1 hT1 => ⟨10, 30, rfl, rfl, ⟨by decide, by decide, by decide⟩, (by show 9 ≤ sizeLine; decide), fun A1 hA1 => ?_⟩⟩
    have eE1 : Ex HD (upd HD T1 (.tup [.int 0])) := Ex.new hT1
    have hT1' : upd HD T1 (.tup [.int 0]) T1 = some (.tup [.int 0]) := upd_same
    generalize upd HD T1 (.tup [.int 0]) = HE1 at eE1 hT1' hA1
    have nA1 : A1 ≠ p := fun q => (PD.ex eE1).here (q ▸ hA1)
    have nT1 : T1 ≠ p := fun q => PD.here (q ▸ hT1)
    have PE2 := (PD.ex eE1).ex (Ex.new (o := .lst [.int 2, .int (-1), .bl true, .bl false, .non, .str "0", .str "both", .ref T1, .int (10 ^ 30)]) hA1)
    refine ⟨p, A1, _, rfl, PE2, nA1, .inl upd_same, by simp, by show 9 ≤ 1000; decide, fun vp HF mp KF PF => ?_⟩
    have KDF : Kp p HD HF := (Kp.ex (eE1.trans (Ex.new hA1)) PD).trans KF
    have oddP : inB 2 vp = false ∧ Odd HF vp := by
      have hT := KF.k _ _ nT1 (Ex.new (o := .lst [.int 2, .int (-1), .bl true, .bl false, .non, .str "0", .str "both", .ref T1, .int (10 ^ 30)]) hA1 _ _ hT1')
      simp only [List.mem_cons, List.not_mem_nil, or_false] at mp
      rcases mp with rfl | rfl | rfl | rfl | rfl | rfl | rfl | rfl | rfl
      · exact ⟨by decide, .inl trivial⟩
      · exact ⟨by decide, .inl trivial⟩
      · exact ⟨rfl, .inl trivial⟩
      · exact ⟨rfl, .inl trivial⟩
      · exact ⟨rfl, .inl trivial⟩
      · exact ⟨rfl, .inl trivial⟩
      · exact ⟨rfl, .inl trivial⟩
      · exact ⟨rfl, .inr ⟨T1, _, rfl, .inl hT, by decide, fun z hz => by rw [List.mem_singleton.mp hz]; trivial⟩⟩
      · exact ⟨by decide, .inl trivial⟩
    -- no word
    refine ⟨_, rfl, (by show 1 ≤ sizeLine; decide), fun T2 hT2 => ⟨Nat.zero_le _, fun L2' hL2 => ⟨(by show 8 ≤ sizeLine; decide), fun A2 hA2 => ?_⟩⟩⟩
    have eG1 : Ex HF (upd HF T2 (.tup [.str "a"])) := Ex.new hT2
    have hT2' : upd HF T2 (.tup [.str "a"]) T2 = some (.tup [.str "a"]) := upd_same
    generalize upd HF T2 (.tup [.str "a"]) = HG1 at eG1 hT2' hL2 hA2
    have eG2 : Ex HG1 (upd HG1 L2' (.lst [])) := Ex.new hL2
    have hL2' : upd HG1 L2' (.lst []) L2' = some (.lst []) := upd_same
    have nL2 : L2' ≠ p := fun q => (PF.ex eG1).here (q ▸ hL2)
    generalize upd HG1 L2' (.lst []) = HG2 at eG2 hL2' hA2
    have PG2 := (PF.ex eG1).ex eG2
    have nA2 : A2 ≠ p := fun q => PG2.here (q ▸ hA2)
    have nT2 : T2 ≠ p := fun q => PF.here (q ▸ hT2)
    have eG3 : Ex HG2 (upd HG2 A2 (.lst [.non, .int 0, .str "", .str "A", .str "abcdefghijk", .ref T2, .ref L2', .bl true])) := Ex.new hA2
    refine ⟨p, A2, _, rfl, PG2.ex eG3, nA2, .inl upd_same, by simp, by show 8 ≤ 1000; decide, fun vw HK mw KK PK => ?_⟩
    have KFK : Kp p HF HK := (Kp.ex (eG1.trans (eG2.trans eG3)) PF).trans KK
    have oddW : nmB vw = false ∧ Odd HK vw ∧ ∀ z, vw = .str z → z.length ≤ 1000 := by
      have hTK := KK.k _ _ nT2 ((eG2.trans eG3) _ _ hT2')
      have hLK := KK.k _ _ nL2 (eG3 _ _ hL2')
      simp only [List.mem_cons, List.not_mem_nil, or_false] at mw
      rcases mw with rfl | rfl | rfl | rfl | rfl | rfl | rfl | rfl
      · exact ⟨rfl, .inl trivial, fun _ z => nomatch z⟩
      · exact ⟨rfl, .inl trivial, fun _ z => nomatch z⟩
      · exact ⟨by decide +kernel, .inl trivial, fun z e => by cases e; decide +kernel⟩
      · exact ⟨by decide +kernel, .inl trivial, fun z e => by cases e; decide +kernel⟩
      · exact ⟨by decide +kernel, .inl trivial, fun z e => by cases e; decide +kernel⟩
      · exact ⟨rfl, .inr ⟨T2, _, rfl, .inl hTK, by decide, fun z hz => by rw [List.mem_singleton.mp hz]; trivial⟩, fun _ z => nomatch z⟩
      · exact ⟨rfl, .inr ⟨L2', _, rfl, .inr hLK, by decide, fun z hz => nomatch hz⟩, fun _ z => nomatch z⟩
      · exact ⟨rfl, .inl trivial, fun _ z => nomatch z⟩
    obtain ⟨zp, op⟩ := oddP
    obtain ⟨zw, ow, wz⟩ := oddW
    have opK : Odd HK vp := by
      rcases op with h | ⟨a', zs', rfl, h, l, g⟩
      · exact .inl h
      · have na : a' ≠ p := fun q => by
          obtain ⟨g', s', n', k', _, _, hp', _⟩ := PF
          rw [q] at h
          rcases h with h | h
          · rw [hp'] at h; cases h
          · rw [hp'] at h
            cases h
            exact (g _ List.mem_cons_self).elim
        exact .inr ⟨a', zs', rfl, h.imp (KFK.k _ _ na) (KFK.k _ _ na), l, g⟩
    have hbK := BoxAt.kp PF KFK R (BoxAt.kp PD KDF R hbD)
    have hcK := KFK.k _ _ ncp (KDF.k _ _ ncp hcD)
    -- the four answers
    refine ⟨_, rfl, _, rfl, _, rfl, _, rfl, b, c, 0, vp, vw, vp, "post", rs, cs, rfl, hbK, R, .inl hcK, C, opK.pl, ow.pl, wz, .inl ⟨rfl, zp, rfl, rfl⟩, fun M1 U1 m1 hU1 => ?_⟩
    refine ⟨_, rfl, (by show 3 ≤ sizeLine; decide), fun V1 hV1 => ?_⟩
    have x1 : Ex M1 (upd M1 V1 (.tup [.str "post", vp, .bl true])) := Ex.new hV1
    refine ⟨.ref U1, .ref V1, rfl, ans_alk (x1 _ _ hU1) upd_same ((opK.ex m1).ex x1), fun M2 m2 => ⟨true, rfl, iteF ?_⟩⟩
    have E2 : Ex HK M2 := m1.trans (x1.trans m2)
    refine ⟨_, rfl, _, rfl, _, rfl, b, c, 0, .int 1, vw, vw, "name", rs, cs, rfl, hbK.ex E2, R, .inl (E2 _ _ hcK), C, .int 1, (ow.ex E2).pl, wz, .inr (.inl ⟨rfl, by decide, zw, rfl, rfl⟩), fun M3 U3 m3 hU3 => ?_⟩
    refine ⟨_, rfl, (by show 3 ≤ sizeLine; decide), fun V3 hV3 => ?_⟩
    have x3 : Ex M3 (upd M3 V3 (.tup [.str "name", vw, .bl true])) := Ex.new hV3
    have E3 := E2.trans m3
    refine ⟨.ref U3, .ref V3, rfl, ans_alk (x3 _ _ hU3) upd_same ((ow.ex E3).ex x3), fun M4 m4 => ⟨true, rfl, iteF ?_⟩⟩
    have E4 : Ex HK M4 := E3.trans (x3.trans m4)
    refine ⟨_, rfl, _, rfl, _, rfl, _, rfl, b, c, 1, vp, vw, vw, "name", rs, cs, rfl, hbK.ex E4, R, .inl (E4 _ _ hcK), C, (opK.ex E4).pl, (ow.ex E4).pl, wz, .inr (.inr (.inl ⟨rfl, zw, rfl, rfl⟩)), fun M5 U5 m5 hU5 => ?_⟩
    refine ⟨_, rfl, (by show 3 ≤ sizeLine; decide), fun V5 hV5 => ?_⟩
    have x5 : Ex M5 (upd M5 V5 (.tup [.str "name", vw, .bl true])) := Ex.new hV5
    have E5 := E4.trans m5
    refine ⟨.ref U5, .ref V5, rfl, ans_alk (x5 _ _ hU5) upd_same ((ow.ex E5).ex x5), fun M6 m6 => ⟨true, rfl, iteF ?_⟩⟩
    have E6 : Ex HK M6 := E5.trans (x5.trans m6)
    refine ⟨_, rfl, _, rfl, _, rfl, _, rfl, b, c, 2, vp, vw, vp, "post", rs, cs, rfl, hbK.ex E6, R, .inl (E6 _ _ hcK), C, (opK.ex E6).pl, (ow.ex E6).pl, wz, .inr (.inr (.inr ⟨rfl, zp, rfl, rfl⟩)), fun M7 U7 m7 hU7 => ?_⟩
    refine ⟨_, rfl, (by show 3 ≤ sizeLine; decide), fun V7 hV7 => ?_⟩
    have x7 : Ex M7 (upd M7 V7 (.tup [.str "post", vp, .bl true])) := Ex.new hV7
    exact ⟨.ref U7, .ref V7, rfl, ans_alk (x7 _ _ hU7) upd_same (((opK.ex E6).ex m7).ex x7), fun M8 m8 => k M8⟩
end
end WK

set_option Elab.async false
set_option linter.all false
set_option maxRecDepth 100000
set_option maxHeartbeats 0
namespace WK
open PySem PySem.Spec PyProof.Rows L2 WW Evl
abbrev s_BadName : Stmt := inClass (top 3) 0
abbrev s_BadPost : Stmt := inClass (top 4) 0
def dG (x : Str) (st : Stmt) : He5.DefA := { at_ := fun K => He.ga K x, name := x, qual := x, params := defArgs st, body := defBody st, scope := defScope st }
def dM (c m q : Str) (st : Stmt) : He5.DefA := { at_ := fun K => He.ma K (He.ga K c) m, name := m, qual := q, params := defArgs st, body := defBody st, scope := defScope st }
def dP (c m q : Str) (st : Stmt) : He5.DefA := { at_ := fun K => getr K (He.ga K c) m, name := m, qual := q, params := defArgs st, body := defBody st, scope := defScope st }
def dE (x : Str) (q : Str) (st : Stmt) : DefE := { cls := x, qual := q, params := defArgs st, body := defBody st, scope := defScope st }
def fn : List He5.DefA := [dG "law" s_law, dG "_law_told" s__law_told, dG "_law_refused" s__law_refused, dG "_law_alike" s__law_alike, dG "_law_stops" s__law_stops, dG "_law_reads" s__law_reads, dG "_law_sight" s__law_sight, dG "_law_chosen" s__law_chosen, dG "_law_kit" s__law_kit, dG "_law_instruments" s__law_instruments, dG "_law_plan" s__law_plan, dG "_law_hides" s__law_hides, dG "_law_blames" s__law_blames, dG "_law_start" s__law_start, dG "_law_words" s__law_words, dG "_law_agrees" s__law_agrees, dG "_law_pattern" s__law_pattern, dG "_law_hand" s__law_hand, dG "_law_names" s__law_names, dG "_law_name" s__law_name, dG "_law_pick" s__law_pick, dG "_law_draw" s__law_draw, dG "_law_pool" s__law_pool, dG "sight_by" s_sight_by, dG "check_instruments" s_check_instruments, dG "instruments_at" s_instruments_at, dG "locks_at" s_locks_at, dG "sensors_at" s_sensors_at, dG "check_chosen" s_check_chosen, dG "is_instrument" s_is_instrument, dG "is_row_of_words" s_is_row_of_words, dG "is_table_of_sights" s_is_table_of_sights, dG "check_cost" s_check_cost, dG "check_post" s_check_post, dG "check_name" s_check_name, dG "is_index" s_is_index, dG "is_post" s_is_post, dG "is_name" s_is_name, dG "is_row_of" s_is_row_of, dG "is_row" s_is_row, dG "is_integer" s_is_integer, dM "Sensor" "__init__" "Sensor.__init__" s_Sensor___init__, dM "Lock" "__init__" "Lock.__init__" s_Lock___init__, dM "Box" "__init__" "Box.__init__" s_Box___init__, dM "Box" "__getitem__" "Box.__getitem__" s_Box___getitem__, dM "Box" "names" "Box.names" s_Box_names, dM "Box" "sight" "Box.sight" s_Box_sight, dM "Box" "holds" "Box.holds" s_Box_holds, dM "Box" "joint" "Box.joint" s_Box_joint, dP "Sensor" "name" "Sensor.name" s_Sensor_name, dP "Lock" "name" "Lock.name" s_Lock_name, dP "Sensor" "post" "Sensor.post" s_Sensor_post, dP "Lock" "post" "Lock.post" s_Lock_post, dP "Sensor" "sights" "Sensor.sights" s_Sensor_sights, dP "Lock" "words" "Lock.words" s_Lock_words]
def fe : List DefE := [dE "BadName" "BadName.__init__" s_BadName, dE "BadPost" "BadPost.__init__" s_BadPost]
def gnames : List Str := (["law", "_law_told", "_law_refused", "_law_alike", "_law_stops", "_law_reads", "_law_sight", "_law_chosen", "_law_kit", "_law_instruments", "_law_plan", "_law_hides", "_law_blames", "_law_start", "_law_words", "_law_agrees", "_law_pattern", "_law_hand", "_law_names", "_law_name", "_law_pick", "_law_draw", "_law_pool", "sight_by"] : List Str) ++ (["check_instruments", "instruments_at", "locks_at", "sensors_at", "check_chosen", "is_instrument", "is_row_of_words", "is_table_of_sights", "check_cost", "check_post", "check_name", "is_index", "is_post", "is_name", "is_row_of", "is_row", "is_integer", "Sensor", "Lock", "Box", "BadName", "BadPost", "WorksError"] : List Str)
def bnames : List Str := ["len", "isinstance", "int", "bool", "str", "list", "tuple", "all", "abs", "max", "sorted", "range", "enumerate", "set", "dict", "super"]
def oth : List He.Fa := [.int "MOST_LETTERS" 10, .int "MOST_WORDS_OF_AN_INSTRUMENT" 10, .int "MOST_COST" 1000, .int "MOST_INSTRUMENTS" 6, .cls "Sensor", .mkr "Sensor", .cls "Lock", .mkr "Lock", .cls "Box", .mkr "Box", .noat "Sensor" "_name", .noat "Sensor" "_post", .noat "Sensor" "_sights", .noat "Sensor" "_cost", .noat "Lock" "_name", .noat "Lock" "_post", .noat "Lock" "_words", .noat "Lock" "_cost", .noat "Box" "_table"]
def fa : List He.Fa := gnames.map He.Fa.glo ++ (bnames.map He.Fa.free ++ oth)
theorem gl_mem {x : Str} (h : x ∈ gnames) : He.Fa.glo x ∈ fa := List.mem_append_left _ (List.mem_map.mpr ⟨x, h, rfl⟩)
theorem fr_mem {x : Str} (h : x ∈ bnames) : He.Fa.free x ∈ fa := List.mem_append_right _ (List.mem_append_left _ (List.mem_map.mpr ⟨x, h, rfl⟩))
theorem ot_mem {f : He.Fa} (i : Nat) (h : oth[i]? = some f) : f ∈ fa := List.mem_append_right _ (List.mem_append_right _ (List.mem_of_getElem? h))
def isaB (K : PySem.W.Frag) (C : Addr) : Bool := He.eqO (PySem.W.findIn K (.ref C) "__class__") (some (some (.builtin "object.__class__"))) && (He.eqO (PySem.W.specialIn K (.builtin "object.__class__") "__get__") (some (some (.builtin "getset_descriptor.__get__"))) && (decide (PySem.W.takesIn K (.builtin "object.__class__") = some true) && decide (PySem.W.mroIn K C (.type "object") = some true)))
theorem isaB_ok {K : PySem.W.Frag} {C : Addr} (h : isaB K C = true) (cl : Cls K C) (H : Hp) (a dx : Addr) (fs : List (Str × V)) (e : H a = some (.ins C dx fs)) : TyOf K H (.ref a) (.ref C) := by
  obtain ⟨h1, h⟩ := He.ba h
  obtain ⟨h2, h⟩ := He.ba h
  obtain ⟨h3, h4⟩ := He.ba h
  exact .ins e cl (He.eqO_ok h1) (He.eqO_ok h2) (of_decide_eq_true h3) (of_decide_eq_true h4)
abbrev Pr : Program := (PySem.Challenge.rw_watchedworks_k23_sights_of_words).prog
def excB (K : PySem.W.Frag) (C : Addr) : Bool := xfB K C && (He.eqO (PySem.W.findIn K (.ref C) "__class__") (some (some (.builtin "object.__class__"))) && (He.eqO (PySem.W.specialIn K (.builtin "object.__class__") "__get__") (some (some (.builtin "getset_descriptor.__get__"))) && (decide (PySem.W.takesIn K (.builtin "object.__class__") = some true) && decide (PySem.W.mroIn K C (.type "object") = some true))))
theorem excB_ok {K : PySem.W.Frag} {C : Addr} (h : excB K C = true) : XfC K C ∧ ExcC K C := by
  obtain ⟨h1, h⟩ := He.ba h
  obtain ⟨h2, h⟩ := He.ba h
  obtain ⟨h3, h⟩ := He.ba h
  obtain ⟨h4, h5⟩ := He.ba h
  have x := xfB_ok h1
  exact ⟨x, x.ga, x.gg, x.exC, x.hdC, He.eqO_ok h2, He.eqO_ok h3, of_decide_eq_true h4, of_decide_eq_true h5⟩
/-- the def that the class holds under that name -/
def methB (K : PySem.W.Frag) (C : Addr) (m : Str) : Bool := He.eqO (PySem.W.findIn K (.ref C) m) (some (some (.ref (He.ma K C m)))) && (PySem.W.isFn K (.ref (He.ma K C m)) && PySem.W.keepIn K (.ref (He.ma K C m)))
theorem methB_ok {K : PySem.W.Frag} {C : Addr} {m : Str} (h : methB K C m = true) : Meth K C m (He.ma K C m) := by
  obtain ⟨h1, h⟩ := He.ba h
  obtain ⟨h2, h3⟩ := He.ba h
  exact ⟨He.eqO_ok h1, h2, h3⟩
def ownB (K : PySem.W.Frag) (C : Addr) : Bool := He.eqO (PySem.W.findIn K (.ref C) "__getitem__") (some (some (.ref (He.ma K C "__getitem__")))) && (PySem.W.fnIn K (He.ma K C "__getitem__") && PySem.W.isFn K (.ref (He.ma K C "__getitem__")))
theorem ownB_ok {K : PySem.W.Frag} {C : Addr} (h : ownB K C = true) : OwnIx K C (He.ma K C "__getitem__") := by
  obtain ⟨h1, h⟩ := He.ba h
  obtain ⟨h2, h3⟩ := He.ba h
  exact ⟨He.eqO_ok h1, h2, h3⟩
def exL (K : PySem.W.Frag) : List Bool := [isaB K (He.ga K "Sensor"), isaB K (He.ga K "Lock"), propB K (He.ga K "Sensor") "name", propB K (He.ga K "Lock") "name", propB K (He.ga K "Sensor") "post", propB K (He.ga K "Lock") "post", propB K (He.ga K "Sensor") "sights", propB K (He.ga K "Lock") "words", exdB Pr.main.file K (dE "BadName" "BadName.__init__" s_BadName), exdB Pr.main.file K (dE "BadPost" "BadPost.__init__" s_BadPost), excB K (He.ga K "BadName"), excB K (He.ga K "BadPost"), He.eqO (PySem.W.findIn K (.ref (He.ga K "BadName")) "value") (some none), He.eqO (PySem.W.findIn K (.ref (He.ga K "BadPost")) "value") (some none), decide (PySem.W.exmOne K (.ref (He.ga K "BadPost")) (.ref (He.ga K "BadPost")) = some true), decide (PySem.W.exmOne K (.ref (He.ga K "BadName")) (.ref (He.ga K "BadPost")) = some false), decide (PySem.W.exmOne K (.ref (He.ga K "BadName")) (.ref (He.ga K "BadName")) = some true), decide (PySem.W.kitOne K (.ref (He.ga K "BadPost")) (.ref (He.ga K "WorksError")) = some true), decide (PySem.W.kitOne K (.ref (He.ga K "BadName")) (.ref (He.ga K "WorksError")) = some true), decide (PySem.W.kitOne K (.ref (He.ga K "Sensor")) (.ref (He.ga K "Sensor")) = some true), decide (PySem.W.kitOne K (.ref (He.ga K "Sensor")) (.ref (He.ga K "Lock")) = some false), decide (PySem.W.kitOne K (.ref (He.ga K "Lock")) (.ref (He.ga K "Sensor")) = some false), decide (PySem.W.kitOne K (.ref (He.ga K "Lock")) (.ref (He.ga K "Lock")) = some true), methB K (He.ga K "Box") "names", methB K (He.ga K "Box") "sight", methB K (He.ga K "Box") "holds", methB K (He.ga K "Box") "joint", ownB K (He.ga K "Box")]
def ex (K : PySem.W.Frag) : Bool := (exL K).all id
abbrev R : PySem.W.OpenRow := PySem.W.OpenLaw.row PySem.Challenge.rw_watchedworks_k23_sights_of_words
abbrev hk : PySem.W.Hook := hookE 5 fa fn fe ex
def ob (s : PySem.W.SharedT) : AlE := obsEG 5 fa fn fe ex (HandSHeadRun.getT s)
theorem ob_eq (s : PySem.W.SharedT) : ob s = hk.obs s.abs := obsEG_eq (HandSHeadRun.getT_eq s)
abbrev loose : List Str := (["_wall", "WorksError", "BadName", "BadPost", "BadSights", "BadWords", "BadCost", "BadInstrument", "BadSet", "MOST_LETTERS", "is_integer", "is_row", "is_row_of", "is_name", "is_post", "is_index", "MOST_WORDS_OF_AN_INSTRUMENT", "MOST_COST", "Sensor", "Lock", "check_name", "check_post", "check_cost", "is_table_of_sights"] : List Str) ++ (["is_row_of_words", "is_instrument", "check_chosen", "sensors_at", "locks_at", "instruments_at", "MOST_INSTRUMENTS", "Box", "check_instruments", "sight_by", "_law_pool", "_law_draw", "_law_pick", "_law_name", "_law_names", "_law_hand", "_law_pattern", "_law_agrees", "_law_words", "_law_start", "_law_blames", "_law_hides", "_law_plan", "_law_instruments"] : List Str) ++ (["_law_kit", "_law_chosen", "_law_sight", "_law_reads", "_law_stops", "_law_alike", "_law_refused", "_law_told"] : List Str)
theorem run (w : World) : HandSHeadRun.RunEq R (PySem.W.view R.prog [62]) hk ob 12000 loose w := by
  intro os
  kernel_rfl
theorem facts {w : World} {K : PySem.W.Frag} {h : Heap} {mg : Str → Option Value} {f : Addr} (X : K.In h) (Gn : h.Ns mainGlobals mg) (hfa : mg ("law" : Str) = some (.ref f)) (ce : SaysE fa fn fe ex K) :
    ∃ fd : FuncData, (∀ (s : Shared) (v : Value), BindsTo s fd ⟨[v], []⟩ [("_law_script", v)]) ∧ ∀ base : Heap, K.In base → base.Ns mainGlobals mg → FnOk Pr w K mg base CXn 10 f fd ["_law_script"] (spLaw K) := by
  have c := ce.b
  have fr : ∀ {x : Str}, x ∈ bnames → mg x = none := fun m => He.free_ok X Gn (c.fact (fr_mem m))
  have gl : ∀ {x : Str}, x ∈ gnames → mg x = some (.ref (He.ga K x)) := fun m => He.glo_ok X Gn (c.fact (gl_mem m))
  have G : Gz mg := ⟨fr (x := "len") (by decide +kernel), fr (x := "isinstance") (by decide +kernel), fr (x := "int") (by decide +kernel), fr (x := "bool") (by decide +kernel), fr (x := "str") (by decide +kernel), fr (x := "list") (by decide +kernel), fr (x := "tuple") (by decide +kernel), fr (x := "all") (by decide +kernel), fr (x := "abs") (by decide +kernel), fr (x := "max") (by decide +kernel), fr (x := "sorted") (by decide +kernel), fr (x := "range") (by decide +kernel), fr (x := "enumerate") (by decide +kernel), fr (x := "set") (by decide +kernel), fr (x := "dict") (by decide +kernel)⟩
  obtain ⟨fd0, D0⟩ := c.def_ 0 (d := dG "law" s_law) rfl
  replace D0 : FunD K "law" "law" (defArgs s_law) (defBody s_law) (defScope s_law) [] [] _ fd0 := D0
  obtain ⟨fd1, D1⟩ := c.def_ 1 (d := dG "_law_told" s__law_told) rfl
  replace D1 : FunD K "_law_told" "_law_told" (defArgs s__law_told) (defBody s__law_told) (defScope s__law_told) [] [] _ fd1 := D1
  obtain ⟨fd2, D2⟩ := c.def_ 2 (d := dG "_law_refused" s__law_refused) rfl
  replace D2 : FunD K "_law_refused" "_law_refused" (defArgs s__law_refused) (defBody s__law_refused) (defScope s__law_refused) [] [] _ fd2 := D2
  obtain ⟨fd3, D3⟩ := c.def_ 3 (d := dG "_law_alike" s__law_alike) rfl
  replace D3 : FunD K "_law_alike" "_law_alike" (defArgs s__law_alike) (defBody s__law_alike) (defScope s__law_alike) [] [] _ fd3 := D3
  obtain ⟨fd4, D4⟩ := c.def_ 4 (d := dG "_law_stops" s__law_stops) rfl
  replace D4 : FunD K "_law_stops" "_law_stops" (defArgs s__law_stops) (defBody s__law_stops) (defScope s__law_stops) [] [] _ fd4 := D4
  obtain ⟨fd5, D5⟩ := c.def_ 5 (d := dG "_law_reads" s__law_reads) rfl
  replace D5 : FunD K "_law_reads" "_law_reads" (defArgs s__law_reads) (defBody s__law_reads) (defScope s__law_reads) [] [] _ fd5 := D5
  obtain ⟨fd6, D6⟩ := c.def_ 6 (d := dG "_law_sight" s__law_sight) rfl
  replace D6 : FunD K "_law_sight" "_law_sight" (defArgs s__law_sight) (defBody s__law_sight) (defScope s__law_sight) [] [] _ fd6 := D6
  obtain ⟨fd7, D7⟩ := c.def_ 7 (d := dG "_law_chosen" s__law_chosen) rfl
  replace D7 : FunD K "_law_chosen" "_law_chosen" (defArgs s__law_chosen) (defBody s__law_chosen) (defScope s__law_chosen) [] [] _ fd7 := D7
  obtain ⟨fd8, D8⟩ := c.def_ 8 (d := dG "_law_kit" s__law_kit) rfl
  replace D8 : FunD K "_law_kit" "_law_kit" (defArgs s__law_kit) (defBody s__law_kit) (defScope s__law_kit) [] [] _ fd8 := D8
  obtain ⟨fd9, D9⟩ := c.def_ 9 (d := dG "_law_instruments" s__law_instruments) rfl
  replace D9 : FunD K "_law_instruments" "_law_instruments" (defArgs s__law_instruments) (defBody s__law_instruments) (defScope s__law_instruments) [] [] _ fd9 := D9
  obtain ⟨fd10, D10⟩ := c.def_ 10 (d := dG "_law_plan" s__law_plan) rfl
  replace D10 : FunD K "_law_plan" "_law_plan" (defArgs s__law_plan) (defBody s__law_plan) (defScope s__law_plan) [] [] _ fd10 := D10
  obtain ⟨fd11, D11⟩ := c.def_ 11 (d := dG "_law_hides" s__law_hides) rfl
  replace D11 : FunD K "_law_hides" "_law_hides" (defArgs s__law_hides) (defBody s__law_hides) (defScope s__law_hides) [] [] _ fd11 := D11
  obtain ⟨fd12, D12⟩ := c.def_ 12 (d := dG "_law_blames" s__law_blames) rfl
  replace D12 : FunD K "_law_blames" "_law_blames" (defArgs s__law_blames) (defBody s__law_blames) (defScope s__law_blames) [] [] _ fd12 := D12
  obtain ⟨fd13, D13⟩ := c.def_ 13 (d := dG "_law_start" s__law_start) rfl
  replace D13 : FunD K "_law_start" "_law_start" (defArgs s__law_start) (defBody s__law_start) (defScope s__law_start) [] [] _ fd13 := D13
  obtain ⟨fd14, D14⟩ := c.def_ 14 (d := dG "_law_words" s__law_words) rfl
  replace D14 : FunD K "_law_words" "_law_words" (defArgs s__law_words) (defBody s__law_words) (defScope s__law_words) [] [] _ fd14 := D14
  obtain ⟨fd15, D15⟩ := c.def_ 15 (d := dG "_law_agrees" s__law_agrees) rfl
  replace D15 : FunD K "_law_agrees" "_law_agrees" (defArgs s__law_agrees) (defBody s__law_agrees) (defScope s__law_agrees) [] [] _ fd15 := D15
  obtain ⟨fd16, D16⟩ := c.def_ 16 (d := dG "_law_pattern" s__law_pattern) rfl
  replace D16 : FunD K "_law_pattern" "_law_pattern" (defArgs s__law_pattern) (defBody s__law_pattern) (defScope s__law_pattern) [] [] _ fd16 := D16
  obtain ⟨fd17, D17⟩ := c.def_ 17 (d := dG "_law_hand" s__law_hand) rfl
  replace D17 : FunD K "_law_hand" "_law_hand" (defArgs s__law_hand) (defBody s__law_hand) (defScope s__law_hand) [] [] _ fd17 := D17
  obtain ⟨fd18, D18⟩ := c.def_ 18 (d := dG "_law_names" s__law_names) rfl
  replace D18 : FunD K "_law_names" "_law_names" (defArgs s__law_names) (defBody s__law_names) (defScope s__law_names) [] [] _ fd18 := D18
  obtain ⟨fd19, D19⟩ := c.def_ 19 (d := dG "_law_name" s__law_name) rfl
  replace D19 : FunD K "_law_name" "_law_name" (defArgs s__law_name) (defBody s__law_name) (defScope s__law_name) [] [] _ fd19 := D19
  obtain ⟨fd20, D20⟩ := c.def_ 20 (d := dG "_law_pick" s__law_pick) rfl
  replace D20 : FunD K "_law_pick" "_law_pick" (defArgs s__law_pick) (defBody s__law_pick) (defScope s__law_pick) [] [] _ fd20 := D20
  obtain ⟨fd21, D21⟩ := c.def_ 21 (d := dG "_law_draw" s__law_draw) rfl
  replace D21 : FunD K "_law_draw" "_law_draw" (defArgs s__law_draw) (defBody s__law_draw) (defScope s__law_draw) [] [] _ fd21 := D21
  obtain ⟨fd22, D22⟩ := c.def_ 22 (d := dG "_law_pool" s__law_pool) rfl
  replace D22 : FunD K "_law_pool" "_law_pool" (defArgs s__law_pool) (defBody s__law_pool) (defScope s__law_pool) [] [] _ fd22 := D22
  obtain ⟨fd23, D23⟩ := c.def_ 23 (d := dG "sight_by" s_sight_by) rfl
  replace D23 : FunD K "sight_by" "sight_by" (defArgs s_sight_by) (defBody s_sight_by) (defScope s_sight_by) [] [] _ fd23 := D23
  obtain ⟨fd24, D24⟩ := c.def_ 24 (d := dG "check_instruments" s_check_instruments) rfl
  replace D24 : FunD K "check_instruments" "check_instruments" (defArgs s_check_instruments) (defBody s_check_instruments) (defScope s_check_instruments) [] [] _ fd24 := D24
  obtain ⟨fd25, D25⟩ := c.def_ 25 (d := dG "instruments_at" s_instruments_at) rfl
  replace D25 : FunD K "instruments_at" "instruments_at" (defArgs s_instruments_at) (defBody s_instruments_at) (defScope s_instruments_at) [] [] _ fd25 := D25
  obtain ⟨fd26, D26⟩ := c.def_ 26 (d := dG "locks_at" s_locks_at) rfl
  replace D26 : FunD K "locks_at" "locks_at" (defArgs s_locks_at) (defBody s_locks_at) (defScope s_locks_at) [] [] _ fd26 := D26
  obtain ⟨fd27, D27⟩ := c.def_ 27 (d := dG "sensors_at" s_sensors_at) rfl
  replace D27 : FunD K "sensors_at" "sensors_at" (defArgs s_sensors_at) (defBody s_sensors_at) (defScope s_sensors_at) [] [] _ fd27 := D27
  obtain ⟨fd28, D28⟩ := c.def_ 28 (d := dG "check_chosen" s_check_chosen) rfl
  replace D28 : FunD K "check_chosen" "check_chosen" (defArgs s_check_chosen) (defBody s_check_chosen) (defScope s_check_chosen) [] [] _ fd28 := D28
  obtain ⟨fd29, D29⟩ := c.def_ 29 (d := dG "is_instrument" s_is_instrument) rfl
  replace D29 : FunD K "is_instrument" "is_instrument" (defArgs s_is_instrument) (defBody s_is_instrument) (defScope s_is_instrument) [] [] _ fd29 := D29
  obtain ⟨fd30, D30⟩ := c.def_ 30 (d := dG "is_row_of_words" s_is_row_of_words) rfl
  replace D30 : FunD K "is_row_of_words" "is_row_of_words" (defArgs s_is_row_of_words) (defBody s_is_row_of_words) (defScope s_is_row_of_words) [] [] _ fd30 := D30
  obtain ⟨fd31, D31⟩ := c.def_ 31 (d := dG "is_table_of_sights" s_is_table_of_sights) rfl
  replace D31 : FunD K "is_table_of_sights" "is_table_of_sights" (defArgs s_is_table_of_sights) (defBody s_is_table_of_sights) (defScope s_is_table_of_sights) [] [] _ fd31 := D31
  obtain ⟨fd32, D32⟩ := c.def_ 32 (d := dG "check_cost" s_check_cost) rfl
  replace D32 : FunD K "check_cost" "check_cost" (defArgs s_check_cost) (defBody s_check_cost) (defScope s_check_cost) [] [] _ fd32 := D32
  obtain ⟨fd33, D33⟩ := c.def_ 33 (d := dG "check_post" s_check_post) rfl
  replace D33 : FunD K "check_post" "check_post" (defArgs s_check_post) (defBody s_check_post) (defScope s_check_post) [] [] _ fd33 := D33
  obtain ⟨fd34, D34⟩ := c.def_ 34 (d := dG "check_name" s_check_name) rfl
  replace D34 : FunD K "check_name" "check_name" (defArgs s_check_name) (defBody s_check_name) (defScope s_check_name) [] [] _ fd34 := D34
  obtain ⟨fd35, D35⟩ := c.def_ 35 (d := dG "is_index" s_is_index) rfl
  replace D35 : FunD K "is_index" "is_index" (defArgs s_is_index) (defBody s_is_index) (defScope s_is_index) [] [] _ fd35 := D35
  obtain ⟨fd36, D36⟩ := c.def_ 36 (d := dG "is_post" s_is_post) rfl
  replace D36 : FunD K "is_post" "is_post" (defArgs s_is_post) (defBody s_is_post) (defScope s_is_post) [] [] _ fd36 := D36
  obtain ⟨fd37, D37⟩ := c.def_ 37 (d := dG "is_name" s_is_name) rfl
  replace D37 : FunD K "is_name" "is_name" (defArgs s_is_name) (defBody s_is_name) (defScope s_is_name) [] [] _ fd37 := D37
  obtain ⟨fd38, D38⟩ := c.def_ 38 (d := dG "is_row_of" s_is_row_of) rfl
  replace D38 : FunD K "is_row_of" "is_row_of" (defArgs s_is_row_of) (defBody s_is_row_of) (defScope s_is_row_of) [] [] _ fd38 := D38
  obtain ⟨fd39, D39⟩ := c.def_ 39 (d := dG "is_row" s_is_row) rfl
  replace D39 : FunD K "is_row" "is_row" (defArgs s_is_row) (defBody s_is_row) (defScope s_is_row) [] [] _ fd39 := D39
  obtain ⟨fd40, D40⟩ := c.def_ 40 (d := dG "is_integer" s_is_integer) rfl
  replace D40 : FunD K "is_integer" "is_integer" (defArgs s_is_integer) (defBody s_is_integer) (defScope s_is_integer) [] [] _ fd40 := D40
  obtain ⟨fd41, D41⟩ := c.def_ 41 (d := dM "Sensor" "__init__" "Sensor.__init__" s_Sensor___init__) rfl
  replace D41 : FunD K "__init__" "Sensor.__init__" (defArgs s_Sensor___init__) (defBody s_Sensor___init__) (defScope s_Sensor___init__) [] [] _ fd41 := D41
  obtain ⟨fd42, D42⟩ := c.def_ 42 (d := dM "Lock" "__init__" "Lock.__init__" s_Lock___init__) rfl
  replace D42 : FunD K "__init__" "Lock.__init__" (defArgs s_Lock___init__) (defBody s_Lock___init__) (defScope s_Lock___init__) [] [] _ fd42 := D42
  obtain ⟨fd43, D43⟩ := c.def_ 43 (d := dM "Box" "__init__" "Box.__init__" s_Box___init__) rfl
  replace D43 : FunD K "__init__" "Box.__init__" (defArgs s_Box___init__) (defBody s_Box___init__) (defScope s_Box___init__) [] [] _ fd43 := D43
  obtain ⟨fd44, D44⟩ := c.def_ 44 (d := dM "Box" "__getitem__" "Box.__getitem__" s_Box___getitem__) rfl
  replace D44 : FunD K "__getitem__" "Box.__getitem__" (defArgs s_Box___getitem__) (defBody s_Box___getitem__) (defScope s_Box___getitem__) [] [] _ fd44 := D44
  obtain ⟨fd45, D45⟩ := c.def_ 45 (d := dM "Box" "names" "Box.names" s_Box_names) rfl
  replace D45 : FunD K "names" "Box.names" (defArgs s_Box_names) (defBody s_Box_names) (defScope s_Box_names) [] [] _ fd45 := D45
  obtain ⟨fd46, D46⟩ := c.def_ 46 (d := dM "Box" "sight" "Box.sight" s_Box_sight) rfl
  replace D46 : FunD K "sight" "Box.sight" (defArgs s_Box_sight) (defBody s_Box_sight) (defScope s_Box_sight) [] [] _ fd46 := D46
  obtain ⟨fd47, D47⟩ := c.def_ 47 (d := dM "Box" "holds" "Box.holds" s_Box_holds) rfl
  replace D47 : FunD K "holds" "Box.holds" (defArgs s_Box_holds) (defBody s_Box_holds) (defScope s_Box_holds) [] [] _ fd47 := D47
  obtain ⟨fd48, D48⟩ := c.def_ 48 (d := dM "Box" "joint" "Box.joint" s_Box_joint) rfl
  replace D48 : FunD K "joint" "Box.joint" (defArgs s_Box_joint) (defBody s_Box_joint) (defScope s_Box_joint) [] [] _ fd48 := D48
  obtain ⟨fd49, D49⟩ := c.def_ 49 (d := dP "Sensor" "name" "Sensor.name" s_Sensor_name) rfl
  replace D49 : FunD K "name" "Sensor.name" (defArgs s_Sensor_name) (defBody s_Sensor_name) (defScope s_Sensor_name) [] [] _ fd49 := D49
  obtain ⟨fd50, D50⟩ := c.def_ 50 (d := dP "Lock" "name" "Lock.name" s_Lock_name) rfl
  replace D50 : FunD K "name" "Lock.name" (defArgs s_Lock_name) (defBody s_Lock_name) (defScope s_Lock_name) [] [] _ fd50 := D50
  obtain ⟨fd51, D51⟩ := c.def_ 51 (d := dP "Sensor" "post" "Sensor.post" s_Sensor_post) rfl
  replace D51 : FunD K "post" "Sensor.post" (defArgs s_Sensor_post) (defBody s_Sensor_post) (defScope s_Sensor_post) [] [] _ fd51 := D51
  obtain ⟨fd52, D52⟩ := c.def_ 52 (d := dP "Lock" "post" "Lock.post" s_Lock_post) rfl
  replace D52 : FunD K "post" "Lock.post" (defArgs s_Lock_post) (defBody s_Lock_post) (defScope s_Lock_post) [] [] _ fd52 := D52
  obtain ⟨fd53, D53⟩ := c.def_ 53 (d := dP "Sensor" "sights" "Sensor.sights" s_Sensor_sights) rfl
  replace D53 : FunD K "sights" "Sensor.sights" (defArgs s_Sensor_sights) (defBody s_Sensor_sights) (defScope s_Sensor_sights) [] [] _ fd53 := D53
  obtain ⟨fd54, D54⟩ := c.def_ 54 (d := dP "Lock" "words" "Lock.words" s_Lock_words) rfl
  replace D54 : FunD K "words" "Lock.words" (defArgs s_Lock_words) (defBody s_Lock_words) (defScope s_Lock_words) [] [] _ fd54 := D54
  have e0 := hfa.symm.trans (gl (x := "law") (by decide +kernel))
  cases e0
  have E0 : Df K mg "law" s_law _ fd0 ["_law_script"] := ⟨D0, hfa, D0.bindsN fun _ _ _ _ _ _ us hl => match us, hl with | [_], _ => rfl⟩
  have E1 : Df K mg "_law_told" s__law_told _ fd1 ["_law_box", "_law_rows", "_law_chosen_here", "_law_words_here"] := ⟨D1, gl (x := "_law_told") (by decide +kernel), D1.bindsN fun _ _ _ _ _ _ us hl => match us, hl with | [_, _, _, _], _ => rfl⟩
  have E2 : Df K mg "_law_refused" s__law_refused _ fd2 ["_law_box", "_law_which", "_law_chosen_here", "_law_post", "_law_word"] := ⟨D2, gl (x := "_law_refused") (by decide +kernel), D2.bindsN fun _ _ _ _ _ _ us hl => match us, hl with | [_, _, _, _, _], _ => rfl⟩
  have E3 : Df K mg "_law_alike" s__law_alike _ fd3 ["_law_one", "_law_other"] := ⟨D3, gl (x := "_law_alike") (by decide +kernel), D3.bindsN fun _ _ _ _ _ _ us hl => match us, hl with | [_, _], _ => rfl⟩
  have E4 : Df K mg "_law_stops" s__law_stops _ fd4 ["_law_rows", "_law_chosen_here", "_law_post"] := ⟨D4, gl (x := "_law_stops") (by decide +kernel), D4.bindsN fun _ _ _ _ _ _ us hl => match us, hl with | [_, _, _], _ => rfl⟩
  have E5 : Df K mg "_law_reads" s__law_reads _ fd5 ["_law_rows", "_law_chosen_here", "_law_reader", "_law_word"] := ⟨D5, gl (x := "_law_reads") (by decide +kernel), D5.bindsN fun _ _ _ _ _ _ us hl => match us, hl with | [_, _, _, _], _ => rfl⟩
  have E6 : Df K mg "_law_sight" s__law_sight _ fd6 ["_law_rows", "_law_chosen_here", "_law_post", "_law_word"] := ⟨D6, gl (x := "_law_sight") (by decide +kernel), D6.bindsN fun _ _ _ _ _ _ us hl => match us, hl with | [_, _, _, _], _ => rfl⟩
  have E7 : Df K mg "_law_chosen" s__law_chosen _ fd7 ["_law_pool_here", "_law_rows"] := ⟨D7, gl (x := "_law_chosen") (by decide +kernel), D7.bindsN fun _ _ _ _ _ _ us hl => match us, hl with | [_, _], _ => rfl⟩
  have E8 : Df K mg "_law_kit" s__law_kit _ fd8 ["_law_rows"] := ⟨D8, gl (x := "_law_kit") (by decide +kernel), D8.bindsN fun _ _ _ _ _ _ us hl => match us, hl with | [_], _ => rfl⟩
  have E9 : Df K mg "_law_instruments" s__law_instruments _ fd9 ["_law_pool_here", "_law_plan_here", "_law_most"] := ⟨D9, gl (x := "_law_instruments") (by decide +kernel), D9.bindsN fun _ _ _ _ _ _ us hl => match us, hl with | [_, _, _], _ => rfl⟩
  have E10 : Df K mg "_law_plan" s__law_plan _ fd10 ["_law_pool_here", "_law_size"] := ⟨D10, gl (x := "_law_plan") (by decide +kernel), D10.bindsN fun _ _ _ _ _ _ us hl => match us, hl with | [_, _], _ => rfl⟩
  have E11 : Df K mg "_law_hides" s__law_hides _ fd11 ["_law_pool_here", "_law_hands"] := ⟨D11, gl (x := "_law_hides") (by decide +kernel), D11.bindsN fun _ _ _ _ _ _ us hl => match us, hl with | [_, _], _ => rfl⟩
  have E12 : Df K mg "_law_blames" s__law_blames _ fd12 ["_law_pool_here", "_law_words_here"] := ⟨D12, gl (x := "_law_blames") (by decide +kernel), D12.bindsN fun _ _ _ _ _ _ us hl => match us, hl with | [_, _], _ => rfl⟩
  have E13 : Df K mg "_law_start" s__law_start _ fd13 ["_law_hands"] := ⟨D13, gl (x := "_law_start") (by decide +kernel), D13.bindsN fun _ _ _ _ _ _ us hl => match us, hl with | [_], _ => rfl⟩
  have E14 : Df K mg "_law_words" s__law_words _ fd14 ["_law_hands"] := ⟨D14, gl (x := "_law_words") (by decide +kernel), D14.bindsN fun _ _ _ _ _ _ us hl => match us, hl with | [_], _ => rfl⟩
  have E15 : Df K mg "_law_agrees" s__law_agrees _ fd15 ["_law_pattern_here", "_law_standing"] := ⟨D15, gl (x := "_law_agrees") (by decide +kernel), D15.bindsN fun _ _ _ _ _ _ us hl => match us, hl with | [_, _], _ => rfl⟩
  have E16 : Df K mg "_law_pattern" s__law_pattern _ fd16 ["_law_pool_here", "_law_hands"] := ⟨D16, gl (x := "_law_pattern") (by decide +kernel), D16.bindsN fun _ _ _ _ _ _ us hl => match us, hl with | [_, _], _ => rfl⟩
  have E17 : Df K mg "_law_hand" s__law_hand _ fd17 ["_law_pool_here", "_law_words_here", "_law_most"] := ⟨D17, gl (x := "_law_hand") (by decide +kernel), D17.bindsN fun _ _ _ _ _ _ us hl => match us, hl with | [_, _, _], _ => rfl⟩
  have E18 : Df K mg "_law_names" s__law_names _ fd18 ["_law_pool_here", "_law_many"] := ⟨D18, gl (x := "_law_names") (by decide +kernel), D18.bindsN fun _ _ _ _ _ _ us hl => match us, hl with | [_, _], _ => rfl⟩
  have E19 : Df K mg "_law_name" s__law_name _ fd19 ["_law_pool_here", "_law_taken"] := ⟨D19, gl (x := "_law_name") (by decide +kernel), D19.bindsN fun _ _ _ _ _ _ us hl => match us, hl with | [_, _], _ => rfl⟩
  have E20 : Df K mg "_law_pick" s__law_pick _ fd20 ["_law_pool_here", "_law_items"] := ⟨D20, gl (x := "_law_pick") (by decide +kernel), D20.bindsN fun _ _ _ _ _ _ us hl => match us, hl with | [_, _], _ => rfl⟩
  have E21 : Df K mg "_law_draw" s__law_draw _ fd21 ["_law_pool_here", "_law_many"] := ⟨D21, gl (x := "_law_draw") (by decide +kernel), D21.bindsN fun _ _ _ _ _ _ us hl => match us, hl with | [_, _], _ => rfl⟩
  have E22 : Df K mg "_law_pool" s__law_pool _ fd22 ["_law_script"] := ⟨D22, gl (x := "_law_pool") (by decide +kernel), D22.bindsN fun _ _ _ _ _ _ us hl => match us, hl with | [_], _ => rfl⟩
  have E23 : Df K mg "sight_by" s_sight_by _ fd23 ["sensors", "word"] := ⟨D23, gl (x := "sight_by") (by decide +kernel), D23.bindsN fun _ _ _ _ _ _ us hl => match us, hl with | [_, _], _ => rfl⟩
  have E24 : Df K mg "check_instruments" s_check_instruments _ fd24 ["instruments"] := ⟨D24, gl (x := "check_instruments") (by decide +kernel), D24.bindsN fun _ _ _ _ _ _ us hl => match us, hl with | [_], _ => rfl⟩
  have E25 : Df K mg "instruments_at" s_instruments_at _ fd25 ["box", "chosen", "post"] := ⟨D25, gl (x := "instruments_at") (by decide +kernel), D25.bindsN fun _ _ _ _ _ _ us hl => match us, hl with | [_, _, _], _ => rfl⟩
  have E26 : Df K mg "locks_at" s_locks_at _ fd26 ["box", "chosen", "post"] := ⟨D26, gl (x := "locks_at") (by decide +kernel), D26.bindsN fun _ _ _ _ _ _ us hl => match us, hl with | [_, _, _], _ => rfl⟩
  have E27 : Df K mg "sensors_at" s_sensors_at _ fd27 ["box", "chosen", "post"] := ⟨D27, gl (x := "sensors_at") (by decide +kernel), D27.bindsN fun _ _ _ _ _ _ us hl => match us, hl with | [_, _, _], _ => rfl⟩
  have E28 : Df K mg "check_chosen" s_check_chosen _ fd28 ["box", "chosen"] := ⟨D28, gl (x := "check_chosen") (by decide +kernel), D28.bindsN fun _ _ _ _ _ _ us hl => match us, hl with | [_, _], _ => rfl⟩
  have E29 : Df K mg "is_instrument" s_is_instrument _ fd29 ["thing"] := ⟨D29, gl (x := "is_instrument") (by decide +kernel), D29.bindsN fun _ _ _ _ _ _ us hl => match us, hl with | [_], _ => rfl⟩
  have E30 : Df K mg "is_row_of_words" s_is_row_of_words _ fd30 ["thing"] := ⟨D30, gl (x := "is_row_of_words") (by decide +kernel), D30.bindsN fun _ _ _ _ _ _ us hl => match us, hl with | [_], _ => rfl⟩
  have E31 : Df K mg "is_table_of_sights" s_is_table_of_sights _ fd31 ["thing"] := ⟨D31, gl (x := "is_table_of_sights") (by decide +kernel), D31.bindsN fun _ _ _ _ _ _ us hl => match us, hl with | [_], _ => rfl⟩
  have E32 : Df K mg "check_cost" s_check_cost _ fd32 ["cost"] := ⟨D32, gl (x := "check_cost") (by decide +kernel), D32.bindsN fun _ _ _ _ _ _ us hl => match us, hl with | [_], _ => rfl⟩
  have E33 : Df K mg "check_post" s_check_post _ fd33 ["post"] := ⟨D33, gl (x := "check_post") (by decide +kernel), D33.bindsN fun _ _ _ _ _ _ us hl => match us, hl with | [_], _ => rfl⟩
  have E34 : Df K mg "check_name" s_check_name _ fd34 ["name"] := ⟨D34, gl (x := "check_name") (by decide +kernel), D34.bindsN fun _ _ _ _ _ _ us hl => match us, hl with | [_], _ => rfl⟩
  have E35 : Df K mg "is_index" s_is_index _ fd35 ["thing", "many"] := ⟨D35, gl (x := "is_index") (by decide +kernel), D35.bindsN fun _ _ _ _ _ _ us hl => match us, hl with | [_, _], _ => rfl⟩
  have E36 : Df K mg "is_post" s_is_post _ fd36 ["thing"] := ⟨D36, gl (x := "is_post") (by decide +kernel), D36.bindsN fun _ _ _ _ _ _ us hl => match us, hl with | [_], _ => rfl⟩
  have E37 : Df K mg "is_name" s_is_name _ fd37 ["thing"] := ⟨D37, gl (x := "is_name") (by decide +kernel), D37.bindsN fun _ _ _ _ _ _ us hl => match us, hl with | [_], _ => rfl⟩
  have E38 : Df K mg "is_row_of" s_is_row_of _ fd38 ["thing", "least", "most"] := ⟨D38, gl (x := "is_row_of") (by decide +kernel), D38.bindsN fun _ _ _ _ _ _ us hl => match us, hl with | [_, _, _], _ => rfl⟩
  have E39 : Df K mg "is_row" s_is_row _ fd39 ["thing"] := ⟨D39, gl (x := "is_row") (by decide +kernel), D39.bindsN fun _ _ _ _ _ _ us hl => match us, hl with | [_], _ => rfl⟩
  have E40 : Df K mg "is_integer" s_is_integer _ fd40 ["thing"] := ⟨D40, gl (x := "is_integer") (by decide +kernel), D40.bindsN fun _ _ _ _ _ _ us hl => match us, hl with | [_], _ => rfl⟩
  have b41 : Binds K fd41 ["self", "name", "post", "sights", "cost"] [] := D41.bindsN fun _ _ _ _ _ _ us hl => match us, hl with | [_, _, _, _, _], _ => rfl
  have b42 : Binds K fd42 ["self", "name", "post", "words", "cost"] [] := D42.bindsN fun _ _ _ _ _ _ us hl => match us, hl with | [_, _, _, _, _], _ => rfl
  have b43 : Binds K fd43 ["self", "instruments"] [] := D43.bindsN fun _ _ _ _ _ _ us hl => match us, hl with | [_, _], _ => rfl
  have b44 : Binds K fd44 ["self", "name"] [] := D44.bindsN fun _ _ _ _ _ _ us hl => match us, hl with | [_, _], _ => rfl
  have b45 : Binds K fd45 ["self"] [] := D45.bindsN fun _ _ _ _ _ _ us hl => match us, hl with | [_], _ => rfl
  have b46 : Binds K fd46 ["self", "chosen", "post", "word"] [] := D46.bindsN fun _ _ _ _ _ _ us hl => match us, hl with | [_, _, _, _], _ => rfl
  have b47 : Binds K fd47 ["self", "chosen", "post"] [] := D47.bindsN fun _ _ _ _ _ _ us hl => match us, hl with | [_, _, _], _ => rfl
  have b48 : Binds K fd48 ["self", "chosen", "word"] [] := D48.bindsN fun _ _ _ _ _ _ us hl => match us, hl with | [_, _, _], _ => rfl
  have b49 : Binds K fd49 ["self"] [] := D49.bindsN fun _ _ _ _ _ _ us hl => match us, hl with | [_], _ => rfl
  have b50 : Binds K fd50 ["self"] [] := D50.bindsN fun _ _ _ _ _ _ us hl => match us, hl with | [_], _ => rfl
  have b51 : Binds K fd51 ["self"] [] := D51.bindsN fun _ _ _ _ _ _ us hl => match us, hl with | [_], _ => rfl
  have b52 : Binds K fd52 ["self"] [] := D52.bindsN fun _ _ _ _ _ _ us hl => match us, hl with | [_], _ => rfl
  have b53 : Binds K fd53 ["self"] [] := D53.bindsN fun _ _ _ _ _ _ us hl => match us, hl with | [_], _ => rfl
  have b54 : Binds K fd54 ["self"] [] := D54.bindsN fun _ _ _ _ _ _ us hl => match us, hl with | [_], _ => rfl
  have i0 := He.int_ok X Gn (c.fact (f := .int "MOST_LETTERS" 10) (ot_mem 0 rfl))
  have i1 := He.int_ok X Gn (c.fact (f := .int "MOST_WORDS_OF_AN_INSTRUMENT" 10) (ot_mem 1 rfl))
  have i2 := He.int_ok X Gn (c.fact (f := .int "MOST_COST" 1000) (ot_mem 2 rfl))
  have i3 := He.int_ok X Gn (c.fact (f := .int "MOST_INSTRUMENTS" 6) (ot_mem 3 rfl))
  have clSensor := He.cls_ok (c.fact (f := .cls "Sensor") (ot_mem 4 rfl))
  have mkSensor := He.mkr_ok (c.fact (f := .mkr "Sensor") (ot_mem 5 rfl))
  have clLock := He.cls_ok (c.fact (f := .cls "Lock") (ot_mem 6 rfl))
  have mkLock := He.mkr_ok (c.fact (f := .mkr "Lock") (ot_mem 7 rfl))
  have clBox := He.cls_ok (c.fact (f := .cls "Box") (ot_mem 8 rfl))
  have mkBox := He.mkr_ok (c.fact (f := .mkr "Box") (ot_mem 9 rfl))
  have nSensor_name := He.noat_ok (c.fact (f := .noat "Sensor" "_name") (ot_mem 10 rfl))
  have nSensor_post := He.noat_ok (c.fact (f := .noat "Sensor" "_post") (ot_mem 11 rfl))
  have nSensor_sights := He.noat_ok (c.fact (f := .noat "Sensor" "_sights") (ot_mem 12 rfl))
  have nSensor_cost := He.noat_ok (c.fact (f := .noat "Sensor" "_cost") (ot_mem 13 rfl))
  have nLock_name := He.noat_ok (c.fact (f := .noat "Lock" "_name") (ot_mem 14 rfl))
  have nLock_post := He.noat_ok (c.fact (f := .noat "Lock" "_post") (ot_mem 15 rfl))
  have nLock_words := He.noat_ok (c.fact (f := .noat "Lock" "_words") (ot_mem 16 rfl))
  have nLock_cost := He.noat_ok (c.fact (f := .noat "Lock" "_cost") (ot_mem 17 rfl))
  have nBox_table := He.noat_ok (c.fact (f := .noat "Box" "_table") (ot_mem 18 rfl))
  have xx : (exL K).all id = true := c.ext
  have T : ICl K mg (He.ga K "Sensor") (He.ga K "Lock") := ⟨clSensor, clLock, gl (x := "Sensor") (by decide +kernel), gl (x := "Lock") (by decide +kernel), nSensor_name, nSensor_post, nSensor_sights, nSensor_cost, nLock_name, nLock_post, nLock_words, nLock_cost, isaB_ok (all_at xx 0 rfl) clSensor, isaB_ok (all_at xx 1 rfl) clLock, of_decide_eq_true (all_at xx 19 rfl), of_decide_eq_true (all_at xx 20 rfl), of_decide_eq_true (all_at xx 21 rfl), of_decide_eq_true (all_at xx 22 rfl)⟩
  have B : BCl K mg (He.ga K "Box") := ⟨clBox, gl (x := "Box") (by decide +kernel), nBox_table⟩
  have top0 : (Pr.main.scope.names.lookup ("super" : Str)).isSome = false := by kernel_rfl
  obtain ⟨fdN, dN, findN, typN⟩ := exdB_ok (P := Pr) (d := dE "BadName" "BadName.__init__" s_BadName) (all_at xx 8 rfl) (ce.exc 0) (fr (x := "super") (by decide +kernel)) top0
  obtain ⟨fdP, dP', findP, typP⟩ := exdB_ok (P := Pr) (d := dE "BadPost" "BadPost.__init__" s_BadPost) (all_at xx 9 rfl) (ce.exc 1) (fr (x := "super") (by decide +kernel)) top0
  replace dN : ExD Pr K mg (He.ga K "BadName") (exI K "BadName") (exCc K "BadName") (exCda K "BadName") "BadName.__init__" (defArgs s_BadName) (defBody s_BadName) (defScope s_BadName) fdN := dN
  replace dP' : ExD Pr K mg (He.ga K "BadPost") (exI K "BadPost") (exCc K "BadPost") (exCda K "BadPost") "BadPost.__init__" (defArgs s_BadPost) (defBody s_BadPost) (defScope s_BadPost) fdP := dP'
  have tN : ExT "value" (defArgs s_BadName) (defScope s_BadName) := ⟨⟨_, rfl, rfl⟩, rfl, rfl, rfl, by decide +kernel, by rfl, by rfl, by rfl, by rfl, by decide +kernel, by decide +kernel⟩
  have tP : ExT "value" (defArgs s_BadPost) (defScope s_BadPost) := ⟨⟨_, rfl, rfl⟩, rfl, rfl, rfl, by decide +kernel, by rfl, by rfl, by rfl, by rfl, by decide +kernel, by decide +kernel⟩
  obtain ⟨xfN, ecN⟩ := excB_ok (all_at xx 10 rfl)
  obtain ⟨xfP, ecP⟩ := excB_ok (all_at xx 11 rfl)
  have nN := He.eqO_ok (all_at xx 12 rfl)
  have nP := He.eqO_ok (all_at xx 13 rfl)
  have ER : Er K mg (He.ga K "BadPost") (He.ga K "BadName") (He.ga K "WorksError") := ⟨gl (x := "BadPost") (by decide +kernel), gl (x := "BadName") (by decide +kernel), gl (x := "WorksError") (by decide +kernel), xfP, xfN, nP, nN, ecP, ecN, of_decide_eq_true (all_at xx 14 rfl), of_decide_eq_true (all_at xx 15 rfl), of_decide_eq_true (all_at xx 16 rfl), of_decide_eq_true (all_at xx 17 rfl), of_decide_eq_true (all_at xx 18 rfl)⟩
  refine ⟨fd0, fun s v => D0.bindsA (ps := ["_law_script"]) (fun _ _ _ _ _ _ us hl => match us, hl with | [_], _ => rfl) s [v] rfl, fun base _ _ => ?_⟩
  have X_N : ExR Pr w K mg base 1 "BadName" (He.ga K "BadName") "value" := ⟨dN.T, ⟨_, fdN, "value", findN, typN, fn_exc (k := 0) (msg := "this is not a name, or not one that can be used here") tN dN rfl nN (by decide +kernel) (by decide +kernel) (fun env => ⟨_, rfl⟩) (fun env => rfl), dN.binds fun _ _ _ _ _ us hl => match us, hl with | [_, _], _ => rfl⟩, ER.gN⟩
  have X_P : ExR Pr w K mg base 1 "BadPost" (He.ga K "BadPost") "value" := ⟨dP'.T, ⟨_, fdP, "value", findP, typP, fn_exc (k := 0) (msg := "this is not a post") tP dP' rfl nP (by decide +kernel) (by decide +kernel) (fun env => ⟨_, rfl⟩) (fun env => rfl), dP'.binds fun _ _ _ _ _ us hl => match us, hl with | [_, _], _ => rfl⟩, ER.gP⟩
  have c_int := okg_is_integer (P := Pr) (w := w) (base := base) G E40
  have c_row := okg_is_row (P := Pr) (w := w) (base := base) G E39
  have c_rowof := okg_is_row_of (P := Pr) (w := w) (base := base) G E38 c_row
  have c_name := okg_is_name (P := Pr) (w := w) (base := base) G i0 E37
  have c_index := okg_is_index (P := Pr) (w := w) (base := base) E35 c_int
  have c_post := okg_is_post (P := Pr) (w := w) (base := base) E36 c_index
  have k_name := okg_check_name (P := Pr) (w := w) (base := base) E34 X_N c_name
  have k_post := okg_check_post (P := Pr) (w := w) (base := base) E33 X_P c_post
  have k_name0 := Callee.calm k_name (sp0 := spCkName0) ckName0 (fun _ _ _ _ z => z)
  have k_post0 := Callee.calm k_post (sp0 := spCkPost0) ckPost0 (fun _ _ _ _ z => z)
  have k_cost := ok_check_cost (P := Pr) (w := w) (base := base) i2 E32 c_int
  have c_table := ok_is_table (P := Pr) (w := w) (base := base) G i1 E31 c_name
  have c_roww := ok_is_rowW (P := Pr) (w := w) (base := base) G i1 E30 c_name c_rowof
  have F_S := ok_initS (P := Pr) (w := w) (base := base) G T D41 k_name0 k_post0 c_table k_cost
  have F_L := ok_initL (P := Pr) (w := w) (base := base) G T D42 k_name0 k_post0 c_roww k_cost
  have I : IPr Pr w K mg base (He.ga K "Sensor") (He.ga K "Lock") := ⟨⟨_, _, _, propB_ok (all_at xx 2 rfl), ok_nameS T.clS T.s1 D49, b49⟩, ⟨_, _, _, propB_ok (all_at xx 3 rfl), ok_nameL T.clL T.l1 D50, b50⟩, ⟨_, _, _, propB_ok (all_at xx 4 rfl), ok_postS T.clS T.s2 D51, b51⟩, ⟨_, _, _, propB_ok (all_at xx 5 rfl), ok_postL T.clL T.l2 D52, b52⟩,
    ⟨_, _, _, propB_ok (all_at xx 6 rfl), ok_sights G T D53, b53⟩, ⟨_, _, _, propB_ok (all_at xx 7 rfl), ok_wordsL G T D54, b54⟩⟩
  have c_isins := ok_is_ins (P := Pr) (w := w) (base := base) G T E29
  have k_ins := ok_ck_ins (P := Pr) (w := w) (base := base) G i3 T I E24 c_rowof c_isins
  have F_B := ok_initB (P := Pr) (w := w) (base := base) T B I D43 k_ins
  have O : BOps Pr w K mg base (He.ga K "Box") (He.ga K "Sensor") (He.ga K "Lock") := ⟨⟨_, _, methB_ok (all_at xx 23 rfl), ok_namesB G B D45, b45⟩, ⟨_, _, ownB_ok (all_at xx 27 rfl), ok_itemB B D44 c_name, b44⟩⟩
  have k_ch := ok_ck_ch (P := Pr) (w := w) (base := base) G B O E28 c_row c_name
  have c_insat := ok_ins_at (P := Pr) (w := w) (base := base) G T I O E25
  have c_sens := ok_sens_at (P := Pr) (w := w) (base := base) G T E27 c_insat
  have c_lcks := ok_lck_at (P := Pr) (w := w) (base := base) G T E26 c_insat
  have c_by := ok_sight_by (P := Pr) (w := w) (base := base) G T I E23
  have F_si := okg_sight (P := Pr) (w := w) (base := base) D46 k_ch k_post k_name c_sens c_by
  have F_ho := okg_holds (P := Pr) (w := w) (base := base) G T I D47 k_ch k_post c_lcks
  have m_si := methB_ok (all_at xx 24 rfl)
  have m_ho := methB_ok (all_at xx 25 rfl)
  have m_jo := methB_ok (all_at xx 26 rfl)
  have F_jo := okg_joint (P := Pr) (w := w) (base := base) B m_si F_si b46 D48
  have mS : MkC Pr w K mg base "Sensor" (He.ga K "Sensor") 5 ["self", "name", "post", "sights", "cost"] (spInitS (He.ga K "Sensor") (He.ga K "Lock")) := ⟨_, _, mkSensor, F_S, b41, T.atS⟩
  have mL : MkC Pr w K mg base "Lock" (He.ga K "Lock") 5 ["self", "name", "post", "words", "cost"] (spInitL (He.ga K "Sensor") (He.ga K "Lock")) := ⟨_, _, mkLock, F_L, b42, T.atL⟩
  have mB : MkC Pr w K mg base "Box" (He.ga K "Box") 4 ["self", "instruments"] (spInitB (He.ga K "Box") (He.ga K "Sensor") (He.ga K "Lock")) := ⟨_, _, mkBox, F_B, b43, B.at_⟩
  have c_pool := ok_pool (P := Pr) (w := w) (base := base) G E22
  have c_draw := ok_draw (P := Pr) (w := w) (base := base) G E21
  have c_pick := ok_pick (P := Pr) (w := w) (base := base) G E20 c_draw
  have c_nm := ok_name (P := Pr) (w := w) (base := base) G E19 c_draw
  have c_nms := ok_names (P := Pr) (w := w) (base := base) G E18 c_nm
  have l_hand := ok_hand (P := Pr) (w := w) (base := base) G E17 c_draw c_pick
  have l_pattern := ok_pattern (P := Pr) (w := w) (base := base) G E16 c_draw c_pick
  have l_agrees := ok_agrees (P := Pr) (w := w) (base := base) G E15
  have l_words := ok_wordsP (P := Pr) (w := w) (base := base) G E14
  have l_start := ok_startP (P := Pr) (w := w) (base := base) G E13
  have l_blames := ok_blames (P := Pr) (w := w) (base := base) G E12 c_draw c_nms
  have l_hides := ok_hides (P := Pr) (w := w) (base := base) G E11 c_draw c_nms l_pattern
  have l_plan := ok_plan (P := Pr) (w := w) (base := base) G E10 c_draw c_pick c_nms l_hand l_pattern l_agrees l_words l_start l_blames l_hides
  have l_instr := ok_instruments (P := Pr) (w := w) (base := base) G E9 c_draw c_pick c_nm c_nms l_words
  have l_kit := ok_kit (P := Pr) (w := w) (base := base) G mS mL mB E8
  have l_chosen := ok_chosen (P := Pr) (w := w) (base := base) G E7 c_draw
  have l_sight := ok_lsight (P := Pr) (w := w) (base := base) G E6
  have l_reads := ok_reads (P := Pr) (w := w) (base := base) E5 l_sight
  have l_stops := ok_stops (P := Pr) (w := w) (base := base) G E4
  have l_alike := ok_alike (P := Pr) (w := w) (base := base) G E3 2 (ok_alike (P := Pr) (w := w) (base := base) G E3 1 (ok_alike (P := Pr) (w := w) (base := base) G E3 0 (ok_alike0 (P := Pr) (w := w) (base := base) E3)))
  have l_refused := ok_refused (P := Pr) (w := w) (base := base) G B ER ⟨_, _, m_si, F_si, b46⟩ ⟨_, _, m_jo, F_jo, b48⟩ ⟨_, _, m_ho, F_ho, b47⟩ E2
  have l_told := ok_ltold (P := Pr) (w := w) (base := base) G B ⟨_, _, m_si, WK.calm F_si sight0 (fun _ _ _ _ z => z), b46⟩ ⟨_, _, m_jo, WK.calm F_jo joint0 (fun _ _ _ _ z => z), b48⟩ ⟨_, _, m_ho, WK.calm F_ho holds0 (fun _ _ _ _ z => z), b47⟩ E1 l_alike l_sight l_reads l_stops
  exact okl_law G E0 c_pool c_draw c_pick c_nm l_plan l_words l_instr l_kit l_chosen l_told l_refused l_alike
end WK
open PySem PySem.W PySem.Calls PyProof.Rows
theorem PySem.Challenge.cw_watchedworks_k23_sights_of_words_holds : PySem.Challenge.rw_watchedworks_k23_sights_of_words.Holds := by
  w_on; o_law
  refine HandSHeadRun.head_any (r := OpenLaw.row PySem.Challenge.rw_watchedworks_k23_sights_of_words) (q := view (OpenLaw.row PySem.Challenge.rw_watchedworks_k23_sights_of_words).prog [62]) (H := WK.hk) (ob := WK.ob) (M := 12000) (loose := WK.loose) (d := HandSHeadRun.topDef (OpenLaw.row PySem.Challenge.rw_watchedworks_k23_sights_of_words).prog 62) (kwd := []) WK.ob_eq
    (by kernel_rfl) (fun s => by kernel_rfl) WK.run (by kernel_rfl) (by kernel_rfl) (by kernel_rfl) (by rfl) (by first | assumption | decide +kernel) (by decide +kernel) ⟨rfl, rfl, rfl, rfl, rfl, by decide +kernel⟩ ?hw ?hc
  case hw => w_witness2
  case hc =>
    refine L2.walk_ofE (l := PySem.Challenge.rw_watchedworks_k23_sights_of_words) (n := 63) (k := 10) (x := "_law_script") (CX := WW.CXn) rfl (by decide) (by kernel_rfl) ⟨rfl, by decide, by decide⟩ ?F (fun _ _ _ _ z => z)
    intro w mg fa h Y G hmg0
    obtain ⟨K, KX, c⟩ := Y
    have hmg : mg ("law" : PySem.Str) = some (.ref fa) := by
      have e : (HandSHeadRun.topDef (OpenLaw.row PySem.Challenge.rw_watchedworks_k23_sights_of_words).prog 62).name = ("law" : PySem.Str) := by kernel_rfl
      rw [← e]
      exact hmg0
    obtain ⟨fd, hb, hF⟩ := WK.facts (w := w) KX G hmg c
    exact ⟨K, fd, WK.spLaw K, KX, hb, fun H a ns hl _ hS => ⟨a, ns, rfl, hS, fun _ => rfl⟩, hF⟩
